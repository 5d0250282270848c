import PyProof.Rows.All
import HandS.Exc
import HandS.ExcOwn
import HandS.ExcIs
import HandS.TryMany
import HandS.WordsExc
import PyProof.ExcBaseAll.ValueError
import HandS.TupMul
import HandS.SetFor
import Wide.All
import OpenK.AllK
import Wide.FinOn
import HandS.ForMost
import HandS.ForExc
import HandS.IsInst
import HandS.Style
import HandS.Flow
import HandS.Wide
import HandS.WideBits
import HandS.Gcd
import HandS.TupMul
import HandS.TupAny
import HandS.Conv
import HandS.Evl
import HandS.Codes
import HandS.Defaults
import HandS.Rev
import HandS.Zip
import HandS.Strs
import HandS.SortKw
import KE.DataMinMax
import HandS.SetFor
import HandS.OwnEq
import KE.GoesEnumKw
import KE.GoesZip
import PyProof.FactsTree
import KE.GoesMore
import PyProof.Draws
import PyProof.EnumMake
import PyProof.EnumIter
import PySem.Challenge.RW_boughswap_k20_steps_on_long_racks
set_option Elab.async false
set_option linter.all false
set_option maxRecDepth 100000
set_option maxHeartbeats 4000000
namespace BW
open PySem PySem.Spec PyProof.Rows L2

section
variable {P : Program} {w : World} {K : PySem.W.Frag} {mg : Str → Option Value} {base : Heap} {CX : CXT}
/-- a def stands at a name of the module -/
def At (K : PySem.W.Frag) (mg : Str → Option Value) (x : Str) (st : Stmt) : Prop := ∃ (f : Addr) (fd : FuncData), mg x = some (.ref f) ∧ Fun K x x st f fd
/-- a def that keeps its promise -/
structure Cal (P : Program) (w : World) (K : PySem.W.Frag) (mg : Str → Option Value) (base : Heap) (CX : CXT) (k : Nat) (x : Str) (st : Stmt) (ps : List Str) (sp : Sp) : Prop where
  ex : ∃ (f : Addr) (fd : FuncData), mg x = some (.ref f) ∧ Fun K x x st f fd ∧ Binds K fd ps [] ∧ FnOk P w K mg base CX k f fd ps sp
def BindH (x : Str) (st : Stmt) (ps : List Str) : Prop := ∀ (kV doc pm : Value) (an : Option Addr) (cdv ct : Value) (us : List Value), us.length = ps.length → bindArgs (PySem.W.fnOf x x (defArgs st) (defBody st) (defScope st) .none kV doc pm an cdv ct) ⟨us, []⟩ = pure (ps.zip us)
theorem Cal.mk' {k : Nat} {x : Str} {st : Stmt} {ps : List Str} {sp : Sp} (a : At K mg x st) (hb : BindH x st ps) (h : ∀ (f : Addr) (fd : FuncData), Fun K x x st f fd → FnOk P w K mg base CX k f fd ps sp) : Cal P w K mg base CX k x st ps sp := by
  obtain ⟨f, fd, g, F⟩ := a
  exact ⟨f, fd, g, F, F.binds hb, h f fd F⟩
theorem Cal.mono {j k : Nat} {x : Str} {st : Stmt} {ps : List Str} {sp : Sp} (a : Cal P w K mg base CX j x st ps sp) (h : j ≤ k) : Cal P w K mg base CX k x st ps sp := by
  obtain ⟨f, fd, g, F, b, G⟩ := a.ex
  exact ⟨f, fd, g, F, b, G.mono h⟩
end
section
variable {X : Cx} {CX : CXT} {k : Nat} {st : Stmt} {ps : List Str} {sp : Sp} {E : XK} {x : Str} {p pos : Pos} {e : Expr} {es : List Expr} {t : TA}
/-- f(e, ..) -/
theorem pe_own (C : Cal X.prog X.w X.K X.mg X.base CX k x st ps sp) (hr : Room k X.A) (hg : Gl X x) (hx : Passes CX X E)
    (ha : PA X (e :: es) t) (hdb : (x == ("__debug__" : Str)) = false := by decide) (he : starEach (e :: es) X.env = (false, eval e X.env) :: starEach es X.env := by rfl) (hpl : (backTo pos (starEach es X.env)).any (·.1) = false := by rfl) :
    PE X (.Call (.Name x p) (e :: es) [] pos) (tCall sp [] E t) := by
  obtain ⟨f, fd, g, F, b, G⟩ := C.ex
  exact pe_call G hr hg g F.kp b .nil hx ha hdb he hpl
theorem pe_own0 (C : Cal X.prog X.w X.K X.mg X.base CX k x st ps sp) (hr : Room k X.A) (hg : Gl X x) (hx : Passes CX X E)
    (hdb : (x == ("__debug__" : Str)) = false := by decide) :
    PE X (.Call (.Name x p) [] [] pos) (tCall sp [] E tNil) := by
  obtain ⟨f, fd, g, F, b, G⟩ := C.ex
  exact pe_call0 G hr hg g F.kp b .nil hx hdb
/-- f(k = v, ..), all by names -/
def tCallK0 (sp : Sp) (gV : List V → List V) (E : XK) (tk : TA) : TE := fun σ H Q => tk σ H fun zs H2 => sp (gV zs) H2 Q E
def KBindH (x : Str) (st : Stmt) (ps ks : List Str) (g : {α : Type} → List α → List α) : Prop := ∀ (kV doc pm : Value) (an : Option Addr) (cdv ct : Value) (ws : List Value), ws.length = ks.length → bindArgs (PySem.W.fnOf x x (defArgs st) (defBody st) (defScope st) .none kV doc pm an cdv ct) ⟨[], ks.zip ws⟩ = pure (ps.zip (g ws))
theorem pe_ownK {ks : List Str} {kws : List Keyword} {tk : TA} (g : {α : Type} → List α → List α) (C : Cal X.prog X.w X.K X.mg X.base CX k x st ps sp) (hr : Room k X.A) (hg : Gl X x) (hx : Passes CX X E)
    (hb : KBindH x st ps ks g) (hl : ∀ (α : Type) (ws : List α), (g ws).length = ps.length → ws.length = ks.length) (hrel : ∀ (zs : List V) (ws : List Value), Vals zs ws → Vals (g zs) (g ws))
    (hkw : PK X kws tk) (hall : (backToKw pos (keywordEach kws X.env)).all (·.1.isSome) = true := by rfl) (hks : (backToKw pos (keywordEach kws X.env)).filterMap (·.1) = ks := by rfl)
    (hdb : (x == ("__debug__" : Str)) = false := by decide) (hpl : ((backTo pos (starEach [] X.env)).any (·.1) || (backToKw pos (keywordEach kws X.env)).any (·.1.isNone)) = false := by rfl) :
    PE X (.Call (.Name x p) [] kws pos) (tCallK0 sp g E tk) := by
  obtain ⟨f, fd, gm, F, b, G⟩ := C.ex
  refine ⟨fun pins s σ H Q I h => ?_⟩
  refine wpAny_Call_Name_kw (ld_glob I hg gm ?_ hdb)
  refine PySem.W.callWith_KW0 (h₀ := X.base) I.ok.mod.kin F.kp hall ?_ hpl
  refine thn (hkw.run pos pins s σ H _ I h) fun ws s2 ⟨zs, H2, I2, rz, q2⟩ => ⟨I2.kIn, ?_⟩
  rw [hks]
  have r2 := hrel _ _ rz
  have hl2 : (g ws).length = ps.length := by rw [← r2.length]; exact G.len _ _ _ _ q2
  have bt : BindsTo s2 fd ⟨[], ks.zip ws⟩ (ps.zip (g ws)) := by
    obtain ⟨oc, od, kV, doc, pm, an, cdv, ct, osl, rfl, lk, hcd⟩ := F.ex
    exact .of_eq (hb kV doc pm an cdv ct ws (hl _ ws hl2))
  refine wpAny_call (codeAny_mono (G.run X.A X.stack s2 H2 ⟨[], ks.zip ws⟩ (g ws) (g zs) Q E hr I2.env0 bt r2 q2) fun r s' hq => ?_)
  cases r with
  | error e => exact hx pins σ H2 s2 e s' I2 hq
  | ok fl =>
    cases fl with
    | ret u => exact I2.after hq
    | next => exact False.elim hq
    | brk => exact False.elim hq
    | cont => exact False.elim hq
end
/-! ### defs with defaults -/
section
variable {P : Program} {w : World} {K : PySem.W.Frag} {mg : Str → Option Value} {base : Heap} {CX : CXT}
abbrev FunDs (K : PySem.W.Frag) (x : Str) (st : Stmt) (dvs : List V) (f : Addr) (fd : FuncData) : Prop := FunD K x x (defArgs st) (defBody st) (defScope st) dvs [] f fd
def AtD (K : PySem.W.Frag) (mg : Str → Option Value) (x : Str) (st : Stmt) (dvs : List V) : Prop := ∃ (f : Addr) (fd : FuncData), mg x = some (.ref f) ∧ FunDs K x st dvs f fd
structure CalD (P : Program) (w : World) (K : PySem.W.Frag) (mg : Str → Option Value) (base : Heap) (CX : CXT) (k : Nat) (x : Str) (st : Stmt) (dvs : List V) (ps : List Str) (sp : Sp) : Prop where
  ex : ∃ (f : Addr) (fd : FuncData), mg x = some (.ref f) ∧ FunDs K x st dvs f fd ∧ FnOk P w K mg base CX k f fd ps sp
theorem CalD.mk' {k : Nat} {x : Str} {st : Stmt} {dvs : List V} {ps : List Str} {sp : Sp} (a : AtD K mg x st dvs) (h : ∀ (f : Addr) (fd : FuncData), FunDs K x st dvs f fd → FnOk P w K mg base CX k f fd ps sp) : CalD P w K mg base CX k x st dvs ps sp := by
  obtain ⟨f, fd, g, F⟩ := a
  exact ⟨f, fd, g, F, h f fd F⟩
theorem funD_mk {x : Str} {st : Stmt} {f T : Addr} {oc : Value} {od an : Option Addr} {osl : Array (Option Value)} {kV doc pm cdv ct : Value} {o : Obj} {its : List Value} {n : Nat} {dvs : List V} (l : K.lookup f = some ⟨oc, od, .func (PySem.W.fnOf x x (defArgs st) (defBody st) (defScope st) (.ref T) kV doc pm an cdv ct), osl⟩)
    (c : PySem.W.codeIn K cdv x = true) (k : PySem.W.keepIn K (.ref f) = true) (lT : K.lookup T = some o) (oT : o.data = .seq its.toArray n) (hd : dvs ≠ []) (r : Vals dvs its) :
    FunDs K x st dvs f (PySem.W.fnOf x x (defArgs st) (defBody st) (defScope st) (.ref T) kV doc pm an cdv ct) :=
  ⟨⟨oc, od, .ref T, kV, doc, pm, an, cdv, ct, osl, rfl, l, c, .inr ⟨hd, T, o, its, n, rfl, lT, oT, r⟩, .inl rfl⟩, k⟩
end
section
variable {X : Cx} {CX : CXT} {k : Nat} {st : Stmt} {dvs : List V} {ps : List Str} {sp : Sp} {E : XK} {x : Str} {p pos : Pos} {e : Expr} {es : List Expr} {t : TA}
def BindD (x : Str) (st : Stmt) (ps : List Str) (n m j : Nat) : Prop := ∀ (T : Addr) (kV doc pm : Value) (an : Option Addr) (cdv ct : Value) (us its : List Value), us.length = n → its.length = m →
      ∃ k, bindArgs (PySem.W.fnOf x x (defArgs st) (defBody st) (defScope st) (.ref T) kV doc pm an cdv ct) ⟨us, []⟩ = seqItems? (.ref T) >>= k ∧ k (some its.toArray) = pure (ps.zip (us ++ its.drop j))
/-- f(e, ..), n values written, the defaults from the j-th on taken -/
theorem pe_ownD (n j : Nat) (C : CalD X.prog X.w X.K X.mg X.base CX k x st dvs ps sp) (hd : dvs ≠ []) (hn : n + (dvs.length - j) = ps.length) (hb : BindD x st ps n dvs.length j) (hr : Room k X.A) (hg : Gl X x) (hx : Passes CX X E)
    (ha : PA X (e :: es) t) (hdb : (x == ("__debug__" : Str)) = false := by decide) (he : starEach (e :: es) X.env = (false, eval e X.env) :: starEach es X.env := by rfl) (hpl : (backTo pos (starEach es X.env)).any (·.1) = false := by rfl) :
    PE X (.Call (.Name x p) (e :: es) [] pos) (tCall sp (dvs.drop j) E t) := by
  obtain ⟨f, fd, g, F, G⟩ := C.ex
  obtain ⟨ds, hv, b⟩ := FunD.binds1 (ps := ps) F n j hd hn hb
  exact pe_call G hr hg g F.kp b hv hx ha hdb he hpl
def KBindD (x : Str) (st : Stmt) (ps ks : List Str) (m : Nat) (g : {α : Type} → List α → List α) : Prop := ∀ (T : Addr) (kV doc pm : Value) (an : Option Addr) (cdv ct : Value) (ws its : List Value), ws.length = ks.length → its.length = m →
      ∃ k, bindArgs (PySem.W.fnOf x x (defArgs st) (defBody st) (defScope st) (.ref T) kV doc pm an cdv ct) ⟨[], ks.zip ws⟩ = seqItems? (.ref T) >>= k ∧ k (some its.toArray) = pure (ps.zip (g ws))
/-- f(k = v, ..), all parameters by names -/
theorem pe_ownDK {ks : List Str} {kws : List Keyword} {tk : TA} (g : {α : Type} → List α → List α) (C : CalD X.prog X.w X.K X.mg X.base CX k x st dvs ps sp) (hd : dvs ≠ []) (hr : Room k X.A) (hg : Gl X x) (hx : Passes CX X E)
    (hb : KBindD x st ps ks dvs.length g) (hl : ∀ (α : Type) (ws : List α), (g ws).length = ps.length → ws.length = ks.length) (hrel : ∀ (zs : List V) (ws : List Value), Vals zs ws → Vals (g zs) (g ws))
    (hkw : PK X kws tk) (hall : (backToKw pos (keywordEach kws X.env)).all (·.1.isSome) = true := by rfl) (hks : (backToKw pos (keywordEach kws X.env)).filterMap (·.1) = ks := by rfl)
    (hdb : (x == ("__debug__" : Str)) = false := by decide) (hpl : ((backTo pos (starEach [] X.env)).any (·.1) || (backToKw pos (keywordEach kws X.env)).any (·.1.isNone)) = false := by rfl) :
    PE X (.Call (.Name x p) [] kws pos) (tCallK0 sp g E tk) := by
  obtain ⟨f, fd, gm, F, G⟩ := C.ex
  refine ⟨fun pins s σ H Q I h => ?_⟩
  refine wpAny_Call_Name_kw (ld_glob I hg gm ?_ hdb)
  refine PySem.W.callWith_KW0 (h₀ := X.base) I.ok.mod.kin F.kp hall ?_ hpl
  refine thn (hkw.run pos pins s σ H _ I h) fun ws s2 ⟨zs, H2, I2, rz, q2⟩ => ⟨I2.kIn, ?_⟩
  rw [hks]
  have r2 := hrel _ _ rz
  have hl2 : (g ws).length = ps.length := by rw [← r2.length]; exact G.len _ _ _ _ q2
  have bt : BindsTo s2 fd ⟨[], ks.zip ws⟩ (ps.zip (g ws)) := by
    obtain ⟨oc, od, dV, kV, doc, pm, an, cdv, ct, osl, rfl, lk, hcd, hD, hK⟩ := F.ex
    rcases hD with ⟨e, _⟩ | ⟨_, T, o, its, m, rfl, lT, oT, rT⟩
    · exact absurd e hd
    · obtain ⟨k, e1, e2⟩ := hb T kV doc pm an cdv ct ws its (hl _ ws hl2) rT.length.symm
      refine BindsTo.of_looks fun M => ?_
      rw [e1]
      exact looks_items I2.kIn lT oT (.of_pure e2)
  refine wpAny_call (codeAny_mono (G.run X.A X.stack s2 H2 ⟨[], ks.zip ws⟩ (g ws) (g zs) Q E hr I2.env0 bt r2 q2) fun r s' hq => ?_)
  cases r with
  | error e => exact hx pins σ H2 s2 e s' I2 hq
  | ok fl =>
    cases fl with
    | ret u => exact I2.after hq
    | next => exact False.elim hq
    | brk => exact False.elim hq
    | cont => exact False.elim hq
/-- what a for walks: one of two -/
theorem PI.or {tg iter : Expr} {w1 w2 : TI} (h1 : PI X tg iter w1) (h2 : PI X tg iter w2) : PI X tg iter (fun σ H R => w1 σ H R ∨ w2 σ H R) :=
  ⟨fun pins s σ H R I h => h.elim (h1.run pins s σ H R I) (h2.run pins s σ H R I)⟩
/-- // by any great number but 0 -/
def CDivZ (_ j : Int) : Prop := j ≠ 0 ∧ j.natAbs.log2 < 9000
theorem op_fdivZ : OpR X (binaryOp .FloorDiv) (rI CDivZ fun i j => .int (i.fdiv j)) := opI fun i j _ _ _ _ _ hc q =>
  floordiv_int hc.1 q (.inl (PyProof.noPylong_of_log2 hc.2))

/-- list + list, written, locked or tracked -/
def rCatL (K : PySem.W.Frag) : R2 := fun x y H Q => ∃ l b xs zs, x = .ref l ∧ y = .ref b ∧ SqL K H l xs ∧ SqL K H b zs ∧ xs.length + zs.length ≤ sizeLine ∧ ∀ p, H p = none → Q (.ref p) (upd H p (.lst (xs ++ zs)))
theorem op_catL : OpR X (binaryOp .Add) (rCatL X.K) := by
  intro pins s σ H x y v u Q I rx ry h
  obtain ⟨l, b, xs, zs, rfl, rfl, hH, hB, hz, q⟩ := h
  cases rx
  cases ry
  obtain ⟨its, r, ⟨⟨cls, dd, data, sl⟩, n, ho, hc, hd, hs⟩, hl⟩ := I.list hH
  obtain ⟨its2, r2, ⟨⟨cls2, dd2, data2, sl2⟩, n2, ho2, hc2, hd2, hs2⟩, hl2⟩ := I.list hB
  simp only at hc hd hs hc2 hd2 hs2
  subst hc hd hs hc2 hd2 hs2
  have e : its.toArray ++ its2.toArray = (its ++ its2).toArray := by simp
  have l1 := r.length
  have l2 := r2.length
  refine concat_meets ⟨_, ho, rfl⟩ ⟨_, ho2, rfl⟩ noFill_list_add seq_list_add PySem.F.slot_list_add PySem.F.entry_list_add (PySem.F.args_list_add_2 _ _) (list_addW l b its.toArray its2.toArray n n2 none none sl sl2 (by simp only [List.size_toArray]; omega)) ⟨ho, ho2, ?_⟩
  rw [e]
  exact ⟨.ref _, _, I.lnew (t' := s.toks) (r.append r2) (by rw [List.length_append]; omega), rfl, q _ I.fresh⟩
end
/-! ### heaps -/
/-- all but what stands at l is as it was -/
def Ch (l : Addr) (H H' : Hp) : Prop := ∀ b o, b ≠ l → H b = some o → H' b = some o
theorem Ch.refl (l : Addr) (H : Hp) : Ch l H H := fun _ _ _ h => h
theorem Ch.trans {l : Addr} {H H1 H2 : Hp} (a : Ch l H H1) (b : Ch l H1 H2) : Ch l H H2 := fun c o n h => b c o n (a c o n h)
theorem Same.ch {l : Addr} {H H' : Hp} (e : Same H H') : Ch l H H' := fun b o _ h => e b o h
theorem same_new {H : Hp} {p : Addr} {o : HO} (h : H p = none) : Same H (upd H p o) := fun b u q => by rw [upd_ne (ne_of_none q h)]; exact q
theorem Ch.new {l : Addr} {H H' : Hp} {p : Addr} {o : HO} (e : Ch l H H') (h : H' p = none) : Ch l H (upd H' p o) := e.trans (Same.ch (same_new h))
theorem Ch.tr1 {l : Addr} {H H1 H2 : Hp} (b : Ch l H1 H2) (a : Ch l H H1) : Ch l H H2 := a.trans b
theorem Ch.tr2 {l : Addr} {H H1 H2 : Hp} (b : Same H1 H2) (a : Ch l H H1) : Ch l H H2 := a.trans (Same.ch b)
theorem Same.tr1 {H H1 H2 : Hp} (b : Same H1 H2) (a : Same H H1) : Same H H2 := a.trans b
theorem Ch.at {l : Addr} {H H' : Hp} {o : HO} (e : Ch l H H') : Ch l H (upd H' l o) := e.trans fun b u n q => by rw [upd_ne n]; exact q
/-- a new thing may change -/
theorem Ch.own {l : Addr} {H0 H H' : Hp} (e : Same H0 H) (n : H0 l = none) (c : Ch l H H') : Same H0 H' := fun b o q => c b o (ne_of_none q n) (e b o q)
theorem Ch.get {l p : Addr} {H H' : Hp} {o : HO} (c : Ch l H H') (h : H p = some o) (n : p ≠ l) : H' p = some o := c p o n h
theorem ne_new {H : Hp} {p q : Addr} {o : HO} (h : H q = some o) (n : H p = none) : q ≠ p := ne_of_none h n
theorem Same.none' {H H' : Hp} {p : Addr} (e : Same H H') (h : H' p = none) : H p = none := e.free h
theorem Ch.free {l p : Addr} {H H' : Hp} {o : HO} (e : Ch l H H') (hl : H' l = some o) (h : H' p = none) : H p = none := by
  cases q : H p with
  | none => rfl
  | some u =>
    by_cases n : p = l
    · subst n
      rw [h] at hl
      cases hl
    · rw [e p u n q] at h
      cases h
/-- a well: a list of three whole numbers, the middle one small -/
structure Wl (H : Hp) (l : Addr) : Prop where
  ex : ∃ a b z : Int, H l = some (.lst [.int a, .int b, .int z]) ∧ 0 ≤ b ∧ b < 2147483647
theorem Wl.same {H H' : Hp} {l : Addr} (e : Same H H') (h : Wl H l) : Wl H' l := by
  obtain ⟨a, b, z, q, r⟩ := h.ex
  exact ⟨a, b, z, e _ _ q, r⟩
theorem Wl.new {H : Hp} {l p : Addr} {o : HO} (h : Wl H l) (n : H p = none) : Wl (upd H p o) l := h.same (same_new n)
theorem Wl.get {H : Hp} {l : Addr} (h : Wl H l) : ∃ o, H l = some o := by
  obtain ⟨a, b, z, q, _⟩ := h.ex
  exact ⟨_, q⟩
theorem Wl.ne {H : Hp} {l p : Addr} (h : Wl H l) (n : H p = none) : l ≠ p := by
  obtain ⟨o, q⟩ := h.get
  exact ne_of_none q n
theorem ne_wl {H : Hp} {l p : Addr} (n : H p = none) (h : Wl H l) : p ≠ l := (h.ne n).symm
theorem SqL.of' {K : PySem.W.Frag} {H : Hp} {a : Addr} {xs : List V} (h : H a = some (.lst xs)) : SqL K H a xs := .inl (.inl h)
theorem SqT.of' {K : PySem.W.Frag} {H : Hp} {a : Addr} {xs : List V} (h : H a = some (.tup xs)) : SqT K H a xs := .inl (.inl h)
theorem Ch.seq {K : PySem.W.Frag} {l : Addr} {H H' : Hp} {a : Addr} {xs ys : List V} (e : Ch l H H') (hl : H l = some (.lst ys)) (hn : H a = none ∨ a ≠ l) (h : SqL K H a xs) : SqL K H' a xs := by
  have n : a ≠ l ∨ H a = none := by rcases hn with h | h; exact .inr h; exact .inl h
  rcases h with (h | ⟨o, h⟩) | h
  · rcases n with n | n
    · exact .inl (.inl (e _ _ n h))
    · rw [n] at h; cases h
  · rcases n with n | n
    · exact .inl (.inr ⟨o, e _ _ n h⟩)
    · rw [n] at h; cases h
  · exact .inr h
/-! ### new objects: the heap behind is told by what stands there -/
def New (H : Hp) (o : HO) (R : V → Hp → Prop) : Prop := ∀ p G, H p = none → Same H G → G p = some o → R (.ref p) G
theorem New.go {H : Hp} {o : HO} {R : V → Hp → Prop} (h : New H o R) : ∀ p, H p = none → R (.ref p) (upd H p o) := fun p hp => h p _ hp (same_new hp) upd_same
theorem New.intro {H : Hp} {o : HO} {R : V → Hp → Prop} (h : ∀ p G, H p = none → Same H G → G p = some o → R (.ref p) G) : New H o R := h
theorem sm_get {H G : Hp} {p : Addr} {o : HO} (e : Same H G) (h : H p = some o) : G p = some o := e _ _ h
theorem new_two {H : Hp} {p : Addr} {o o' : HO} {R : Hp → Prop} (hp : H p = none) (h : ∀ G, Same H G → G p = some o' → R G) : R (upd (upd H p o) p o') := h _ (fun b u q => by rw [upd_ne (ne_of_none q hp), upd_ne (ne_of_none q hp)]; exact q) upd_same
theorem pe_weak {X : Cx} {e : Expr} {t t' : TE} (h : PE X e t) (w : ∀ σ H Q, t' σ H Q → t σ H Q) : PE X e t' := ⟨fun pins s σ H Q I q => h.run pins s σ H Q I (w σ H Q q)⟩
theorem op_weak {X : Cx} {f : Value → Value → Sem Value} {r r' : R2} (h : OpR X f r) (w : ∀ x y H Q, r' x y H Q → r x y H Q) : OpR X f r' := fun pins s σ H x y v u Q I rx ry q => h pins s σ H x y v u Q I rx ry (w x y H Q q)
theorem call_weak {X : Cx} {f : Value} {r r' : List V → Hp → VK → Prop} (h : CallR X f r) (w : ∀ xs H Q, r' xs H Q → r xs H Q) : CallR X f r' := fun pins s σ H xs us Q I rs q => h pins s σ H xs us Q I rs (w xs H Q q)
theorem sl_weak {X : Cx} {r r' : V → Option Int → Option Int → Hp → VK → Prop} (h : SlR X r) (w : ∀ x lo hi H Q, r' x lo hi H Q → r x lo hi H Q) : SlR X r' := fun pins s σ H x v vl vu lo hi sl Q I rx hs pl pu q => h pins s σ H x v vl vu lo hi sl Q I rx hs pl pu (w x lo hi H Q q)
section
variable {X : Cx}
def nLst (t : TA) : TE := fun σ H Q => t σ H fun xs H1 => xs.length ≤ sizeLine ∧ New H1 (.lst xs) Q
def nTup (t : TA) : TE := fun σ H Q => t σ H fun xs H1 => xs.length ≤ sizeLine ∧ New H1 (.tup xs) Q
theorem n_tup {es : List Expr} {t : TA} {pos : Pos} {x1} (h : PA X es t) : PE X (.Tuple es x1 pos) (nTup t) := by
  refine ⟨fun pins s σ H Q I hq => ?_⟩
  refine wpAny_Tuple_spliced (thn (h.run pos pins s σ H _ I hq) fun us s1 ⟨xs, H1, I1, r, z, q⟩ => ⟨by rw [← r.length]; exact z, ?_⟩)
  have hf : H1 s1.heap.objs.size = none := I1.hok.fresh (Nat.le_refl _)
  refine ⟨.ref s1.heap.objs.size, upd H1 s1.heap.objs.size (.tup xs), I1.laid (t' := s1.toks) (fun b u e => Heap.get?_push_of_some _ e) (Nat.le_refl _) ?_, rfl, q.go _ hf⟩
  exact ⟨z, us, r, ⟨_, Heap.get?_push_size _ rfl, rfl, _, rfl⟩⟩
theorem n_lst {es : List Expr} {t : TA} {pos : Pos} (h : PA X es t) : PE X (.List es pos) (nLst t) := by
  refine ⟨fun pins s σ H Q I hq => ?_⟩
  refine wpAny_List_spliced (thn (h.run pos pins s σ H _ I hq) fun us s1 ⟨xs, H1, I1, r, z, q⟩ => ⟨by rw [← r.length]; exact z, ?_⟩)
  have hf : H1 s1.heap.objs.size = none := I1.hok.fresh (Nat.le_refl _)
  refine ⟨.ref s1.heap.objs.size, upd H1 s1.heap.objs.size (.lst xs), I1.laid (t' := s1.toks) (fun b u e => Heap.get?_push_of_some _ e) (Nat.le_refl _) ?_, rfl, q.go _ hf⟩
  exact ⟨z, us, 0, r, Heap.get?_push_size _ rfl⟩
def nDict : TE := fun _ H Q => New H (.dK []) Q
theorem n_dict {pos : Pos} : PE X (.Dict [] [] pos) nDict := pe_weak pe_dnewK fun _ _ _ q => q.go
/-! ### operators by any of their kinds -/
def rStrs : R2 := fun x y H Q => ∃ i j, x = .str i ∧ y = .str j ∧ i.length + j.length ≤ sizeLine ∧ Q (.str (i ++ j)) H
def nCat (K : PySem.W.Frag) : R2 := fun x y H Q => ∃ l b xs zs, x = .ref l ∧ y = .ref b ∧ SqL K H l xs ∧ SqL K H b zs ∧ xs.length + zs.length ≤ sizeLine ∧ New H (.lst (xs ++ zs)) Q
theorem n_cat : OpR X (binaryOp .Add) (nCat X.K) := op_weak op_catL fun _ _ _ _ ⟨l, b, xs, zs, h1, h2, h3, h4, h5, q⟩ => ⟨l, b, xs, zs, h1, h2, h3, h4, h5, q.go⟩
def nCatT (K : PySem.W.Frag) : R2 := fun x y H Q => ∃ a b xs ys, x = .ref a ∧ y = .ref b ∧ SqT K H a xs ∧ SqT K H b ys ∧ xs.length + ys.length ≤ sizeLine ∧
  (xs = [] → Q (.ref b) H) ∧ (xs ≠ [] → ys = [] → Q (.ref a) H) ∧ (xs ≠ [] → ys ≠ [] → New H (.tup (xs ++ ys)) Q)
theorem n_catT : OpR X (binaryOp .Add) (nCatT X.K) := op_weak op_catA fun _ _ _ _ ⟨l, b, xs, zs, h1, h2, h3, h4, h5, q0, q1, q⟩ => ⟨l, b, xs, zs, h1, h2, h3, h4, h5, q0, q1, fun a b => (q a b).go⟩
def rPlus (K : PySem.W.Frag) : R2 := fun x y H Q => (rI0 fun i j => .int (i + j)) x y H Q ∨ (nCat K x y H Q ∨ (nCatT K x y H Q ∨ rStrs x y H Q))
theorem o_add : OpR X (binaryOp .Add) (rPlus X.K) := op_add.or (n_cat.or (n_catT.or op_add_str))
def nRep : R2 := fun x y H Q => ∃ l k xs, x = .ref l ∧ y = .int k ∧ H l = some (.lst xs) ∧ -(2 ^ 63) ≤ k ∧ k < 2 ^ 63 ∧ xs.length * k.toNat ≤ sizeLine ∧ New H (.lst (List.replicate k.toNat xs).flatten) Q
theorem n_rep : OpR X (binaryOp .Mult) nRep := op_weak op_rep fun _ _ _ _ ⟨l, k, xs, h1, h2, h3, h4, h5, h6, q⟩ => ⟨l, k, xs, h1, h2, h3, h4, h5, h6, q.go⟩
def nRepT (K : PySem.W.Frag) : R2 := fun x y H Q => ∃ l k xs, x = .ref l ∧ y = .int k ∧ SqT K H l xs ∧ xs ≠ [] ∧ 2 ≤ k ∧ k ≤ 1000 ∧ xs.length ≤ 1000 ∧ New H (.tup (List.replicate k.toNat xs).flatten) Q
theorem n_repT : OpR X (binaryOp .Mult) (nRepT X.K) := op_weak op_repT fun _ _ _ _ ⟨l, k, xs, h1, h2, h3, h4, h5, h6, h7, q⟩ => ⟨l, k, xs, h1, h2, h3, h4, h5, h6, h7, q.go⟩
open PySem.AutoSeq1 (wpAny_loadPart')
/-! ### tuple * 1, tuple * 0 -/
theorem tup_mul1 (l : Addr) (items : Array Value) (n : Nat) (dd : Option Addr) (sl : Array (Option Value)) (u : Tok) :
    Meets (Builtin.«tuple.__mul__» ⟨[.ref l, .int 1 u], []⟩) (fun _ R s => s.heap.get? l = some { cls := .type "tuple", dict := dd, data := .seq items n, slots := sl } ∧ R (.ok (.ret (Value.ref l))) s) :=
  .of_wp fun prog w A R s h => by
    obtain ⟨hp, g, d, tk, os⟩ := s
    obtain ⟨hl, h⟩ := h
    have f1 := AutoSeq1.idx_int
    have c1 : (items.isEmpty || (1 : Int) == 1) = true := by simp
    wp_walk using wpAny_loadPart' hl
    repeat (first
      | (refine wpAny_ite_false (decide_eq_false (by decide)) ?_; wp_walk using wpAny_loadPart' hl)
      | (refine wpAny_ite_true (decide_eq_true c1) ?_; wp_walk using wpAny_loadPart' hl))
    exact ⟨_, rfl, h⟩
theorem tup_mul0 (l : Addr) (items : Array Value) (n : Nat) (dd : Option Addr) (sl : Array (Option Value)) (u : Tok) (c1 : (items.isEmpty || (0 : Int) == 1) = false) :
    Meets (Builtin.«tuple.__mul__» ⟨[.ref l, .int 0 u], []⟩) (fun _ R s => s.heap.get? l = some { cls := .type "tuple", dict := dd, data := .seq items n, slots := sl } ∧
      R (.ok (.ret (Value.ref s.heap.objs.size))) { s with heap := s.heap.push { cls := Value.type "tuple", data := Data.seq #[] }, toks := s.toks }) :=
  .of_wp fun prog w A R s h => by
    obtain ⟨hp, g, d, tk, os⟩ := s
    obtain ⟨hl, h⟩ := h
    have f1 := AutoSeq1.idx_int
    have c2 : (decide ((0 : Int) ≤ 0) || items.isEmpty) = true := by simp
    wp_walk using wpAny_loadPart' hl
    repeat (first
      | (refine wpAny_ite_false (decide_eq_false (by decide)) ?_; wp_walk using wpAny_loadPart' hl)
      | (refine wpAny_ite_false (decide_eq_false (by rw [c1]; exact Bool.false_ne_true)) ?_; wp_walk using wpAny_loadPart' hl)
      | (refine wpAny_ite_true (decide_eq_true c2) ?_; wp_walk using wpAny_loadPart' hl))
    exact ⟨_, rfl, h⟩
def rT1 (K : PySem.W.Frag) : R2 := fun x y H Q => ∃ l xs, x = .ref l ∧ y = .int 1 ∧ SqT K H l xs ∧ Q (.ref l) H
def rT0 (K : PySem.W.Frag) : R2 := fun x y H Q => ∃ l xs, x = .ref l ∧ y = .int 0 ∧ SqT K H l xs ∧ xs ≠ [] ∧ New H (.tup []) Q
theorem op_T1 {X : Cx} : OpR X (binaryOp .Mult) (rT1 X.K) := by
  intro pins s σ H x y v u Q I rx ry h
  obtain ⟨l, xs, rfl, rfl, hT, q⟩ := h
  cases rx
  obtain ⟨t, rfl⟩ := ry
  obtain ⟨its, r, ⟨⟨cls, dd, data, sl⟩, ho, hc, n, hd⟩, hs⟩ := I.tuple hT
  simp only at hc hd
  subst hc hd
  refine wpAny_binaryOp_repeat_ref (T := "tuple") (U := "int") (by decide) ⟨_, ho, rfl⟩ (fun s' => typeIs_int s' 1 t) noFill_tuple_mul F.fills_int_mul F.slot_int_rmul repeat_tuple F.slot_int_index.lookup
    (call_meets F.slot_int_rmul (typeIs_int s 1 t) F.entry_int_rmul (F.args_int_rmul_2 _ _) (int_rmul_tuple 1 t l its.toArray n dd sl)
      ⟨ho, rfl, ⟨_, ho, rfl⟩, call_meets F.slot_tuple_mul ⟨_, ho, rfl⟩ F.entry_tuple_mul (F.args_tuple_mul_2 _ _) (tup_mul1 l its.toArray n dd sl t) ⟨ho, ?_⟩⟩)
  exact ⟨.ref l, _, I, rfl, q⟩
theorem op_T0 {X : Cx} : OpR X (binaryOp .Mult) (rT0 X.K) := by
  intro pins s σ H x y v u Q I rx ry h
  obtain ⟨l, xs, rfl, rfl, hT, hne, q⟩ := h
  cases rx
  obtain ⟨t, rfl⟩ := ry
  obtain ⟨its, r, ⟨⟨cls, dd, data, sl⟩, ho, hc, n, hd⟩, hs⟩ := I.tuple hT
  simp only at hc hd
  subst hc hd
  have hle : its.length = xs.length := r.length.symm
  have hi : (its.toArray.isEmpty || (0 : Int) == 1) = false := by
    cases its with
    | nil => exact absurd (List.eq_nil_of_length_eq_zero hle.symm) hne
    | cons a b => rfl
  refine wpAny_binaryOp_repeat_ref (T := "tuple") (U := "int") (by decide) ⟨_, ho, rfl⟩ (fun s' => typeIs_int s' 0 t) noFill_tuple_mul F.fills_int_mul F.slot_int_rmul repeat_tuple F.slot_int_index.lookup
    (call_meets F.slot_int_rmul (typeIs_int s 0 t) F.entry_int_rmul (F.args_int_rmul_2 _ _) (int_rmul_tuple 0 t l its.toArray n dd sl)
      ⟨ho, rfl, ⟨_, ho, rfl⟩, call_meets F.slot_tuple_mul ⟨_, ho, rfl⟩ F.entry_tuple_mul (F.args_tuple_mul_2 _ _) (tup_mul0 l its.toArray n dd sl t hi) ⟨ho, ?_⟩⟩)
  refine ⟨.ref s.heap.objs.size, _, I.laid (t' := s.toks) (o := .tup []) (fun b ob q => Heap.get?_push_of_some _ q) (Nat.le_refl _) ?_, rfl, q.go _ (I.hok.fresh (Nat.le_refl _))⟩
  exact ⟨by decide, _, .nil, IsTup.new _ _⟩
def rMul (K : PySem.W.Frag) : R2 := fun x y H Q => (rI CMul fun i j => .int (i * j)) x y H Q ∨ ((rI CMulX fun i j => .int (i * j)) x y H Q ∨ (nRep x y H Q ∨ (nRepT K x y H Q ∨ (rT1 K x y H Q ∨ rT0 K x y H Q))))
theorem o_mul : OpR X (binaryOp .Mult) (rMul X.K) := op_mul.or (op_mulX.or (n_rep.or (n_repT.or (op_T1.or op_T0))))
def rFdv : R2 := fun x y H Q => (rI CDiv fun i j => .int (i / j)) x y H Q ∨ (rI CDivZ fun i j => .int (i.fdiv j)) x y H Q
theorem o_fdv : OpR X (binaryOp .FloorDiv) rFdv := op_fdiv.or op_fdivZ
def rMod : R2 := rI (fun _ j => 0 < j) fun i j => .int (i % j)
theorem o_mod : OpR X (binaryOp .Mod) rMod := op_mod
def rPow : R2 := rI CPow fun i j => .int (i ^ j.toNat)
theorem o_pow : OpR X (binaryOp .Pow) rPow := op_pow
def rSubt : R2 := rI0 fun i j => .int (i - j)
theorem o_sub : OpR X (binaryOp .Sub) rSubt := op_sub
def rEqq (K : PySem.W.Frag) : R2 := fun x y H Q => rEq x y H Q ∨ rEqD K x y H Q
theorem o_eq (hu : X.A.units + 64 < cLine) : OpR X (compareOp .Eq) (rEqq X.K) := op_eq.or (op_eqD hu)
def rNee (K : PySem.W.Frag) : R2 := fun x y H Q => rNe x y H Q ∨ rNeD K x y H Q
theorem o_ne (hu : X.A.units + 64 < cLine) : OpR X (compareOp .NotEq) (rNee X.K) := op_ne.or (op_neD hu)
def rIss : R2 := fun x y H Q => (y = .non ∧ Q (.bl (decide (x = .non))) H) ∨ rIsB x y H Q
theorem o_is : OpR X (compareOp .Is) rIss := op_isN.or op_isBl
def rIsn : R2 := fun x y H Q => (y = .non ∧ Q (.bl (!decide (x = .non))) H) ∨ rNotB x y H Q
theorem o_isn : OpR X (compareOp .IsNot) rIsn := op_notN.or op_notBl
def rIst (K : PySem.W.Frag) : List V → Hp → VK → Prop := fun xs H Q => rIsi K xs H Q ∨ rIsiT K xs H Q
theorem c_isinst : CallR X (.builtin "isinstance") (rIst X.K) := call_isi.or call_isiT
def nSlL (K : PySem.W.Frag) : V → Option Int → Option Int → Hp → VK → Prop := fun x lo hi H Q => ∃ a xs, x = .ref a ∧ SqL K H a xs ∧ New H (.lst (cutV xs lo hi)) Q
theorem n_slL : SlR X (nSlL X.K) := sl_weak sl_list fun _ _ _ _ _ ⟨a, xs, h1, h2, q⟩ => ⟨a, xs, h1, h2, q.go⟩
def nSlT (K : PySem.W.Frag) : V → Option Int → Option Int → Hp → VK → Prop := fun x lo hi H Q => ∃ a xs, x = .ref a ∧ SqT K H a xs ∧
  (HT.sIx xs.length 0 lo = 0 ∧ HT.sIx xs.length xs.length hi = xs.length → Q (.ref a) H) ∧ (¬ (HT.sIx xs.length 0 lo = 0 ∧ HT.sIx xs.length xs.length hi = xs.length) → New H (.tup (cutV xs lo hi)) Q)
theorem n_slT : SlR X (nSlT X.K) := sl_weak sl_tupA fun _ _ _ _ _ ⟨a, xs, h1, h2, q0, q⟩ => ⟨a, xs, h1, h2, q0, fun z => (q z).go⟩
def rSlc (K : PySem.W.Frag) : V → Option Int → Option Int → Hp → VK → Prop := fun x lo hi H Q => nSlL K x lo hi H Q ∨ (nSlT K x lo hi H Q ∨ rSlS x lo hi H Q)
theorem s_any : SlR X (rSlc X.K) := n_slL.or (n_slT.or sl_str)
def nDivm : List V → Hp → VK → Prop := fun xs H Q => ∃ i j, xs = [.int i, .int j] ∧ CDiv i j ∧ New H (.tup [.int (i / j), .int (i % j)]) Q
theorem c_divmod : CallR X (.builtin "divmod") nDivm := call_weak call_divmod fun _ _ _ ⟨i, j, h1, h2, q⟩ => ⟨i, j, h1, h2, q.go⟩
def nList (K : PySem.W.Frag) : List V → Hp → VK → Prop := fun xs H Q => ∃ p ys, xs = [.ref p] ∧ (SqL K H p ys ∨ SqT K H p ys) ∧ New H (.lst ys) Q
theorem c_list : CallR X (.type "list") (nList X.K) := call_weak call_list_of fun _ _ _ ⟨i, j, h1, h2, q⟩ => ⟨i, j, h1, h2, q.go⟩
def nTuple (K : PySem.W.Frag) : List V → Hp → VK → Prop := fun xs H Q => ∃ p ys, xs = [.ref p] ∧ ((SqL K H p ys ∧ New H (.tup ys) Q) ∨ (SqT K H p ys ∧ Q (.ref p) H))
theorem c_tuple : CallR X (.type "tuple") (nTuple X.K) := call_weak call_tuple_of fun _ _ _ ⟨i, j, h1, h2⟩ => ⟨i, j, h1, h2.imp (fun ⟨a, q⟩ => ⟨a, q.go⟩) id⟩
def iSeq (K : PySem.W.Frag) (tl : TE) : TI := fun σ H R => iList K tl σ H R ∨ iTup K tl σ H R
theorem pi_seq {tg l : Expr} {tl : TE} (h : PE X l tl) : PI X tg l (iSeq X.K tl) := PI.or (pi_list h) (pi_tup h)
end
theorem asg_val {te : TE} {g : TG} {D : Ends} {σ : L2.St} {H : Hp} (v : V) (h : ∀ R : VK, R v H → te σ H R) (q : g v σ H D.nx) : tAsg te g D σ H := h _ q
theorem seq_val {te : TE} {g : TG} {u : TS} {D : Ends} {σ : L2.St} {H : Hp} (v : V) (h : ∀ R : VK, R v H → te σ H R) (q : g v σ H (u D)) : tSeq (tAsg te g) u D σ H := h _ q
theorem cutV_int {ns : List Int} {lo hi : Option Int} {i : Nat} {x : V} (h : (cutV (ns.map V.int) lo hi)[i]? = some x) : ∃ c : Int, x = .int c := by
  unfold cutV at h
  rw [List.getElem?_take] at h
  split at h
  · rw [List.getElem?_drop, List.getElem?_map] at h
    cases e : ns[HT.sIx (ns.map V.int).length 0 lo + i]? with
    | none => rw [e] at h; cases h
    | some c =>
      rw [e] at h
      exact ⟨c, (Option.some.inj h).symm⟩
  · cases h
/-- what a law promises -/
def spLaw (K : PySem.W.Frag) : Sp := fun vs H Q _ => ∃ (a : Addr) (ns : List Int), vs = [.ref a] ∧ SqL K H a (ns.map V.int) ∧ ns.length ≤ 63 ∧ ∀ H', Q (.bl true) H'
/-! ### what is no whole number -/
def bV : Option Int → V
  | none => .non
  | some i => .int i
def inB (lo hi : Option Int) (n : Int) : Bool := (match lo with | none => true | some i => decide (i ≤ n)) && (match hi with | none => true | some i => decide (n ≤ i))
def Odd (K : PySem.W.Frag) (H : Hp) (x : V) : Prop := ∃ s : String, TyX K H x (.type s) ∧ ((kitB s "bool" = some true) ∨ (kitB s "bool" = some false ∧ kitB s "int" = some false))
def spWhole (K : PySem.W.Frag) : Sp := fun vs H Q _ => ∃ (x : V) (lo hi : Option Int), vs = [x, bV lo, bV hi] ∧ ((∃ n, x = .int n ∧ Q (.bl (inB lo hi n)) H) ∨ (Odd K H x ∧ Q (.bl false) H))
def spWell (K : PySem.W.Frag) : Sp := fun vs H Q _ => ∃ (c : Int), vs = [.int c] ∧ ∀ H' p, Same H H' → H p = none → Wl H' p → Q (.ref p) H'
def spDraw (K : PySem.W.Frag) : Sp := fun vs H Q _ => ∃ (l : Addr) (m : Int), vs = [.ref l, .int m] ∧ Wl H l ∧ 0 < m ∧ m < 1073741824 ∧ ∀ H' r, Ch l H H' → Wl H' l → 0 ≤ r → r < m → Q (.int r) H'
def spNumber (K : PySem.W.Frag) : Sp := fun vs H Q _ => ∃ (l : Addr) (m : Int), vs = [.ref l, .int m] ∧ Wl H l ∧ 0 ≤ m ∧ m < 10 ^ 60 ∧ ∀ H' (n : Int), Ch l H H' → Wl H' l → n.natAbs < 10 ^ 60 → Q (.int n) H'
theorem lvL {X : Cx} {x : Str} (h : X.env.scope.names.lookup x = some .local) : Loc X.env.scope x := .inl h
/-! ### fractions -/
def gcI (a b : Int) : Int := ((Nat.gcd a.natAbs b.natAbs : Nat) : Int)
def frC (t b : Int) : Int := if b < 0 then -gcI t b else gcI t b
def frT (t b : Int) : Int := t.fdiv (frC t b)
def frB (t b : Int) : Int := b.fdiv (frC t b)
theorem gcI_pos {t b : Int} (h : b ≠ 0) : 0 < gcI t b := by
  unfold gcI
  have : 0 < Nat.gcd t.natAbs b.natAbs := Nat.gcd_pos_of_pos_right _ (by omega)
  omega
theorem gcI_dl (t b : Int) : gcI t b ∣ t := Int.natAbs_dvd_natAbs.mp (by unfold gcI; rw [Int.natAbs_natCast]; exact Nat.gcd_dvd_left _ _)
theorem gcI_dr (t b : Int) : gcI t b ∣ b := Int.natAbs_dvd_natAbs.mp (by unfold gcI; rw [Int.natAbs_natCast]; exact Nat.gcd_dvd_right _ _)
theorem frC_ne {t b : Int} (h : b ≠ 0) : frC t b ≠ 0 := by
  have := gcI_pos (t := t) h
  unfold frC
  split <;> omega
theorem frC_abs (t b : Int) : (frC t b).natAbs = Nat.gcd t.natAbs b.natAbs := by
  unfold frC gcI
  split <;> omega
theorem frC_le {t b : Int} (h : b ≠ 0) : (frC t b).natAbs ≤ b.natAbs := by
  rw [frC_abs]
  exact Nat.le_of_dvd (by omega) (Nat.gcd_dvd_right _ _)
theorem fr_parts {t b : Int} (h : b ≠ 0) : t = frC t b * frT t b ∧ b = frC t b * frB t b := by
  have h0 := frC_ne (t := t) h
  have d1 : frC t b ∣ t := by unfold frC; split; exact Int.neg_dvd.mpr (gcI_dl t b); exact gcI_dl t b
  have d2 : frC t b ∣ b := by unfold frC; split; exact Int.neg_dvd.mpr (gcI_dr t b); exact gcI_dr t b
  obtain ⟨k, hk⟩ := d1
  obtain ⟨l, hl⟩ := d2
  constructor
  · unfold frT
    have e : t.fdiv (frC t b) = k := by
      conv => lhs; arg 1; rw [hk]
      exact Int.mul_fdiv_cancel_left _ h0
    rw [e]
    exact hk
  · unfold frB
    have e : b.fdiv (frC t b) = l := by
      conv => lhs; arg 1; rw [hl]
      exact Int.mul_fdiv_cancel_left _ h0
    rw [e]
    exact hl
theorem frB_pos {t b : Int} (h : b ≠ 0) : 0 < frB t b := by
  have h0 := gcI_pos (t := t) h
  have e := (fr_parts (t := t) h).2
  have hc : frC t b = if b < 0 then -gcI t b else gcI t b := rfl
  generalize frB t b = l at *
  generalize frC t b = c at *
  split at hc
  · have hc0 : c < 0 := by omega
    rcases Int.lt_trichotomy l 0 with hl | hl | hl
    · have := Int.mul_pos_of_neg_of_neg hc0 hl
      omega
    · subst hl
      omega
    · exact hl
  · have hc0 : 0 < c := by omega
    rcases Int.lt_trichotomy l 0 with hl | hl | hl
    · have := Int.mul_neg_of_pos_of_neg hc0 hl
      omega
    · subst hl
      omega
    · exact hl
theorem fr_one {t b : Int} (h : b ≠ 0) : gcI (frT t b) (frB t b) = 1 := by
  obtain ⟨e1, e2⟩ := fr_parts (t := t) h
  have ha := frC_abs t b
  have hp : 0 < Nat.gcd t.natAbs b.natAbs := Nat.gcd_pos_of_pos_right _ (by omega)
  have n1 : t.natAbs = (frC t b).natAbs * (frT t b).natAbs := by
    conv => lhs; rw [e1]
    exact Int.natAbs_mul _ _
  have n2 : b.natAbs = (frC t b).natAbs * (frB t b).natAbs := by
    conv => lhs; rw [e2]
    exact Int.natAbs_mul _ _
  have q : Nat.gcd t.natAbs b.natAbs = Nat.gcd t.natAbs b.natAbs * Nat.gcd (frT t b).natAbs (frB t b).natAbs := by
    conv => lhs; rw [n1, n2, Nat.gcd_mul_left, ha]
  unfold gcI
  have : Nat.gcd (frT t b).natAbs (frB t b).natAbs = 1 := by
    have q2 : Nat.gcd t.natAbs b.natAbs * 1 = Nat.gcd t.natAbs b.natAbs * Nat.gcd (frT t b).natAbs (frB t b).natAbs := by rw [Nat.mul_one]; exact q
    exact (Nat.eq_of_mul_eq_mul_left hp q2).symm
  rw [this]
  rfl
theorem fr_cross {t b : Int} (h : b ≠ 0) : frT t b * b = t * frB t b := by
  obtain ⟨e1, e2⟩ := fr_parts (t := t) h
  generalize frT t b = T at *
  generalize frB t b = B at *
  generalize frC t b = C at *
  subst e1
  subst e2
  rw [← Int.mul_assoc, Int.mul_comm T C]
/-- two fractions in lowest terms of one worth are one -/
theorem low_unique {t b u d : Int} (hb : 0 < b) (hd : 0 < d) (h1 : gcI t b = 1) (h2 : gcI u d = 1) (e : t * d = u * b) : t = u ∧ b = d := by
  have g1 : Nat.gcd t.natAbs b.natAbs = 1 := by unfold gcI at h1; omega
  have g2 : Nat.gcd u.natAbs d.natAbs = 1 := by unfold gcI at h2; omega
  have en : t.natAbs * d.natAbs = u.natAbs * b.natAbs := by rw [← Int.natAbs_mul, ← Int.natAbs_mul, e]
  have d1 : b.natAbs ∣ d.natAbs := (Nat.Coprime.dvd_of_dvd_mul_left (k := b.natAbs) (m := t.natAbs) (n := d.natAbs) (by rw [Nat.Coprime, Nat.gcd_comm]; exact g1) ⟨u.natAbs, by rw [en, Nat.mul_comm]⟩)
  have d2 : d.natAbs ∣ b.natAbs := (Nat.Coprime.dvd_of_dvd_mul_left (k := d.natAbs) (m := u.natAbs) (n := b.natAbs) (by rw [Nat.Coprime, Nat.gcd_comm]; exact g2) ⟨t.natAbs, by rw [← en, Nat.mul_comm]⟩)
  have eb : b.natAbs = d.natAbs := Nat.dvd_antisymm d1 d2
  have eb' : b = d := by omega
  subst eb'
  exact ⟨Int.eq_of_mul_eq_mul_right (by omega) e, rfl⟩
theorem fr_self {t b : Int} (hb : 0 < b) (h : gcI t b = 1) : frT t b = t ∧ frB t b = b :=
  low_unique (frB_pos (by omega)) hb (fr_one (by omega)) h (fr_cross (by omega))
theorem gcI_oneR (t : Int) : gcI t 1 = 1 := by
  unfold gcI
  rw [show (1 : Int).natAbs = 1 from rfl, Nat.gcd_one_right]
  rfl
/-- not too great for a product or a share -/
def small (b : Int) : Prop := b.natAbs < 2 ^ 8000
theorem small_mul {i j : Int} (h : small i) (k : small j) : CMulX i j := mulx_ok h k (by decide)
theorem small_le {n m : Int} (h : n.natAbs ≤ m.natAbs) (k : small m) : small n := Nat.lt_of_le_of_lt h k
theorem small_lt {n : Int} {k : Nat} (h : n.natAbs < k) (hk : k ≤ 2 ^ 8000 := by decide) : small n := Nat.lt_of_lt_of_le h hk
theorem small_frC {t b : Int} (h : b ≠ 0) (hs : small b) : CDivZ t (frC t b) := ⟨frC_ne h, Nat.lt_of_lt_of_le (PySem.Flt.log2_lt_of (k := 8000) (by decide) (Nat.lt_of_le_of_lt (frC_le h) hs)) (by decide)⟩
theorem frT_le {t b : Int} (h : b ≠ 0) : (frT t b).natAbs ≤ t.natAbs := by
  have e := (fr_parts (t := t) h).1
  have h0 := frC_ne (t := t) h
  have : t.natAbs = (frC t b).natAbs * (frT t b).natAbs := by
    conv => lhs; rw [e]
    exact Int.natAbs_mul _ _
  rw [this]
  exact Nat.le_mul_of_pos_left _ (by omega)
theorem frB_le {t b : Int} (h : b ≠ 0) : (frB t b).natAbs ≤ b.natAbs := by
  have e := (fr_parts (t := t) h).2
  have h0 := frC_ne (t := t) h
  have : b.natAbs = (frC t b).natAbs * (frB t b).natAbs := by
    conv => lhs; rw [e]
    exact Int.natAbs_mul _ _
  rw [this]
  exact Nat.le_mul_of_pos_left _ (by omega)
/-- a size in bits -/
def sz (k : Nat) (n : Int) : Prop := n.natAbs < 2 ^ k
theorem sz_mono {j k : Nat} {n : Int} (h : sz j n) (e : j ≤ k) : sz k n := Nat.lt_of_lt_of_le h (Nat.pow_le_pow_right (by decide) e)
theorem sz_mul {j k : Nat} {n m : Int} (h : sz j n) (e : sz k m) : sz (j + k) (n * m) := by
  unfold sz
  rw [Int.natAbs_mul, Nat.pow_add]
  exact Nat.mul_lt_mul'' h e
theorem sz_add {j k : Nat} {n m : Int} (h : sz j n) (e : sz k m) : sz (j + k + 1) (n + m) := by
  have h1 := sz_mono h (show j ≤ j + k by omega)
  have h2 := sz_mono e (show k ≤ j + k by omega)
  unfold sz at *
  have := Int.natAbs_add_le n m
  rw [Nat.pow_succ]
  omega
theorem sz_neg {j : Nat} {n : Int} (h : sz j n) : sz j (-n) := by
  unfold sz at *
  rw [Int.natAbs_neg]
  exact h
theorem sz_sub {j k : Nat} {n m : Int} (h : sz j n) (e : sz k m) : sz (j + k + 1) (n - m) := by
  rw [Int.sub_eq_add_neg]
  exact sz_add h (sz_neg e)
theorem sz_le {k : Nat} {n m : Int} (h : n.natAbs ≤ m.natAbs) (e : sz k m) : sz k n := Nat.lt_of_le_of_lt h e
theorem sz_mulx {j k : Nat} {n m : Int} (h : sz j n) (e : sz k m) (l : j + k ≤ 134217728) : CMulX n m := mulx_ok h e l
theorem sz_small {k : Nat} {n : Int} (h : sz k n) (l : k ≤ 8000) : small n := sz_mono h l
theorem sz_lit {k : Nat} {n : Int} (h : n.natAbs < 2 ^ k := by decide) : sz k n := h
/-! ### a fraction, and what it is worth -/
def IsFr (a b : Int) : Prop := 0 < b ∧ gcI a b = 1
def Wth (a b n d : Int) : Prop := IsFr a b ∧ d ≠ 0 ∧ a * d = n * b
theorem wth_unique {a b n d a' b' n' d' : Int} (h : Wth a b n d) (h' : Wth a' b' n' d') (e : n * d' = n' * d) : a = a' ∧ b = b' := by
  obtain ⟨⟨h1, h2⟩, h3, h4⟩ := h
  obtain ⟨⟨k1, k2⟩, k3, k4⟩ := h'
  refine low_unique h1 k1 h2 k2 ?_
  have z : d * d' ≠ 0 := Int.mul_ne_zero h3 k3
  refine Int.eq_of_mul_eq_mul_right z ?_
  grind
theorem wth_fr {n d : Int} (h : d ≠ 0) : Wth (frT n d) (frB n d) n d := ⟨⟨frB_pos h, fr_one h⟩, h, fr_cross h⟩
theorem wth_self {a b : Int} (h : IsFr a b) : Wth a b a b := ⟨h, by have := h.1; omega, rfl⟩
theorem wth_conv {x y n d n' d' : Int} (h : Wth x y n d) (h0 : d' ≠ 0) (e : n * d' = n' * d) : Wth x y n' d' := by
  refine ⟨h.1, h0, ?_⟩
  obtain ⟨_, h3, h4⟩ := h
  refine Int.eq_of_mul_eq_mul_right h3 ?_
  grind
theorem w_times {x y n d u v m f X Y : Int} (h1 : Wth x y n d) (h2 : Wth u v m f) (h : Wth X Y (x * u) (y * v)) : Wth X Y (n * m) (d * f) := by
  refine wth_conv h (Int.mul_ne_zero h1.2.1 h2.2.1) ?_
  have e1 := h1.2.2
  have e2 := h2.2.2
  clear h1 h2 h
  grind
theorem w_plus {x y n d u v m f X Y : Int} (h1 : Wth x y n d) (h2 : Wth u v m f) (h : Wth X Y (x * v + u * y) (y * v)) : Wth X Y (n * f + m * d) (d * f) := by
  refine wth_conv h (Int.mul_ne_zero h1.2.1 h2.2.1) ?_
  have e1 := h1.2.2
  have e2 := h2.2.2
  clear h1 h2 h
  grind
theorem isFr_int (n : Int) : IsFr n 1 := ⟨by decide, gcI_oneR n⟩
theorem eqv_ii (a b : Int) : PyData.eqv (.tuple [.int a, .int b]) (.tuple [.int a, .int b]) = true := PySem.SeqAt.eqv_refl _ rfl
/-- a fraction stands at p, its numbers not too great -/
structure FrAt (H : Hp) (p : Addr) (k : Nat) (a b : Int) : Prop where
  get : H p = some (.tup [.int a, .int b])
  fr : IsFr a b
  s1 : sz k a
  s2 : sz k b
theorem FrAt.same {H G : Hp} {p : Addr} {k : Nat} {a b : Int} (e : Same H G) (f : FrAt H p k a b) : FrAt G p k a b := ⟨e _ _ f.get, f.fr, f.s1, f.s2⟩
theorem FrAt.ch {H G : Hp} {l p : Addr} {k : Nat} {a b : Int} (e : Ch l H G) (w : Wl H l) (f : FrAt H p k a b) : FrAt G p k a b := by
  obtain ⟨x, y, z, q, _⟩ := w.ex
  refine ⟨e _ _ (fun n => ?_) f.get, f.fr, f.s1, f.s2⟩
  subst n
  have := q.symm.trans f.get
  cases this
theorem FrAt.upd {H : Hp} {l p : Addr} {k : Nat} {a b : Int} {xs ys : List V} (w : H l = some (.lst xs)) (f : FrAt H p k a b) : FrAt (upd H l (.lst ys)) p k a b := by
  refine ⟨?_, f.fr, f.s1, f.s2⟩
  rw [upd_ne]
  · exact f.get
  · intro n
    subst n
    have := w.symm.trans f.get
    cases this
theorem FrAt.of {H : Hp} {p : Addr} {k : Nat} {n d : Int} (g : H p = some (.tup [.int (frT n d), .int (frB n d)])) (h : d ≠ 0) (s1 : sz k n) (s2 : sz k d) : FrAt H p k (frT n d) (frB n d) :=
  ⟨g, (wth_fr h).1, sz_le (frT_le h) s1, sz_le (frB_le h) s2⟩
theorem FrAt.lit {H : Hp} {p : Addr} {n : Int} (g : H p = some (.tup [.int n, .int 1])) (s : sz 2 n) : FrAt H p 2 n 1 := ⟨g, isFr_int n, s, sz_lit⟩
theorem FrAt.mono {H : Hp} {p : Addr} {j k : Nat} {a b : Int} (f : FrAt H p j a b) (e : j ≤ k) : FrAt H p k a b := ⟨f.get, f.fr, sz_mono f.s1 e, sz_mono f.s2 e⟩
theorem eqv_w {a b n d a' b' n' d' : Int} (h : Wth a b n d) (h' : Wth a' b' n' d') (e : n * d' = n' * d) : PyData.eqv (.tuple [.int a, .int b]) (.tuple [.int a', .int b']) = true := by
  obtain ⟨e1, e2⟩ := wth_unique h h' e
  rw [e1, e2]
  exact eqv_ii _ _
theorem itePb {b : Bool} {A B : Prop} (h : b = true) (q : A) : if b = true then A else B := by
  rw [h]
  exact iteT q
def gSeq (K : PySem.W.Frag) (n : Nat) (t : TGs) : TG := fun v σ H Q => gTup K n t v σ H Q ∨ gLst K n t v σ H Q
theorem pg_any {X : Cx} {pos : Pos} {es : List Expr} {k : Nat} {t : TGs} {n : Nat} (hc : X.calm = true) (h : PGs X es t)
    (hn : (assignEach es X.env).length = n := by rfl) (hst : (assignEach es X.env).findIdx? (·.1) = none := by rfl) : PG X (.Tuple es k pos) (gSeq X.K n t) :=
  ⟨fun pins s σ H v u Q I r hw => hw.elim ((pg_tup hc h hn hst).run pins s σ H v u Q I r) ((pg_lst hc h hn hst).run pins s σ H v u Q I r)⟩
theorem iteNb {b : Bool} {A B : Prop} (h : b = true) (q : B) : if (!b) = true then A else B := by
  rw [h]
  exact iteF q
/-! ### polynomials -/
theorem TyX.same {K : PySem.W.Frag} {H G : Hp} {x : V} {t : Value} (e : Same H G) (h : TyX K H x t) : TyX K G x t := by
  cases h with
  | base b =>
    refine .base ?_
    cases b with
    | non => exact .non
    | bl y => exact .bl y
    | int y => exact .int y
    | str y => exact .str y
    | flt y => exact .flt y
    | lst h => exact .lst (e _ _ h)
    | frz h => exact .frz (e _ _ h)
    | tup h => exact .tup (e _ _ h)
    | dK h => exact .dK (e _ _ h)
    | dT h => exact .dT (e _ _ h)
    | ins h a b c d f => exact .ins (e _ _ h) a b c d f
  | byt b => exact .byt b
  | set h => exact .set (e _ _ h)
  | kList h c => exact .kList h c
  | kTuple h c => exact .kTuple h c
  | kDict h c => exact .kDict h c
  | fTuple h => exact .fTuple (e _ _ h)
  | fDict h => exact .fDict (e _ _ h)
theorem Odd.same {K : PySem.W.Frag} {H G : Hp} {x : V} (e : Same H G) (h : Odd K H x) : Odd K G x := by
  obtain ⟨s, t, q⟩ := h
  exact ⟨s, TyX.same e t, q⟩
theorem Same.tupS {K : PySem.W.Frag} {H H' : Hp} {a : Addr} {xs : List V} (e : Same H H') (h : SqT K H a xs) : SqT K H' a xs := by
  rcases h with (h | ⟨o, h⟩) | h
  · exact .inl (.inl (e _ _ h))
  · exact .inl (.inr ⟨o, e _ _ h⟩)
  · exact .inr h
def isI : V → Bool
  | .int _ => true
  | _ => false
/-- a whole number, or another thing -/
def PartV (K : PySem.W.Frag) (H : Hp) (x : V) : Prop := (∃ n : Int, x = .int n) ∨ (Odd K H x ∧ isI x = false)
theorem PartV.same {K : PySem.W.Frag} {H G : Hp} {x : V} (e : Same H G) (h : PartV K H x) : PartV K G x := h.imp id fun ⟨a, b⟩ => ⟨Odd.same e a, b⟩
/-- noughts at the end left out -/
def bare (ns : List Int) : List Int := (ns.reverse.dropWhile (· == 0)).reverse
theorem bare_nil : bare [] = [] := rfl
theorem bare_zero (l : List Int) : bare (l ++ [0]) = bare l := by
  unfold bare
  rw [List.reverse_append]
  rfl
theorem bare_last (l : List Int) {x : Int} (h : x ≠ 0) : bare (l ++ [x]) = l ++ [x] := by
  unfold bare
  rw [List.reverse_append]
  show (List.dropWhile (· == 0) (x :: l.reverse)).reverse = l ++ [x]
  rw [List.dropWhile_cons_of_neg (by simpa using h)]
  simp
theorem bare_len (l : List Int) : (bare l).length ≤ l.length := by
  unfold bare
  rw [List.length_reverse]
  have := (List.dropWhile_sublist (p := (· == (0 : Int))) (l := l.reverse)).length_le
  rw [List.length_reverse] at this
  exact this
/-- the last number isn't 0 -/
def Bare (ns : List Int) : Prop := ∀ x, ns.getLast? = some x → x ≠ 0
theorem bare_bare (l : List Int) : Bare (bare l) := by
  intro x h
  unfold bare at h
  rw [List.getLast?_reverse] at h
  cases e : l.reverse.dropWhile (· == 0) with
  | nil => rw [e] at h; cases h
  | cons y t =>
    rw [e] at h
    have hy := List.head_dropWhile_not (p := (· == (0 : Int))) (l := l.reverse) (by rw [e]; simp)
    simp only [e, List.head_cons] at hy
    have : y = x := Option.some.inj h
    subst this
    simpa using hy
theorem bare_self {l : List Int} (h : Bare l) : bare l = l := by
  cases e : l.getLast? with
  | none => rw [List.getLast?_eq_none_iff] at e; subst e; rfl
  | some x =>
    obtain ⟨r, hr⟩ := List.getLast?_eq_some_iff.mp e
    rw [hr]
    exact bare_last r (h x e)
/-- a polynomial stands at p -/
structure PolyAt (H : Hp) (p : Addr) (ns : List Int) : Prop where
  get : H p = some (.tup (ns.map V.int))
  bare : Bare ns
theorem PolyAt.same {H G : Hp} {p : Addr} {ns : List Int} (e : Same H G) (h : PolyAt H p ns) : PolyAt G p ns := ⟨e _ _ h.get, h.bare⟩
/-! ### xs[i] op= e of a list -/
def rGetL (K : PySem.W.Frag) : V → V → Hp → VK → Prop := fun x y H Q => ∃ (p : Addr) (xs : List V) (i : Int) (v : V), x = .ref p ∧ y = .int i ∧ SqL K H p xs ∧ 0 ≤ i ∧ xs[i.toNat]? = some v ∧ Q v H
theorem get_list {X : Cx} : PGet X (rGetL X.K) := by
  intro pins s σ H o i ov iv Q I ro ri h
  obtain ⟨p, xs, k, z, rfl, rfl, hq, h0, he, q⟩ := h
  cases ro
  obtain ⟨t, rfl⟩ := ri
  obtain ⟨its, r, pl, hz⟩ := I.list hq
  obtain ⟨w, ew, rw'⟩ := r.get he
  have hl := r.length
  have hn := line63
  have hlt := (List.getElem?_eq_some_iff.mp he).1
  exact wpAny_getItem_list pl.isList h0 (by omega) (by simpa using ew) ⟨z, H, I, rw', q⟩
/-- x *= e of whole numbers -/
def ipMul : TIp := fun x y H Q => ∃ i j, x = .int i ∧ y = .int j ∧ CMulX i j ∧ Q (.int (i * j)) H
theorem ip_mulW {X : Cx} : PIp X .Mult ipMul := by
  intro pins s σ H x y v u Q I rx ry h
  obtain ⟨i, j, rfl, rfl, hc, q⟩ := h
  obtain ⟨t, rfl⟩ := rx
  obtain ⟨t', rfl⟩ := ry
  exact imul_int ⟨.int _, H, I.tok _, ⟨_, rfl⟩, q⟩ hc.ok
/-! ### comprehensions of one for over whole numbers, no object made in a turn -/
theorem lc_mapT {K : PySem.W.Frag} {a D : Addr} {ns : List Int} {g : TG} {tt : TT} {te : TE} {vs : List Nat} {σ : L2.St} {H : Hp} {Qd : Hp → Prop} (f : Int → V) (hS : SqT K H a (ns.map V.int)) (hD : H D = none) (hl : ns.length ≤ 100000)
    (hs : ∀ (n : Int) (X : Hp) (R : VK) (P : Hp → Prop), n ∈ ns → Same H X → R (f n) X → g (.int n) (wipe σ vs) X fun σ2 H2 => wipe σ2 vs = wipe σ vs ∧ tt σ2 H2 fun b H3 => if b = true then te σ2 H3 R else P H3)
    (hd : ∀ X, Same H X → X D = some (.lst (ns.map f)) → Qd X) :
    ∃ W : Nat → Nat → Hp → Prop, (∃ m, W 0 m (upd H D (.lst []))) ∧ ∀ i m X, W i m X →
      ((Itt K a).stop i X ∧ Qd X) ∨ ((Itt K a).go i X ∧ ∃ Nx : Hp → Prop, (∀ H', Nx H' → ∃ m', m' < m ∧ W (i + 1) m' H') ∧ ∀ x H', (Itt K a).yld i X x H' → g x (wipe σ vs) H' fun σ2 H2 => wipe σ2 vs = wipe σ vs ∧ tt σ2 H2 fun b H3 =>
        if b = true then te σ2 H3 fun y H4 => ∃ acc, H4 D = some (.lst acc) ∧ acc.length < sizeLine ∧ Nx (upd H4 D (.lst (acc ++ [y]))) else Nx H3) := by
  refine lc_tup (xs := ns.map V.int) (fun i X => X D = some (.lst ((ns.take i).map f)) ∧ Same H X) ⟨upd_same, same_new hD⟩ (fun i X _ hP => Same.tupS hP.2 hS) ?_ (fun X hP => ?_)
  · intro i x X hi hP
    obtain ⟨gD, sX⟩ := hP
    rw [List.getElem?_map] at hi
    obtain ⟨n, hn, rfl⟩ := Option.map_eq_some_iff.mp hi
    have hlt := (List.getElem?_eq_some_iff.mp hn).1
    refine hs n X (fun y H4 => ∃ acc, H4 D = some (.lst acc) ∧ acc.length < sizeLine ∧ (upd H4 D (.lst (acc ++ [y])) D = some (.lst ((ns.take (i + 1)).map f)) ∧ Same H (upd H4 D (.lst (acc ++ [y]))))) _ (List.mem_of_getElem? hn) sX ?_
    refine ⟨_, gD, ?_, ?_, fun b o hb => ?_⟩
    · rw [List.length_map]
      exact Nat.lt_of_le_of_lt (List.length_take_le _ _) (Nat.lt_of_lt_of_le (show i < 100001 by omega) (by decide))
    · rw [upd_same, List.take_add_one, hn, List.map_append]
      rfl
    · rw [upd_ne (ne_of_none hb hD)]
      exact sX b o hb
  · refine hd X hP.2 ?_
    have e := hP.1
    rw [List.length_map, List.take_length] at e
    exact e
theorem lc_mapL {K : PySem.W.Frag} {a D : Addr} {ns : List Int} {g : TG} {tt : TT} {te : TE} {vs : List Nat} {σ : L2.St} {H : Hp} {Qd : Hp → Prop} (f : Int → V) (hS : SqL K H a (ns.map V.int)) (hD : H D = none) (hl : ns.length ≤ 100000)
    (hs : ∀ (n : Int) (X : Hp) (R : VK) (P : Hp → Prop), n ∈ ns → Same H X → R (f n) X → g (.int n) (wipe σ vs) X fun σ2 H2 => wipe σ2 vs = wipe σ vs ∧ tt σ2 H2 fun b H3 => if b = true then te σ2 H3 R else P H3)
    (hd : ∀ X, Same H X → X D = some (.lst (ns.map f)) → Qd X) :
    ∃ W : Nat → Nat → Hp → Prop, (∃ m, W 0 m (upd H D (.lst []))) ∧ ∀ i m X, W i m X →
      ((Itl K a).stop i X ∧ Qd X) ∨ ((Itl K a).go i X ∧ ∃ Nx : Hp → Prop, (∀ H', Nx H' → ∃ m', m' < m ∧ W (i + 1) m' H') ∧ ∀ x H', (Itl K a).yld i X x H' → g x (wipe σ vs) H' fun σ2 H2 => wipe σ2 vs = wipe σ vs ∧ tt σ2 H2 fun b H3 =>
        if b = true then te σ2 H3 fun y H4 => ∃ acc, H4 D = some (.lst acc) ∧ acc.length < sizeLine ∧ Nx (upd H4 D (.lst (acc ++ [y]))) else Nx H3) := by
  refine lc_list (xs := ns.map V.int) (fun i X => X D = some (.lst ((ns.take i).map f)) ∧ Same H X) ⟨upd_same, same_new hD⟩ (fun i X _ hP => hP.2.seq hS) ?_ (fun X hP => ?_)
  · intro i x X hi hP
    obtain ⟨gD, sX⟩ := hP
    rw [List.getElem?_map] at hi
    obtain ⟨n, hn, rfl⟩ := Option.map_eq_some_iff.mp hi
    have hlt := (List.getElem?_eq_some_iff.mp hn).1
    refine hs n X (fun y H4 => ∃ acc, H4 D = some (.lst acc) ∧ acc.length < sizeLine ∧ (upd H4 D (.lst (acc ++ [y])) D = some (.lst ((ns.take (i + 1)).map f)) ∧ Same H (upd H4 D (.lst (acc ++ [y]))))) _ (List.mem_of_getElem? hn) sX ?_
    refine ⟨_, gD, ?_, ?_, fun b o hb => ?_⟩
    · rw [List.length_map]
      exact Nat.lt_of_le_of_lt (List.length_take_le _ _) (Nat.lt_of_lt_of_le (show i < 100001 by omega) (by decide))
    · rw [upd_same, List.take_add_one, hn, List.map_append]
      rfl
    · rw [upd_ne (ne_of_none hb hD)]
      exact sX b o hb
  · refine hd X hP.2 ?_
    have e := hP.1
    rw [List.length_map, List.take_length] at e
    exact e
end BW
namespace BW
open PySem PySem.Spec PyProof.Rows L2
open PySem.AutoSeq1 (wpAny_loadPart')
/-! ### enumerate of a tuple -/
theorem draws_tuple {prog : Program} {w : World} {A : Around} (hh : A.handled = none) (it t : Addr) (hne : t ≠ it) (items : Array Value) :
    Draws prog w A it [it, t] items.size (fun i v => items[i]? = some v) (fun i h => h.IsTupleIter it t i ∧ h.IsTuple t items) where
  live := fun _ _ st => by
    obtain ⟨o, ho, _⟩ := st.1
    exact ⟨o, ho⟩
  frame := fun _ _ _ st hk => ⟨st.1.at fun o e => hk it (by simp) o e, by
    obtain ⟨o, ho, r⟩ := st.2
    exact ⟨o, hk t (by simp) o ho, r⟩⟩
  item := fun i s Q E hi st hQ => by
    refine wpAny_nextOf_tuple_item st.1 st.2 (x := items[i]) (by simp [hi]) fun h' hit' hs' => ?_
    refine hQ _ h' s.toks (by simp [hi]) ⟨hit', ?_⟩ hs'
    obtain ⟨o, ho, r⟩ := st.2
    exact ⟨o, hs'.extBut _ _ hne ho, r⟩
  done := fun s Q E st hE => wpAny_nextOf_tuple_end hh st.1 st.2 (by simp) hE
theorem draws_tuple_end {prog : Program} {w : World} {A : Around} (hh : A.handled = none) (it t : Addr) (items : Array Value) (n : Nat) (hn : items.size ≤ n) :
    Draws prog w A it [it, t] n (fun _ _ => False) (fun j h => j = n ∧ h.IsTupleIter it t j ∧ h.IsTuple t items) where
  live := fun _ _ st => by
    obtain ⟨o, ho, _⟩ := st.2.1
    exact ⟨o, ho⟩
  frame := fun _ _ _ st hk => ⟨st.1, st.2.1.at fun o e => hk it (by simp) o e, by
    obtain ⟨o, ho, r⟩ := st.2.2
    exact ⟨o, hk t (by simp) o ho, r⟩⟩
  item := fun i s Q E hi st hQ => by
    have := st.1
    omega
  done := fun s Q E st hE => wpAny_nextOf_tuple_end hh st.2.1 st.2.2 (by simp; omega) hE
set_option maxHeartbeats 4000000 in
theorem meets_enumT (l : Addr) (items : Array Value) (n : Nat) (dct : Option Addr) (sl : Array (Option Value)) :
    Meets (Builtin.«enumerate.__new__» ⟨[.type "enumerate", .ref l], []⟩) (fun _ R s => s.heap.get? l = some { cls := .type "tuple", dict := dct, data := .seq items n, slots := sl } ∧
      R (.ok (.ret (.ref (s.heap.push { cls := .type "tuple_iterator", data := .fields #[.ref l, .int 0 0] }).objs.size)))
        { s with heap := (s.heap.push { cls := .type "tuple_iterator", data := .fields #[.ref l, .int 0 0] }).push { cls := .type "enumerate", data := .fields #[.none, .bool false, .ref s.heap.objs.size, rawInt 0, .none, .none] } }) :=
  .of_wp fun prog w A R s h => by
    obtain ⟨hp, g, d, tk, os⟩ := s; obtain ⟨hl, h⟩ := h
    have hsub := sub_enumerate
    have hL : Heap.IsTuple (Shared.heap ⟨hp, g, d, tk, os⟩) l items := ⟨_, hl, rfl, n, rfl⟩
    wp_walk using wpAny_loadPart' hl
    refine wpAny_stack_any fun st => wpAny_pure ?_
    split
    · rename_i c _ _ _ _ _
      cases (c == Value.type "enumerate")
      · wp_walk using wpAny_loadPart' hl, wpAny_pyIter_tuple hL
        exact ⟨_, rfl, h⟩
      · wp_walk using wpAny_loadPart' hl, wpAny_pyIter_tuple hL
        exact ⟨_, rfl, h⟩
    · wp_walk using wpAny_loadPart' hl, wpAny_pyIter_tuple hL
      exact ⟨_, rfl, h⟩
theorem call_enumT {prog : Program} {w : World} {A : Around} {E : Value → Shared → Prop} {s : Shared} {l : Addr} {items : Array Value} {Q : Value → Shared → Prop} (hL : s.heap.IsTuple l items)
    (h : ∀ h', IsEnum h' (s.heap.objs.size + 1) s.heap.objs.size 0 .none → h'.IsTupleIter s.heap.objs.size l 0 → (∀ b o, s.heap.get? b = some o → h'.get? b = some o) → Q (.ref (s.heap.objs.size + 1)) { s with heap := h' }) :
    wpAny (model prog w) A (call (.type "enumerate") [.ref l]) Q E s := by
  obtain ⟨⟨c, dct, dt, sl⟩, hl, hc, n, hd⟩ := hL
  obtain rfl : c = .type "tuple" := hc
  obtain rfl : dt = .seq items n := hd
  refine callType_new F.called_enumerate (by decide) (F.typeCall_enumerate_1 _) (F.newCall_enumerate_1 _) (fun o => F.args_object_init_2 o _) F.entry_enumerate_new (meets_enumT l items n dct sl) ⟨hl, ?_⟩
  have z1 : (s.heap.push { cls := .type "tuple_iterator", data := .fields #[.ref l, .int 0 0] }).objs.size = s.heap.objs.size + 1 := Heap.size_push ..
  have e1 := Heap.get?_push_size (s.heap.push { cls := .type "tuple_iterator", data := .fields #[.ref l, .int 0 0] }) (o := { cls := .type "enumerate", data := .fields #[.none, .bool false, .ref s.heap.objs.size, rawInt 0, .none, .none] }) rfl
  rw [z1] at e1
  show _ ∧ _
  rw [z1]
  exact ⟨⟨_, e1, rfl⟩, h _ e1 ⟨_, Heap.get?_push_of_some _ (Heap.get?_push_size _ rfl), rfl, rfl⟩ fun b o x => Heap.get?_push_of_some _ (Heap.get?_push_of_some _ x)⟩
/-- the tuple at a as it stands at each turn, each item in a new pair -/
def IteT (K : PySem.W.Frag) (a : Addr) : It where
  go := fun i H => ∃ (xs : List V) (x : V), SqT K H a xs ∧ xs[i]? = some x
  yld := fun i H v H' => ∃ T x, v = .ref T ∧ H T = none ∧ H' = upd H T (.tup [.int (i : Nat), x]) ∧ ∀ xs, SqT K H a xs → xs[i]? = some x
  stop := fun i H => ∃ xs : List V, SqT K H a xs ∧ xs.length ≤ i
theorem turn_enumT {P : Program} {w : World} {K : PySem.W.Frag} {elts : List Expr} {kk : Nat} {tpos : Pos} (a e it : Addr) :
    Turn P w K (.Tuple elts kk tpos) (IteT K a) [e, it] e (fun i h => (∃ old, IsEnum h e it ((i : Nat) : Int) old) ∧ h.IsTupleIter it a i ∧ e ≠ it) where
  mem := by simp
  obj := fun i h st b hb => by
    obtain ⟨⟨old, he⟩, ⟨o, ho, hc, hd⟩, _⟩ := st
    rcases (by simpa using hb : b = e ∨ b = it) with rfl | rfl
    · exact ⟨_, he, fun v q => nomatch q⟩
    · exact ⟨o, ho, fun v q => by rw [hd] at q; cases q⟩
  keep := fun i h h' st k => by
    obtain ⟨⟨old, he⟩, hi, hne⟩ := st
    exact ⟨⟨old, k e (by simp) _ he⟩, hi.at fun o q => k it (by simp) o q, hne⟩
  item := by
    intro X hP hw hK hc i pins s σ H E I hf st hg
    subst hP hw hK
    obtain ⟨⟨old, he⟩, hit, hne⟩ := st
    obtain ⟨xs, x, hq, hx⟩ := hg
    obtain ⟨its, rv, p, hz⟩ := I.tuple hq
    obtain ⟨u, hu, ru⟩ := rv.get hx
    have pt : s.heap.IsTuple a its.toArray := p
    have hel : e < s.heap.objs.size := Heap.lt_size he
    have hil : it < s.heap.objs.size := by obtain ⟨_, q, _⟩ := hit; exact Heap.lt_size q
    have ae : e ≠ a := fun z => by
      obtain ⟨o, ho, hcl, _⟩ := pt
      rw [← z, he] at ho
      cases ho
      exact absurd (Value.type.inj (show Value.type "enumerate" = Value.type "tuple" from hcl)) (by decide)
    have ai : a ≠ it := fun z => by
      obtain ⟨o, ho, hcl, _⟩ := pt
      obtain ⟨o', ho', hcl', _⟩ := hit
      rw [z, ho'] at ho
      cases ho
      rw [hcl'] at hcl
      exact absurd hcl (by decide)
    have hin : i < its.toArray.size := by
      have := (List.getElem?_eq_some_iff.mp hu).1
      simpa using this
    refine wpAny_pyNext_enum_itemD (draws_tuple (A := X.A.in1) (I.ok.hd hc) it a ai its.toArray) he ⟨hit, pt⟩ hin hne (by simp [hne, ae]) fun y h' tk hy ho st' hT hsz hk => ?_
    have ey : y = u := by
      have : its.toArray[i]? = some u := by simpa using hu
      rw [this] at hy
      exact (Option.some.inj hy).symm
    subst ey
    refine ⟨_, rfl, wpAny_letOwnedTupleGo_enum (s := { s with heap := h', toks := tk + 1 }) ho fun h2 he2 sb => ?_⟩
    have hT2 : h2.get? s.heap.objs.size = some { cls := .type "tuple", data := .seq #[.int i tk, y] } := (sb.2 _ (Nat.ne_of_gt hel)).trans hT
    have new : ObjOk X.prog X.w (upd H s.heap.objs.size (.tup [.int (i : Nat), x])) h2 s.heap.objs.size (.tup [.int (i : Nat), x]) :=
      ⟨by show 2 ≤ sizeLine; decide, [.int i tk, y], .cons ⟨_, rfl⟩ (.cons ru .nil), ⟨_, hT2, rfl, _, rfl⟩⟩
    have I1 : Inv X pins σ (upd H s.heap.objs.size (.tup [.int (i : Nat), x])) { s with heap := h2, toks := tk + 1 } :=
      I.turnedNew (ch := [e, it]) (fun b ob hb q => (sb.2 b (fun z => hb (by simp [z]))).trans (hk b ob (fun z => hb (by simp [z])) (fun z => hb (by simp [z])) q)) hf (Nat.le_refl _) new
    refine ⟨.ref s.heap.objs.size, _, I1, rfl, ⟨_, x, rfl, I.hok.fresh (Nat.le_refl _), rfl, fun ys hy => by rw [I.tuple_inj hy hq]; exact hx⟩, ⟨⟨y, ?_⟩, st'.1.at fun o q => (sb.2 it (Ne.symm hne)).trans q, hne⟩, fun b hb => ?_⟩
    · rw [show ((i + 1 : Nat) : Int) = (i : Int) + 1 by omega]
      exact he2
    · have hb' : b < s.heap.objs.size := by
        rcases (by simpa using hb : b = e ∨ b = it) with rfl | rfl
        · exact hel
        · exact hil
      rw [upd_ne (Nat.ne_of_lt hb')]
      exact (hf b hb).1
  done := by
    intro X hP hw hK hc i pins s σ H E I hf st hg
    subst hP hw hK
    obtain ⟨⟨old, he⟩, hit, hne⟩ := st
    obtain ⟨xs, hq, hx⟩ := hg
    obtain ⟨its, rv, p, hz⟩ := I.tuple hq
    obtain ⟨f0, f1, f2, f3, f4, f5⟩ := hf it (by simp)
    have hl := rv.length
    have hn : its.toArray.size ≤ i := by simp; omega
    exact wpAny_pyNext_enum_endD (draws_tuple_end (A := X.A.in1) (I.ok.hd hc) it a its.toArray i hn) he ⟨rfl, hit, p⟩ fun h' eb => ⟨rfl, I.turned (t' := s.toks) (fun b o hb q => eb b o hb q) f0 f1 f3 f4 f5⟩
  self := fun A i s Q E st h => by
    obtain ⟨⟨_, he⟩, _⟩ := st
    exact wpAny_pyIter_enum he h
/-- enumerate of a list or of a tuple -/
def iEnumA (K : PySem.W.Frag) (ta : TA) : TI := fun σ H R => ta σ H fun vs H1 => ∃ a xs, vs = [.ref a] ∧ ((SqL K H1 a xs ∧ R (Ite K a) H1) ∨ (SqT K H1 a xs ∧ R (IteT K a) H1))
theorem pi_enumA {X : Cx} {e : Expr} {ta : TA} {p pos tpos : Pos} {elts : List Expr} {kk : Nat} (hg : Gl X "enumerate") (hm : X.mg "enumerate" = none) (ha : PA X [e] ta) (hs : starEach [e] X.env = [(false, eval e X.env)] := by rfl) :
    PI X (.Tuple elts kk tpos) (.Call (.Name "enumerate" p) [e] [] pos) (iEnumA X.K ta) := by
  refine ⟨fun pins s σ H R I h => ?_⟩
  refine Call_ (ld_blt I hg hm boot_enumerate (PyProof.Rows.callWith_type1 (thn (ha.run pos pins s σ H _ I h) fun us s1 ⟨vs, H1, I1, r1, q1⟩ => ?_) hs rfl))
  obtain ⟨a, xs, rfl, q⟩ := q1
  obtain ⟨u, rfl, ru⟩ := vals1 r1
  cases ru
  have fp : ∀ b ∈ [s1.heap.objs.size + 1, s1.heap.objs.size], FpOk X pins H1 b := fun b hb => by
    have hle : s1.heap.objs.size ≤ b := by
      rcases (by simpa using hb : b = s1.heap.objs.size + 1 ∨ b = s1.heap.objs.size) with rfl | rfl
      · exact Nat.le_add_right _ _
      · exact Nat.le_refl _
    exact I1.fpOk hle (I1.hok.fresh hle)
  rcases q with ⟨hq, q⟩ | ⟨hq, q⟩
  · obtain ⟨its, rv, p', hz⟩ := I1.list hq
    refine call_enumerate_list p'.isList fun h' he hit hsz hk => wpAny_pyIter_enum he ?_
    exact ⟨s1.heap.objs.size + 1, [s1.heap.objs.size + 1, s1.heap.objs.size], _, _, H1, rfl, I1.kept (t' := s1.toks) hk, turn_enum a (s1.heap.objs.size + 1) s1.heap.objs.size, ⟨⟨.none, he⟩, hit, Nat.succ_ne_self _⟩, fp, q⟩
  · obtain ⟨its, rv, p', hz⟩ := I1.tuple hq
    refine call_enumT (items := its.toArray) p' fun h' he hit hk => wpAny_pyIter_enum he ?_
    exact ⟨s1.heap.objs.size + 1, [s1.heap.objs.size + 1, s1.heap.objs.size], _, _, H1, rfl, I1.kept (t' := s1.toks) hk, turn_enumT a (s1.heap.objs.size + 1) s1.heap.objs.size, ⟨⟨.none, he⟩, hit, Nat.succ_ne_self _⟩, fp, q⟩
theorem for_enumT {K : PySem.W.Frag} {a : Addr} {xs : List V} {g : TG} {tb : TS} {D : Ends} {σ : L2.St} {H : Hp} (Pv : Nat → L2.St → Hp → Prop) (h0 : Pv 0 σ H) (hl : ∀ i σ H, i ≤ xs.length → Pv i σ H → SqT K H a xs)
    (hs : ∀ i x σ H T G, xs[i]? = some x → Pv i σ H → H T = none → Same H G → G T = some (.tup [.int (i : Nat), x]) → g (.ref T) σ G fun σ2 H2 => tb { D with nx := Pv (i + 1), ct := Pv (i + 1), bk := D.nx } σ2 H2) (hd : ∀ σ H, Pv xs.length σ H → D.nx σ H) :
    ∃ W : Nat → Nat → L2.St → Hp → Prop, (∃ m, W 0 m σ H) ∧ ∀ i m σ H, W i m σ H →
      ((IteT K a).stop i H ∧ D.nx σ H) ∨ ((IteT K a).go i H ∧ ∃ N : L2.St → Hp → Prop, (∀ σ' H', N σ' H' → ∃ m', m' < m ∧ W (i + 1) m' σ' H') ∧ ∀ x H', (IteT K a).yld i H x H' → g x σ H' fun σ2 H2 => tb { D with nx := N, ct := N, bk := D.nx } σ2 H2) := by
  refine ⟨fun i m σ H => m = xs.length - i ∧ i ≤ xs.length ∧ Pv i σ H, ⟨xs.length, by simp, Nat.zero_le _, h0⟩, ?_⟩
  rintro i m σ H ⟨rfl, hi, p⟩
  have q := hl i σ H hi p
  by_cases hlt : i < xs.length
  · refine .inr ⟨⟨xs, xs[i], q, by simp [hlt]⟩, Pv (i + 1), fun σ' H' p' => ⟨xs.length - (i + 1), by omega, rfl, hlt, p'⟩, fun x H' y => ?_⟩
    obtain ⟨T, z, rfl, hT, rfl, e⟩ := y
    exact hs i z σ H T _ (e xs q) p hT (same_new hT) upd_same
  · have ei : i = xs.length := by omega
    subst ei
    exact .inl ⟨⟨xs, q, Nat.le_refl _⟩, hd σ H p⟩
end BW
namespace BW
open PySem PySem.Spec PyProof.Rows L2
/-! ### zip_longest of two tuples -/
namespace ZL
theorem owner : Manifest.owners.lookup (String.ofList ['t', 's', 'e', 'g', 'n', 'o', 'l', '_', 'p', 'i', 'z', '.', 's', 'l', 'o', 'o', 't', 'r', 'e', 't', 'i'].reverse) = some Manifest.sig_itertools_zip_longest := by kernel_rfl
theorem slot_next : Slot "itertools.zip_longest" "__next__" "itertools.zip_longest.__next__" :=
  .of (owner := "itertools.zip_longest") (n := "__next__") (by rw [typeLookup_type, builtinLookup_eq_fast]; kernel_rfl) (by decide +kernel) (by decide +kernel) (by decide +kernel)
    (by first | exact .inl (by decide +kernel) | exact .inr (by decide +kernel)) (by rw [isSubtype_type]; kernel_rfl)
theorem slot_iter : Slot "itertools.zip_longest" "__iter__" "itertools.zip_longest.__iter__" :=
  .of (owner := "itertools.zip_longest") (n := "__iter__") (by rw [typeLookup_type, builtinLookup_eq_fast]; kernel_rfl) (by decide +kernel) (by decide +kernel) (by decide +kernel)
    (by first | exact .inl (by decide +kernel) | exact .inr (by decide +kernel)) (by rw [isSubtype_type]; kernel_rfl)
theorem slot_init : Slot "itertools.zip_longest" "__init__" "object.__init__" :=
  .of (owner := "object") (n := "__init__") (by rw [typeLookup_type, builtinLookup_eq_fast]; kernel_rfl) (by decide +kernel) (by decide +kernel) (by decide +kernel)
    (by first | exact .inl (by decide +kernel) | exact .inr (by decide +kernel)) (by rw [isSubtype_type]; kernel_rfl)
theorem entry_next : entryFor table "itertools.zip_longest.__next__" = some Builtin.«itertools.zip_longest.__next__» := entryFor_of_tree (by kernel_rfl)
theorem entry_new : entryFor table "itertools.zip_longest.__new__" = some Builtin.«itertools.zip_longest.__new__» := entryFor_of_tree (by kernel_rfl)
theorem entry_iter : entryFor table "itertools.zip_longest.__iter__" = some Builtin.«dict_keyiterator.__iter__» :=
  entryFor_alias (id' := "dict_keyiterator.__iter__") (by kernel_rfl) (by first | rfl | decide +kernel | (unfold String.splitOn; simp +decide [String.splitOnAux])) (by decide +kernel) (by kernel_rfl)
theorem args_next (a : Value) : argsOk "itertools.zip_longest.__next__" ⟨[a], []⟩ := by
  unfold argsOk; rw [signature?_of (id := "itertools.zip_longest.__next__") (n := ['_', '_', 't', 'x', 'e', 'n', '_', '_']) (o := ['t', 's', 'e', 'g', 'n', 'o', 'l', '_', 'p', 'i', 'z', '.', 's', 'l', 'o', 'o', 't', 'r', 'e', 't', 'i']) (by kernel_rfl) owner]; kernel_rfl
theorem args_iter (a : Value) : argsOk "itertools.zip_longest.__iter__" ⟨[a], []⟩ := by
  unfold argsOk; rw [signature?_of (id := "itertools.zip_longest.__iter__") (n := ['_', '_', 'r', 'e', 't', 'i', '_', '_']) (o := ['t', 's', 'e', 'g', 'n', 'o', 'l', '_', 'p', 'i', 'z', '.', 's', 'l', 'o', 'o', 't', 'r', 'e', 't', 'i']) (by kernel_rfl) owner]; kernel_rfl
theorem mro : mroOf (.type "itertools.zip_longest") = pure [.type "itertools.zip_longest", .type "object"] := by rw [mroOf_type]; kernel_rfl
theorem lookup_new : typeLookup (.type "itertools.zip_longest") "__new__" = pure (some (.builtin "itertools.zip_longest.__new__")) := by rw [typeLookup_type, builtinLookup_eq_fast]; kernel_rfl
theorem called : TypeCalled "itertools.zip_longest" "itertools.zip_longest.__new__" "object.__init__" :=
  ⟨by decide +kernel, by decide +kernel, ⟨_, _, mro⟩, madeBy_type mro lookup_new (by decide +kernel), by decide +kernel, by rw [isSubtype_type]; kernel_rfl, slot_init⟩
theorem typeCall (a b c : Value) : checkTypeCall "itertools.zip_longest" ⟨[a, b], [(Str.ofString "fillvalue", c)]⟩ = pure () := by kernel_rfl
theorem newCall (a b c : Value) : checkBuiltinCall "itertools.zip_longest.__new__" ⟨[.type "itertools.zip_longest", a, b], [(Str.ofString "fillvalue", c)]⟩ = pure () := by kernel_rfl
theorem args_init (o a b c : Value) : argsOk "object.__init__" ⟨[o, a, b], [(Str.ofString "fillvalue", c)]⟩ := by unfold argsOk; kernel_rfl
theorem sub : isSubtype (.type "itertools.zip_longest") (.type "itertools.zip_longest") = pure true := by rw [isSubtype_type]; kernel_rfl
abbrev Is (h : Heap) (z TI TO : Addr) (f0 fill : Value) (run : Int) : Prop :=
  h.get? z = some { cls := .type "itertools.zip_longest", dict := none, data := .fields #[f0, .bool false, fill, rawInt run, .ref TI, .ref TO], slots := #[] }
section
variable {prog : Program} {w : World} {A : Around} {E : Value → Shared → Prop} {s : Shared}
theorem pool {a : Addr} {x y : Value} {Q : Array Value → Shared → Prop} (h : IsPair s.heap a x y) (q : Q #[x, y] s) : wpAny (model prog w) A (Builtin.Itertools.itPoolItems (.ref a)) Q E s := by
  unfold Builtin.Itertools.itPoolItems
  exact wpAny_bind (wpAny_seqItems h rfl (wpAny_pure q))
theorem intf {z TI TO : Addr} {f0 fill : Value} {run : Int} {Q : Int → Shared → Prop} (h : Is s.heap z TI TO f0 fill run) (q : Q run s) : wpAny (model prog w) A (Builtin.Itertools.itIntField (.ref z) 3) Q E s := by
  unfold Builtin.Itertools.itIntField
  exact wpAny_bind (wpAny_field h rfl (x := rawInt run) rfl (wpAny_pure q))
/-- what is left of a tuple's iterator at its end -/
theorem tuple_end {it t : Addr} {i : Nat} {items : Array Value} {Q : Option Value → Shared → Prop} (hh : A.handled = none)
    (hit : s.heap.IsTupleIter it t i) (ht : s.heap.IsTuple t items) (hx : items[i]? = none)
    (hQ : ∀ h', Heap.ExtBut it s.heap h' → (∃ o, h'.get? it = some o ∧ ∀ c, o.data ≠ .cell c) → s.heap.objs.size ≤ h'.objs.size → Q none { s with heap := h' }) : wpAny (model prog w) A (pyNext (.ref it)) Q E s := by
  obtain ⟨o, ho, hc, hd⟩ := id hit
  obtain ⟨ol, hol, _, nl, hdl⟩ := ht
  unfold pyNext
  refine wpAny_bind (wpAny_attempt (wpAny_callSpecial?_slot (name := Str.ofString "__next__") hit.typeIs F.slot_tuple_iterator_next
    (wpAny_call_entry F.slot_tuple_iterator_next hit.typeIs F.entry_tuple_iterator_next ?_ (F.args_tuple_iterator_next_1 _))))
  show wpAny _ _ (field (.ref it) 0 >>= _) _ _ s
  refine wpAny_bind (wpAny_field ho hd (x := .ref t) rfl ?_)
  show wpAny _ _ (if (Value.ref t == Value.none) = true then _ else _) _ _ s
  rw [if_neg (show ¬ ((Value.ref t == Value.none) = true) from Bool.false_ne_true)]
  show wpAny _ _ (field (.ref it) 1 >>= _) _ _ s
  refine wpAny_bind (wpAny_field ho hd (x := .int i 0) rfl ?_)
  show wpAny _ _ (seqItems? (.ref t) >>= _) _ _ s
  refine wpAny_bind (wpAny_seqItems hol hdl ?_)
  simp only [Int.toNat_natCast, hx]
  refine wpAny_bind (wpAny_rule (wpAny_bind (wpAny_setField ho hd (by simp) ?_)))
  show wpAny _ _ (newExc (.type "StopIteration") [] >>= _) _ _ _
  refine wpAny_bind ?_
  simp only [newExc, newTuple]
  refine wpAny_bind (wpAny_newObj_type ?_ (by size_fits))
  refine wpAny_bind (m := firstArgMember _ _) (wpAny_of_eq (a := Value.none) (by first | rfl | (simp only [firstArgMember]; rfl)) ?_)
  refine wpAny_newObj_type ?_ (by size_fits)
  simp only [raiseNew]
  refine wpAny_bind (wpAny_handled ?_)
  first | rw [show A.in1.handled = none from hh] | rw [hh]
  refine wpAny_bind (wpAny_pure (wpAny_throw ?_))
  refine wpAny_bind (wpAny_isInstance (T := "StopIteration") (b := true) ⟨_, Heap.get?_push_size _ rfl, rfl⟩ isSubtype_stop ?_)
  refine wpAny_pure (hQ _ (((Heap.SameBut.update ..).extBut.push _).push _) ⟨_, Heap.get?_push_of_some _ (Heap.get?_push_of_some _ (Heap.get?_update_self _ ho (Obj.isFreed_of_fields (Obj.data_mapFields hd _)))), fun c q => ?_⟩ ?_)
  · rw [Obj.data_mapFields hd] at q
    cases q
  · rw [Heap.size_push, Heap.size_push, (Heap.SameBut.update _ it _).1]
    omega
end
/-- a column: its iterator, or nothing behind its end -/
def Col (h : Heap) (it t : Addr) (n i : Nat) (v : Value) : Prop := (i ≤ n ∧ v = .ref it ∧ h.IsTupleIter it t i) ∨ (n < i ∧ v = .none ∧ ∃ o, h.get? it = some o ∧ ∀ c, o.data ≠ .cell c)
theorem Col.to {h h' : Heap} {it t : Addr} {n i : Nat} {v : Value} (c : Col h it t n i v) (e : ∀ o, h.get? it = some o → h'.get? it = some o) : Col h' it t n i v := by
  rcases c with ⟨a, b, d⟩ | ⟨a, b, o, d, f⟩
  · exact .inl ⟨a, b, d.at e⟩
  · exact .inr ⟨a, b, o, e o d, f⟩
theorem Col.ob {h : Heap} {it t : Addr} {n i : Nat} {v : Value} (c : Col h it t n i v) : ∃ o, h.get? it = some o ∧ ∀ c, o.data ≠ .cell c := by
  rcases c with ⟨_, _, o, d, _, f⟩ | ⟨_, _, o, d, f⟩
  · exact ⟨o, d, fun c q => by rw [f] at q; cases q⟩
  · exact ⟨o, d, f⟩
def live (n i : Nat) : Int := if i ≤ n then 1 else 0
structure Apart (z TI TO i1 i2 a b : Addr) : Prop where
  TIz : TI ≠ z
  TOz : TO ≠ z
  i1z : i1 ≠ z
  i2z : i2 ≠ z
  TITO : TI ≠ TO
  TIi1 : TI ≠ i1
  TIi2 : TI ≠ i2
  TOi1 : TO ≠ i1
  TOi2 : TO ≠ i2
  i12 : i1 ≠ i2
  az : a ≠ z
  aTI : a ≠ TI
  aTO : a ≠ TO
  ai1 : a ≠ i1
  ai2 : a ≠ i2
  bz : b ≠ z
  bTI : b ≠ TI
  bTO : b ≠ TO
  bi1 : b ≠ i1
  bi2 : b ≠ i2
end ZL
end BW
namespace BW
open PySem PySem.Spec PyProof.Rows L2
namespace ZL
section
variable {prog : Program} {w : World} {A : Around} {E : Value → Shared → Prop} {s : Shared} {z TI TO i1 i2 a b : Addr} {n1 n2 i : Nat} {xs ys : Array Value} {fill v1 v2 x0 y0 : Value}
theorem live_step {n i : Nat} (h : i < n) : live n (i + 1) = live n i := by
  unfold live
  rw [if_pos (by omega), if_pos (by omega)]
theorem live_end {n i : Nat} (h : i = n) : live n (i + 1) = live n i - 1 := by
  unfold live
  rw [if_neg (by omega), if_pos (by omega)]
  rfl
theorem live_dead {n i : Nat} (h : n < i) : live n (i + 1) = live n i := by
  unfold live
  rw [if_neg (by omega), if_neg (by omega)]
theorem next_item {Q : Value → Shared → Prop} (hh : A.handled = none) (D : Apart z TI TO i1 i2 a b) (h1 : xs.size = n1) (h2 : ys.size = n2)
    (hz : Is s.heap z TI TO .none fill (live n1 i + live n2 i)) (hTI : IsPair s.heap TI v1 v2) (hTO : IsPair s.heap TO x0 y0) (c1 : Col s.heap i1 a n1 i v1) (c2 : Col s.heap i2 b n2 i v2)
    (ha : s.heap.IsTuple a xs) (hb : s.heap.IsTuple b ys) (hlt : i < n1 ∨ i < n2)
    (hQ : ∀ h' T u1 u2, s.heap.objs.size ≤ T → Is h' z TI TO (rawInt T) fill (live n1 (i + 1) + live n2 (i + 1)) → IsPair h' TI u1 u2 → IsPair h' TO (xs.getD i fill) (ys.getD i fill) → Col h' i1 a n1 (i + 1) u1 → Col h' i2 b n2 (i + 1) u2 →
      IsPair h' T (xs.getD i fill) (ys.getD i fill) → (∀ c o, c ≠ z → c ≠ TI → c ≠ TO → c ≠ i1 → c ≠ i2 → s.heap.get? c = some o → h'.get? c = some o) → Q (.ref T) { s with heap := h' }) :
    wpAny (model prog w) A (Builtin.«itertools.zip_longest.__next__» ⟨[.ref z], []⟩) (fun fin s' => ∃ v, fin = .done (.ret v) ∧ Q v s') E s := by
  have r0 : ((live n1 i + live n2 i : Int) == 0) = false := by
    unfold live
    rcases hlt with h | h
    · rw [if_pos (by omega)]
      split <;> rfl
    · rw [if_pos (show i ≤ n2 by omega)]
      split <;> rfl
  show wpAny _ _ (Builtin.Itertools.itIntField (.ref z) 3 >>= _) _ _ _
  refine wpAny_bind (intf hz ?_)
  show wpAny _ _ (if ((live n1 i + live n2 i : Int) == 0) = true then _ else _) _ _ _
  rw [r0]
  show wpAny _ _ (field (.ref z) 4 >>= _) _ _ _
  refine wpAny_bind (wpAny_field hz rfl (x := .ref TI) rfl ?_)
  show wpAny _ _ (Builtin.Itertools.itPoolItems (.ref TI) >>= _) _ _ _
  refine wpAny_bind (pool hTI ?_)
  show wpAny _ _ (Builtin.Itertools.itOwnedIsFree (.ref z) >>= _) _ _ _
  refine wpAny_bind ?_
  unfold Builtin.Itertools.itOwnedIsFree
  refine wpAny_bind (wpAny_field hz rfl (x := .none) rfl (wpAny_pure ?_))
  simp only [if_true]
  refine wpAny_bind (wpAny_rule ?_)
  refine wpAny_bind (wpAny_field hz rfl (x := .ref TO) rfl ?_)
  refine wpAny_bind (wpAny_setField_rec hz (by simp) fun g0 hz0 hs0 => ?_)
  replace hz0 : Is g0 z TI TO .ellipsis fill (live n1 i + live n2 i) := hz0
  refine wpAny_bind ?_
  rw [show List.range (#[v1, v2] : Array Value).size = [0, 1] from rfl]
  simp only [List.forIn_cons, List.forIn_nil]
  have hTI0 : IsPair g0 TI v1 v2 := hs0.extBut _ _ D.TIz hTI
  have hTO0 : IsPair g0 TO x0 y0 := hs0.extBut _ _ D.TOz hTO
  have c10 : Col g0 i1 a n1 i v1 := c1.to fun o e => hs0.extBut _ _ D.i1z e
  have c20 : Col g0 i2 b n2 i v2 := c2.to fun o e => hs0.extBut _ _ D.i2z e
  have ha0 : g0.IsTuple a xs := ha.extBut hs0.extBut D.az
  have hb0 : g0.IsTuple b ys := hb.extBut hs0.extBut D.bz
  refine wpAny_bind (wpAny_bind (wpAny_onRaise ?_))
  refine wpAny_mono (Q := fun r s' => ∃ g1 u1, r = some (xs.getD i fill) ∧ s' = { s with heap := g1 } ∧ Is g1 z TI TO .ellipsis fill (live n1 (i + 1) + live n2 i) ∧ IsPair g1 TI u1 v2 ∧ Col g1 i1 a n1 (i + 1) u1 ∧
      s.heap.objs.size ≤ g1.objs.size ∧ ∀ c o, c ≠ z → c ≠ TI → c ≠ i1 → g0.get? c = some o → g1.get? c = some o) ?_ (fun r s' hr => ?_) (fun _ _ x => x)
  · show wpAny _ _ (field (.ref z) 4 >>= _) _ _ _
    refine wpAny_bind (wpAny_field hz0 rfl (x := .ref TI) rfl ?_)
    show wpAny _ _ (Builtin.Itertools.itPoolItems (.ref TI) >>= _) _ _ _
    refine wpAny_bind (pool hTI0 ?_)
    refine wpAny_bind (wpAny_field hz0 rfl (x := fill) rfl ?_)
    show wpAny _ _ (if (v1 == Value.none) = true then _ else _) _ _ _
    rcases c10 with ⟨hi, rfl, hit⟩ | ⟨hi, rfl, ob⟩
    · rw [if_neg (show ¬ ((Value.ref i1 == Value.none) = true) from Bool.false_ne_true)]
      by_cases hlt1 : i < n1
      · refine wpAny_bind (wpAny_onRaise (wpAny_pyNext_tuple_item hit ha0 (x := xs[i]'(by omega)) (by first | (simp; done) | (simp; omega)) fun g1 hit1 hs1 => wpAny_pure ?_))
        refine ⟨g1, .ref i1, by rw [Array.getD_eq_getD_getElem?, Array.getElem?_eq_getElem (by omega)]; rfl, rfl, ?_, hs1.extBut _ _ D.TIi1 hTI0, .inl ⟨by omega, rfl, hit1⟩, by rw [hs1.1, hs0.1]; exact Nat.le_refl _, fun c o _ _ c3 e => hs1.extBut _ _ c3 e⟩
        rw [live_step hlt1]
        exact hs1.extBut _ _ D.i1z.symm hz0
      · have ei : i = n1 := by omega
        refine wpAny_bind (wpAny_onRaise (tuple_end hh hit ha0 (by first | (simp; done) | (simp; omega)) fun g1 hs1 ob sz1 => ?_))
        have hz1 : Is g1 z TI TO .ellipsis fill (live n1 i + live n2 i) := hs1 _ _ D.i1z.symm hz0
        have hTI1 : IsPair g1 TI (.ref i1) v2 := hs1 _ _ D.TIi1 hTI0
        show wpAny _ _ (Builtin.Itertools.itPoolItems (.ref TI) >>= _) _ _ _
        refine wpAny_bind (pool hTI1 ?_)
        show wpAny _ _ (if (Value.ref i1 == Value.none) = true then _ else _) _ _ _
        rw [if_neg (show ¬ ((Value.ref i1 == Value.none) = true) from Bool.false_ne_true)]
        show wpAny _ _ (Builtin.Itertools.itIntField (.ref z) 3 >>= _) _ _ _
        refine wpAny_bind (intf hz1 ?_)
        refine wpAny_bind (wpAny_setField_rec hz1 (by simp) fun g2 hz2 hs2 => ?_)
        show wpAny _ _ (if ((live n1 i + live n2 i : Int) == 1) = true then _ else _) _ _ _
        rw [if_neg (show ¬ (((live n1 i + live n2 i : Int) == 1) = true) by unfold live; rw [if_pos hi, if_pos (show i ≤ n2 by omega)]; decide)]
        refine wpAny_bind (wpAny_rule ?_)
        have hTI2 : IsPair g2 TI (.ref i1) v2 := hs2.extBut _ _ D.TIz hTI1
        refine wpAny_bind (wpAny_updateSeq_pair hTI2 fun g3 hTI3 hs3 => ?_)
        refine wpAny_bind (wpAny_letGo (wpAny_pure ?_))
        obtain ⟨o, ho, hoc⟩ := ob
        refine ⟨g3, .none, ?_, rfl, ?_, hTI3, .inr ⟨by omega, rfl, o, hs3.extBut _ _ D.TIi1.symm (hs2.extBut _ _ D.i1z ho), hoc⟩, ?_, fun c o c1 c2 c3 e => hs3.extBut _ _ c2 (hs2.extBut _ _ c1 (hs1 _ _ c3 e))⟩
        · rw [Array.getD_eq_getD_getElem?, Array.getElem?_eq_none (by omega)]
          rfl
        · rw [live_end ei, show live n1 i - 1 + live n2 i = live n1 i + live n2 i - 1 by omega]
          exact hs3.extBut _ _ D.TIz.symm hz2
        · rw [hs3.1, hs2.1, ← hs0.1]
          exact sz1
    · rw [if_pos (by rfl)]
      refine wpAny_pure ⟨g0, .none, ?_, rfl, ?_, hTI0, .inr ⟨by omega, rfl, ob⟩, by rw [hs0.1]; exact Nat.le_refl _, fun c o _ _ _ e => e⟩
      · rw [Array.getD_eq_getD_getElem?, Array.getElem?_eq_none (by omega)]
        rfl
      · rw [live_dead hi]
        exact hz0
  · obtain ⟨g1, u1, rfl, rfl, hz1, hTI1, c11, sz1, fr1⟩ := hr
    have hTO1 : IsPair g1 TO x0 y0 := fr1 _ _ D.TOz D.TITO.symm D.TOi1 hTO0
    show wpAny _ _ (Builtin.Itertools.itPoolItems (.ref TO) >>= _) _ _ _
    refine wpAny_bind (pool hTO1 ?_)
    refine wpAny_bind (wpAny_updateSeq_pair hTO1 fun g2 hTO2 hs2 => ?_)
    replace hTO2 : IsPair g2 TO (xs.getD i fill) y0 := hTO2
    refine wpAny_bind (wpAny_letGo (wpAny_pure ?_))
    have hz2 : Is g2 z TI TO .ellipsis fill (live n1 (i + 1) + live n2 i) := hs2.extBut _ _ D.TOz.symm hz1
    have hTI2 : IsPair g2 TI u1 v2 := hs2.extBut _ _ D.TITO hTI1
    have c12 : Col g2 i1 a n1 (i + 1) u1 := c11.to fun o e => hs2.extBut _ _ D.TOi1.symm e
    have c22 : Col g2 i2 b n2 i v2 := c20.to fun o e => hs2.extBut _ _ D.TOi2.symm (fr1 _ _ D.i2z D.TIi2.symm D.i12.symm e)
    have hb2 : g2.IsTuple b ys := hb0.at fun o e => hs2.extBut _ _ D.bTO (fr1 _ _ D.bz D.bTI D.bi1 e)
    refine wpAny_bind (wpAny_bind (wpAny_onRaise ?_))
    refine wpAny_mono (Q := fun r s' => ∃ g3 u2, r = some (ys.getD i fill) ∧ s' = { s with heap := g3 } ∧ Is g3 z TI TO .ellipsis fill (live n1 (i + 1) + live n2 (i + 1)) ∧ IsPair g3 TI u1 u2 ∧ Col g3 i2 b n2 (i + 1) u2 ∧
      s.heap.objs.size ≤ g3.objs.size ∧ ∀ c o, c ≠ z → c ≠ TI → c ≠ i2 → g2.get? c = some o → g3.get? c = some o) ?_ (fun r s' hr => ?_) (fun _ _ x => x)
    · show wpAny _ _ (field (.ref z) 4 >>= _) _ _ _
      refine wpAny_bind (wpAny_field hz2 rfl (x := .ref TI) rfl ?_)
      show wpAny _ _ (Builtin.Itertools.itPoolItems (.ref TI) >>= _) _ _ _
      refine wpAny_bind (pool hTI2 ?_)
      refine wpAny_bind (wpAny_field hz2 rfl (x := fill) rfl ?_)
      show wpAny _ _ (if (v2 == Value.none) = true then _ else _) _ _ _
      have sz2 : s.heap.objs.size ≤ g2.objs.size := by rw [hs2.1]; exact sz1
      rcases c22 with ⟨hi, rfl, hit⟩ | ⟨hi, rfl, ob⟩
      · rw [if_neg (show ¬ ((Value.ref i2 == Value.none) = true) from Bool.false_ne_true)]
        by_cases hlt2 : i < n2
        · refine wpAny_bind (wpAny_onRaise (wpAny_pyNext_tuple_item hit hb2 (x := ys[i]'(by omega)) (by first | (simp; done) | (simp; omega)) fun g3 hit3 hs3 => wpAny_pure ?_))
          refine ⟨g3, .ref i2, by rw [Array.getD_eq_getD_getElem?, Array.getElem?_eq_getElem (by omega)]; rfl, rfl, ?_, hs3.extBut _ _ D.TIi2 hTI2, .inl ⟨by omega, rfl, hit3⟩, by rw [hs3.1]; exact sz2, fun c o _ _ c3 e => hs3.extBut _ _ c3 e⟩
          rw [live_step hlt2]
          exact hs3.extBut _ _ D.i2z.symm hz2
        · have ei : i = n2 := by omega
          have hi1 : i < n1 := by omega
          refine wpAny_bind (wpAny_onRaise (tuple_end hh hit hb2 (by first | (simp; done) | (simp; omega)) fun g3 hs3 ob sz3 => ?_))
          have hz3 : Is g3 z TI TO .ellipsis fill (live n1 (i + 1) + live n2 i) := hs3 _ _ D.i2z.symm hz2
          have hTI3 : IsPair g3 TI u1 (.ref i2) := hs3 _ _ D.TIi2 hTI2
          show wpAny _ _ (Builtin.Itertools.itPoolItems (.ref TI) >>= _) _ _ _
          refine wpAny_bind (pool hTI3 ?_)
          show wpAny _ _ (if (Value.ref i2 == Value.none) = true then _ else _) _ _ _
          rw [if_neg (show ¬ ((Value.ref i2 == Value.none) = true) from Bool.false_ne_true)]
          show wpAny _ _ (Builtin.Itertools.itIntField (.ref z) 3 >>= _) _ _ _
          refine wpAny_bind (intf hz3 ?_)
          refine wpAny_bind (wpAny_setField_rec hz3 (by simp) fun g4 hz4 hs4 => ?_)
          show wpAny _ _ (if ((live n1 (i + 1) + live n2 i : Int) == 1) = true then _ else _) _ _ _
          rw [if_neg (show ¬ (((live n1 (i + 1) + live n2 i : Int) == 1) = true) by unfold live; rw [if_pos hi, if_pos (show i + 1 ≤ n1 by omega)]; decide)]
          refine wpAny_bind (wpAny_rule ?_)
          have hTI4 : IsPair g4 TI u1 (.ref i2) := hs4.extBut _ _ D.TIz hTI3
          refine wpAny_bind (wpAny_updateSeq_pair hTI4 fun g5 hTI5 hs5 => ?_)
          refine wpAny_bind (wpAny_letGo (wpAny_pure ?_))
          obtain ⟨o, ho, hoc⟩ := ob
          refine ⟨g5, .none, ?_, rfl, ?_, hTI5, .inr ⟨by omega, rfl, o, hs5.extBut _ _ D.TIi2.symm (hs4.extBut _ _ D.i2z ho), hoc⟩, ?_, fun c o c1 c2 c3 e => hs5.extBut _ _ c2 (hs4.extBut _ _ c1 (hs3 _ _ c3 e))⟩
          · rw [Array.getD_eq_getD_getElem?, Array.getElem?_eq_none (by omega)]
            rfl
          · rw [live_end ei, show live n1 (i + 1) + (live n2 i - 1) = live n1 (i + 1) + live n2 i - 1 by omega]
            exact hs5.extBut _ _ D.TIz.symm hz4
          · rw [hs5.1, hs4.1]
            exact Nat.le_trans sz2 sz3
      · rw [if_pos (by rfl)]
        refine wpAny_pure ⟨g2, .none, ?_, rfl, ?_, hTI2, .inr ⟨by omega, rfl, ob⟩, sz2, fun c o _ _ _ e => e⟩
        · rw [Array.getD_eq_getD_getElem?, Array.getElem?_eq_none (by omega)]
          rfl
        · rw [live_dead hi]
          exact hz2
    · obtain ⟨g3, u2, rfl, rfl, hz3, hTI3, c23, sz3, fr3⟩ := hr
      have hTO3 : IsPair g3 TO (xs.getD i fill) y0 := fr3 _ _ D.TOz D.TITO.symm D.TOi2 hTO2
      show wpAny _ _ (Builtin.Itertools.itPoolItems (.ref TO) >>= _) _ _ _
      refine wpAny_bind (pool hTO3 ?_)
      refine wpAny_bind (wpAny_updateSeq_pair hTO3 fun g4 hTO4 hs4 => ?_)
      replace hTO4 : IsPair g4 TO (xs.getD i fill) (ys.getD i fill) := hTO4
      refine wpAny_bind (wpAny_letGo (wpAny_pure (wpAny_pure ?_)))
      show wpAny _ _ (Builtin.Itertools.itPoolItems (.ref TO) >>= _) _ _ _
      refine wpAny_bind (pool hTO4 ?_)
      refine wpAny_bind (wpAny_newTuple ?_)
      have hz4 : Is g4 z TI TO .ellipsis fill (live n1 (i + 1) + live n2 (i + 1)) := hs4.extBut _ _ D.TOz.symm hz3
      have hTI4 : IsPair g4 TI u1 u2 := hs4.extBut _ _ D.TITO hTI3
      have c14 : Col g4 i1 a n1 (i + 1) u1 := c12.to fun o e => hs4.extBut _ _ D.TOi1.symm (fr3 _ _ D.i1z D.TIi1.symm D.i12 e)
      have c24 : Col g4 i2 b n2 (i + 1) u2 := c23.to fun o e => hs4.extBut _ _ D.TOi2.symm e
      have fr : ∀ c o, c ≠ z → c ≠ TI → c ≠ TO → c ≠ i1 → c ≠ i2 → s.heap.get? c = some o → g4.get? c = some o := fun c o q1 q2 q3 q4 q5 e =>
        hs4.extBut _ _ q3 (fr3 _ _ q1 q2 q5 (hs2.extBut _ _ q3 (fr1 _ _ q1 q2 q4 (hs0.extBut _ _ q1 e))))
      have sz4 : s.heap.objs.size ≤ g4.objs.size := by rw [hs4.1]; exact sz3
      have zlt : z < g4.objs.size := Heap.lt_size hz4
      show wpAny _ _ (Builtin.Itertools.itOwnedHandOut (.ref z) (.ref g4.objs.size) >>= _) _ _ _
      refine wpAny_bind ?_
      unfold Builtin.Itertools.itOwnedHandOut
      have hz5 : Is (g4.push { cls := .type "tuple", data := .seq #[xs.getD i fill, ys.getD i fill] }) z TI TO .ellipsis fill (live n1 (i + 1) + live n2 (i + 1)) := Heap.get?_push_of_some _ hz4
      refine wpAny_bind (wpAny_setField_rec hz5 (by simp) fun g6 hz6 hs6 => ?_)
      replace hz6 : Is g6 z TI TO (rawInt g4.objs.size) fill (live n1 (i + 1) + live n2 (i + 1)) := hz6
      refine wpAny_setField_rec hz6 (by simp) fun g7 hz7 hs7 => ?_
      replace hz7 : Is g7 z TI TO (rawInt g4.objs.size) fill (live n1 (i + 1) + live n2 (i + 1)) := hz7
      have up : ∀ c o, c ≠ z → g4.get? c = some o → g7.get? c = some o := fun c o q e => hs7.extBut _ _ q (hs6.extBut _ _ q (Heap.get?_push_of_some _ e))
      have hT : IsPair g7 g4.objs.size (xs.getD i fill) (ys.getD i fill) := hs7.extBut _ _ (Nat.ne_of_gt zlt) (hs6.extBut _ _ (Nat.ne_of_gt zlt) (Heap.get?_push_size _ rfl))
      refine wpAny_pure ⟨_, rfl, ?_⟩
      exact hQ g7 g4.objs.size u1 u2 sz4 hz7 (up _ _ D.TIz hTI4) (up _ _ D.TOz hTO4) (c14.to fun o e => up _ _ D.i1z e) (c24.to fun o e => up _ _ D.i2z e) hT fun c o q1 q2 q3 q4 q5 e => up _ _ q1 (fr c o q1 q2 q3 q4 q5 e)
theorem stops {α : Type} {Q : α → Shared → Prop} (hh : A.handled = none)
    (hE : ∀ h' e, (∀ c o, s.heap.get? c = some o → h'.get? c = some o) → (∃ o, h'.get? e = some o ∧ o.cls = .type "StopIteration") → E (.ref e) { s with heap := h' }) :
    wpAny (model prog w) A (Builtin.Itertools.itStop : Sem α) Q E s := by
  unfold Builtin.Itertools.itStop
  refine wpAny_bind ?_
  simp only [newExc, newTuple]
  refine wpAny_bind (wpAny_newObj_type ?_ (by size_fits))
  refine wpAny_bind (m := firstArgMember _ _) (wpAny_of_eq (a := Value.none) (by first | rfl | (simp only [firstArgMember]; rfl)) ?_)
  refine wpAny_newObj_type ?_ (by size_fits)
  simp only [raiseNew]
  refine wpAny_bind (wpAny_handled ?_)
  rw [hh]
  refine wpAny_bind (wpAny_pure (wpAny_throw ?_))
  exact hE _ _ (fun c o e => Heap.get?_push_of_some _ (Heap.get?_push_of_some _ e)) ⟨_, Heap.get?_push_size _ rfl, rfl⟩
theorem next_end {Q : Fin → Shared → Prop} (hh : A.handled = none) (D : Apart z TI TO i1 i2 a b) (h1 : xs.size = n1) (h2 : ys.size = n2)
    (hz : Is s.heap z TI TO .none fill (live n1 i + live n2 i)) (hTI : IsPair s.heap TI v1 v2) (hTO : IsPair s.heap TO x0 y0) (c1 : Col s.heap i1 a n1 i v1) (c2 : Col s.heap i2 b n2 i v2)
    (ha : s.heap.IsTuple a xs) (hb : s.heap.IsTuple b ys) (hend : i = max n1 n2)
    (hE : ∀ h' e, (∀ c o, c ≠ z → c ≠ TI → c ≠ TO → c ≠ i1 → c ≠ i2 → s.heap.get? c = some o → h'.get? c = some o) → (∃ o, h'.get? e = some o ∧ o.cls = .type "StopIteration") → E (.ref e) { s with heap := h' }) :
    wpAny (model prog w) A (Builtin.«itertools.zip_longest.__next__» ⟨[.ref z], []⟩) Q E s := by
  have hmax : n1 ≤ i ∧ n2 ≤ i ∧ (i = n1 ∨ i = n2) := by omega
  obtain ⟨l1, l2, l3⟩ := hmax
  have r0 : ((live n1 i + live n2 i : Int) == 0) = false := by
    unfold live
    rcases l3 with h | h
    · rw [if_pos (by omega)]
      split <;> rfl
    · rw [if_pos (show i ≤ n2 by omega)]
      split <;> rfl
  show wpAny _ _ (Builtin.Itertools.itIntField (.ref z) 3 >>= _) _ _ _
  refine wpAny_bind (intf hz ?_)
  show wpAny _ _ (if ((live n1 i + live n2 i : Int) == 0) = true then _ else _) _ _ _
  rw [r0]
  show wpAny _ _ (field (.ref z) 4 >>= _) _ _ _
  refine wpAny_bind (wpAny_field hz rfl (x := .ref TI) rfl ?_)
  show wpAny _ _ (Builtin.Itertools.itPoolItems (.ref TI) >>= _) _ _ _
  refine wpAny_bind (pool hTI ?_)
  show wpAny _ _ (Builtin.Itertools.itOwnedIsFree (.ref z) >>= _) _ _ _
  refine wpAny_bind ?_
  unfold Builtin.Itertools.itOwnedIsFree
  refine wpAny_bind (wpAny_field hz rfl (x := .none) rfl (wpAny_pure ?_))
  simp only [if_true]
  refine wpAny_bind (wpAny_rule ?_)
  refine wpAny_bind (wpAny_field hz rfl (x := .ref TO) rfl ?_)
  refine wpAny_bind (wpAny_setField_rec hz (by simp) fun g0 hz0 hs0 => ?_)
  replace hz0 : Is g0 z TI TO .ellipsis fill (live n1 i + live n2 i) := hz0
  refine wpAny_bind ?_
  rw [show List.range (#[v1, v2] : Array Value).size = [0, 1] from rfl]
  simp only [List.forIn_cons, List.forIn_nil]
  have hTI0 : IsPair g0 TI v1 v2 := hs0.extBut _ _ D.TIz hTI
  have hTO0 : IsPair g0 TO x0 y0 := hs0.extBut _ _ D.TOz hTO
  have c10 : Col g0 i1 a n1 i v1 := c1.to fun o e => hs0.extBut _ _ D.i1z e
  have c20 : Col g0 i2 b n2 i v2 := c2.to fun o e => hs0.extBut _ _ D.i2z e
  have ha0 : g0.IsTuple a xs := ha.extBut hs0.extBut D.az
  have hb0 : g0.IsTuple b ys := hb.extBut hs0.extBut D.bz
  refine wpAny_bind (wpAny_bind (wpAny_onRaise ?_))
  refine wpAny_mono (Q := fun r s' => ∃ g1 f1 u1, s' = { s with heap := g1 } ∧ Is g1 z TI TO .ellipsis fill f1 ∧ IsPair g1 TI u1 v2 ∧ (∀ c o, c ≠ z → c ≠ TI → c ≠ i1 → g0.get? c = some o → g1.get? c = some o) ∧
      (r = none ∨ (r = some fill ∧ i = n2 ∧ f1 = 1))) ?_ (fun r s' hr => ?_) (fun _ _ x => x)
  · show wpAny _ _ (field (.ref z) 4 >>= _) _ _ _
    refine wpAny_bind (wpAny_field hz0 rfl (x := .ref TI) rfl ?_)
    show wpAny _ _ (Builtin.Itertools.itPoolItems (.ref TI) >>= _) _ _ _
    refine wpAny_bind (pool hTI0 ?_)
    refine wpAny_bind (wpAny_field hz0 rfl (x := fill) rfl ?_)
    show wpAny _ _ (if (v1 == Value.none) = true then _ else _) _ _ _
    rcases c10 with ⟨hi, rfl, hit⟩ | ⟨hi, rfl, ob⟩
    · rw [if_neg (show ¬ ((Value.ref i1 == Value.none) = true) from Bool.false_ne_true)]
      have ei : i = n1 := by omega
      refine wpAny_bind (wpAny_onRaise (tuple_end hh hit ha0 (by first | (simp; done) | (simp; omega)) fun g1 hs1 ob sz1 => ?_))
      have hz1 : Is g1 z TI TO .ellipsis fill (live n1 i + live n2 i) := hs1 _ _ D.i1z.symm hz0
      have hTI1 : IsPair g1 TI (.ref i1) v2 := hs1 _ _ D.TIi1 hTI0
      show wpAny _ _ (Builtin.Itertools.itPoolItems (.ref TI) >>= _) _ _ _
      refine wpAny_bind (pool hTI1 ?_)
      show wpAny _ _ (if (Value.ref i1 == Value.none) = true then _ else _) _ _ _
      rw [if_neg (show ¬ ((Value.ref i1 == Value.none) = true) from Bool.false_ne_true)]
      show wpAny _ _ (Builtin.Itertools.itIntField (.ref z) 3 >>= _) _ _ _
      refine wpAny_bind (intf hz1 ?_)
      refine wpAny_bind (wpAny_setField_rec hz1 (by simp) fun g2 hz2 hs2 => ?_)
      replace hz2 : Is g2 z TI TO .ellipsis fill (live n1 i + live n2 i - 1) := hz2
      have hTI2 : IsPair g2 TI (.ref i1) v2 := hs2.extBut _ _ D.TIz hTI1
      show wpAny _ _ (if ((live n1 i + live n2 i : Int) == 1) = true then _ else _) _ _ _
      by_cases hd : n2 < i
      · rw [if_pos (by unfold live; rw [if_pos hi, if_neg (by omega)]; decide)]
        exact wpAny_pure ⟨g2, _, _, rfl, hz2, hTI2, fun c o q1 q2 q3 e => hs2.extBut _ _ q1 (hs1 _ _ q3 e), .inl rfl⟩
      · rw [if_neg (by unfold live; rw [if_pos hi, if_pos (by omega)]; decide)]
        refine wpAny_bind (wpAny_rule ?_)
        refine wpAny_bind (wpAny_updateSeq_pair hTI2 fun g3 hTI3 hs3 => ?_)
        refine wpAny_bind (wpAny_letGo (wpAny_pure ?_))
        refine ⟨g3, _, .none, rfl, hs3.extBut _ _ D.TIz.symm hz2, hTI3, fun c o q1 q2 q3 e => hs3.extBut _ _ q2 (hs2.extBut _ _ q1 (hs1 _ _ q3 e)), .inr ⟨rfl, by omega, ?_⟩⟩
        unfold live
        rw [if_pos hi, if_pos (by omega)]
        rfl
    · rw [if_pos (by rfl)]
      refine wpAny_pure ⟨g0, _, .none, rfl, hz0, hTI0, fun c o _ _ _ e => e, .inr ⟨rfl, by omega, ?_⟩⟩
      unfold live
      rw [if_neg (by omega), if_pos (by omega)]
      rfl
  · obtain ⟨g1, f1, u1, rfl, hz1, hTI1, fr1, hr⟩ := hr
    rcases hr with rfl | ⟨rfl, ei, rfl⟩
    · refine wpAny_bind (wpAny_setField_rec hz1 (by simp) fun g2 hz2 hs2 => ?_)
      first
        | exact stops hh fun h' e k1 k2 => hE h' e (fun c o q1 q2 q3 q4 q5 x => k1 _ _ (hs2.extBut _ _ q1 (fr1 _ _ q1 q2 q4 (hs0.extBut _ _ q1 x)))) k2
        | exact wpAny_bind (stops hh fun h' e k1 k2 => hE h' e (fun c o q1 q2 q3 q4 q5 x => k1 _ _ (hs2.extBut _ _ q1 (fr1 _ _ q1 q2 q4 (hs0.extBut _ _ q1 x)))) k2)
    · have hTO1 : IsPair g1 TO x0 y0 := fr1 _ _ D.TOz D.TITO.symm D.TOi1 hTO0
      show wpAny _ _ (Builtin.Itertools.itPoolItems (.ref TO) >>= _) _ _ _
      refine wpAny_bind (pool hTO1 ?_)
      refine wpAny_bind (wpAny_updateSeq_pair hTO1 fun g2 hTO2 hs2 => ?_)
      replace hTO2 : IsPair g2 TO fill y0 := hTO2
      refine wpAny_bind (wpAny_letGo (wpAny_pure ?_))
      have hz2 : Is g2 z TI TO .ellipsis fill 1 := hs2.extBut _ _ D.TOz.symm hz1
      have hTI2 : IsPair g2 TI u1 v2 := hs2.extBut _ _ D.TITO hTI1
      have c22 : Col g2 i2 b n2 i v2 := c20.to fun o e => hs2.extBut _ _ D.TOi2.symm (fr1 _ _ D.i2z D.TIi2.symm D.i12.symm e)
      have hb2 : g2.IsTuple b ys := hb0.at fun o e => hs2.extBut _ _ D.bTO (fr1 _ _ D.bz D.bTI D.bi1 e)
      refine wpAny_bind (wpAny_bind (wpAny_onRaise ?_))
      refine wpAny_mono (Q := fun r s' => ∃ g3, r = none ∧ s' = { s with heap := g3 } ∧ Is g3 z TI TO .ellipsis fill 0 ∧ ∀ c o, c ≠ z → c ≠ TI → c ≠ i2 → g2.get? c = some o → g3.get? c = some o) ?_ (fun r s' hr => ?_) (fun _ _ x => x)
      · show wpAny _ _ (field (.ref z) 4 >>= _) _ _ _
        refine wpAny_bind (wpAny_field hz2 rfl (x := .ref TI) rfl ?_)
        show wpAny _ _ (Builtin.Itertools.itPoolItems (.ref TI) >>= _) _ _ _
        refine wpAny_bind (pool hTI2 ?_)
        refine wpAny_bind (wpAny_field hz2 rfl (x := fill) rfl ?_)
        show wpAny _ _ (if (v2 == Value.none) = true then _ else _) _ _ _
        rcases c22 with ⟨hi, rfl, hit⟩ | ⟨hi, rfl, ob⟩
        · rw [if_neg (show ¬ ((Value.ref i2 == Value.none) = true) from Bool.false_ne_true)]
          refine wpAny_bind (wpAny_onRaise (tuple_end hh hit hb2 (by first | (simp; done) | (simp; omega)) fun g3 hs3 ob sz3 => ?_))
          have hz3 : Is g3 z TI TO .ellipsis fill 1 := hs3 _ _ D.i2z.symm hz2
          have hTI3 : IsPair g3 TI u1 (.ref i2) := hs3 _ _ D.TIi2 hTI2
          show wpAny _ _ (Builtin.Itertools.itPoolItems (.ref TI) >>= _) _ _ _
          refine wpAny_bind (pool hTI3 ?_)
          show wpAny _ _ (if (Value.ref i2 == Value.none) = true then _ else _) _ _ _
          rw [if_neg (show ¬ ((Value.ref i2 == Value.none) = true) from Bool.false_ne_true)]
          show wpAny _ _ (Builtin.Itertools.itIntField (.ref z) 3 >>= _) _ _ _
          refine wpAny_bind (intf hz3 ?_)
          refine wpAny_bind (wpAny_setField_rec hz3 (by simp) fun g4 hz4 hs4 => ?_)
          show wpAny _ _ (if ((1 : Int) == 1) = true then _ else _) _ _ _
          rw [if_pos (by decide)]
          exact wpAny_pure ⟨g4, rfl, rfl, hz4, fun c o q1 q2 q3 e => hs4.extBut _ _ q1 (hs3 _ _ q3 e)⟩
        · omega
      · obtain ⟨g3, rfl, rfl, hz3, fr3⟩ := hr
        refine wpAny_bind (wpAny_setField_rec hz3 (by simp) fun g4 hz4 hs4 => ?_)
        have fr : ∀ c o, c ≠ z → c ≠ TI → c ≠ TO → c ≠ i1 → c ≠ i2 → s.heap.get? c = some o → g4.get? c = some o := fun c o q1 q2 q3 q4 q5 x =>
          hs4.extBut _ _ q1 (fr3 _ _ q1 q2 q5 (hs2.extBut _ _ q3 (fr1 _ _ q1 q2 q4 (hs0.extBut _ _ q1 x))))
        first
          | exact stops hh fun h' e k1 k2 => hE h' e (fun c o q1 q2 q3 q4 q5 x => k1 _ _ (fr c o q1 q2 q3 q4 q5 x)) k2
          | exact wpAny_bind (stops hh fun h' e k1 k2 => hE h' e (fun c o q1 q2 q3 q4 q5 x => k1 _ _ (fr c o q1 q2 q3 q4 q5 x)) k2)
/-- the cells of a walk at a turn -/
def St (z TI TO i1 i2 a b : Addr) (n1 n2 : Nat) (fill : Value) (i : Nat) (h : Heap) : Prop :=
  ∃ v1 v2 x y, Is h z TI TO .none fill (live n1 i + live n2 i) ∧ IsPair h TI v1 v2 ∧ IsPair h TO x y ∧ Col h i1 a n1 i v1 ∧ Col h i2 b n2 i v2
theorem pyNext_item {Q : Option Value → Shared → Prop} (hh : A.handled = none) (D : Apart z TI TO i1 i2 a b) (st : St z TI TO i1 i2 a b xs.size ys.size fill i s.heap)
    (ha : s.heap.IsTuple a xs) (hb : s.heap.IsTuple b ys) (hlt : i < xs.size ∨ i < ys.size)
    (hQ : ∀ h' T u1 u2 x y, s.heap.objs.size ≤ T → Is h' z TI TO (rawInt T) fill (live xs.size (i + 1) + live ys.size (i + 1)) → IsPair h' TI u1 u2 → IsPair h' TO x y → Col h' i1 a xs.size (i + 1) u1 → Col h' i2 b ys.size (i + 1) u2 →
      IsPair h' T (xs.getD i fill) (ys.getD i fill) → (∀ c o, c ≠ z → c ≠ TI → c ≠ TO → c ≠ i1 → c ≠ i2 → s.heap.get? c = some o → h'.get? c = some o) → Q (some (.ref T)) { s with heap := h' }) :
    wpAny (model prog w) A (pyNext (.ref z)) Q E s := by
  obtain ⟨v1, v2, x0, y0, hz, hTI, hTO, c1, c2⟩ := st
  have hT : s.TypeIs (.ref z) "itertools.zip_longest" := ⟨_, hz, rfl⟩
  unfold pyNext
  exact wpAny_bind (wpAny_attempt (wpAny_callSpecial?_slot (name := Str.ofString "__next__") hT slot_next
    (wpAny_call_entry slot_next hT entry_next (next_item hh D rfl rfl hz hTI hTO c1 c2 ha hb hlt fun h' T u1 u2 a0 a1 a2 a3 a4 a5 a6 a7 => wpAny_pure (hQ h' T u1 u2 _ _ a0 a1 a2 a3 a4 a5 a6 a7)) (args_next _))))
theorem pyNext_end {Q : Option Value → Shared → Prop} (hh : A.handled = none) (D : Apart z TI TO i1 i2 a b) (st : St z TI TO i1 i2 a b xs.size ys.size fill i s.heap)
    (ha : s.heap.IsTuple a xs) (hb : s.heap.IsTuple b ys) (hend : i = max xs.size ys.size)
    (hQ : ∀ h', (∀ c o, c ≠ z → c ≠ TI → c ≠ TO → c ≠ i1 → c ≠ i2 → s.heap.get? c = some o → h'.get? c = some o) → Q none { s with heap := h' }) :
    wpAny (model prog w) A (pyNext (.ref z)) Q E s := by
  obtain ⟨v1, v2, x0, y0, hz, hTI, hTO, c1, c2⟩ := st
  have hT : s.TypeIs (.ref z) "itertools.zip_longest" := ⟨_, hz, rfl⟩
  unfold pyNext
  refine wpAny_bind (wpAny_attempt (wpAny_callSpecial?_slot (name := Str.ofString "__next__") hT slot_next
    (wpAny_call_entry slot_next hT entry_next (next_end hh D rfl rfl hz hTI hTO c1 c2 ha hb hend fun h' e hk he => ?_) (args_next _))))
  obtain ⟨o, ho, hc⟩ := he
  refine wpAny_bind (wpAny_isInstance (T := "StopIteration") (b := true) ⟨o, ho, hc⟩ isSubtype_stop ?_)
  exact wpAny_pure (hQ _ hk)
theorem letGoes {elts : List Expr} {x1} {pos : Pos} {T : Addr} {run : Int} {Q : Unit → Shared → Prop} (hz : Is s.heap z TI TO (rawInt T) fill run)
    (hQ : ∀ h', Is h' z TI TO .none fill run → Heap.SameBut z s.heap h' → Q () { s with heap := h' }) :
    wpAny (model prog w) A (letOwnedTupleGo (.Tuple elts x1 pos) (.ref z) (.ref T)) Q E s := by
  unfold letOwnedTupleGo
  refine wpAny_bind (wpAny_load hz ?_)
  show wpAny _ _ (if (["enumerate", "zip", "dict_itemiterator", "dict_reverseitemiterator", "odict_iterator", "itertools.zip_longest", "itertools.pairwise"].contains "itertools.zip_longest" &&
      (#[rawInt T, .bool false, fill, rawInt run, .ref TI, .ref TO] : Array Value)[0]? == some (rawInt T)) = true then _ else _) Q E s
  rw [if_pos (by simp)]
  refine wpAny_bind (wpAny_rule ?_)
  show wpAny _ _ (setField (.ref z) 0 .none) Q E s
  exact wpAny_setField_rec hz (by simp) fun h' hz' hs' => hQ h' hz' hs'
theorem pyIters {f0 : Value} {run : Int} {Q : Value → Shared → Prop} (hz : Is s.heap z TI TO f0 fill run) (h : Q (.ref z) s) : wpAny (model prog w) A (pyIter (.ref z)) Q E s := by
  have hT : s.TypeIs (.ref z) "itertools.zip_longest" := ⟨_, hz, rfl⟩
  refine wpAny_pyIter_slot hT slot_iter (wpAny_call_entry slot_iter hT entry_iter ?_ (args_iter _))
  show wpAny _ _ (ret (.ref z)) _ _ s
  exact wpAny_pure ⟨_, rfl, "itertools.zip_longest", _, hT, slot_next.lookup, h⟩
end
abbrev H1 (h : Heap) (l1 : Addr) : Heap := h.push { cls := .type "tuple_iterator", data := .fields #[.ref l1, .int 0 0] }
abbrev H2 (h : Heap) (l1 l2 : Addr) : Heap := (H1 h l1).push { cls := .type "tuple_iterator", data := .fields #[.ref l2, .int 0 0] }
abbrev H3 (h : Heap) (l1 l2 : Addr) : Heap := (H2 h l1 l2).push { cls := .type "tuple", data := .seq #[.ref h.objs.size, .ref (H1 h l1).objs.size] }
abbrev H4 (h : Heap) (l1 l2 : Addr) : Heap := (H3 h l1 l2).push { cls := .type "tuple", data := .seq #[.none, .none] }
abbrev H5 (h : Heap) (l1 l2 : Addr) (f : Value) : Heap := (H4 h l1 l2).push { cls := .type "itertools.zip_longest", data := .fields #[.none, .bool false, f, rawInt 2, .ref (H2 h l1 l2).objs.size, .ref (H3 h l1 l2).objs.size] }
theorem meets_new (l1 l2 : Addr) (xs ys : Array Value) (f : Value) :
    Meets (Builtin.«itertools.zip_longest.__new__» ⟨[.type "itertools.zip_longest", .ref l1, .ref l2], [(Str.ofString "fillvalue", f)]⟩) (fun _ R s => s.heap.IsTuple l1 xs ∧ s.heap.IsTuple l2 ys ∧
      R (.ok (.ret (.ref (H4 s.heap l1 l2).objs.size))) { s with heap := H5 s.heap l1 l2 f }) :=
  .of_wp fun prog w A R s h => by
    obtain ⟨hp, g, d, tk, os⟩ := s; obtain ⟨hl1, hl2, h⟩ := h
    have hsub : isSubtype (.type "itertools.zip_longest") (.type ("itertools." ++ "zip_longest")) = pure true := by
      rw [show ("itertools." ++ "zip_longest" : String) = "itertools.zip_longest" by decide]
      exact sub
    have hdict : typeHasDict (.type "itertools.zip_longest") = false := by decide +kernel
    have hL1 : Heap.IsTuple (Shared.heap ⟨hp, g, d, tk, os⟩) l1 xs := hl1
    have hL2 : Heap.IsTuple (Shared.heap ⟨hp.push { cls := .type "tuple_iterator", data := .fields #[.ref l1, .int 0 0] }, g, d, tk, os⟩) l2 ys := hl2.at fun o e => Heap.get?_push_of_some _ e
    have e1 : (Str.ofString "fillvalue" == ("fillvalue" : Str)) = true := by decide +kernel
    wp_walk using wpAny_pyIter_tuple hL1, wpAny_pyIter_tuple hL2

    exact ⟨_, rfl, h⟩
end ZL
end BW
namespace BW
open PySem PySem.Spec PyProof.Rows L2
namespace ZL
theorem apart (n a b : Nat) (la : a < n) (lb : b < n) : Apart (n + 4) (n + 2) (n + 3) n (n + 1) a b := by
  constructor <;> (show @Ne Nat _ _; omega)
theorem callZL {prog : Program} {w : World} {A : Around} {E : Value → Shared → Prop} {s : Shared} {l1 l2 : Addr} {xs ys : Array Value} {f : Value} {Q : Value → Shared → Prop} (hl1 : s.heap.IsTuple l1 xs) (hl2 : s.heap.IsTuple l2 ys)
    (h : ∀ h', St (s.heap.objs.size + 4) (s.heap.objs.size + 2) (s.heap.objs.size + 3) s.heap.objs.size (s.heap.objs.size + 1) l1 l2 xs.size ys.size f 0 h' →
      (∀ c o, s.heap.get? c = some o → h'.get? c = some o) → Q (.ref (s.heap.objs.size + 4)) { s with heap := h' }) :
    wpAny (model prog w) A (call (.type "itertools.zip_longest") [.ref l1, .ref l2] [(Str.ofString "fillvalue", f)]) Q E s := by
  refine callType_newKw called (by decide) (typeCall _ _ _) (newCall _ _ _) (fun obj => args_init obj _ _ _) entry_new (meets_new l1 l2 xs ys f) ⟨hl1, hl2, ?_⟩
  have z1 : (H1 s.heap l1).objs.size = s.heap.objs.size + 1 := Heap.size_push ..
  have z2 : (H2 s.heap l1 l2).objs.size = s.heap.objs.size + 2 := by rw [Heap.size_push, z1]
  have z3 : (H3 s.heap l1 l2).objs.size = s.heap.objs.size + 3 := by rw [Heap.size_push, z2]
  have z4 : (H4 s.heap l1 l2).objs.size = s.heap.objs.size + 4 := by rw [Heap.size_push, z3]
  have g5 : (H5 s.heap l1 l2 f).get? (H4 s.heap l1 l2).objs.size = some _ := Heap.get?_push_size _ rfl
  have g4 : (H5 s.heap l1 l2 f).get? (H3 s.heap l1 l2).objs.size = some _ := Heap.get?_push_of_some _ (Heap.get?_push_size _ rfl)
  have g3 : (H5 s.heap l1 l2 f).get? (H2 s.heap l1 l2).objs.size = some _ := Heap.get?_push_of_some _ (Heap.get?_push_of_some _ (Heap.get?_push_size _ rfl))
  have g2 : (H5 s.heap l1 l2 f).get? (H1 s.heap l1).objs.size = some _ := Heap.get?_push_of_some _ (Heap.get?_push_of_some _ (Heap.get?_push_of_some _ (Heap.get?_push_size _ rfl)))
  have g1 : (H5 s.heap l1 l2 f).get? s.heap.objs.size = some _ := Heap.get?_push_of_some _ (Heap.get?_push_of_some _ (Heap.get?_push_of_some _ (Heap.get?_push_of_some _ (Heap.get?_push_size _ rfl))))
  show _ ∧ _
  rw [z2, z3, z4] at g5
  rw [z1, z2] at g3
  rw [z3] at g4
  rw [z1] at g2
  rw [z4]
  refine ⟨⟨_, g5, rfl⟩, h _ ⟨_, _, _, _, ?_, g3, g4, .inl ⟨Nat.zero_le _, rfl, _, g1, rfl, rfl⟩, .inl ⟨Nat.zero_le _, rfl, _, g2, rfl, rfl⟩⟩ fun c o x =>
    Heap.get?_push_of_some _ (Heap.get?_push_of_some _ (Heap.get?_push_of_some _ (Heap.get?_push_of_some _ (Heap.get?_push_of_some _ x))))⟩
  unfold live
  rw [if_pos (Nat.zero_le _), if_pos (Nat.zero_le _)]
  exact g5
theorem callWith_typeK {M : Model} {A : Around} {E : Value → Shared → Prop} {s : Shared} {env : Env} {pos : Pos} {T : String} {e : Expr} {rest : List Expr} {kws : List Keyword} {Q : Value → Shared → Prop}
    (h : wpAny M A (spliced (backTo pos (starEach (e :: rest) env))) (fun vs s₁ => wpAny M A (evalAll ((backToKw pos (keywordEach kws env)).map (·.2)))
      (fun kvs s₂ => wpAny M A (call (.type T) vs (((backToKw pos (keywordEach kws env)).filterMap (·.1)).zip kvs)) Q E s₂) E s₁) E s)
    (he : backTo pos (starEach (e :: rest) env) = (false, eval e env) :: backTo pos (starEach rest env) := by rfl)
    (hplain : (backTo pos (starEach (e :: rest) env)).any (·.1) = false := by rfl)
    (hall : (backToKw pos (keywordEach kws env)).all (·.1.isSome) = true := by rfl)
    (hkw : (backToKw pos (keywordEach kws env)).any (·.1.isNone) = false := by rfl) :
    wpAny M A (callWith pos (.type T) [] (backTo pos (starEach (e :: rest) env)) (backToKw pos (keywordEach kws env))) Q E s := by
  have h' : wpAny M A (evalArgs (.type T) true (backTo pos (starEach (e :: rest) env)) (backToKw pos (keywordEach kws env))) (fun a s₁ => wpAny M A (call (.type T) ([] ++ a.pos) a.kw) Q E s₁) E s := by
    rw [he] at h ⊢
    exact evalArgs_kwB hall h
  unfold callWith
  refine wpAny_bind (wpAny_holding (wpAny_mono h' (fun a s₁ h₁ => wpAny_bind (wpAny_standAt ?_)) fun _ _ x => x))
  simp only [hplain, hkw, Bool.or_false]
  refine wpAny_bind (wpAny_pure ?_)
  exact wpAny_bind (wpAny_mono h₁ (fun r s₂ hr => wpAny_bind (wpAny_holding (wpAny_point (wpAny_pure hr)))) fun _ _ x => x)
end ZL
/-- two tuples as they stood at the first turn, side by side, the shorter one filled up -/
def Itzl (K : PySem.W.Frag) (a b : Addr) (xs ys : List V) (f : V) : It where
  go := fun i H => SqT K H a xs ∧ SqT K H b ys ∧ (i < xs.length ∨ i < ys.length)
  yld := fun i H v H' => ∃ T, v = .ref T ∧ H T = none ∧ H' = upd H T (.tup [xs.getD i f, ys.getD i f])
  stop := fun i H => SqT K H a xs ∧ SqT K H b ys ∧ i = max xs.length ys.length
theorem vals_getD {xs : List V} {its : List Value} {f : V} {u : Value} (r : Vals xs its) (rf : RelV f u) (i : Nat) : RelV (xs.getD i f) (its.toArray.getD i u) := by
  rw [List.getD_eq_getElem?_getD, Array.getD_eq_getD_getElem?]
  cases h : xs[i]? with
  | some x =>
    obtain ⟨v, hv, rv⟩ := r.get h
    have : its.toArray[i]? = some v := by simpa using hv
    rw [this]
    exact rv
  | none =>
    have l := r.length
    have h2 := List.getElem?_eq_none_iff.mp h
    have : its.toArray[i]? = none := by simp; omega
    rw [this]
    exact rf
theorem turn_zl {P : Program} {w : World} {K : PySem.W.Frag} {elts : List Expr} {kk : Nat} {tpos : Pos} {a b z TI TO i1 i2 : Addr} {xs ys : List V} {f : V} {fill : Value} (D : ZL.Apart z TI TO i1 i2 a b) (rf : RelV f fill) :
    Turn P w K (.Tuple elts kk tpos) (Itzl K a b xs ys f) [z, TI, TO, i1, i2] z (ZL.St z TI TO i1 i2 a b xs.length ys.length fill) where
  mem := by simp
  obj := fun i h st c hc => by
    obtain ⟨v1, v2, x, y, hz, hTI, hTO, c1, c2⟩ := st
    have e' : c = z ∨ c = TI ∨ c = TO ∨ c = i1 ∨ c = i2 := by simpa using hc
    rcases e' with q | q | q | q | q
    · rw [q]; exact ⟨_, hz, fun v q => nomatch q⟩
    · rw [q]; exact ⟨_, hTI, fun v q => nomatch q⟩
    · rw [q]; exact ⟨_, hTO, fun v q => nomatch q⟩
    · rw [q]; exact c1.ob
    · rw [q]; exact c2.ob
  keep := fun i h h' st k => by
    obtain ⟨v1, v2, x, y, hz, hTI, hTO, c1, c2⟩ := st
    exact ⟨v1, v2, x, y, k z (by simp) _ hz, k TI (by simp) _ hTI, k TO (by simp) _ hTO, c1.to fun o q => k i1 (by simp) o q, c2.to fun o q => k i2 (by simp) o q⟩
  item := by
    intro X hP hw hK hc i pins s σ H E I hf st hg
    subst hP hw hK
    obtain ⟨hqx, hqy, hlt⟩ := hg
    obtain ⟨its, rv, p, _⟩ := I.tuple hqx
    obtain ⟨its2, rv2, p2, _⟩ := I.tuple hqy
    have e1 : its.toArray.size = xs.length := by rw [List.size_toArray]; exact rv.length.symm
    have e2 : its2.toArray.size = ys.length := by rw [List.size_toArray]; exact rv2.length.symm
    have ob : ∀ c ∈ [z, TI, TO, i1, i2], c < s.heap.objs.size := fun c hc => by
      obtain ⟨v1, v2, x, y, hz, hTI, hTO, c1, c2⟩ := st
      have e' : c = z ∨ c = TI ∨ c = TO ∨ c = i1 ∨ c = i2 := by simpa using hc
      rcases e' with q | q | q | q | q
      · rw [q]; exact Heap.lt_size hz
      · rw [q]; exact Heap.lt_size hTI
      · rw [q]; exact Heap.lt_size hTO
      · rw [q]; obtain ⟨_, e, _⟩ := c1.ob; exact Heap.lt_size e
      · rw [q]; obtain ⟨_, e, _⟩ := c2.ob; exact Heap.lt_size e
    have hzl := ob z (by simp)
    have pa : s.heap.IsTuple a its.toArray := p
    have pb : s.heap.IsTuple b its2.toArray := p2
    refine ZL.pyNext_item (I.ok.hd hc) D (xs := its.toArray) (ys := its2.toArray) (fill := fill) (i := i) (by rw [e1, e2]; exact st) pa pb (by rw [e1, e2]; exact hlt) fun h' T u1 u2 x y hle hz' hTI' hTO' c1' c2' hT fr => ?_
    refine ⟨_, rfl, ZL.letGoes (s := { s with heap := h' }) hz' fun h'' z'' sb => ?_⟩
    have hTz : T ≠ z := Nat.ne_of_gt (Nat.lt_of_lt_of_le hzl hle)
    have hT2 : h''.get? T = some { cls := .type "tuple", data := .seq #[its.toArray.getD i fill, its2.toArray.getD i fill] } := (sb.2 _ hTz).trans hT
    have new : ObjOk X.prog X.w (upd H T (.tup [xs.getD i f, ys.getD i f])) h'' T (.tup [xs.getD i f, ys.getD i f]) :=
      ⟨by show 2 ≤ sizeLine; decide, [its.toArray.getD i fill, its2.toArray.getD i fill], .cons (vals_getD rv rf i) (.cons (vals_getD rv2 rf i) .nil), ⟨_, hT2, rfl, _, rfl⟩⟩
    have I1 : Inv X pins σ (upd H T (.tup [xs.getD i f, ys.getD i f])) { s with heap := h'' } :=
      I.turnedNew (t' := s.toks) (ch := [z, TI, TO, i1, i2]) (fun c o hb q => (sb.2 c (fun q' => hb (by simp [q']))).trans (fr c o (fun q' => hb (by simp [q'])) (fun q' => hb (by simp [q'])) (fun q' => hb (by simp [q'])) (fun q' => hb (by simp [q'])) (fun q' => hb (by simp [q'])) q)) hf hle new
    refine ⟨.ref T, _, I1, rfl, ⟨T, rfl, I.hok.fresh hle, rfl⟩, ⟨u1, u2, x, y, ?_, ?_, ?_, ?_, ?_⟩, fun c hcm => ?_⟩
    · rw [← e1, ← e2]; exact z''
    · exact (sb.2 _ D.TIz).trans hTI'
    · exact (sb.2 _ D.TOz).trans hTO'
    · rw [← e1]; exact c1'.to fun o q => (sb.2 _ D.i1z).trans q
    · rw [← e2]; exact c2'.to fun o q => (sb.2 _ D.i2z).trans q
    · rw [upd_ne (Nat.ne_of_lt (Nat.lt_of_lt_of_le (ob c hcm) hle))]
      exact (hf c hcm).1
  done := by
    intro X hP hw hK hc i pins s σ H E I hf st hg
    subst hP hw hK
    obtain ⟨hqx, hqy, hend⟩ := hg
    obtain ⟨its, rv, p, _⟩ := I.tuple hqx
    obtain ⟨its2, rv2, p2, _⟩ := I.tuple hqy
    have e1 : its.toArray.size = xs.length := by rw [List.size_toArray]; exact rv.length.symm
    have e2 : its2.toArray.size = ys.length := by rw [List.size_toArray]; exact rv2.length.symm
    have pa : s.heap.IsTuple a its.toArray := p
    have pb : s.heap.IsTuple b its2.toArray := p2
    exact ZL.pyNext_end (I.ok.hd hc) D (xs := its.toArray) (ys := its2.toArray) (fill := fill) (i := i) (by rw [e1, e2]; exact st) pa pb (by rw [e1, e2]; exact hend) fun h' fr => ⟨rfl, I.turnedL (t' := s.toks) (ch := [z, TI, TO, i1, i2]) (fun c o hb q =>
      fr c o (fun q' => hb (by simp [q'])) (fun q' => hb (by simp [q'])) (fun q' => hb (by simp [q'])) (fun q' => hb (by simp [q'])) (fun q' => hb (by simp [q'])) q) hf⟩
  self := fun A i s Q E st h => by
    obtain ⟨v1, v2, x, y, hz, _⟩ := st
    exact ZL.pyIters hz h
def iZl (K : PySem.W.Frag) (ta : TA) (tf : TE) : TI := fun σ H R => ta σ H fun vs H1 => tf σ H1 fun f H2 => ∃ a b xs ys, vs = [.ref a, .ref b] ∧ SqT K H2 a xs ∧ SqT K H2 b ys ∧ R (Itzl K a b xs ys f) H2
theorem pi_zl {X : Cx} {e e2 fe : Expr} {ta : TA} {tf : TE} {p pos tpos kp : Pos} {elts : List Expr} {kk : Nat} (hg : Gl X "zip_longest") (hm : X.mg "zip_longest" = some (.type "itertools.zip_longest")) (ha : PA X [e, e2] ta) (hk : PE X fe tf)
    (he : backTo pos (starEach [e, e2] X.env) = (false, eval e X.env) :: backTo pos (starEach [e2] X.env) := by rfl) (hpl : (backTo pos (starEach [e, e2] X.env)).any (·.1) = false := by rfl) :
    PI X (.Tuple elts kk tpos) (.Call (.Name "zip_longest" p) [e, e2] [⟨some "fillvalue", fe, kp⟩] pos) (iZl X.K ta tf) := by
  refine ⟨fun pins s σ H R I h => ?_⟩
  refine wpAny_Call_Name_kw (ld_glob I hg hm ?_ (by decide))
  refine ZL.callWith_typeK (thn (ha.run pos pins s σ H _ I h) fun us s1 ⟨vs, H1, I1, r1, q1⟩ => ?_) he hpl
  refine thn ((pk_cons hk pk_nil).run pos pins s1 σ H1 (fun ws H2 => ∃ f, ws = [f] ∧ ∃ a b xs ys, vs = [.ref a, .ref b] ∧ SqT X.K H2 a xs ∧ SqT X.K H2 b ys ∧ R (Itzl X.K a b xs ys f) H2) I1 ?_) fun kvs s2 ⟨ws, H2, I2, r2, q2⟩ => ?_
  · show tf σ H1 _
    exact (by simpa [tCons, tNil] using q1)
  obtain ⟨f, rfl, a, b, xs, ys, rfl, hqx, hqy, q⟩ := q2
  obtain ⟨fv, rfl, rf⟩ := vals1 r2
  cases r1 with
  | cons r rr =>
    cases rr with
    | cons r' rr =>
      cases rr
      cases r
      cases r'
      obtain ⟨its, rv, p1, _⟩ := I2.tuple hqx
      obtain ⟨its2, rv2, p2, _⟩ := I2.tuple hqy
      have pa : s2.heap.IsTuple a its.toArray := p1
      have pb : s2.heap.IsTuple b its2.toArray := p2
      have la : a < s2.heap.objs.size := by obtain ⟨_, e, _⟩ := pa; exact Heap.lt_size e
      have lb : b < s2.heap.objs.size := by obtain ⟨_, e, _⟩ := pb; exact Heap.lt_size e
      have e1 : its.toArray.size = xs.length := by rw [List.size_toArray]; exact rv.length.symm
      have e2 : its2.toArray.size = ys.length := by rw [List.size_toArray]; exact rv2.length.symm
      show wpAny _ _ (call (.type "itertools.zip_longest") [.ref a, .ref b] [(Str.ofString "fillvalue", fv)]) _ _ _
      refine ZL.callZL pa pb fun h' st hk => ?_
      rw [e1, e2] at st
      have hz := st
      obtain ⟨v1, v2, x, y, hz, _⟩ := hz
      refine ZL.pyIters hz ?_
      have I3 : Inv X pins σ H2 { s2 with heap := h' } := I2.kept (t' := s2.toks) hk
      refine ⟨s2.heap.objs.size + 4, [s2.heap.objs.size + 4, s2.heap.objs.size + 2, s2.heap.objs.size + 3, s2.heap.objs.size, s2.heap.objs.size + 1], _, _, H2, rfl, I3, turn_zl (ZL.apart s2.heap.objs.size a b la lb) rf, st, fun c hcm => ?_, q⟩
      have e' : c = s2.heap.objs.size + 4 ∨ c = s2.heap.objs.size + 2 ∨ c = s2.heap.objs.size + 3 ∨ c = s2.heap.objs.size ∨ c = s2.heap.objs.size + 1 := by simpa using hcm
      have hle : s2.heap.objs.size ≤ c := by
        rcases e' with z | z | z | z | z
        · rw [z]; exact Nat.le_add_right _ _
        · rw [z]; exact Nat.le_add_right _ _
        · rw [z]; exact Nat.le_add_right _ _
        · rw [z]; exact Nat.le_refl _
        · rw [z]; exact Nat.le_add_right _ _
      exact I2.fpOk hle (I2.hok.fresh hle)
end BW

/-! ### zip of a list and a tuple -/
namespace BW
open PySem PySem.Spec PyProof.Rows L2
namespace ZM
abbrev G1 (h : Heap) (l1 : Addr) : Heap := h.push { cls := .type "list_iterator", data := .fields #[.ref l1, .int 0 0] }
abbrev G2 (h : Heap) (l1 l2 : Addr) : Heap := (G1 h l1).push { cls := .type "tuple_iterator", data := .fields #[.ref l2, .int 0 0] }
abbrev G3 (h : Heap) (l1 l2 : Addr) : Heap := (G2 h l1 l2).push { cls := .type "tuple", data := .seq #[.ref h.objs.size, .ref (G1 h l1).objs.size] }
abbrev G4 (h : Heap) (l1 l2 : Addr) : Heap := (G3 h l1 l2).push { cls := .type "tuple", data := .seq #[.none, .none] }
abbrev G5 (h : Heap) (l1 l2 : Addr) : Heap := (G4 h l1 l2).push { cls := .type "zip", data := .fields #[.none, .bool false, .bool false, .ref (G2 h l1 l2).objs.size, .ref (G3 h l1 l2).objs.size] }
set_option maxHeartbeats 4000000 in
theorem meets (l1 l2 : Addr) (xs ys : Array Value) :
    Meets (Builtin.«zip.__new__» ⟨[.type "zip", .ref l1, .ref l2], []⟩) (fun _ R s => s.heap.IsList l1 xs ∧ s.heap.IsTuple l2 ys ∧
      R (.ok (.ret (.ref (G4 s.heap l1 l2).objs.size))) { s with heap := G5 s.heap l1 l2 }) :=
  .of_wp fun prog w A R s h => by
    obtain ⟨hp, g, d, tk, os⟩ := s; obtain ⟨hl1, hl2, h⟩ := h
    have hsub := sub_zip
    have hL1 : Heap.IsList (Shared.heap ⟨hp, g, d, tk, os⟩) l1 xs := hl1
    have hL2 : Heap.IsTuple (Shared.heap ⟨hp.push { cls := .type "list_iterator", data := .fields #[.ref l1, .int 0 0] }, g, d, tk, os⟩) l2 ys := hl2.at fun o e => Heap.get?_push_of_some _ e
    wp_walk using wpAny_pyIter_list hL1, wpAny_pyIter_tuple hL2
    exact ⟨_, rfl, h⟩
def St (z TI TO i1 i2 a b : Addr) (i : Nat) (h : Heap) : Prop :=
  IsZip h z TI TO .none ∧ IsTupOf2 h TI (.ref i1) (.ref i2) ∧ (∃ x y, IsTupOf2 h TO x y) ∧ h.IsListIter i1 a i ∧ h.IsTupleIter i2 b i
theorem callZM {prog : Program} {w : World} {A : Around} {E : Value → Shared → Prop} {s : Shared} {l1 l2 : Addr} {xs ys : Array Value} {Q : Value → Shared → Prop} (hl1 : s.heap.IsList l1 xs) (hl2 : s.heap.IsTuple l2 ys)
    (h : ∀ h', St (s.heap.objs.size + 4) (s.heap.objs.size + 2) (s.heap.objs.size + 3) s.heap.objs.size (s.heap.objs.size + 1) l1 l2 0 h' →
      (∀ c o, s.heap.get? c = some o → h'.get? c = some o) → Q (.ref (s.heap.objs.size + 4)) { s with heap := h' }) :
    wpAny (model prog w) A (call (.type "zip") [.ref l1, .ref l2]) Q E s := by
  refine callType_new F.called_zip (by decide) (F.typeCall_zip_2 _ _) (F.newCall_zip_2 _ _) (fun obj => F.args_object_init_3 obj _ _) F.entry_zip_new (meets l1 l2 xs ys) ⟨hl1, hl2, ?_⟩
  have z1 : (G1 s.heap l1).objs.size = s.heap.objs.size + 1 := Heap.size_push ..
  have z2 : (G2 s.heap l1 l2).objs.size = s.heap.objs.size + 2 := by rw [Heap.size_push, z1]
  have z3 : (G3 s.heap l1 l2).objs.size = s.heap.objs.size + 3 := by rw [Heap.size_push, z2]
  have z4 : (G4 s.heap l1 l2).objs.size = s.heap.objs.size + 4 := by rw [Heap.size_push, z3]
  have g5 : (G5 s.heap l1 l2).get? (G4 s.heap l1 l2).objs.size = some _ := Heap.get?_push_size _ rfl
  have g4 : (G5 s.heap l1 l2).get? (G3 s.heap l1 l2).objs.size = some _ := Heap.get?_push_of_some _ (Heap.get?_push_size _ rfl)
  have g3 : (G5 s.heap l1 l2).get? (G2 s.heap l1 l2).objs.size = some _ := Heap.get?_push_of_some _ (Heap.get?_push_of_some _ (Heap.get?_push_size _ rfl))
  have g2 : (G5 s.heap l1 l2).get? (G1 s.heap l1).objs.size = some _ := Heap.get?_push_of_some _ (Heap.get?_push_of_some _ (Heap.get?_push_of_some _ (Heap.get?_push_size _ rfl)))
  have g1 : (G5 s.heap l1 l2).get? s.heap.objs.size = some _ := Heap.get?_push_of_some _ (Heap.get?_push_of_some _ (Heap.get?_push_of_some _ (Heap.get?_push_of_some _ (Heap.get?_push_size _ rfl))))
  show _ ∧ _
  rw [z2, z3, z4] at g5
  rw [z1, z2] at g3
  rw [z3] at g4
  rw [z1] at g2
  rw [z4]
  exact ⟨⟨_, g5, rfl⟩, h _ ⟨g5, g3, ⟨_, _, g4⟩, ⟨_, g1, rfl, rfl⟩, ⟨_, g2, rfl, rfl⟩⟩ fun c o x =>
    Heap.get?_push_of_some _ (Heap.get?_push_of_some _ (Heap.get?_push_of_some _ (Heap.get?_push_of_some _ (Heap.get?_push_of_some _ x))))⟩
theorem sep {z TI TO i1 i2 a b : Addr} (D : ZL.Apart z TI TO i1 i2 a b) : ZipSep2 z TI TO i1 i2 [i1, a] [i2, b] :=
  ⟨D.TIz, D.TOz, D.TITO, D.TIi1, by simp, by simp [D.i1z.symm, D.az.symm], by simp [D.TOi1, D.aTO.symm], D.TIi2, by simp, by simp [D.i2z.symm, D.bz.symm], by simp [D.TOi2, D.bTO.symm], by simp [D.i12, D.bi1.symm], by simp [D.i12.symm, D.ai2.symm]⟩
end ZM
/-- a list and a tuple as they stood at the first turn, side by side -/
def Itzm (K : PySem.W.Frag) (a b : Addr) (xs ys : List V) : It where
  go := fun i H => SqL K H a xs ∧ SqT K H b ys ∧ i < xs.length ∧ i < ys.length
  yld := fun i H v H' => ∃ T x y, v = .ref T ∧ H T = none ∧ H' = upd H T (.tup [x, y]) ∧ xs[i]? = some x ∧ ys[i]? = some y
  stop := fun i H => SqL K H a xs ∧ SqT K H b ys ∧ i = min xs.length ys.length
theorem turn_zm {P : Program} {w : World} {K : PySem.W.Frag} {elts : List Expr} {kk : Nat} {tpos : Pos} {a b z TI TO i1 i2 : Addr} {xs ys : List V} (D : ZL.Apart z TI TO i1 i2 a b) :
    Turn P w K (.Tuple elts kk tpos) (Itzm K a b xs ys) [z, TI, TO, i1, i2] z (ZM.St z TI TO i1 i2 a b) where
  mem := by simp
  obj := fun i h st c hc => by
    obtain ⟨hz, hTI, ⟨x, y, hTO⟩, ⟨o1, e1, _, d1⟩, ⟨o2, e2, _, d2⟩⟩ := st
    have e' : c = z ∨ c = TI ∨ c = TO ∨ c = i1 ∨ c = i2 := by simpa using hc
    rcases e' with q | q | q | q | q
    · rw [q]; exact ⟨_, hz, fun v q => nomatch q⟩
    · rw [q]; exact ⟨_, hTI, fun v q => nomatch q⟩
    · rw [q]; exact ⟨_, hTO, fun v q => nomatch q⟩
    · rw [q]; exact ⟨o1, e1, fun v q => by rw [d1] at q; cases q⟩
    · rw [q]; exact ⟨o2, e2, fun v q => by rw [d2] at q; cases q⟩
  keep := fun i h h' st k => by
    obtain ⟨hz, hTI, ⟨x, y, hTO⟩, h1, h2⟩ := st
    exact ⟨k z (by simp) _ hz, k TI (by simp) _ hTI, ⟨x, y, k TO (by simp) _ hTO⟩, h1.at fun o q => k i1 (by simp) o q, h2.at fun o q => k i2 (by simp) o q⟩
  item := by
    intro X hP hw hK hc i pins s σ H E I hf st hg
    subst hP hw hK
    obtain ⟨hz, hTI, ⟨x0, y0, hTO⟩, h1, h2⟩ := st
    obtain ⟨hqx, hqy, l1, l2⟩ := hg
    obtain ⟨its, rv, p, _⟩ := I.list hqx
    obtain ⟨its2, rv2, p2, _⟩ := I.tuple hqy
    have pa : s.heap.IsList a its.toArray := p.isList
    have pb : s.heap.IsTuple b its2.toArray := p2
    have e1 : its.toArray.size = xs.length := by rw [List.size_toArray]; exact rv.length.symm
    have e2 : its2.toArray.size = ys.length := by rw [List.size_toArray]; exact rv2.length.symm
    obtain ⟨x, hx⟩ : ∃ x, xs[i]? = some x := ⟨_, List.getElem?_eq_getElem l1⟩
    obtain ⟨y, hy⟩ : ∃ y, ys[i]? = some y := ⟨_, List.getElem?_eq_getElem l2⟩
    obtain ⟨u, hu, ru⟩ := rv.get hx
    obtain ⟨u2, hu2, ru2⟩ := rv2.get hy
    have hzl : z < s.heap.objs.size := Heap.lt_size hz
    refine wpAny_pyNext_zipD2_item (ZM.sep D) (Draws.list (A := X.A.in1) (I.ok.hd hc) i1 a D.ai1 its.toArray) (draws_tuple (A := X.A.in1) (I.ok.hd hc) i2 b D.bi2 its2.toArray) hz hTI hTO ⟨h1, pa⟩ ⟨h2, pb⟩ (by rw [e1]; exact l1) (by rw [e2]; exact l2) fun v1 v2 h' tk y1 y2 z' TO' s1' s2' hT hsz fr => ?_
    have ev1 : v1 = u := by
      have : its.toArray[i]? = some u := by simpa using hu
      rw [this] at y1
      exact (Option.some.inj y1).symm
    have ev2 : v2 = u2 := by
      have : its2.toArray[i]? = some u2 := by simpa using hu2
      rw [this] at y2
      exact (Option.some.inj y2).symm
    subst ev1 ev2
    refine ⟨_, rfl, wpAny_letOwnedTupleGo_zip (s := { s with heap := h', toks := tk }) z' fun h'' z'' sb => ?_⟩
    have hT2 : h''.get? s.heap.objs.size = some { cls := .type "tuple", data := .seq #[v1, v2] } := (sb.2 _ (Nat.ne_of_gt hzl)).trans hT
    have new : ObjOk X.prog X.w (upd H s.heap.objs.size (.tup [x, y])) h'' s.heap.objs.size (.tup [x, y]) :=
      ⟨by show 2 ≤ sizeLine; decide, [v1, v2], .cons ru (.cons ru2 .nil), ⟨_, hT2, rfl, _, rfl⟩⟩
    have I1 : Inv X pins σ (upd H s.heap.objs.size (.tup [x, y])) { s with heap := h'', toks := tk } :=
      I.turnedNew (t' := tk) (ch := [z, TI, TO, i1, i2]) (fun c o hb q => (sb.2 c (fun q' => hb (by simp [q']))).trans (fr c o (fun q' => hb (by simp [q'])) (fun q' => hb (by simp [q'])) (fun q' => hb (by simp [q'])) (fun q' => hb (by simp [q'])) q)) hf (Nat.le_refl _) new
    refine ⟨.ref s.heap.objs.size, _, I1, rfl, ⟨_, x, y, rfl, I.hok.fresh (Nat.le_refl _), rfl, hx, hy⟩, ⟨z'', ?_, ⟨v1, v2, ?_⟩, ?_, ?_⟩, fun c hcm => ?_⟩
    · exact (sb.2 _ D.TIz).trans (fr _ _ D.TIz D.TITO D.TIi1 D.TIi2 hTI)
    · exact (sb.2 _ D.TOz).trans TO'
    · exact s1'.1.at fun o q => (sb.2 _ D.i1z).trans q
    · exact s2'.1.at fun o q => (sb.2 _ D.i2z).trans q
    · have hlt : c < s.heap.objs.size := by
        have e' : c = z ∨ c = TI ∨ c = TO ∨ c = i1 ∨ c = i2 := by simpa using hcm
        rcases e' with q | q | q | q | q
        · rw [q]; exact hzl
        · rw [q]; exact Heap.lt_size hTI
        · rw [q]; exact Heap.lt_size hTO
        · rw [q]; obtain ⟨_, e, _⟩ := h1; exact Heap.lt_size e
        · rw [q]; obtain ⟨_, e, _⟩ := h2; exact Heap.lt_size e
      rw [upd_ne (Nat.ne_of_lt hlt)]
      exact (hf c hcm).1
  done := by
    intro X hP hw hK hc i pins s σ H E I hf st hg
    subst hP hw hK
    obtain ⟨hz, hTI, ⟨x0, y0, hTO⟩, h1, h2⟩ := st
    obtain ⟨hqx, hqy, hend⟩ := hg
    obtain ⟨its, rv, p, _⟩ := I.list hqx
    obtain ⟨its2, rv2, p2, _⟩ := I.tuple hqy
    have pa : s.heap.IsList a its.toArray := p.isList
    have pb : s.heap.IsTuple b its2.toArray := p2
    have e1 : its.toArray.size = xs.length := by rw [List.size_toArray]; exact rv.length.symm
    have e2 : its2.toArray.size = ys.length := by rw [List.size_toArray]; exact rv2.length.symm
    exact wpAny_pyNext_zipD2_end (ZM.sep D) (Draws.list (A := X.A.in1) (I.ok.hd hc) i1 a D.ai1 its.toArray) (draws_tuple (A := X.A.in1) (I.ok.hd hc) i2 b D.bi2 its2.toArray) hz hTI hTO ⟨h1, pa⟩ ⟨h2, pb⟩ (by rw [e1]; omega) (by rw [e2]; omega) (by rw [e1, e2]; omega) fun h' tk fr => ⟨rfl, I.turnedL (t' := tk) (ch := [z, TI, TO, i1, i2]) (fun c o hb q =>
      fr c o (fun q' => hb (by simp [q'])) (fun q' => hb (by simp [q'])) (fun q' => hb (by simp [q'])) (fun q' => hb (by simp [q'])) q) hf⟩
  self := fun A i s Q E st h => wpAny_pyIter_zip st.1 h
def iZm (K : PySem.W.Frag) (ta : TA) : TI := fun σ H R => ta σ H fun vs H1 => ∃ a b xs ys, vs = [.ref a, .ref b] ∧ SqL K H1 a xs ∧ SqT K H1 b ys ∧ R (Itzm K a b xs ys) H1
theorem pi_zm {X : Cx} {e e2 : Expr} {ta : TA} {p pos tpos : Pos} {elts : List Expr} {kk : Nat} (hg : Gl X "zip") (hm : X.mg "zip" = none) (ha : PA X [e, e2] ta)
    (hs : starEach [e, e2] X.env = (false, eval e X.env) :: starEach [e2] X.env := by rfl) (hpl : (backTo pos (starEach [e2] X.env)).any (·.1) = false := by rfl) :
    PI X (.Tuple elts kk tpos) (.Call (.Name "zip" p) [e, e2] [] pos) (iZm X.K ta) := by
  refine ⟨fun pins s σ H R I h => ?_⟩
  refine Call_ (ld_blt I hg hm PyProof.Rows.boot_zip (PyProof.Rows.callWith_type1 (thn (ha.run pos pins s σ H _ I h) fun us s1 ⟨vs, H1, I1, r1, q1⟩ => ?_) hs hpl))
  obtain ⟨a, b, xs, ys, rfl, hqx, hqy, q⟩ := q1
  cases r1 with
  | cons r rr =>
    cases rr with
    | cons r' rr =>
      cases rr
      cases r
      cases r'
      obtain ⟨its, rv, p1, _⟩ := I1.list hqx
      obtain ⟨its2, rv2, p2, _⟩ := I1.tuple hqy
      have pa : s1.heap.IsList a its.toArray := p1.isList
      have pb : s1.heap.IsTuple b its2.toArray := p2
      have la : a < s1.heap.objs.size := p1.lt
      have lb : b < s1.heap.objs.size := by obtain ⟨_, e, _⟩ := pb; exact Heap.lt_size e
      refine ZM.callZM pa pb fun h' st hk => wpAny_pyIter_zip st.1 ?_
      have I2 : Inv X pins σ H1 { s1 with heap := h' } := I1.kept (t' := s1.toks) hk
      refine ⟨s1.heap.objs.size + 4, [s1.heap.objs.size + 4, s1.heap.objs.size + 2, s1.heap.objs.size + 3, s1.heap.objs.size, s1.heap.objs.size + 1], _, _, H1, rfl, I2, turn_zm (ZL.apart s1.heap.objs.size a b la lb), st, fun c hcm => ?_, q⟩
      have e' : c = s1.heap.objs.size + 4 ∨ c = s1.heap.objs.size + 2 ∨ c = s1.heap.objs.size + 3 ∨ c = s1.heap.objs.size ∨ c = s1.heap.objs.size + 1 := by simpa using hcm
      have hle : s1.heap.objs.size ≤ c := by
        rcases e' with z | z | z | z | z
        · rw [z]; exact Nat.le_add_right _ _
        · rw [z]; exact Nat.le_add_right _ _
        · rw [z]; exact Nat.le_add_right _ _
        · rw [z]; exact Nat.le_refl _
        · rw [z]; exact Nat.le_add_right _ _
      exact I1.fpOk hle (I1.hok.fresh hle)
end BW

/-! ### comprehensions of one for, over anything that is walked -/
namespace BW
open PySem PySem.Spec PyProof.Rows L2
theorem lc_J {J : It} {D : Addr} {g : TG} {tt : TT} {te : TE} {vs : List Nat} {σ : L2.St} {H : Hp} {Qd : Hp → Prop} (N : Nat) (Pv : Nat → Hp → Prop) (h0 : Pv 0 (upd H D (.lst [])))
    (hgo : ∀ i X, i < N → Pv i X → J.go i X) (hst : ∀ X, Pv N X → J.stop N X)
    (hs : ∀ i x X X', i < N → Pv i X → J.yld i X x X' → g x (wipe σ vs) X' fun σ2 H2 => wipe σ2 vs = wipe σ vs ∧ tt σ2 H2 fun b H3 =>
      if b = true then te σ2 H3 fun y H4 => ∃ acc, H4 D = some (.lst acc) ∧ acc.length < sizeLine ∧ Pv (i + 1) (upd H4 D (.lst (acc ++ [y]))) else Pv (i + 1) H3)
    (hd : ∀ X, Pv N X → Qd X) :
    ∃ W : Nat → Nat → Hp → Prop, (∃ m, W 0 m (upd H D (.lst []))) ∧ ∀ i m X, W i m X →
      (J.stop i X ∧ Qd X) ∨ (J.go i X ∧ ∃ Nx : Hp → Prop, (∀ H', Nx H' → ∃ m', m' < m ∧ W (i + 1) m' H') ∧ ∀ x H', J.yld i X x H' → g x (wipe σ vs) H' fun σ2 H2 => wipe σ2 vs = wipe σ vs ∧ tt σ2 H2 fun b H3 =>
        if b = true then te σ2 H3 fun y H4 => ∃ acc, H4 D = some (.lst acc) ∧ acc.length < sizeLine ∧ Nx (upd H4 D (.lst (acc ++ [y]))) else Nx H3) := by
  refine ⟨fun i m X => m = N - i ∧ i ≤ N ∧ Pv i X, ⟨N, rfl, Nat.zero_le _, h0⟩, ?_⟩
  rintro i m X ⟨rfl, hi, p⟩
  by_cases hlt : i < N
  · exact .inr ⟨hgo i X hlt p, fun X => Pv (i + 1) X, fun H' q => ⟨N - (i + 1), by omega, rfl, hlt, q⟩, fun x H' y => hs i x X H' hlt p y⟩
  · have ei : i = N := by omega
    subst ei
    exact .inl ⟨hst X p, hd X p⟩
/-- over two rows of whole numbers, the shorter one filled up by nought, nothing made in a turn but the pair -/
theorem lc_zl {K : PySem.W.Frag} {a b D : Addr} {ns ms : List Int} {g : TG} {tt : TT} {te : TE} {vs : List Nat} {σ : L2.St} {H : Hp} {Qd : Hp → Prop} (f : Int → Int → Int) (ha : SqT K H a (ns.map V.int)) (hb : SqT K H b (ms.map V.int)) (hD : H D = none) (hl : max ns.length ms.length ≤ 100000)
    (hs : ∀ (n m : Int) (T : Addr) (G : Hp) (R : VK) (P : Hp → Prop), G T = some (.tup [.int n, .int m]) → R (.int (f n m)) G → g (.ref T) (wipe σ vs) G fun σ2 H2 => wipe σ2 vs = wipe σ vs ∧ tt σ2 H2 fun b H3 => if b = true then te σ2 H3 R else P H3)
    (hd : ∀ X, Same H X → X D = some (.lst (((List.range (max ns.length ms.length)).map fun k => f (ns.getD k 0) (ms.getD k 0)).map V.int)) → Qd X) :
    ∃ W : Nat → Nat → Hp → Prop, (∃ m, W 0 m (upd H D (.lst []))) ∧ ∀ i m X, W i m X →
      ((Itzl K a b (ns.map V.int) (ms.map V.int) (.int 0)).stop i X ∧ Qd X) ∨ ((Itzl K a b (ns.map V.int) (ms.map V.int) (.int 0)).go i X ∧ ∃ Nx : Hp → Prop, (∀ H', Nx H' → ∃ m', m' < m ∧ W (i + 1) m' H') ∧ ∀ x H', (Itzl K a b (ns.map V.int) (ms.map V.int) (.int 0)).yld i X x H' → g x (wipe σ vs) H' fun σ2 H2 => wipe σ2 vs = wipe σ vs ∧ tt σ2 H2 fun b H3 =>
        if b = true then te σ2 H3 fun y H4 => ∃ acc, H4 D = some (.lst acc) ∧ acc.length < sizeLine ∧ Nx (upd H4 D (.lst (acc ++ [y]))) else Nx H3) := by
  refine lc_J (max ns.length ms.length) (fun i X => X D = some (.lst (((List.range i).map fun k => f (ns.getD k 0) (ms.getD k 0)).map V.int)) ∧ Same H X) ⟨upd_same, same_new hD⟩ (fun i X hi p => ⟨Same.tupS p.2 ha, Same.tupS p.2 hb, by simp; omega⟩) (fun X p => ⟨Same.tupS p.2 ha, Same.tupS p.2 hb, by simp⟩) ?_ (fun X p => hd X p.2 p.1)
  rintro i x X X' hi ⟨gD, sX⟩ ⟨T, rfl, hT, rfl⟩
  have dT : D ≠ T := ne_of_none gD hT
  have e1 : (ns.map V.int).getD i (V.int 0) = V.int (ns.getD i 0) := by
    rw [List.getD_eq_getElem?_getD, List.getElem?_map, List.getD_eq_getElem?_getD]
    cases ns[i]? <;> rfl
  have e2 : (ms.map V.int).getD i (V.int 0) = V.int (ms.getD i 0) := by
    rw [List.getD_eq_getElem?_getD, List.getElem?_map, List.getD_eq_getElem?_getD]
    cases ms[i]? <;> rfl
  rw [e1, e2]
  refine hs _ _ T _ (fun y H4 => ∃ acc, H4 D = some (.lst acc) ∧ acc.length < sizeLine ∧ (upd H4 D (.lst (acc ++ [y])) D = some (.lst (((List.range (i + 1)).map fun k => f (ns.getD k 0) (ms.getD k 0)).map V.int)) ∧ Same H (upd H4 D (.lst (acc ++ [y]))))) _ upd_same ?_
  refine ⟨_, (upd_ne dT).trans gD, ?_, ?_, fun b o hb => ?_⟩
  · rw [List.length_map, List.length_map, List.length_range]
    exact Nat.lt_of_lt_of_le (show i < 100001 by omega) (by decide)
  · rw [upd_same, List.range_succ, List.map_append, List.map_append]
    rfl
  · rw [upd_ne (ne_of_none hb hD), upd_ne (ne_of_none (sX b o hb) hT)]
    exact sX b o hb
end BW
/-! short words for proofs -/
local macro_rules | `(tactic| walk_at "v") => `(tactic| refine ⟨_, rfl, ?_⟩)
local macro_rules | `(tactic| walk_at "sd") => `(tactic| first | omega | decide | exact Or.inr ⟨by decide, by decide⟩ | exact Or.inl ⟨by decide, by decide⟩ | (simp only [L2.CMul, L2.CDiv, L2.CPow, BW.CDivZ]; omega) | exact ⟨by decide, by decide, by decide⟩ | (refine ⟨by decide, by decide, ?_⟩; omega))
local macro_rules | `(tactic| walk_at "sz") => `(tactic| (simp only [List.length_cons, List.length_nil]; decide))
local macro_rules | `(tactic| walk_at "wl") => `(tactic| first | assumption | (refine BW.Wl.same (by assumption) ?_; walk_at "wl"))
local macro_rules | `(tactic| walk_at "ne") => `(tactic| first | assumption | exact Ne.symm (by assumption) | exact BW.ne_wl (by assumption) (by walk_at "wl"))
local macro_rules | `(tactic| walk_at "hf") => `(tactic| first
  | assumption
  | exact L2.upd_same
  | (refine BW.sm_get (by assumption) ?_; walk_at "hf")
  | (refine BW.same_new (by assumption) _ _ ?_; walk_at "hf")
  | (refine (L2.upd_ne (by walk_at "ne")).trans ?_; walk_at "hf")
  | exact BW.FrAt.get (by assumption)
  | (refine BW.Ch.get (by assumption) ?_ (by walk_at "ne"); walk_at "hf"))
local macro_rules | `(tactic| walk_at "fa") => `(tactic| first | assumption | exact BW.FrAt.lit (by assumption) (BW.sz_lit (by decide)) | exact BW.FrAt.same (by assumption) (by walk_at "fa"))
local macro_rules | `(tactic| walk_at "nz") => `(tactic| ((with_reducible show (_ : Int) ≠ 0); first | assumption | omega | exact Int.mul_ne_zero (by walk_at "nz") (by walk_at "nz")))
local macro_rules | `(tactic| walk_at "zz") => `(tactic| first | assumption | exact BW.sz_mul (by walk_at "zz") (by walk_at "zz") | exact BW.sz_add (by walk_at "zz") (by walk_at "zz") | exact BW.sz_sub (by walk_at "zz") (by walk_at "zz"))
local macro_rules | `(tactic| walk_at "nc") => `(tactic| fail_if_success (first | (with_reducible show L2.CDiv _ _ ∧ _) | (with_reducible show L2.CMul _ _ ∧ _) | (with_reducible show L2.CPow _ _ ∧ _)))
local macro_rules | `(tactic| walk_at "ch") => `(tactic| first | assumption | exact BW.Ch.refl _ _ | (refine BW.Ch.tr2 (by assumption) ?_; walk_at "ch") | (refine BW.Ch.tr1 (by assumption) ?_; walk_at "ch"))
local macro_rules | `(tactic| walk_at "sm") => `(tactic| first | assumption | exact L2.Same.refl _ | (refine BW.Same.tr1 (by assumption) ?_; walk_at "sm"))
local macro_rules | `(tactic| walk_at "mx") => `(tactic| first | exact BW.small_mul (by assumption) (by assumption) | exact BW.sz_mulx (by walk_at "zz") (by walk_at "zz") (by omega))
local macro_rules | `(tactic| walk_at "dp") => `(tactic| first | exact .int _ | exact .bl _ | exact .non | exact .str _ | exact .tup (BW.SqT.of' (by walk_at "hf")) (by walk_at "dps") | exact .lst (BW.SqL.of' (by walk_at "hf")) (by walk_at "dps"))
local macro_rules | `(tactic| walk_at "dps") => `(tactic| first | exact .nil | exact .cons (by walk_at "dp") (by walk_at "dps"))
local macro_rules | `(tactic| walk_at "r1") => `(tactic| first
  | refine ⟨_, rfl, ?_⟩
  | refine ⟨_, _, rfl, rfl, And.intro (by walk_at "sd") ?_⟩
  | refine Or.inl ⟨_, _, rfl, rfl, And.intro (by walk_at "sd") ?_⟩
  | (refine ⟨_, _, rfl, rfl, ?_⟩; walk_at "nc")
  | (refine Or.inl ⟨_, _, rfl, rfl, ?_⟩; walk_at "nc")
  | refine Or.inl ⟨rfl, ?_⟩
  | refine Or.inr ⟨_, _, rfl, rfl, ?_⟩
  | refine L2.iteT ?_
  | refine L2.iteF ?_
  | refine Or.inl ⟨_, _, _, _, rfl, rfl, BW.SqL.of' (by walk_at "hf"), rfl, ?_⟩
  | refine Or.inr (Or.inl ⟨_, _, _, _, rfl, rfl, BW.SqT.of' (by walk_at "hf"), rfl, ?_⟩)
  | refine Or.inr (Or.inl ⟨_, _, _, _, rfl, rfl, BW.SqL.of' (by walk_at "hf"), BW.SqL.of' (by walk_at "hf"), by walk_at "sz", ?_⟩)
  | refine Or.inl ⟨_, _, _, _, false, rfl, .ty _, .base (.int _), L2.kit_ty (by decide +kernel), ?_⟩
  | refine Or.inl ⟨_, _, _, _, true, rfl, .ty _, .base (.int _), L2.kit_ty (by decide +kernel), ?_⟩
  | refine Or.inl ⟨_, _, _, _, true, rfl, .ty _, .base (.tup (by walk_at "hf")), L2.kit_ty (by decide +kernel), ?_⟩
  | refine Or.inl ⟨_, _, _, _, false, rfl, .ty _, .base (.tup (by walk_at "hf")), L2.kit_ty (by decide +kernel), ?_⟩
  | refine ⟨_, _, rfl, Or.inr ⟨_, BW.SqT.of' (by walk_at "hf"), rfl⟩, ?_⟩
  | refine ⟨_, _, rfl, Or.inl ⟨_, BW.SqL.of' (by walk_at "hf"), rfl⟩, ?_⟩
  | refine And.intro (by walk_at "sz") (fun p G hp sG gp => ?_)
  | (intro p G hp sG gp; have z := (hp : (_ : Option L2.HO) = none); clear z)
  | refine Or.inl ⟨_, rfl, ?_⟩
  | refine Or.inr ⟨_, rfl, ?_⟩
  | refine ⟨_, _, rfl, by walk_at "sd", fun p G hp sG gp => ?_⟩
  | refine Or.inl ⟨_, _, rfl, BW.SqT.of' (by walk_at "hf"), rfl, ?_⟩
  | refine Or.inr ⟨_, _, rfl, BW.SqL.of' (by walk_at "hf"), rfl, ?_⟩
  | refine ⟨_, _, _, _, rfl, rfl, by walk_at "hf", rfl, ?_⟩
  | refine ⟨_, _, rfl, ?_⟩
  | refine ⟨_, _, _, rfl, ?_⟩
  | refine ⟨_, none, none, rfl, ?_⟩
  | refine ⟨_, some _, none, rfl, ?_⟩
  | refine ⟨_, some _, some _, rfl, ?_⟩
  | refine And.intro rfl ?_
  | refine Or.inr (And.intro (by assumption) ?_)
  | refine Or.inr (Or.inl ⟨_, _, rfl, rfl, And.intro (by walk_at "mx") ?_⟩)
  | refine Or.inr ⟨_, _, by walk_at "dp", by walk_at "dp", rfl, rfl, ?_⟩
  | refine Or.inl ⟨_, _, _, rfl, And.intro (by walk_at "hf") ?_⟩
  | refine ⟨_, _, _, rfl, And.intro (by walk_at "hf") ?_⟩
  | refine ⟨_, _, _, _, rfl, And.intro (by walk_at "wl") (And.intro (by walk_at "hf") ?_)⟩
  | refine And.intro (by walk_at "wl") ?_
  | refine And.intro (by walk_at "hf") ?_
  | refine And.intro (by walk_at "sd") ?_
  | refine ⟨_, _, _, _, _, _, _, _, rfl, And.intro (by walk_at "fa") (And.intro (by walk_at "fa") ?_)⟩
  | refine ⟨_, _, _, _, _, _, _, _, rfl, And.intro (by walk_at "fa") (And.intro (by assumption) (And.intro (by walk_at "zz") (And.intro (by walk_at "zz") ?_)))⟩
  | refine ⟨_, _, _, _, rfl, And.intro (by walk_at "fa") ?_⟩
  | refine ⟨_, _, _, _, _, _, rfl, And.intro (by walk_at "fa") (And.intro (by walk_at "fa") ?_)⟩
  | (intro r G x y hr sG fG wG yG eG; have z := (fG : BW.FrAt _ _ _ _ _); clear z)
  | refine And.intro (by walk_at "nz") ?_)
local macro_rules | `(tactic| walk_at "rd") => `(tactic| repeat (walk_at "r1"))
local macro_rules | `(tactic| walk_at "rq") => `(tactic| first
  | walk_at "r1"
  | refine BW.iteNb (BW.eqv_w (by assumption) (by assumption) (by grind)) ?_
  | refine BW.itePb (BW.eqv_w (by assumption) (by assumption) (by grind)) ?_)
local macro_rules | `(tactic| walk_at "rdq") => `(tactic| repeat (walk_at "rq"))
local macro_rules | `(tactic| walk_at "kw_len") => `(tactic| (intro α ws h; rcases ws with _ | ⟨a, _ | ⟨b, _ | ⟨c, _ | ⟨d, t⟩⟩⟩⟩ <;> first | rfl | exact absurd h (by simp)))
local macro_rules | `(tactic| walk_at "kw_rel") => `(tactic| (intro zs ws h; rcases h with _ | ⟨r1, _ | ⟨r2, _ | ⟨r3, _ | ⟨r4, t⟩⟩⟩⟩ <;> (repeat' first | assumption | constructor)))

local macro_rules | `(tactic| walk_at "r1") => `(tactic| refine Or.inr ⟨_, rfl, _, rfl, ⟨_, BW.SqT.of' (by walk_at "hf")⟩, ?_⟩)
local macro_rules | `(tactic| walk_at "hf") => `(tactic| exact BW.PolyAt.get (by assumption))
local macro_rules | `(tactic| walk_at "ri") => `(tactic| repeat ((fail_if_success (with_reducible show L2.tLc _ _ _ _ _ _ _ _)); walk_at "r1"))
--RAW
namespace BW
namespace MR
open PySem PySem.Spec PyProof.Rows L2
/-! ### mirrors: a def's run as a plain function over data -/
abbrev Dt := PyData
/-- classes of the text, by their numbers: where each stands -/
abbrev Cl := Nat → Addr
mutual
/-- v is the datum d, by what stands for good (F) -/
inductive Rp (K : PySem.W.Frag) (C : Cl) (F : Hp) : V → Dt → Prop
  | non : Rp K C F .non .none
  | bl (b : Bool) : Rp K C F (.bl b) (.bool b)
  | int (i : Int) : Rp K C F (.int i) (.int i)
  | str (x : Str) : Rp K C F (.str x) (.str x)
  | lst {a : Addr} {xs : List V} {ds : List Dt} : SqL K F a xs → RpA K C F xs ds → Rp K C F (.ref a) (.list ds)
  | tup {a : Addr} {xs : List V} {ds : List Dt} : SqT K F a xs → RpA K C F xs ds → Rp K C F (.ref a) (.tuple ds)
  | obj {a dx : Addr} {c : Nat} {fs : List (Str × V)} {ks : List (Dt × Dt)} : F a = some (.ins (C c) dx fs) → RpF K C F fs ks → Rp K C F (.ref a) (.dict ((.none, .int c) :: ks))
  | ord {a b : Addr} {o : Obj} {ns : List Int} : SqT K F a [.str (Str.ofString "order"), .ref b] → F b = some (.frz o (.tup (ns.map V.int))) → o.dict = none → Rp K C F (.ref a) (.dict [(.str (Str.ofString "order"), .list (ns.map .int))])
  | ed {a : Addr} : F a = some (.dK []) → Rp K C F (.ref a) (.dict [])
inductive RpA (K : PySem.W.Frag) (C : Cl) (F : Hp) : List V → List Dt → Prop
  | nil : RpA K C F [] []
  | cons {v : V} {vs : List V} {d : Dt} {ds : List Dt} : Rp K C F v d → RpA K C F vs ds → RpA K C F (v :: vs) (d :: ds)
inductive RpF (K : PySem.W.Frag) (C : Cl) (F : Hp) : List (Str × V) → List (Dt × Dt) → Prop
  | nil : RpF K C F [] []
  | cons {x : Str} {v : V} {d : Dt} {fs : List (Str × V)} {ks : List (Dt × Dt)} : Rp K C F v d → RpF K C F fs ks → RpF K C F ((x, v) :: fs) ((.str x, d) :: ks)
end
section
variable {K : PySem.W.Frag} {C : Cl} {F G H : Hp}
mutual
theorem Rp.same (e : Same F G) : ∀ {v : V} {d : Dt}, Rp K C F v d → Rp K C G v d
  | _, _, .non => .non
  | _, _, .bl b => .bl b
  | _, _, .int b => .int b
  | _, _, .str b => .str b
  | _, _, .lst h r => .lst (e.seq h) (RpA.same e r)
  | _, _, .tup h r => .tup (Same.tupS e h) (RpA.same e r)
  | _, _, .obj h r => .obj (e _ _ h) (RpF.same e r)
  | _, _, .ord h r z => .ord (Same.tupS e h) (e _ _ r) z
  | _, _, .ed h => .ed (e _ _ h)
theorem RpA.same (e : Same F G) : ∀ {v : List V} {d : List Dt}, RpA K C F v d → RpA K C G v d
  | _, _, .nil => .nil
  | _, _, .cons h r => .cons (Rp.same e h) (RpA.same e r)
theorem RpF.same (e : Same F G) : ∀ {v : List (Str × V)} {d : List (Dt × Dt)}, RpF K C F v d → RpF K C G v d
  | _, _, .nil => .nil
  | _, _, .cons h r => .cons (Rp.same e h) (RpF.same e r)
end
theorem RpA.length : ∀ {v : List V} {d : List Dt}, RpA K C F v d → v.length = d.length
  | _, _, .nil => rfl
  | _, _, .cons _ r => by rw [List.length_cons, List.length_cons, RpA.length r]
theorem RpA.append : ∀ {v : List V} {d : List Dt} {w : List V} {e : List Dt}, RpA K C F v d → RpA K C F w e → RpA K C F (v ++ w) (d ++ e)
  | _, _, _, _, .nil, s => s
  | _, _, _, _, .cons h r, s => .cons h (RpA.append r s)
theorem RpA.get : ∀ {v : List V} {d : List Dt} {i : Nat} {x : Dt}, RpA K C F v d → d[i]? = some x → ∃ u, v[i]? = some u ∧ Rp K C F u x
  | _, _, _, _, .nil, e => by simp at e
  | _, _, 0, _, .cons h r, e => by simp at e; subst e; exact ⟨_, rfl, h⟩
  | _, _, i + 1, x, .cons h r, e => by
    obtain ⟨u, h1, h2⟩ := RpA.get (i := i) (x := x) r (by simpa using e)
    exact ⟨u, by simpa using h1, h2⟩
theorem RpA.get' : ∀ {v : List V} {d : List Dt} {i : Nat} {u : V}, RpA K C F v d → v[i]? = some u → ∃ x, d[i]? = some x ∧ Rp K C F u x
  | _, _, _, _, .nil, e => by simp at e
  | _, _, 0, _, .cons h r, e => by simp at e; subst e; exact ⟨_, rfl, h⟩
  | _, _, i + 1, x, .cons h r, e => by
    obtain ⟨u, h1, h2⟩ := RpA.get' (i := i) (u := x) r (by simpa using e)
    exact ⟨u, by simpa using h1, h2⟩
theorem RpA.take : ∀ {v : List V} {d : List Dt} (n : Nat), RpA K C F v d → RpA K C F (v.take n) (d.take n)
  | _, _, 0, _ => .nil
  | _, _, _ + 1, .nil => .nil
  | _, _, n + 1, .cons h r => .cons h (RpA.take n r)
theorem RpA.drop : ∀ {v : List V} {d : List Dt} (n : Nat), RpA K C F v d → RpA K C F (v.drop n) (d.drop n)
  | _, _, 0, r => r
  | _, _, _ + 1, .nil => .nil
  | _, _, n + 1, .cons _ r => RpA.drop n r
theorem RpA.set {u : V} {x : Dt} (h : Rp K C F u x) : ∀ {v : List V} {d : List Dt} (n : Nat), RpA K C F v d → RpA K C F (v.set n u) (d.set n x)
  | _, _, _, .nil => .nil
  | _, _, 0, .cons _ r => .cons h r
  | _, _, n + 1, .cons q r => .cons q (RpA.set h n r)
theorem RpA.rep {u : V} {x : Dt} (h : Rp K C F u x) : ∀ n : Nat, RpA K C F (List.replicate n u) (List.replicate n x)
  | 0 => .nil
  | n + 1 => .cons h (RpA.rep h n)
theorem RpA.snoc {v : List V} {d : List Dt} {u : V} {x : Dt} (r : RpA K C F v d) (h : Rp K C F u x) : RpA K C F (v ++ [u]) (d ++ [x]) := r.append (.cons h .nil)
theorem RpA.reps {v : List V} {d : List Dt} (h : RpA K C F v d) : ∀ n : Nat, RpA K C F (List.replicate n v).flatten (List.replicate n d).flatten
  | 0 => .nil
  | n + 1 => by
    rw [List.replicate_succ, List.replicate_succ, List.flatten_cons, List.flatten_cons]
    exact h.append (RpA.reps h n)
theorem RpA.reverse : ∀ {v : List V} {d : List Dt}, RpA K C F v d → RpA K C F v.reverse d.reverse
  | _, _, .nil => .nil
  | _, _, .cons h r => by
    rw [List.reverse_cons, List.reverse_cons]
    exact (RpA.reverse r).snoc h
theorem RpA.ints : ∀ {v : List V} {ns : List Int}, RpA K C F v (ns.map PyData.int) → v = ns.map V.int
  | _, [], r => by cases r; rfl
  | _, n :: ns, r => by
    cases r with
    | cons h r =>
      cases h
      rw [RpA.ints r]
      rfl
theorem RpA.bools : ∀ {v : List V} {ns : List Bool}, RpA K C F v (ns.map PyData.bool) → v = ns.map V.bl
  | _, [], r => by cases r; rfl
  | _, n :: ns, r => by
    cases r with
    | cons h r =>
      cases h
      rw [RpA.bools r]
      rfl
theorem RpA.ofInts : ∀ ns : List Int, RpA K C F (ns.map V.int) (ns.map PyData.int)
  | [] => .nil
  | n :: ns => .cons (.int n) (RpA.ofInts ns)
end
/-- what a name of the def's own may change: a list, an instance -/
inductive Own where
  | L (ds : List Dt)
  | I (c : Nat) (ks : List (Dt × Dt))
def Own.dt : Own → Dt
  | .L ds => .list ds
  | .I c ks => .dict ((.none, .int c) :: ks)
/-- a slot -/
inductive SD where
  | un
  | val (d : Dt)
  | own (x : Own)
  | io (x : Own)
inductive Tag where
  | tmp
  | slot (i : Nat)
abbrev OO := Addr → Option (Tag × Own)
/-- an expression's value: a datum; what the i-th name holds; a new thing -/
inductive R where
  | v (d : Dt)
  | o (i : Nat)
  | n (x : Own)
structure Bs where
  S : L2.St
  H : Hp
  F : Hp
  A : Addr → Prop
section
variable (K : PySem.W.Frag) (C : Cl)
def OwnOk (F H : Hp) (p : Addr) : Own → Prop
  | .L ds => ∃ vs, H p = some (.lst vs) ∧ RpA K C F vs ds
  | .I c ks => ∃ dx fs, H p = some (.ins (C c) dx fs) ∧ RpF K C F fs ks
def SlotOk (B : Bs) (F : Hp) (O : OO) (σ : L2.St) (i : Nat) : SD → Prop
  | .val d => ∃ v, σ[i]? = some (some v) ∧ Rp K C F v d
  | .own x => ∃ p, σ[i]? = some (some (.ref p)) ∧ O p = some (.slot i, x) ∧ B.H p = none
  | .io x => ∃ p, σ[i]? = some (some (.ref p)) ∧ O p = some (.slot i, x) ∧ B.A p ∧ B.S[i]? = some (some (.ref p))
  | .un => True
structure Rel (B : Bs) (O : OO) (σ : L2.St) (H F : Hp) (τ : List SD) : Prop where
  len : τ.length = σ.length
  sub : Same F H
  f0 : Same B.F F
  fr : ∀ p o, B.H p = some o → ¬ B.A p → H p = some o
  nf : ∀ p o, F p = some o → B.F p = some o ∨ B.H p = none
  dm : ∀ p, H p = none → B.H p = none
  own : ∀ p t x, O p = some (t, x) → OwnOk K C F H p x ∧ F p = none ∧ (B.A p ∨ B.H p = none)
  slot : ∀ i s, τ[i]? = some s → SlotOk K C B F O σ i s
structure Ext (O : OO) (H F : Hp) (O' : OO) (H' F' : Hp) : Prop where
  f : Same F F'
  t : ∀ p x, O p = some (.tmp, x) → O' p = some (.tmp, x)
  d : ∀ p, H' p = none → H p = none
def RV (H0 : Hp) (O : OO) (F : Hp) (σ : L2.St) (v : V) : R → Prop
  | .v d => Rp K C F v d
  | .o i => σ[i]? = some (some v)
  | .n x => ∃ p, v = .ref p ∧ O p = some (.tmp, x) ∧ H0 p = none
def RVs (H0 : Hp) (O : OO) (F : Hp) (σ : L2.St) : List V → List R → Prop
  | [], [] => True
  | v :: vs, r :: rs => RV K C H0 O F σ v r ∧ RVs H0 O F σ vs rs
  | _, _ => False
end
abbrev M (α : Type) := List SD → Option (α × List SD)
def mb {α β : Type} (m : M α) (k : α → M β) : M β := fun τ => match m τ with
  | some (a, τ1) => k a τ1
  | none => none
theorem mb_some {α β : Type} {m : M α} {k : α → M β} {τ : List SD} {r : β × List SD} (h : mb m k τ = some r) : ∃ a τ1, m τ = some (a, τ1) ∧ k a τ1 = some r := by
  unfold mb at h
  split at h
  · rename_i a τ1 e
    exact ⟨a, τ1, e, h⟩
  · cases h
section
variable {K : PySem.W.Frag} {C : Cl} {B : Bs} {O O1 O2 O' : OO} {σ : L2.St} {H H0 H1 H2 H' F F0 F1 F2 F' : Hp} {τ τ' : List SD}
theorem Ext.refl : Ext O H F O H F := ⟨Same.refl _, fun _ _ h => h, fun _ h => h⟩
theorem Ext.trans (a : Ext O H F O1 H1 F1) (b : Ext O1 H1 F1 O2 H2 F2) : Ext O H F O2 H2 F2 := ⟨a.f.trans b.f, fun p x h => b.t p x (a.t p x h), fun p h => a.d p (b.d p h)⟩
theorem OwnOk.get {p : Addr} {x : Own} (h : OwnOk K C F H p x) : ∃ o, H p = some o := by
  cases x with
  | L ds => obtain ⟨vs, h, _⟩ := h; exact ⟨_, h⟩
  | I c ks => obtain ⟨dx, fs, h, _⟩ := h; exact ⟨_, h⟩
theorem OwnOk.mono {p : Addr} {x : Own} (h : OwnOk K C F H p x) (e : Same F F') (g : H' p = H p) : OwnOk K C F' H' p x := by
  cases x with
  | L ds => obtain ⟨vs, h, r⟩ := h; exact ⟨vs, g.trans h, r.same e⟩
  | I c ks => obtain ⟨dx, fs, h, r⟩ := h; exact ⟨dx, fs, g.trans h, r.same e⟩
theorem OwnOk.keep {p : Addr} {x : Own} (h : OwnOk K C F H p x) (e : Same F F') (g : Same H H') : OwnOk K C F' H' p x := by
  cases x with
  | L ds => obtain ⟨vs, h, r⟩ := h; exact ⟨vs, g _ _ h, r.same e⟩
  | I c ks => obtain ⟨dx, fs, h, r⟩ := h; exact ⟨dx, fs, g _ _ h, r.same e⟩
theorem RV.ext {v : V} {r : R} (h : RV K C H0 O F σ v r) (e : Ext O H F O' H' F') : RV K C H0 O' F' σ v r := by
  cases r with
  | v d => exact Rp.same e.f h
  | o i => exact h
  | n x => obtain ⟨p, h1, h2, h3⟩ := h; exact ⟨p, h1, e.t p x h2, h3⟩
theorem RV.back {v : V} {r : R} (h : RV K C H1 O F σ v r) (e : ∀ p, H1 p = none → H0 p = none) : RV K C H0 O F σ v r := by
  cases r with
  | v d => exact h
  | o i => exact h
  | n x => obtain ⟨p, h1, h2, h3⟩ := h; exact ⟨p, h1, h2, e p h3⟩
theorem RVs.ext : ∀ {vs : List V} {rs : List R}, RVs K C H0 O F σ vs rs → Ext O H F O' H' F' → RVs K C H0 O' F' σ vs rs
  | [], [], _, _ => True.intro
  | v :: vs, r :: rs, h, e => ⟨h.1.ext e, RVs.ext h.2 e⟩
  | [], _ :: _, h, _ => h.elim
  | _ :: _, [], h, _ => h.elim
theorem RVs.back : ∀ {vs : List V} {rs : List R}, RVs K C H1 O F σ vs rs → (∀ p, H1 p = none → H0 p = none) → RVs K C H0 O F σ vs rs
  | [], [], _, _ => True.intro
  | v :: vs, r :: rs, h, e => ⟨h.1.back e, RVs.back h.2 e⟩
  | [], _ :: _, h, _ => h.elim
  | _ :: _, [], h, _ => h.elim
/-! ### the heap grows -/
theorem Rel.new {p : Addr} {G : Hp} {u : HO} (R : Rel K C B O σ H F τ) (hp : H p = none) (sG : Same H G) (gG : G p = some u) :
    Rel K C B O σ G (upd F p u) τ ∧ Ext O H F O G (upd F p u) ∧ upd F p u p = some u := by
  have nF : F p = none := R.sub.free hp
  have sF : Same F (upd F p u) := same_new nF
  refine ⟨⟨R.len, ?_, R.f0.trans sF, fun q o h1 h2 => sG _ _ (R.fr q o h1 h2), ?_, fun q h => R.dm q (sG.free h), ?_, ?_⟩, ⟨sF, fun _ _ h => h, fun q h => sG.free h⟩, upd_same⟩
  · intro b o hb
    by_cases e : b = p
    · subst e
      rw [upd_same] at hb
      cases hb
      exact gG
    · rw [upd_ne e] at hb
      exact sG _ _ (R.sub _ _ hb)
  · intro q o hq
    by_cases e : q = p
    · subst e
      exact .inr (R.dm _ hp)
    · rw [upd_ne e] at hq
      exact R.nf q o hq
  · intro q t x hq
    obtain ⟨h1, h2, h3⟩ := R.own q t x hq
    obtain ⟨o, ho⟩ := h1.get
    have qp : q ≠ p := ne_of_none ho hp
    exact ⟨h1.keep sF sG, by rw [upd_ne qp]; exact h2, h3⟩
  · intro i s hi
    have h := R.slot i s hi
    cases s with
    | un => exact True.intro
    | val d => obtain ⟨v, h1, h2⟩ := h; exact ⟨v, h1, h2.same sF⟩
    | own x => exact h
    | io x => exact h
/-- the heap grows by what nobody looks at -/
theorem Rel.grow {G : Hp} (R : Rel K C B O σ H F τ) (sG : Same H G) : Rel K C B O σ G F τ ∧ Ext O H F O G F := by
  refine ⟨⟨R.len, R.sub.trans sG, R.f0, fun q o h1 h2 => sG _ _ (R.fr q o h1 h2), R.nf, fun q h => R.dm q (sG.free h), ?_, R.slot⟩, ⟨Same.refl _, fun _ _ h => h, fun q h => sG.free h⟩⟩
  intro q t x hq
  obtain ⟨h1, h2, h3⟩ := R.own q t x hq
  exact ⟨h1.keep (Same.refl _) sG, h2, h3⟩
/-- a new thing that may be changed -/
def putO (O : OO) (p : Addr) (t : Tag) (x : Own) : OO := fun q => if q = p then some (t, x) else O q
theorem Rel.newO {p : Addr} {G : Hp} {x : Own} (R : Rel K C B O σ H F τ) (hp : H p = none) (sG : Same H G) (gG : OwnOk K C F G p x) :
    Rel K C B (putO O p .tmp x) σ G F τ ∧ Ext O H F (putO O p .tmp x) G F ∧ putO O p .tmp x p = some (.tmp, x) := by
  have nF : F p = none := R.sub.free hp
  have nO : ∀ q t y, O q = some (t, y) → q ≠ p := fun q t y hq e => by
    obtain ⟨o, ho⟩ := (R.own q t y hq).1.get
    rw [e, hp] at ho
    cases ho
  obtain ⟨R1, E1⟩ := R.grow sG
  refine ⟨⟨R.len, R1.sub, R.f0, R1.fr, R.nf, R1.dm, ?_, ?_⟩, ⟨E1.f, ?_, E1.d⟩, if_pos rfl⟩
  · intro q t y hq
    unfold putO at hq
    split at hq
    · rename_i e
      subst e
      cases hq
      exact ⟨gG, nF, .inr (R.dm _ hp)⟩
    · exact R1.own q t y hq
  · intro i s hi
    have h := R.slot i s hi
    cases s with
    | un => exact True.intro
    | val d => exact h
    | own y =>
      obtain ⟨q, h1, h2, h3⟩ := h
      exact ⟨q, h1, (if_neg (nO _ _ _ h2)).trans h2, h3⟩
    | io y =>
      obtain ⟨q, h1, h2, h3⟩ := h
      exact ⟨q, h1, (if_neg (nO _ _ _ h2)).trans h2, h3⟩
  · intro q y hq
    exact (if_neg (nO _ _ _ hq)).trans hq
/-- what stood at p is left to itself -/
def cutO (O : OO) (p : Addr) : OO := fun q => if q = p then none else O q
theorem cutO_ne {p q : Addr} (h : q ≠ p) : cutO O p q = O q := if_neg h
/-- what may be changed is for good -/
theorem Rel.freeze {p : Addr} {t : Tag} {x : Own} (R : Rel K C B O σ H F τ) (hO : O p = some (t, x)) (hB : B.H p = none) (hs : ∀ (i : Nat) (y : Own), (τ[i]? = some (.own y) ∨ τ[i]? = some (.io y)) → σ[i]? ≠ some (some (V.ref p))) :
    ∃ F', Rel K C B (cutO O p) σ H F' τ ∧ Same F F' ∧ Rp K C F' (.ref p) x.dt := by
  obtain ⟨h1, h2, h3⟩ := R.own p t x hO
  obtain ⟨u, hu⟩ := h1.get
  have sF : Same F (upd F p u) := same_new h2
  refine ⟨upd F p u, ⟨R.len, ?_, R.f0.trans sF, R.fr, ?_, R.dm, ?_, ?_⟩, sF, ?_⟩
  · intro b o hb
    by_cases e : b = p
    · subst e
      rw [upd_same] at hb
      cases hb
      exact hu
    · rw [upd_ne e] at hb
      exact R.sub _ _ hb
  · intro q o hq
    by_cases e : q = p
    · subst e
      exact .inr hB
    · rw [upd_ne e] at hq
      exact R.nf q o hq
  · intro q t y hq
    unfold cutO at hq
    split at hq
    · cases hq
    · rename_i e
      obtain ⟨k1, k2, k3⟩ := R.own q t y hq
      exact ⟨k1.keep sF (Same.refl _), by rw [upd_ne e]; exact k2, k3⟩
  · intro i s hi
    have h := R.slot i s hi
    cases s with
    | un => exact True.intro
    | val d => obtain ⟨v, k1, k2⟩ := h; exact ⟨v, k1, k2.same sF⟩
    | own y =>
      obtain ⟨q, k1, k2, k3⟩ := h
      refine ⟨q, k1, ?_, k3⟩
      rw [cutO_ne]
      · exact k2
      · rintro rfl
        exact hs i y (.inl hi) k1
    | io y =>
      obtain ⟨q, k1, k2, k3⟩ := h
      refine ⟨q, k1, ?_, k3⟩
      rw [cutO_ne]
      · exact k2
      · rintro rfl
        exact hs i y (.inr hi) k1
  · cases x with
    | L ds =>
      obtain ⟨vs, g, r⟩ := h1
      rw [hu] at g
      cases g
      exact .lst (.inl (.inl upd_same)) (r.same sF)
    | I c ks =>
      obtain ⟨dx, fs, g, r⟩ := h1
      rw [hu] at g
      cases g
      exact .obj upd_same (r.same sF)
theorem Rel.slotAt {i j : Nat} {p : Addr} {x y : Own} (R : Rel K C B O σ H F τ) (hO : O p = some (.slot i, x)) (hj : τ[j]? = some (.own y) ∨ τ[j]? = some (.io y)) (hs : σ[j]? = some (some (.ref p))) : j = i := by
  rcases hj with hj | hj
  · obtain ⟨q, k1, k2, _⟩ := R.slot j _ hj
    rw [hs] at k1
    cases k1
    rw [hO] at k2
    cases k2
    rfl
  · obtain ⟨q, k1, k2, _⟩ := R.slot j _ hj
    rw [hs] at k1
    cases k1
    rw [hO] at k2
    cases k2
    rfl
theorem Rel.slotTmp {j : Nat} {p : Addr} {x y : Own} (R : Rel K C B O σ H F τ) (hO : O p = some (.tmp, x)) (hj : τ[j]? = some (.own y) ∨ τ[j]? = some (.io y)) : σ[j]? ≠ some (some (.ref p)) := fun hs => by
  rcases hj with hj | hj
  · obtain ⟨q, k1, k2, _⟩ := R.slot j _ hj
    rw [hs] at k1
    cases k1
    rw [hO] at k2
    cases k2
  · obtain ⟨q, k1, k2, _⟩ := R.slot j _ hj
    rw [hs] at k1
    cases k1
    rw [hO] at k2
    cases k2
end
end MR
end BW
--RAW
namespace BW
namespace MR
open PySem PySem.Spec PyProof.Rows L2
section
variable (K : PySem.W.Frag) (C : Cl)
/-- what a reading of the text asks is met by what the mirror tells -/
def J {α β : Type} (RR : Hp → OO → Hp → L2.St → β → α → Prop) (t : L2.St → Hp → (β → Hp → Prop) → Prop) (m : M α) : Prop :=
  ∀ (B : Bs) (O : OO) (σ : L2.St) (H F : Hp) (τ : List SD), Rel K C B O σ H F τ → ∀ (a : α) (τ' : List SD), m τ = some (a, τ') → ∀ Q : β → Hp → Prop,
    (∀ b H' F' O', Rel K C B O' σ H' F' τ' → Ext O H F O' H' F' → RR H O' F' σ b a → Q b H') → t σ H Q
abbrev JE (t : TE) (m : M R) : Prop := J K C (RV K C) t m
abbrev JT (t : TT) (m : M Bool) : Prop := J K C (fun _ _ _ _ b a => b = a) t m
abbrev JA (t : TA) (m : M (List R)) : Prop := J K C (RVs K C) t m
def Vw (F H : Hp) (v : V) (d : Dt) : Prop := Rp K C F v d ∨ ∃ p x, v = .ref p ∧ OwnOk K C F H p x ∧ d = x.dt
end
/-- what a value is now -/
def vw (τ : List SD) : R → Option Dt
  | .v d => some d
  | .n x => some x.dt
  | .o i => match τ[i]? with
    | some (.val d) => some d
    | some (.own x) => some x.dt
    | some (.io x) => some x.dt
    | _ => none
section
variable {K : PySem.W.Frag} {C : Cl} {B : Bs} {O O1 O2 O' : OO} {σ : L2.St} {H H0 H1 H2 H' F F0 F1 F2 F' : Hp} {τ τ' : List SD} {v : V}
theorem vw_ok {r : R} {d : Dt} (R : Rel K C B O σ H F τ) (h : RV K C H0 O F σ v r) (e : vw τ r = some d) : Vw K C F H v d := by
  cases r with
  | v d' => cases e; exact .inl h
  | n x =>
    cases e
    obtain ⟨p, rfl, h2, _⟩ := h
    exact .inr ⟨p, x, rfl, (R.own _ _ _ h2).1, rfl⟩
  | o i =>
    unfold vw at e
    dsimp only at e
    split at e
    · rename_i d' hs
      cases e
      obtain ⟨w, h1, h2⟩ := R.slot i _ hs
      have h : σ[i]? = some (some v) := h
      rw [h1] at h
      cases h
      exact .inl h2
    · rename_i x hs
      cases e
      obtain ⟨p, h1, h2, _⟩ := R.slot i _ hs
      have h : σ[i]? = some (some v) := h
      rw [h1] at h
      cases h
      exact .inr ⟨p, x, rfl, (R.own _ _ _ h2).1, rfl⟩
    · rename_i x hs
      cases e
      obtain ⟨p, h1, h2, _⟩ := R.slot i _ hs
      have h : σ[i]? = some (some v) := h
      rw [h1] at h
      cases h
      exact .inr ⟨p, x, rfl, (R.own _ _ _ h2).1, rfl⟩
    · cases e
theorem Vw.int {i : Int} (h : Vw K C F H v (.int i)) : v = .int i := by
  rcases h with h | ⟨p, x, _, _, e⟩
  · cases h; rfl
  · cases x <;> cases e
theorem Vw.bool {i : Bool} (h : Vw K C F H v (.bool i)) : v = .bl i := by
  rcases h with h | ⟨p, x, _, _, e⟩
  · cases h; rfl
  · cases x <;> cases e
theorem Vw.str {i : Str} (h : Vw K C F H v (.str i)) : v = .str i := by
  rcases h with h | ⟨p, x, _, _, e⟩
  · cases h; rfl
  · cases x <;> cases e
theorem Vw.none (h : Vw K C F H v .none) : v = .non := by
  rcases h with h | ⟨p, x, _, _, e⟩
  · cases h; rfl
  · cases x <;> cases e
theorem Vw.list {ds : List Dt} (s : Same F H) (h : Vw K C F H v (.list ds)) : ∃ p vs, v = .ref p ∧ SqL K H p vs ∧ RpA K C F vs ds := by
  rcases h with h | ⟨p, x, rfl, h, e⟩
  · cases h with
    | lst h r => exact ⟨_, _, rfl, s.seq h, r⟩
  · cases x with
    | L ds' =>
      cases e
      obtain ⟨vs, h, r⟩ := h
      exact ⟨p, vs, rfl, .inl (.inl h), r⟩
    | I c ks => cases e
theorem Vw.tup {ds : List Dt} (h : Vw K C F H v (.tuple ds)) : ∃ p vs, v = .ref p ∧ SqT K F p vs ∧ RpA K C F vs ds := by
  rcases h with h | ⟨p, x, rfl, h, e⟩
  · cases h with
    | tup h r => exact ⟨_, _, rfl, h, r⟩
  · cases x <;> cases e
theorem Vw.tupH {ds : List Dt} (s : Same F H) (h : Vw K C F H v (.tuple ds)) : ∃ p vs, v = .ref p ∧ SqT K H p vs ∧ RpA K C F vs ds := by
  obtain ⟨p, vs, e, h, r⟩ := h.tup
  exact ⟨p, vs, e, Same.tupS s h, r⟩
theorem Vw.mono {d : Dt} (h : Vw K C F H v d) (e : Same F F') (g : Same H H') : Vw K C F' H' v d := by
  rcases h with h | ⟨p, x, rfl, h, e'⟩
  · exact .inl (h.same e)
  · exact .inr ⟨p, x, rfl, h.keep e g, e'⟩
mutual
theorem Rp.dp (s : Same F H) : ∀ {v : V} {d : Dt}, Rp K C F v d → d.canLay0 = true → Dp K H v d
  | _, _, .non, _ => .non
  | _, _, .bl b, _ => .bl b
  | _, _, .int b, _ => .int b
  | _, _, .str b, _ => .str b
  | _, _, .lst h r, e => .lst (s.seq h) (RpA.dp s r (by simpa only [PyData.canLay0] using e))
  | _, _, .tup h r, e => .tup (Same.tupS s h) (RpA.dp s r (by simpa only [PyData.canLay0] using e))
  | _, _, .obj h r, e => by simp only [PyData.canLay0] at e; cases e
  | _, _, .ord h r z, e => by simp only [PyData.canLay0] at e; cases e
  | _, _, .ed h, e => by simp only [PyData.canLay0] at e; cases e
theorem RpA.dp (s : Same F H) : ∀ {v : List V} {d : List Dt}, RpA K C F v d → PyData.canLayAll0 d = true → DpAll K H v d
  | _, _, .nil, _ => .nil
  | _, _, .cons h r, e => by
    simp only [PyData.canLayAll0, Bool.and_eq_true] at e
    exact .cons (Rp.dp s h e.1) (RpA.dp s r e.2)
end
theorem Vw.dp {d : Dt} (s : Same F H) (h : Vw K C F H v d) (e : d.canLay0 = true) : Dp K H v d := by
  rcases h with h | ⟨p, x, rfl, h, rfl⟩
  · exact h.dp s e
  · cases x with
    | L ds =>
      obtain ⟨vs, h, r⟩ := h
      exact .lst (.inl (.inl h)) (r.dp s (by simpa only [Own.dt, PyData.canLay0] using e))
    | I c ks => simp only [Own.dt, PyData.canLay0] at e; cases e
end
/-! ### operators -/
section
variable (K : PySem.W.Frag) (C : Cl)
/-- an operator of two values, by data -/
def OpJ (r : R2) (f : Dt → Dt → Option R) : Prop :=
  ∀ (B : Bs) (O : OO) (σ : L2.St) (H F : Hp) (τ : List SD) (x y : V) (dx dy : Dt) (res : R), Rel K C B O σ H F τ → Vw K C F H x dx → Vw K C F H y dy → f dx dy = some res → ∀ Q : VK,
    (∀ v H' F' O', Rel K C B O' σ H' F' τ → Ext O H F O' H' F' → RV K C H O' F' σ v res → Q v H') → r x y H Q
def FnJ (r : List V → Hp → VK → Prop) (f : List Dt → Option R) : Prop :=
  ∀ (B : Bs) (O : OO) (σ : L2.St) (H F : Hp) (τ : List SD) (xs : List V) (ds : List Dt) (res : R), Rel K C B O σ H F τ → Paired (Vw K C F H) xs ds → f ds = some res → ∀ Q : VK,
    (∀ v H' F' O', Rel K C B O' σ H' F' τ → Ext O H F O' H' F' → RV K C H O' F' σ v res → Q v H') → r xs H Q
end
def eOp (f : Dt → Dt → Option R) (a b : M R) : M R := mb a fun x => mb b fun y => fun τ => match vw τ x, vw τ y with
  | some dx, some dy => (f dx dy).map (·, τ)
  | _, _ => none
def eC (d : Dt) : M R := fun τ => some (.v d, τ)
/-- what a name holds -/
def eV (i : Nat) : M R := fun τ => match τ[i]? with
  | some (.val d) => some (.v d, τ)
  | some (.own _) => some (.o i, τ)
  | some (.io _) => some (.o i, τ)
  | _ => none
def vws (τ : List SD) : List R → Option (List Dt)
  | [] => some []
  | r :: rs => match vw τ r, vws τ rs with
    | some d, some ds => some (d :: ds)
    | _, _ => none
/-- the datum is for good from here on -/
def fzR (r : R) : M Dt := fun τ => match r with
  | .v d => some (d, τ)
  | .n x => some (x.dt, τ)
  | .o i => match τ[i]? with
    | some (.val d) => some (d, τ)
    | some (.own x) => some (x.dt, τ.set i (.val x.dt))
    | _ => none
def aNil : M (List R) := fun τ => some ([], τ)
def aCons (a : M R) (b : M (List R)) : M (List R) := mb a fun x => mb b fun xs => fun τ => some (x :: xs, τ)
/-- an argument that is for good -/
def eF (a : M R) : M R := mb a fun x => mb (fzR x) fun d => fun τ => some (.v d, τ)
section
variable {K : PySem.W.Frag} {C : Cl} {B : Bs} {O O1 O2 O' : OO} {σ : L2.St} {H H0 H1 H2 H' F F0 F1 F2 F' : Hp} {τ τ' : List SD} {v : V}
theorem vws_ok : ∀ {rs : List R} {vs : List V} {ds : List Dt}, Rel K C B O σ H F τ → RVs K C H0 O F σ vs rs → vws τ rs = some ds → Paired (Vw K C F H) vs ds
  | [], [], _, _, _, e => by cases e; exact .nil
  | r :: rs, v :: vs, ds, R, h, e => by
    unfold vws at e
    split at e
    · rename_i d ds' e1 e2
      cases e
      exact .cons (vw_ok R h.1 e1) (vws_ok R h.2 e2)
    · cases e
  | [], _ :: _, _, _, h, _ => h.elim
  | _ :: _, [], _, _, h, _ => h.elim
theorem Rel.live (R : Rel K C B O σ H F τ) : ∀ q x, O q = some (.tmp, x) → H q ≠ none := fun q x h e => by
  obtain ⟨o, ho⟩ := (R.own _ _ _ h).1.get
  rw [ho] at e
  cases e
theorem Ext.cut {p : Addr} (E : Ext O H F O1 H1 F1) (hl : ∀ q x, O q = some (.tmp, x) → H q ≠ none) (hp : H p = none) (sF : Same F1 F2) : Ext O H F (cutO O1 p) H1 F2 :=
  ⟨E.f.trans sF, fun q x h => by rw [cutO_ne (fun e => hl q x h (by rw [e]; exact hp))]; exact E.t q x h, E.d⟩
theorem Ext.cutS {p : Addr} {i : Nat} {y : Own} (E : Ext O H F O1 H1 F1) (hp : O1 p = some (.slot i, y)) (sF : Same F1 F2) : Ext O H F (cutO O1 p) H1 F2 :=
  ⟨E.f.trans sF, fun q x h => (by
    have k := E.t q x h
    rw [cutO_ne]
    · exact k
    · rintro rfl
      rw [hp] at k
      cases k), E.d⟩
theorem Rel.setSame {i : Nat} {d : Dt} (R : Rel K C B O σ H F τ) (h : ∃ v, σ[i]? = some (some v) ∧ Rp K C F v d) : Rel K C B O σ H F (τ.set i (.val d)) := by
  refine ⟨by rw [List.length_set]; exact R.len, R.sub, R.f0, R.fr, R.nf, R.dm, R.own, fun j s hj => ?_⟩
  rw [List.getElem?_set] at hj
  split at hj
  · rename_i e
    subst e
    split at hj
    · cases hj
      exact h
    · cases hj
  · exact R.slot j s hj
theorem Rel.setUn {i : Nat} (R : Rel K C B O σ H F τ) : Rel K C B O σ H F (τ.set i .un) := by
  refine ⟨by rw [List.length_set]; exact R.len, R.sub, R.f0, R.fr, R.nf, R.dm, R.own, fun j s hj => ?_⟩
  rw [List.getElem?_set] at hj
  split at hj
  · split at hj
    · cases hj
      exact True.intro
    · cases hj
  · exact R.slot j s hj
theorem unNe {i j : Nat} {y : Own} (h : (τ.set i .un)[j]? = some (.own y) ∨ (τ.set i .un)[j]? = some (.io y)) : j ≠ i ∧ (τ[j]? = some (.own y) ∨ τ[j]? = some (.io y)) := by
  rw [List.getElem?_set] at h
  by_cases e : i = j
  · rw [if_pos e] at h
    split at h <;> rcases h with h | h <;> cases h
  · rw [if_neg e] at h
    exact ⟨fun z => e z.symm, h⟩
/-- a slot's thing is for good -/
theorem Rel.fzSlot {i : Nat} {x : Own} {p : Addr} (R0 : Rel K C B O σ H F τ') (R : Rel K C B O1 σ H1 F1 τ) (E : Ext O H F O1 H1 F1) (hs : τ[i]? = some (.own x)) (hp : σ[i]? = some (some (.ref p))) :
    ∃ O2 F2, Rel K C B O2 σ H1 F2 (τ.set i (.val x.dt)) ∧ Ext O H F O2 H1 F2 ∧ Same F1 F2 ∧ Rp K C F2 (.ref p) x.dt := by
  obtain ⟨q, h1, h2, h3⟩ := R.slot i _ hs
  rw [hp] at h1
  cases h1
  obtain ⟨F2, R2, s2, r2⟩ := (R.setUn (i := i)).freeze h2 h3 (fun j y hj hz => by
    obtain ⟨n, hj⟩ := unNe hj
    exact n (R.slotAt h2 hj hz))
  refine ⟨_, F2, ?_, E.cutS h2 s2, s2, r2⟩
  have := R2.setSame (i := i) (d := x.dt) ⟨_, hp, r2⟩
  rwa [List.set_set] at this
/-- a datum for good -/
theorem fz_ok {r : R} {d : Dt} {τ0 : List SD} (R0 : Rel K C B O σ H F τ0) (R : Rel K C B O1 σ H1 F1 τ) (E : Ext O H F O1 H1 F1) (h : RV K C H O1 F1 σ v r) (e : fzR r τ = some (d, τ')) :
    ∃ O2 F2, Rel K C B O2 σ H1 F2 τ' ∧ Ext O H F O2 H1 F2 ∧ Same F1 F2 ∧ Rp K C F2 v d := by
  cases r with
  | v d' => cases e; exact ⟨O1, F1, R, E, Same.refl _, h⟩
  | n x =>
    cases e
    obtain ⟨p, rfl, h2, h3⟩ := h
    obtain ⟨F2, R2, s2, r2⟩ := R.freeze h2 (R0.dm _ h3) (fun i y hi => R.slotTmp h2 hi)
    exact ⟨_, F2, R2, E.cut R0.live h3 s2, s2, r2⟩
  | o i =>
    unfold fzR at e
    dsimp only at e
    split at e
    · rename_i d' hs
      cases e
      obtain ⟨w, h1, h2⟩ := R.slot i _ hs
      have h : σ[i]? = some (some v) := h
      rw [h1] at h
      cases h
      exact ⟨O1, F1, R, E, Same.refl _, h2⟩
    · rename_i x hs
      cases e
      obtain ⟨p, h1, h2, h3⟩ := R.slot i _ hs
      have h : σ[i]? = some (some v) := h
      rw [h1] at h
      cases h
      exact Rel.fzSlot R0 R E hs h1
    · cases e
end
end MR
end BW
--RAW
namespace BW
namespace MR
open PySem PySem.Spec PyProof.Rows L2
section
variable {K : PySem.W.Frag} {C : Cl}
/-! ### expressions -/
theorem jC {v : V} {d : Dt} (h : ∀ F, Rp K C F v d) : JE K C (tC v) (eC d) := by
  intro B O σ H F τ R a τ' e Q q
  cases e
  exact q _ _ _ _ R Ext.refl (h F)
theorem jV (i : Nat) : JE K C (tVar i) (eV i) := by
  intro B O σ H F τ R a τ' e Q q
  unfold eV at e
  split at e
  · rename_i d hs
    cases e
    obtain ⟨w, h1, h2⟩ := R.slot i _ hs
    exact ⟨w, h1, q _ _ _ _ R Ext.refl h2⟩
  · rename_i d hs
    cases e
    obtain ⟨p, h1, h2⟩ := R.slot i _ hs
    exact ⟨_, h1, q _ _ _ _ R Ext.refl h1⟩
  · rename_i d hs
    cases e
    obtain ⟨p, h1, h2⟩ := R.slot i _ hs
    exact ⟨_, h1, q _ _ _ _ R Ext.refl h1⟩
  · cases e
theorem jOp {r : R2} {f : Dt → Dt → Option R} {ta tb : TE} {ea eb : M R} (ho : OpJ K C r f) (ha : JE K C ta ea) (hb : JE K C tb eb) : JE K C (tOp r ta tb) (eOp f ea eb) := by
  intro B O σ H F τ R a τ' e Q q
  obtain ⟨x, τ1, e1, e⟩ := mb_some e
  obtain ⟨y, τ2, e2, e⟩ := mb_some e
  refine ha B O σ H F τ R _ _ e1 _ fun v1 H1 F1 O1 R1 E1 r1 => ?_
  refine hb B O1 σ H1 F1 _ R1 _ _ e2 _ fun v2 H2 F2 O2 R2 E2 r2 => ?_
  split at e
  · rename_i dx dy g1 g2
    obtain ⟨res, g3, g4⟩ := Option.map_eq_some_iff.mp e
    cases g4
    exact ho B O2 σ H2 F2 _ v1 v2 dx dy _ R2 (vw_ok R2 (r1.ext E2) g1) (vw_ok R2 r2 g2) g3 Q fun v H' F' O' R' E' r' => q v H' F' O' R' ((E1.trans E2).trans E') (r'.back fun p h => (E1.trans E2).d p h)
  · cases e
def eUn (f : Dt → Option R) (a : M R) : M R := mb a fun x => fun τ => match vw τ x with
  | some dx => (f dx).map (·, τ)
  | _ => none
def UnJ (K : PySem.W.Frag) (C : Cl) (r : V → Hp → VK → Prop) (f : Dt → Option R) : Prop :=
  ∀ (B : Bs) (O : OO) (σ : L2.St) (H F : Hp) (τ : List SD) (x : V) (dx : Dt) (res : R), Rel K C B O σ H F τ → Vw K C F H x dx → f dx = some res → ∀ Q : VK,
    (∀ v H' F' O', Rel K C B O' σ H' F' τ → Ext O H F O' H' F' → RV K C H O' F' σ v res → Q v H') → r x H Q
theorem jUn {r : V → Hp → VK → Prop} {f : Dt → Option R} {ta : TE} {ea : M R} (ho : UnJ K C r f) (ha : JE K C ta ea) : JE K C (tUn r ta) (eUn f ea) := by
  intro B O σ H F τ R a τ' e Q q
  obtain ⟨x, τ1, e1, e⟩ := mb_some e
  refine ha B O σ H F τ R _ _ e1 _ fun v1 H1 F1 O1 R1 E1 r1 => ?_
  split at e
  · rename_i dx g1
    obtain ⟨res, g3, g4⟩ := Option.map_eq_some_iff.mp e
    cases g4
    exact ho B O1 σ H1 F1 _ v1 dx _ R1 (vw_ok R1 r1 g1) g3 Q fun v H' F' O' R' E' r' => q v H' F' O' R' (E1.trans E') (r'.back fun p h => E1.d p h)
  · cases e
theorem jaNil : JA K C tNil aNil := by
  intro B O σ H F τ R a τ' e Q q
  cases e
  exact q _ _ _ _ R Ext.refl True.intro
theorem jaCons {ta : TE} {t : TA} {ea : M R} {er : M (List R)} (ha : JE K C ta ea) (hr : JA K C t er) : JA K C (tCons ta t) (aCons ea er) := by
  intro B O σ H F τ R a τ' e Q q
  obtain ⟨x, τ1, e1, e⟩ := mb_some e
  obtain ⟨y, τ2, e2, e⟩ := mb_some e
  cases e
  refine ha B O σ H F τ R _ _ e1 _ fun v1 H1 F1 O1 R1 E1 r1 => ?_
  refine hr B O1 σ H1 F1 _ R1 _ _ e2 _ fun v2 H2 F2 O2 R2 E2 r2 => ?_
  exact q _ _ _ _ R2 (E1.trans E2) ⟨r1.ext E2, RVs.back r2 fun p h => E1.d p h⟩
theorem jF {ta : TE} {ea : M R} (ha : JE K C ta ea) : JE K C ta (eF ea) := by
  intro B O σ H F τ R a τ' e Q q
  obtain ⟨x, τ1, e1, e⟩ := mb_some e
  obtain ⟨d, τ2, e2, e⟩ := mb_some e
  cases e
  refine ha B O σ H F τ R _ _ e1 _ fun v1 H1 F1 O1 R1 E1 r1 => ?_
  obtain ⟨O2, F2, R2, E2, _, r2⟩ := fz_ok R R1 E1 r1 e2
  exact q _ _ _ _ R2 E2 r2
def eFn (f : List Dt → Option R) (as : M (List R)) : M R := mb as fun rs => fun τ => match vws τ rs with
  | some ds => (f ds).map (·, τ)
  | none => none
theorem jFn {r : List V → Hp → VK → Prop} {f : List Dt → Option R} {ta : TA} {ea : M (List R)} (ho : FnJ K C r f) (ha : JA K C ta ea) : JE K C (tCB r ta) (eFn f ea) := by
  intro B O σ H F τ R a τ' e Q q
  obtain ⟨x, τ1, e1, e⟩ := mb_some e
  refine ha B O σ H F τ R _ _ e1 _ fun v1 H1 F1 O1 R1 E1 r1 => ?_
  split at e
  · rename_i ds g1
    obtain ⟨res, g3, g4⟩ := Option.map_eq_some_iff.mp e
    cases g4
    exact ho B O1 σ H1 F1 _ v1 ds _ R1 (vws_ok R1 r1 g1) g3 Q fun v H' F' O' R' E' r' => q v H' F' O' R' (E1.trans E') (r'.back fun p h => E1.d p h)
  · cases e
/-! a tuple, a list -/
def rds : List R → Option (List Dt)
  | [] => some []
  | .v d :: rs => (rds rs).map (d :: ·)
  | _ :: _ => none
theorem rds_ok {H0 : Hp} {O : OO} {F : Hp} {σ : L2.St} : ∀ {rs : List R} {vs : List V} {ds : List Dt}, RVs K C H0 O F σ vs rs → rds rs = some ds → RpA K C F vs ds
  | [], [], _, _, e => by cases e; exact .nil
  | .v d :: rs, v :: vs, ds, h, e => by
    obtain ⟨ds', e1, e2⟩ := Option.map_eq_some_iff.mp e
    cases e2
    exact .cons h.1 (rds_ok h.2 e1)
  | .o _ :: _, _, _, _, e => by cases e
  | .n _ :: _, _, _, _, e => by cases e
  | [], _ :: _, _, h, _ => h.elim
  | _ :: _, [], _, h, _ => h.elim
def eTup (as : M (List R)) : M R := mb as fun rs => fun τ => match rds rs with
  | some ds => if ds.length ≤ 1000000 then some (.v (.tuple ds), τ) else none
  | none => none
def eLst (as : M (List R)) : M R := mb as fun rs => fun τ => match rds rs with
  | some ds => if ds.length ≤ 1000000 then some (.n (.L ds), τ) else none
  | none => none
theorem million : (1000000 : Nat) ≤ sizeLine := by decide
section
variable {B : Bs} {O : OO} {σ : L2.St} {H F H0 : Hp} {τ : List SD}
theorem fin_tup {vs : List V} {ds : List Dt} {Q : VK} (R : Rel K C B O σ H F τ) (r : RpA K C F vs ds) (q : ∀ v H' F' O', Rel K C B O' σ H' F' τ → Ext O H F O' H' F' → RV K C H O' F' σ v (.v (.tuple ds)) → Q v H') : New H (.tup vs) Q := fun p G hp sG gG => by
  obtain ⟨R1, E1, g⟩ := R.new hp sG gG
  exact q _ _ _ _ R1 E1 (.tup (.inl (.inl g)) (r.same E1.f))
theorem fin_lst {vs : List V} {ds : List Dt} {Q : VK} (R : Rel K C B O σ H F τ) (r : RpA K C F vs ds) (q : ∀ v H' F' O', Rel K C B O' σ H' F' τ → Ext O H F O' H' F' → RV K C H O' F' σ v (.n (.L ds)) → Q v H') : New H (.lst vs) Q := fun p G hp sG gG => by
  obtain ⟨R1, E1, g⟩ := R.newO (x := .L ds) hp sG ⟨vs, gG, r⟩
  exact q _ _ _ _ R1 E1 ⟨p, rfl, g, hp⟩
theorem fin_v {v : V} {d : Dt} {Q : VK} (R : Rel K C B O σ H F τ) (r : Rp K C F v d) (q : ∀ v H' F' O', Rel K C B O' σ H' F' τ → Ext O H F O' H' F' → RV K C H O' F' σ v (.v d) → Q v H') : Q v H := q _ _ _ _ R Ext.refl r
end
theorem jTup {ta : TA} {ea : M (List R)} (ha : JA K C ta ea) : JE K C (nTup ta) (eTup ea) := by
  intro B O σ H F τ R a τ' e Q q
  obtain ⟨x, τ1, e1, e⟩ := mb_some e
  refine ha B O σ H F τ R _ _ e1 _ fun v1 H1 F1 O1 R1 E1 r1 => ?_
  split at e
  · rename_i ds g1
    split at e
    · rename_i hl
      cases e
      have r := rds_ok r1 g1
      exact ⟨by rw [r.length]; exact Nat.le_trans hl million, fin_tup R1 r fun v H' F' O' R' E' r' => q v H' F' O' R' (E1.trans E') (r'.back fun p h => E1.d p h)⟩
    · cases e
  · cases e
theorem jLst {ta : TA} {ea : M (List R)} (ha : JA K C ta ea) : JE K C (nLst ta) (eLst ea) := by
  intro B O σ H F τ R a τ' e Q q
  obtain ⟨x, τ1, e1, e⟩ := mb_some e
  refine ha B O σ H F τ R _ _ e1 _ fun v1 H1 F1 O1 R1 E1 r1 => ?_
  split at e
  · rename_i ds g1
    split at e
    · rename_i hl
      cases e
      have r := rds_ok r1 g1
      exact ⟨by rw [r.length]; exact Nat.le_trans hl million, fin_lst R1 r fun v H' F' O' R' E' r' => q v H' F' O' R' (E1.trans E') (r'.back fun p h => E1.d p h)⟩
    · cases e
  · cases e
/-! ### operators by data -/
def isSm (i : Int) : Bool := decide (i.natAbs < 2 ^ 8000)
theorem isSm_of {i : Int} (h : isSm i = true) : small i := (of_decide_eq_true h : i.natAbs < 2 ^ 8000)
theorem isSm_lt {i : Int} {k : Nat} (h : sz k i) (hk : k ≤ 8000) : isSm i = true := decide_eq_true (sz_small h hk)
def mulOk (i j : Int) : Bool := decide (i.natAbs < 18446744073709551616) || decide (j.natAbs < 18446744073709551616) || (isSm i && isSm j)
def addD : Dt → Dt → Option R
  | .int i, .int j => some (.v (.int (i + j)))
  | .list xs, .list ys => if xs.length + ys.length ≤ 1000000 then some (.n (.L (xs ++ ys))) else none
  | .tuple xs, .tuple ys => if xs.length + ys.length ≤ 1000000 then some (.v (.tuple (xs ++ ys))) else none
  | .str a, .str b => if a.length + b.length ≤ 1000000 then some (.v (.str (a ++ b))) else none
  | _, _ => none
theorem oj_add : OpJ K C (rPlus K) addD := by
  intro B O σ H F τ x y dx dy res R hx hy e Q q
  unfold addD at e
  split at e
  · cases e
    cases hx.int
    cases hy.int
    exact .inl ⟨_, _, rfl, rfl, fin_v R (.int _) q⟩
  · split at e
    · rename_i hl
      cases e
      obtain ⟨p, vs, rfl, h1, r1⟩ := hx.list R.sub
      obtain ⟨p2, vs2, rfl, h2, r2⟩ := hy.list R.sub
      exact .inr (.inl ⟨_, _, _, _, rfl, rfl, h1, h2, by rw [r1.length, r2.length]; exact Nat.le_trans hl million, fin_lst R (r1.append r2) q⟩)
    · cases e
  · rename_i xs ys
    split at e
    · rename_i hl
      cases e
      obtain ⟨p, vs, rfl, h1, r1⟩ := hx.tup
      obtain ⟨p2, vs2, rfl, h2, r2⟩ := hy.tup
      refine .inr (.inr (.inl ⟨_, _, _, _, rfl, rfl, Same.tupS R.sub h1, Same.tupS R.sub h2, by rw [r1.length, r2.length]; exact Nat.le_trans hl million, fun e => ?_, fun _ e => ?_, fun _ _ => fin_tup R (r1.append r2) q⟩))
      · have e0 : xs = [] := List.eq_nil_of_length_eq_zero (by rw [← r1.length, e]; rfl)
        rw [e0, List.nil_append] at q
        exact fin_v R (.tup h2 r2) q
      · have e0 : ys = [] := List.eq_nil_of_length_eq_zero (by rw [← r2.length, e]; rfl)
        rw [e0, List.append_nil] at q
        exact fin_v R (.tup h1 r1) q
    · cases e
  · split at e
    · rename_i hl
      cases e
      cases hx.str
      cases hy.str
      exact .inr (.inr (.inr ⟨_, _, rfl, rfl, Nat.le_trans hl million, fin_v R (.str _) q⟩))
    · cases e
  · cases e
def subD : Dt → Dt → Option R
  | .int i, .int j => some (.v (.int (i - j)))
  | _, _ => none
theorem oj_sub : OpJ K C rSubt subD := by
  intro B O σ H F τ x y dx dy res R hx hy e Q q
  unfold subD at e
  split at e
  · cases e
    cases hx.int
    cases hy.int
    exact ⟨_, _, rfl, rfl, fin_v R (.int _) q⟩
  · cases e
/-- list * k, written, locked or tracked -/
def nRepL (K : PySem.W.Frag) : R2 := fun x y H Q => ∃ l k xs, x = .ref l ∧ y = .int k ∧ SqL K H l xs ∧ -(2 ^ 63) ≤ k ∧ k < 2 ^ 63 ∧ xs.length * k.toNat ≤ sizeLine ∧ New H (.lst (List.replicate k.toNat xs).flatten) Q
def rMulM (K : PySem.W.Frag) : R2 := fun x y H Q => rMul K x y H Q
def mulD : Dt → Dt → Option R
  | .int i, .int j => if mulOk i j then some (.v (.int (i * j))) else none
  | .tuple xs, .int k => if k = 1 then some (.v (.tuple xs)) else if xs = [] then none else if k = 0 then some (.v (.tuple [])) else if 2 ≤ k ∧ k ≤ 1000 ∧ xs.length ≤ 1000 then some (.v (.tuple (List.replicate k.toNat xs).flatten)) else none
  | _, _ => none
end
end MR
end BW
--RAW
namespace BW
namespace MR
open PySem PySem.Spec PyProof.Rows L2
section
variable {K : PySem.W.Frag} {C : Cl}
theorem oj_mul : OpJ K C (rMul K) mulD := by
  intro B O σ H F τ x y dx dy res R hx hy e Q q
  unfold mulD at e
  split at e
  · split at e
    · rename_i hl
      cases e
      cases hx.int
      cases hy.int
      unfold mulOk at hl
      rw [Bool.or_eq_true, Bool.or_eq_true, Bool.and_eq_true, decide_eq_true_eq, decide_eq_true_eq] at hl
      rcases hl with (hl | hl) | hl
      · exact .inl ⟨_, _, rfl, rfl, .inl ⟨by omega, by omega⟩, fin_v R (.int _) q⟩
      · exact .inl ⟨_, _, rfl, rfl, .inr ⟨by omega, by omega⟩, fin_v R (.int _) q⟩
      · exact .inr (.inl ⟨_, _, rfl, rfl, small_mul (isSm_of hl.1) (isSm_of hl.2), fin_v R (.int _) q⟩)
    · cases e
  · rename_i xs k
    obtain ⟨p, vs, rfl, h1, r1⟩ := hx.tup
    have h1H := Same.tupS R.sub h1
    cases hy.int
    split at e
    · rename_i hk
      subst hk
      cases e
      exact .inr (.inr (.inr (.inr (.inl ⟨_, _, rfl, rfl, h1H, fin_v R (.tup h1 r1) q⟩))))
    split at e
    · cases e
    rename_i hne
    have hne' : vs ≠ [] := fun z => hne (List.eq_nil_of_length_eq_zero (by rw [← r1.length, z]; rfl))
    split at e
    · rename_i hk
      subst hk
      cases e
      exact .inr (.inr (.inr (.inr (.inr ⟨_, _, rfl, rfl, h1H, hne', fin_tup R .nil q⟩))))
    split at e
    · rename_i hk
      cases e
      exact .inr (.inr (.inr (.inl ⟨_, _, _, rfl, rfl, h1H, hne', hk.1, hk.2.1, by rw [r1.length]; exact hk.2.2, fin_tup R (r1.reps _) q⟩)))
    · cases e
  · cases e
def fdvD : Dt → Dt → Option R
  | .int i, .int j => if j ≠ 0 ∧ isSm j = true then some (.v (.int (i.fdiv j))) else none
  | _, _ => none
theorem cdivz_of {i j : Int} (h : j ≠ 0) (hs : small j) : CDivZ i j := ⟨h, Nat.lt_of_lt_of_le (PySem.Flt.log2_lt_of (k := 8000) (by decide) hs) (by decide)⟩
theorem oj_fdv : OpJ K C rFdv fdvD := by
  intro B O σ H F τ x y dx dy res R hx hy e Q q
  unfold fdvD at e
  split at e
  · split at e
    · rename_i hl
      cases e
      cases hx.int
      cases hy.int
      exact .inr ⟨_, _, rfl, rfl, cdivz_of hl.1 (isSm_of hl.2), fin_v R (.int _) q⟩
    · cases e
  · cases e
def modD : Dt → Dt → Option R
  | .int i, .int j => if 0 < j then some (.v (.int (i % j))) else none
  | _, _ => none
theorem oj_mod : OpJ K C rMod modD := by
  intro B O σ H F τ x y dx dy res R hx hy e Q q
  unfold modD at e
  split at e
  · split at e
    · rename_i hl
      cases e
      cases hx.int
      cases hy.int
      exact ⟨_, _, rfl, rfl, hl, fin_v R (.int _) q⟩
    · cases e
  · cases e
def powD : Dt → Dt → Option R
  | .int i, .int j => if 0 ≤ j ∧ j ≤ 1000 ∧ i.natAbs < 18446744073709551616 then some (.v (.int (i ^ j.toNat))) else none
  | _, _ => none
theorem oj_pow : OpJ K C rPow powD := by
  intro B O σ H F τ x y dx dy res R hx hy e Q q
  unfold powD at e
  split at e
  · split at e
    · rename_i hl
      cases e
      cases hx.int
      cases hy.int
      exact ⟨_, _, rfl, rfl, ⟨hl.1, by omega, hl.2.2⟩, fin_v R (.int _) q⟩
    · cases e
  · cases e
def cmpD (p : Int → Int → Bool) : Dt → Dt → Option R
  | .int i, .int j => some (.v (.bool (p i j)))
  | _, _ => none
theorem oj_cmp {p : Int → Int → Bool} : OpJ K C (rI0 fun i j => .bl (p i j)) (cmpD p) := by
  intro B O σ H F τ x y dx dy res R hx hy e Q q
  unfold cmpD at e
  split at e
  · cases e
    cases hx.int
    cases hy.int
    exact ⟨_, _, rfl, rfl, fin_v R (.bl _) q⟩
  · cases e
def ltD := cmpD fun i j => decide (i < j)
def leD := cmpD fun i j => decide (i ≤ j)
def gtD := cmpD fun i j => decide (j < i)
def geD := cmpD fun i j => decide (j ≤ i)
def eqD (dx dy : Dt) : Option R := if SeqAt.shaped dx && SeqAt.shaped dy then some (.v (.bool (PyData.eqv dx dy))) else none
def neD (dx dy : Dt) : Option R := if SeqAt.shaped dx && SeqAt.shaped dy then some (.v (.bool (!PyData.eqv dx dy))) else none
theorem oj_eq : OpJ K C (rEqq K) eqD := by
  intro B O σ H F τ x y dx dy res R hx hy e Q q
  unfold eqD at e
  split at e
  · rename_i hl
    cases e
    rw [Bool.and_eq_true] at hl
    exact .inr ⟨dx, dy, hx.dp R.sub (SeqAt.canLay_of_shaped hl.1), hy.dp R.sub (SeqAt.canLay_of_shaped hl.2), hl.1, hl.2, fin_v R (.bl _) q⟩
  · cases e
theorem oj_ne : OpJ K C (rNee K) neD := by
  intro B O σ H F τ x y dx dy res R hx hy e Q q
  unfold neD at e
  split at e
  · rename_i hl
    cases e
    rw [Bool.and_eq_true] at hl
    exact .inr ⟨dx, dy, hx.dp R.sub (SeqAt.canLay_of_shaped hl.1), hy.dp R.sub (SeqAt.canLay_of_shaped hl.2), hl.1, hl.2, fin_v R (.bl _) q⟩
  · cases e
def isN : Dt → Bool
  | .none => true
  | _ => false
theorem Vw.isN {F H : Hp} {v : V} {d : Dt} (h : Vw K C F H v d) : decide (v = .non) = isN d := by
  cases d with
  | none => cases h.none; rfl
  | bool b => cases h.bool; rfl
  | int b => cases h.int; rfl
  | str b => cases h.str; rfl
  | list b =>
    rcases h with h | ⟨p, x, rfl, _, _⟩
    · cases h; rfl
    · rfl
  | tuple b => obtain ⟨p, _, rfl, _⟩ := h.tup; rfl
  | dict b =>
    rcases h with h | ⟨p, x, rfl, _, _⟩
    · cases h <;> rfl
    · rfl
def isD : Dt → Dt → Option R
  | dx, .none => some (.v (.bool (isN dx)))
  | .bool a, .bool b => some (.v (.bool (decide (a = b))))
  | _, _ => none
def isnD : Dt → Dt → Option R
  | dx, .none => some (.v (.bool (!isN dx)))
  | .bool a, .bool b => some (.v (.bool (!decide (a = b))))
  | _, _ => none
theorem oj_is : OpJ K C rIss isD := by
  intro B O σ H F τ x y dx dy res R hx hy e Q q
  unfold isD at e
  split at e
  · cases e
    refine .inl ⟨hy.none, ?_⟩
    rw [hx.isN]
    exact fin_v R (.bl _) q
  · cases e
    exact .inr ⟨_, _, hx.bool, hy.bool, fin_v R (.bl _) q⟩
  · cases e
theorem oj_isn : OpJ K C rIsn isnD := by
  intro B O σ H F τ x y dx dy res R hx hy e Q q
  unfold isnD at e
  split at e
  · cases e
    refine .inl ⟨hy.none, ?_⟩
    rw [hx.isN]
    exact fin_v R (.bl _) q
  · cases e
    exact .inr ⟨_, _, hx.bool, hy.bool, fin_v R (.bl _) q⟩
  · cases e
/-! in, of flat items -/
def flatD : Dt → Bool
  | .none => true
  | .bool _ => true
  | .int _ => true
  | .str _ => true
  | _ => false
def flV : Dt → V
  | .none => .non
  | .bool b => .bl b
  | .int b => .int b
  | .str b => .str b
  | _ => .non
theorem Rp.flat {F : Hp} {v : V} {d : Dt} (h : Rp K C F v d) (f : flatD d = true) : v = flV d ∧ flatV v = true := by
  cases h <;> first | exact ⟨rfl, rfl⟩ | cases f
theorem Vw.flat {F H : Hp} {v : V} {d : Dt} (h : Vw K C F H v d) (f : flatD d = true) : v = flV d ∧ flatV v = true := by
  cases d <;> first | cases h.none; exact ⟨rfl, rfl⟩ | cases h.bool; exact ⟨rfl, rfl⟩ | cases h.int; exact ⟨rfl, rfl⟩ | cases h.str; exact ⟨rfl, rfl⟩ | cases f
theorem RpA.flat {F : Hp} : ∀ {v : List V} {d : List Dt}, RpA K C F v d → d.all flatD = true → v = d.map flV ∧ v.all flatV = true
  | _, _, .nil, _ => ⟨rfl, rfl⟩
  | _, _, .cons h r, f => by
    rw [List.all_cons, Bool.and_eq_true] at f
    obtain ⟨h1, h2⟩ := Rp.flat h f.1
    obtain ⟨h3, h4⟩ := RpA.flat r f.2
    exact ⟨by rw [List.map_cons, h1, h3], by rw [List.all_cons, h2, h4]; rfl⟩
def inF (x : Dt) (xs : List Dt) : Bool := inV (flV x) (xs.map flV)
def inD (neg : Bool) : Dt → Dt → Option R
  | x, .list xs => if flatD x && xs.all flatD then some (.v (.bool (if neg then !inF x xs else inF x xs))) else none
  | x, .tuple xs => if flatD x && xs.all flatD then some (.v (.bool (if neg then !inF x xs else inF x xs))) else none
  | _, _ => none
theorem oj_in {neg : Bool} : OpJ K C (rIn K neg) (inD neg) := by
  intro B O σ H F τ x y dx dy res R hx hy e Q q
  unfold inD at e
  split at e
  · split at e
    · rename_i hl
      cases e
      rw [Bool.and_eq_true] at hl
      obtain ⟨p, vs, rfl, h1, r1⟩ := hy.list R.sub
      obtain ⟨k1, k2⟩ := hx.flat hl.1
      obtain ⟨k3, k4⟩ := r1.flat hl.2
      refine ⟨p, vs, rfl, .inl h1, k2, k4, ?_⟩
      rw [k1, k3]
      exact fin_v R (.bl _) q
    · cases e
  · split at e
    · rename_i hl
      cases e
      rw [Bool.and_eq_true] at hl
      obtain ⟨p, vs, rfl, h1, r1⟩ := hy.tupH R.sub
      obtain ⟨k1, k2⟩ := hx.flat hl.1
      obtain ⟨k3, k4⟩ := r1.flat hl.2
      refine ⟨p, vs, rfl, .inr h1, k2, k4, ?_⟩
      rw [k1, k3]
      exact fin_v R (.bl _) q
    · cases e
  · cases e
def negD : Dt → Option R
  | .int i => some (.v (.int (-i)))
  | _ => none
theorem uj_neg : UnJ K C (rU fun i => .int (-i)) negD := by
  intro B O σ H F τ x dx res R hx e Q q
  unfold negD at e
  split at e
  · cases e
    cases hx.int
    exact ⟨_, rfl, fin_v R (.int _) q⟩
  · cases e
/-! truth -/
def truD : Dt → Option Bool
  | .none => some false
  | .bool b => some b
  | .int i => some (i != 0)
  | .str x => if x.length ≤ 1000000 then some ((x.length : Int) != 0) else none
  | .list xs => some (!xs.isEmpty)
  | .tuple xs => some (!xs.isEmpty)
  | .dict _ => none
theorem RpA.empty {F : Hp} {v : List V} {d : List Dt} (h : RpA K C F v d) : v.isEmpty = d.isEmpty := by cases h <;> rfl
theorem Vw.tru {F H : Hp} {v : V} {d : Dt} {k : Bool} (s : Same F H) (h : Vw K C F H v d) (e : truD d = some k) : TruV K v H k := by
  cases d with
  | none => cases h.none; cases e; rfl
  | bool b => cases h.bool; cases e; rfl
  | int b => cases h.int; cases e; rfl
  | str b =>
    cases h.str
    unfold truD at e
    dsimp only at e
    split at e
    · rename_i hl
      cases e
      exact ⟨Nat.le_trans hl million, rfl⟩
    · cases e
  | list b =>
    obtain ⟨p, vs, rfl, h1, r1⟩ := h.list s
    cases e
    exact .inl ⟨vs, h1, by rw [r1.empty]⟩
  | tuple b =>
    obtain ⟨p, vs, rfl, h1, r1⟩ := h.tupH s
    cases e
    exact .inr (.inl ⟨vs, h1, by rw [r1.empty]⟩)
  | dict b => cases e
def truR (r : R) : M Bool := fun τ => match vw τ r with
  | some d => (truD d).map (·, τ)
  | none => none
theorem truR_ok {B : Bs} {O : OO} {σ : L2.St} {H H0 F : Hp} {τ τ' : List SD} {v : V} {r : R} {k : Bool} (R : Rel K C B O σ H F τ) (h : RV K C H0 O F σ v r) (e : truR r τ = some (k, τ')) : τ' = τ ∧ TruV K v H k := by
  unfold truR at e
  split at e
  · rename_i d hd
    obtain ⟨k', e1, e2⟩ := Option.map_eq_some_iff.mp e
    cases e2
    exact ⟨rfl, (vw_ok R h hd).tru R.sub e1⟩
  · cases e
def eNot (a : M R) : M R := mb a fun r => mb (truR r) fun k => fun τ => some (.v (.bool !k), τ)
theorem jNot {ta : TE} {ea : M R} (ha : JE K C ta ea) : JE K C (tNotT K ta) (eNot ea) := by
  intro B O σ H F τ R a τ' e Q q
  obtain ⟨x, τ1, e1, e⟩ := mb_some e
  obtain ⟨k, τ2, e2, e9⟩ := mb_some e
  clear e
  refine ha B O σ H F τ R _ _ e1 _ fun v1 H1 F1 O1 R1 E1 r1 => ?_
  obtain ⟨e3, t⟩ := truR_ok R1 r1 e2
  subst e3
  cases e9
  exact ⟨k, t, q _ _ _ _ R1 E1 (.bl _)⟩
def eAnd (a b : M R) : M R := mb a fun r => mb (truR r) fun k => fun τ => if k = true then b τ else some (r, τ)
def eOr (a b : M R) : M R := mb a fun r => mb (truR r) fun k => fun τ => if k = true then some (r, τ) else b τ
theorem jAnd {ta tb : TE} {ea eb : M R} (ha : JE K C ta ea) (hb : JE K C tb eb) : JE K C (tAndT K ta tb) (eAnd ea eb) := by
  intro B O σ H F τ R a τ' e Q q
  obtain ⟨x, τ1, e1, e⟩ := mb_some e
  obtain ⟨k, τ2, e2, e⟩ := mb_some e
  refine ha B O σ H F τ R _ _ e1 _ fun v1 H1 F1 O1 R1 E1 r1 => ?_
  obtain ⟨e3, t⟩ := truR_ok R1 r1 e2
  subst e3
  refine ⟨k, t, ?_⟩
  cases k with
  | true => exact iteT (hb _ _ _ _ _ _ R1 _ _ e _ fun v H' F' O' R' E' r' => q v H' F' O' R' (E1.trans E') (r'.back fun p h => E1.d p h))
  | false =>
    cases e
    exact iteF (q _ _ _ _ R1 E1 r1)
theorem jOr {ta tb : TE} {ea eb : M R} (ha : JE K C ta ea) (hb : JE K C tb eb) : JE K C (tOrT K ta tb) (eOr ea eb) := by
  intro B O σ H F τ R a τ' e Q q
  obtain ⟨x, τ1, e1, e⟩ := mb_some e
  obtain ⟨k, τ2, e2, e⟩ := mb_some e
  refine ha B O σ H F τ R _ _ e1 _ fun v1 H1 F1 O1 R1 E1 r1 => ?_
  obtain ⟨e3, t⟩ := truR_ok R1 r1 e2
  subst e3
  refine ⟨k, t, ?_⟩
  cases k with
  | false => exact iteF (hb _ _ _ _ _ _ R1 _ _ e _ fun v H' F' O' R' E' r' => q v H' F' O' R' (E1.trans E') (r'.back fun p h => E1.d p h))
  | true =>
    cases e
    exact iteT (q _ _ _ _ R1 E1 r1)
/-! tests -/
def tVal (a : M R) : M Bool := mb a fun r => fun τ => match r with
  | .v (.bool k) => some (k, τ)
  | _ => none
theorem jtVal {ta : TE} {ea : M R} (ha : JE K C ta ea) : JT K C (tTest ta) (tVal ea) := by
  intro B O σ H F τ R a τ' e Q q
  obtain ⟨x, τ1, e1, e⟩ := mb_some e
  refine ha B O σ H F τ R _ _ e1 _ fun v1 H1 F1 O1 R1 E1 r1 => ?_
  split at e
  · cases e
    cases (show Rp K C F1 v1 _ from r1)
    exact ⟨_, rfl, q _ _ _ _ R1 E1 rfl⟩
  · cases e
def tTru (a : M R) : M Bool := mb a fun r => truR r
theorem jtTru {ta : TE} {ea : M R} (ha : JE K C ta ea) : JT K C (fun σ H Q => ta σ H fun x H' => ∃ k, TruV K x H' k ∧ Q k H') (tTru ea) := by
  intro B O σ H F τ R a τ' e Q q
  obtain ⟨x, τ1, e1, e⟩ := mb_some e
  refine ha B O σ H F τ R _ _ e1 _ fun v1 H1 F1 O1 R1 E1 r1 => ?_
  obtain ⟨e3, t⟩ := truR_ok R1 r1 e
  subst e3
  exact ⟨_, t, q _ _ _ _ R1 E1 rfl⟩
def tstNot (a : M Bool) : M Bool := mb a fun k => fun τ => some (!k, τ)
def tstAnd (a b : M Bool) : M Bool := mb a fun k => fun τ => if k = true then b τ else some (false, τ)
def tstOr (a b : M Bool) : M Bool := mb a fun k => fun τ => if k = true then some (true, τ) else b τ
theorem jtNot {ta : TT} {ea : M Bool} (ha : JT K C ta ea) : JT K C (tNot ta) (tstNot ea) := by
  intro B O σ H F τ R a τ' e Q q
  obtain ⟨x, τ1, e1, e⟩ := mb_some e
  refine ha B O σ H F τ R _ _ e1 _ fun v1 H1 F1 O1 R1 E1 r1 => ?_
  cases e
  exact q _ _ _ _ R1 E1 (by rw [r1])
theorem jtAnd {ta tb : TT} {ea eb : M Bool} (ha : JT K C ta ea) (hb : JT K C tb eb) : JT K C (tAnd ta tb) (tstAnd ea eb) := by
  intro B O σ H F τ R a τ' e Q q
  obtain ⟨x, τ1, e1, e⟩ := mb_some e
  refine ha B O σ H F τ R _ _ e1 _ fun v1 H1 F1 O1 R1 E1 r1 => ?_
  subst r1
  cases v1 with
  | true => exact iteT (hb _ _ _ _ _ _ R1 _ _ e _ fun v H' F' O' R' E' r' => q v H' F' O' R' (E1.trans E') r')
  | false =>
    cases e
    exact iteF (q _ _ _ _ R1 E1 rfl)
theorem jtOr {ta tb : TT} {ea eb : M Bool} (ha : JT K C ta ea) (hb : JT K C tb eb) : JT K C (tOr ta tb) (tstOr ea eb) := by
  intro B O σ H F τ R a τ' e Q q
  obtain ⟨x, τ1, e1, e⟩ := mb_some e
  refine ha B O σ H F τ R _ _ e1 _ fun v1 H1 F1 O1 R1 E1 r1 => ?_
  subst r1
  cases v1 with
  | false => exact iteF (hb _ _ _ _ _ _ R1 _ _ e _ fun v H' F' O' R' E' r' => q v H' F' O' R' (E1.trans E') r')
  | true =>
    cases e
    exact iteT (q _ _ _ _ R1 E1 rfl)
def eIf (t : M Bool) (a b : M R) : M R := mb t fun k => fun τ => if k = true then a τ else b τ
theorem jIf {t : TT} {ta tb : TE} {et : M Bool} {ea eb : M R} (ht : JT K C t et) (ha : JE K C ta ea) (hb : JE K C tb eb) : JE K C (tIf t ta tb) (eIf et ea eb) := by
  intro B O σ H F τ R a τ' e Q q
  obtain ⟨x, τ1, e1, e⟩ := mb_some e
  refine ht B O σ H F τ R _ _ e1 _ fun v1 H1 F1 O1 R1 E1 r1 => ?_
  subst r1
  cases v1 with
  | false => exact iteF (hb _ _ _ _ _ _ R1 _ _ e _ fun v H' F' O' R' E' r' => q v H' F' O' R' (E1.trans E') (r'.back fun p h => E1.d p h))
  | true => exact iteT (ha _ _ _ _ _ _ R1 _ _ e _ fun v H' F' O' R' E' r' => q v H' F' O' R' (E1.trans E') (r'.back fun p h => E1.d p h))
/-- a op b op' c -/
def eChain (f f' : Dt → Dt → Option R) (a b c : M R) : M R := mb a fun x => mb b fun y => fun τ => match vw τ x, vw τ y with
  | some dx, some dy => match f dx dy with
    | some (.v (.bool true)) => mb c (fun z => fun τ2 => match vw τ2 y, vw τ2 z with
      | some dy2, some dz => (f' dy2 dz).map (·, τ2)
      | _, _ => none) τ
    | some (.v (.bool false)) => some (.v (.bool false), τ)
    | _ => none
  | _, _ => none
theorem jChain {r r' : R2} {f f' : Dt → Dt → Option R} {ta tb tc : TE} {ea eb ec : M R} (ho : OpJ K C r f) (ho' : OpJ K C r' f') (ha : JE K C ta ea) (hb : JE K C tb eb) (hc : JE K C tc ec) : JE K C (tChain r r' ta tb tc) (eChain f f' ea eb ec) := by
  intro B O σ H F τ R a τ' e Q q
  obtain ⟨x, τ1, e1, e⟩ := mb_some e
  obtain ⟨y, τ2, e2, e⟩ := mb_some e
  refine ha B O σ H F τ R _ _ e1 _ fun v1 H1 F1 O1 R1 E1 r1 => ?_
  refine hb B O1 σ H1 F1 τ1 R1 _ _ e2 _ fun v2 H2 F2 O2 R2 E2 r2 => ?_
  split at e
  · rename_i dx dy g1 g2
    refine ho B O2 σ H2 F2 _ v1 v2 dx dy (Option.getD (f dx dy) (.o 0)) R2 (vw_ok R2 (r1.ext E2) g1) (vw_ok R2 r2 g2) ?_ _ fun v H3 F3 O3 R3 E3 r3 => ?_
    · split at e
      · rename_i g3; rw [g3]; rfl
      · rename_i g3; rw [g3]; rfl
      · cases e
    · split at e
      · rename_i g3
        rw [g3] at r3
        cases (show Rp K C F3 v _ from r3)
        refine ⟨true, rfl, iteT ?_⟩
        obtain ⟨z, τ3, e4, e⟩ := mb_some e
        refine hc _ _ _ _ _ _ R3 _ _ e4 _ fun v4 H4 F4 O4 R4 E4 r4 => ?_
        split at e
        · rename_i dy2 dz g5 g6
          obtain ⟨res, g7, g8⟩ := Option.map_eq_some_iff.mp e
          cases g8
          exact ho' B O4 σ H4 F4 _ v2 v4 dy2 dz _ R4 (vw_ok R4 ((r2.ext E3).ext E4) g5) (vw_ok R4 r4 g6) g7 Q fun v H' F' O' R' E' r' => q v H' F' O' R' ((((E1.trans E2).trans E3).trans E4).trans E') (r'.back fun p h => (((E1.trans E2).trans E3).trans E4).d p h)
        · cases e
      · rename_i g3
        rw [g3] at r3
        cases (show Rp K C F3 v _ from r3)
        cases e
        exact ⟨false, rfl, iteF (q _ _ _ _ R3 ((E1.trans E2).trans E3) (.bl _))⟩
      · cases e
  · cases e
end
end MR
end BW
--RAW
namespace BW
namespace MR
open PySem PySem.Spec PyProof.Rows L2
section
variable {K : PySem.W.Frag} {C : Cl} {B : Bs} {O O1 O2 O' : OO} {σ σ' : L2.St} {H H0 H1 H2 H' F F0 F1 F2 F' : Hp} {τ τ' : List SD} {v : V}
/-- a thing is changed where it stands -/
theorem Rel.updO {p : Addr} {t : Tag} {x x' : Own} {u : HO} (R : Rel K C B O σ H F τ) (hO : O p = some (t, x)) (hu : OwnOk K C F (upd H p u) p x') (hl : τ'.length = σ.length)
    (hs : ∀ (j : Nat) (s : SD), τ'[j]? = some s → SlotOk K C B F (putO O p t x') σ j s) : Rel K C B (putO O p t x') σ (upd H p u) F τ' := by
  obtain ⟨k1, k2, k3⟩ := R.own p t x hO
  obtain ⟨o, ho⟩ := k1.get
  refine ⟨hl, ?_, R.f0, ?_, R.nf, ?_, ?_, hs⟩
  · intro b w hb
    rw [upd_ne (ne_of_none hb k2)]
    exact R.sub _ _ hb
  · intro q w h1 h2
    have n : q ≠ p := by
      rintro rfl
      rcases k3 with k3 | k3
      · exact h2 k3
      · rw [k3] at h1; cases h1
    rw [upd_ne n]
    exact R.fr q w h1 h2
  · intro q h
    by_cases e : q = p
    · subst e; rw [upd_same] at h; cases h
    · rw [upd_ne e] at h; exact R.dm q h
  · intro q t' y hq
    unfold putO at hq
    split at hq
    · rename_i e
      subst e
      cases hq
      exact ⟨hu, k2, k3⟩
    · rename_i e
      obtain ⟨h1, h2, h3⟩ := R.own q t' y hq
      exact ⟨h1.mono (Same.refl _) (upd_ne e), h2, h3⟩
theorem Ext.updO {p : Addr} {t : Tag} {x x' : Own} {u : HO} (E : Ext O H F O1 H1 F1) (hO : ∀ y, O p ≠ some (.tmp, y)) (hp : O1 p = some (t, x)) : Ext O H F (putO O1 p t x') (upd H1 p u) F1 := by
  refine ⟨E.f, fun q y h => ?_, fun q h => ?_⟩
  · have n : q ≠ p := by rintro rfl; exact hO y h
    exact (if_neg n).trans (E.t q y h)
  · by_cases e : q = p
    · subst e; rw [upd_same] at h; cases h
    · rw [upd_ne e] at h; exact E.d q h
theorem Rel.updT {p : Addr} {x x' : Own} {u : HO} (R : Rel K C B O σ H F τ) (hO : O p = some (.tmp, x)) (hu : OwnOk K C F (upd H p u) p x') : Rel K C B (putO O p .tmp x') σ (upd H p u) F τ := by
  refine R.updO hO hu R.len fun j s hj => ?_
  have h := R.slot j s hj
  cases s with
  | un => exact True.intro
  | val d => exact h
  | own y =>
    obtain ⟨q, h1, h2, h3⟩ := h
    refine ⟨q, h1, ?_, h3⟩
    have n : q ≠ p := by rintro rfl; rw [hO] at h2; cases h2
    exact (if_neg n).trans h2
  | io y =>
    obtain ⟨q, h1, h2, h3⟩ := h
    refine ⟨q, h1, ?_, h3⟩
    have n : q ≠ p := by rintro rfl; rw [hO] at h2; cases h2
    exact (if_neg n).trans h2
/-- the thing in a slot -/
def ownAt (τ : List SD) (i : Nat) : Option Own := match τ[i]? with
  | some (.own x) => some x
  | some (.io x) => some x
  | _ => none
def ownSet (τ : List SD) (i : Nat) (x : Own) : List SD := match τ[i]? with
  | some (.own _) => τ.set i (.own x)
  | some (.io _) => τ.set i (.io x)
  | _ => τ
theorem Rel.ownAt {i : Nat} {x : Own} (R : Rel K C B O σ H F τ) (h : ownAt τ i = some x) : ∃ p, σ[i]? = some (some (.ref p)) ∧ O p = some (.slot i, x) ∧ OwnOk K C F H p x ∧ F p = none := by
  unfold MR.ownAt at h
  split at h
  · rename_i y hs
    cases h
    obtain ⟨p, h1, h2, h3⟩ := R.slot i _ hs
    exact ⟨p, h1, h2, (R.own _ _ _ h2).1, (R.own _ _ _ h2).2.1⟩
  · rename_i y hs
    cases h
    obtain ⟨p, h1, h2, h3⟩ := R.slot i _ hs
    exact ⟨p, h1, h2, (R.own _ _ _ h2).1, (R.own _ _ _ h2).2.1⟩
  · cases h
theorem SlotOk.put {i j : Nat} {p : Addr} {x x' : Own} {s : SD} (n : i ≠ j) (hO : O p = some (.slot i, x)) (h : SlotOk K C B F O σ j s) : SlotOk K C B F (putO O p (.slot i) x') σ j s := by
  cases s with
  | un => exact True.intro
  | val d => exact h
  | own y =>
    obtain ⟨q, h1, h2, h3⟩ := h
    refine ⟨q, h1, ?_, h3⟩
    have n : q ≠ p := by rintro rfl; rw [hO] at h2; cases h2; exact n rfl
    exact (if_neg n).trans h2
  | io y =>
    obtain ⟨q, h1, h2, h3⟩ := h
    refine ⟨q, h1, ?_, h3⟩
    have n : q ≠ p := by rintro rfl; rw [hO] at h2; cases h2; exact n rfl
    exact (if_neg n).trans h2
theorem Rel.updS {i : Nat} {p : Addr} {x x' : Own} {u : HO} (R : Rel K C B O σ H F τ) (hi : MR.ownAt τ i = some x) (hs : σ[i]? = some (some (.ref p))) (hO : O p = some (.slot i, x)) (hu : OwnOk K C F (upd H p u) p x') :
    Rel K C B (putO O p (.slot i) x') σ (upd H p u) F (ownSet τ i x') := by
  unfold MR.ownAt at hi
  unfold ownSet
  split at hi
  · rename_i y hy
    cases hi
    refine R.updO hO hu (by rw [List.length_set]; exact R.len) fun j s' hj => ?_
    rw [List.getElem?_set] at hj
    split at hj
    · rename_i e
      subst e
      split at hj
      · cases hj
        obtain ⟨q, h1, h2, h3⟩ := R.slot i _ hy
        exact ⟨p, hs, if_pos rfl, by rw [hs] at h1; cases h1; exact h3⟩
      · cases hj
    · rename_i e
      exact SlotOk.put e hO (R.slot j s' hj)
  · rename_i y hy
    cases hi
    refine R.updO hO hu (by rw [List.length_set]; exact R.len) fun j s' hj => ?_
    rw [List.getElem?_set] at hj
    split at hj
    · rename_i e
      subst e
      split at hj
      · cases hj
        obtain ⟨q, h1, h2, h3⟩ := R.slot i _ hy
        exact ⟨p, hs, if_pos rfl, by rw [hs] at h1; cases h1; exact h3⟩
      · cases hj
    · rename_i e
      exact SlotOk.put e hO (R.slot j s' hj)
  · cases hi
theorem Ext.slotNe {i : Nat} {p : Addr} {x : Own} (E : Ext O H F O1 H1 F1) (h : O1 p = some (.slot i, x)) : ∀ y, O p ≠ some (.tmp, y) := fun y e => by
  have := E.t p y e
  rw [h] at this
  cases this
/-! ### a name is given -/
def setR (i : Nat) (r : R) (τ : List SD) : Option (List SD) := match τ[i]? with
  | none => none
  | some (.io _) => none
  | some _ => match r with
    | .v d => some (τ.set i (.val d))
    | .n x => some (τ.set i (.own x))
    | .o j => if j = i then some τ else match τ[j]? with
      | some (.val d) => some (τ.set i (.val d))
      | some (.own x) => some ((τ.set j (.val x.dt)).set i (.val x.dt))
      | _ => none
/-- what stood in the slot is left -/
theorem Rel.setVal {i : Nat} {d : Dt} (R : Rel K C B O σ H F τ) (h : Rp K C F v d) : Rel K C B O (σ.set i (some v)) H F (τ.set i (.val d)) := by
  refine ⟨by rw [List.length_set, List.length_set]; exact R.len, R.sub, R.f0, R.fr, R.nf, R.dm, R.own, fun j s hj => ?_⟩
  rw [List.getElem?_set] at hj
  by_cases e : i = j
  · subst e
    rw [if_pos rfl] at hj
    split at hj
    · rename_i hl
      cases hj
      exact ⟨v, by rw [List.getElem?_set_self (by rw [← R.len]; exact hl)], h⟩
    · cases hj
  · rw [if_neg e] at hj
    have q := R.slot j s hj
    cases s with
    | un => exact True.intro
    | val d => obtain ⟨w, h1, h2⟩ := q; exact ⟨w, by rw [List.getElem?_set_ne e]; exact h1, h2⟩
    | own y => obtain ⟨w, h1, h2⟩ := q; exact ⟨w, by rw [List.getElem?_set_ne e]; exact h1, h2⟩
    | io y => obtain ⟨w, h1, h2⟩ := q; exact ⟨w, by rw [List.getElem?_set_ne e]; exact h1, h2⟩
theorem Rel.setOwn {i : Nat} {p : Addr} {x : Own} (R : Rel K C B O σ H F τ) (hO : O p = some (.tmp, x)) (hB : B.H p = none) : Rel K C B (putO O p (.slot i) x) (σ.set i (some (.ref p))) H F (τ.set i (.own x)) := by
  have nO : ∀ q j y, O q = some (.slot j, y) → q ≠ p := fun q j y h e => by rw [e, hO] at h; cases h
  refine ⟨by rw [List.length_set, List.length_set]; exact R.len, R.sub, R.f0, R.fr, R.nf, R.dm, fun q t y hq => ?_, fun j s hj => ?_⟩
  · unfold putO at hq
    split at hq
    · rename_i e
      subst e
      cases hq
      exact R.own q _ _ hO
    · exact R.own q t y hq
  rw [List.getElem?_set] at hj
  by_cases e : i = j
  · subst e
    rw [if_pos rfl] at hj
    split at hj
    · rename_i hl
      cases hj
      exact ⟨p, by rw [List.getElem?_set_self (by rw [← R.len]; exact hl)], if_pos rfl, hB⟩
    · cases hj
  · rw [if_neg e] at hj
    have q := R.slot j s hj
    cases s with
    | un => exact True.intro
    | val d => obtain ⟨w, h1, h2⟩ := q; exact ⟨w, by rw [List.getElem?_set_ne e]; exact h1, h2⟩
    | own y => obtain ⟨w, h1, h2, h3⟩ := q; exact ⟨w, by rw [List.getElem?_set_ne e]; exact h1, (if_neg (nO _ _ _ h2)).trans h2, h3⟩
    | io y => obtain ⟨w, h1, h2, h3⟩ := q; exact ⟨w, by rw [List.getElem?_set_ne e]; exact h1, (if_neg (nO _ _ _ h2)).trans h2, h3⟩
theorem set_ok2 {i : Nat} {r : R} {τ0 : List SD} {σ0 : L2.St} (R0 : Rel K C B O σ0 H F τ0) (R : Rel K C B O1 σ H1 F1 τ) (E : Ext O H F O1 H1 F1) (h : RV K C H O1 F1 σ v r) (e : setR i r τ = some τ') :
    ∃ O2 F2, Rel K C B O2 (σ.set i (some v)) H1 F2 τ' ∧ Ext O H F O2 H1 F2 ∧ Same F1 F2 := by
  unfold setR at e
  split at e
  · cases e
  · cases e
  rename_i s hs1 hs
  cases r with
  | v d => cases e; exact ⟨_, _, R.setVal h, E, Same.refl _⟩
  | n x =>
    cases e
    obtain ⟨p, rfl, h2, h3⟩ := h
    refine ⟨_, _, R.setOwn h2 (R0.dm _ h3), ⟨E.f, fun q y hq => ?_, E.d⟩, Same.refl _⟩
    have n : q ≠ p := by rintro rfl; exact R0.live q y hq h3
    exact (if_neg n).trans (E.t q y hq)
  | o j =>
    have h : σ[j]? = some (some v) := h
    dsimp only at e
    split at e
    · rename_i ej
      subst ej
      cases e
      refine ⟨_, _, ?_, E, Same.refl _⟩
      have : σ.set j (some v) = σ := by
        obtain ⟨hl, hg⟩ := List.getElem?_eq_some_iff.mp h
        rw [← hg]
        exact List.set_getElem_self hl
      rw [this]
      exact R
    · split at e
      · rename_i d hd
        cases e
        obtain ⟨w, h1, h2⟩ := R.slot j _ hd
        rw [h] at h1
        cases h1
        exact ⟨_, _, R.setVal h2, E, Same.refl _⟩
      · rename_i x hd
        cases e
        obtain ⟨p, h1, h2, h3⟩ := R.slot j _ hd
        have hp := h1
        rw [h] at h1
        cases h1
        obtain ⟨q, g1, g2, g3⟩ := R.slot j _ hd
        rw [hp] at g1
        cases g1
        obtain ⟨F2, R2, s2, r2⟩ := (R.setUn (i := j)).freeze g2 g3 (fun k y hk hz => by
          obtain ⟨n, hk⟩ := unNe hk
          exact n (R.slotAt g2 hk hz))
        have R3 := R2.setSame (i := j) (d := x.dt) ⟨_, hp, r2⟩
        rw [List.set_set] at R3
        exact ⟨_, F2, R3.setVal r2, E.cutS g2 s2, s2⟩
      · cases e
theorem set_ok {i : Nat} {r : R} {τ0 : List SD} {σ0 : L2.St} (R0 : Rel K C B O σ0 H F τ0) (R : Rel K C B O1 σ H1 F1 τ) (E : Ext O H F O1 H1 F1) (h : RV K C H O1 F1 σ v r) (e : setR i r τ = some τ') :
    ∃ O2 F2, Rel K C B O2 (σ.set i (some v)) H1 F2 τ' ∧ Ext O H F O2 H1 F2 := by
  obtain ⟨O2, F2, h1, h2, _⟩ := set_ok2 R0 R E h e
  exact ⟨O2, F2, h1, h2⟩
end
/-! ### statements -/
inductive Fl where
  | nx
  | rt (r : R)
  | bk
  | ct
section
variable (K : PySem.W.Frag) (C : Cl)
def EndsOk (B : Bs) (O : OO) (H F : Hp) (τ' : List SD) (D : Ends) (f : Fl) : Prop := ∀ (σ' : L2.St) (H' F' : Hp) (O' : OO), Rel K C B O' σ' H' F' τ' → Ext O H F O' H' F' → match f with
  | .nx => D.nx σ' H'
  | .bk => D.bk σ' H'
  | .ct => D.ct σ' H'
  | .rt r => ∀ v, RV K C H O' F' σ' v r → D.rt v H'
def JS (t : TS) (m : M Fl) : Prop := ∀ (B : Bs) (O : OO) (σ : L2.St) (H F : Hp) (τ : List SD), Rel K C B O σ H F τ → ∀ (f : Fl) (τ' : List SD), m τ = some (f, τ') → ∀ D : Ends, EndsOk K C B O H F τ' D f → t D σ H
def JG (g : TG) (m : Dt → M Unit) : Prop := ∀ (B : Bs) (O : OO) (σ : L2.St) (H F : Hp) (τ : List SD), Rel K C B O σ H F τ → ∀ (v : V) (d : Dt) (u : Unit) (τ' : List SD), Rp K C F v d → m d τ = some (u, τ') → ∀ Q : L2.St → Hp → Prop,
  (∀ σ' H' F' O', Rel K C B O' σ' H' F' τ' → Ext O H F O' H' F' → Q σ' H') → g v σ H Q
def JGs (g : TGs) (m : List Dt → M Unit) : Prop := ∀ (B : Bs) (O : OO) (σ : L2.St) (H F : Hp) (τ : List SD), Rel K C B O σ H F τ → ∀ (v : List V) (d : List Dt) (u : Unit) (τ' : List SD), RpA K C F v d → m d τ = some (u, τ') → ∀ Q : L2.St → Hp → Prop,
  (∀ σ' H' F' O', Rel K C B O' σ' H' F' τ' → Ext O H F O' H' F' → Q σ' H') → g v σ H Q
end
section
variable {K : PySem.W.Frag} {C : Cl}
theorem EndsOk.after {B : Bs} {O O1 : OO} {H F H1 F1 : Hp} {τ' : List SD} {D : Ends} {f : Fl} (h : EndsOk K C B O H F τ' D f) (E : Ext O H F O1 H1 F1) : EndsOk K C B O1 H1 F1 τ' D f := by
  intro σ' H' F' O' R' E'
  have q := h σ' H' F' O' R' (E.trans E')
  cases f with
  | nx => exact q
  | bk => exact q
  | ct => exact q
  | rt r => exact fun v rv => q v (rv.back fun p h => E.d p h)
def sNext : M Fl := fun τ => some (.nx, τ)
def sBreak : M Fl := fun τ => some (.bk, τ)
def sCont : M Fl := fun τ => some (.ct, τ)
def sSeq (a b : M Fl) : M Fl := fun τ => match a τ with
  | some (.nx, τ1) => b τ1
  | r => r
theorem jsNext : JS K C tNext sNext := by
  intro B O σ H F τ R f τ' e D q
  cases e
  exact q _ _ _ _ R Ext.refl
theorem jsBreak : JS K C tBreak sBreak := by
  intro B O σ H F τ R f τ' e D q
  cases e
  exact q _ _ _ _ R Ext.refl
theorem jsCont : JS K C tCont sCont := by
  intro B O σ H F τ R f τ' e D q
  cases e
  exact q _ _ _ _ R Ext.refl
theorem jsSeq {t u : TS} {a b : M Fl} (ha : JS K C t a) (hb : JS K C u b) : JS K C (tSeq t u) (sSeq a b) := by
  intro B O σ H F τ R f τ' e D q
  unfold sSeq at e
  split at e
  · rename_i τ1 e1
    refine ha B O σ H F τ R _ _ e1 _ fun σ1 H1 F1 O1 R1 E1 => ?_
    exact hb B O1 σ1 H1 F1 τ1 R1 _ _ e D (q.after E1)
  · rename_i hne
    refine ha B O σ H F τ R _ _ e _ fun σ1 H1 F1 O1 R1 E1 => ?_
    have q1 := q σ1 H1 F1 O1 R1 E1
    cases f with
    | nx => exact (hne _ e).elim
    | bk => exact q1
    | ct => exact q1
    | rt r => exact q1
def sRet (a : M R) : M Fl := mb a fun r => fun τ => some (.rt r, τ)
theorem jsRet {te : TE} {ea : M R} (ha : JE K C te ea) : JS K C (tRet te) (sRet ea) := by
  intro B O σ H F τ R f τ' e D q
  obtain ⟨x, τ1, e1, e⟩ := mb_some e
  cases e
  exact ha B O σ H F τ R _ _ e1 _ fun v1 H1 F1 O1 R1 E1 r1 => q _ _ _ _ R1 E1 v1 r1
def sRetN : M Fl := fun τ => some (.rt (.v .none), τ)
theorem jsRetN : JS K C tRetN sRetN := by
  intro B O σ H F τ R f τ' e D q
  cases e
  exact q _ _ _ _ R Ext.refl _ .non
def sDrop (a : M R) : M Fl := mb a fun _ => fun τ => some (.nx, τ)
theorem jsDrop {te : TE} {ea : M R} (ha : JE K C te ea) : JS K C (tDrop te) (sDrop ea) := by
  intro B O σ H F τ R f τ' e D q
  obtain ⟨x, τ1, e1, e⟩ := mb_some e
  cases e
  exact ha B O σ H F τ R _ _ e1 _ fun v1 H1 F1 O1 R1 E1 r1 => q _ _ _ _ R1 E1
def sIf (c : M Bool) (a b : M Fl) : M Fl := mb c fun k => fun τ => if k = true then a τ else b τ
theorem jsIf {c : TT} {t u : TS} {ec : M Bool} {a b : M Fl} (hc : JT K C c ec) (ha : JS K C t a) (hb : JS K C u b) : JS K C (tIfS c t u) (sIf ec a b) := by
  intro B O σ H F τ R f τ' e D q
  obtain ⟨x, τ1, e1, e⟩ := mb_some e
  refine hc B O σ H F τ R _ _ e1 _ fun v1 H1 F1 O1 R1 E1 r1 => ?_
  subst r1
  cases v1 with
  | true => exact iteT (ha _ _ _ _ _ _ R1 _ _ e D (q.after E1))
  | false => exact iteF (hb _ _ _ _ _ _ R1 _ _ e D (q.after E1))
def sSet (i : Nat) (a : M R) : M Fl := mb a fun r => fun τ => (setR i r τ).map (.nx, ·)
theorem jsSet {i : Nat} {te : TE} {ea : M R} (ha : JE K C te ea) : JS K C (tAsg te (gName i)) (sSet i ea) := by
  intro B O σ H F τ R f τ' e D q
  obtain ⟨x, τ1, e1, e⟩ := mb_some e
  obtain ⟨τ2, e2, e3⟩ := Option.map_eq_some_iff.mp e
  clear e
  cases e3
  refine ha B O σ H F τ R _ _ e1 _ fun v1 H1 F1 O1 R1 E1 r1 => ?_
  obtain ⟨O2, F2, R2, E2⟩ := set_ok R R1 E1 r1 e2
  exact q _ _ _ _ R2 E2
def sAsg (g : Dt → M Unit) (a : M R) : M Fl := mb a fun r => mb (fzR r) fun d => mb (g d) fun _ => fun τ => some (.nx, τ)
theorem jsAsg {te : TE} {g : TG} {ea : M R} {eg : Dt → M Unit} (ha : JE K C te ea) (hg : JG K C g eg) : JS K C (tAsg te g) (sAsg eg ea) := by
  intro B O σ H F τ R f τ' e D q
  obtain ⟨x, τ1, e1, e⟩ := mb_some e
  obtain ⟨d, τ2, e2, e⟩ := mb_some e
  obtain ⟨u, τ3, e3, e4⟩ := mb_some e
  clear e
  cases e4
  refine ha B O σ H F τ R _ _ e1 _ fun v1 H1 F1 O1 R1 E1 r1 => ?_
  obtain ⟨O2, F2, R2, E2, _, r2⟩ := fz_ok R R1 E1 r1 e2
  refine hg B O2 σ H1 F2 τ2 R2 _ _ _ _ r2 e3 _ fun σ3 H3 F3 O3 R3 E3 => ?_
  exact q _ _ _ _ R3 (E2.trans E3)
def gN (i : Nat) (d : Dt) : M Unit := fun τ => (setR i (.v d) τ).map ((), ·)
theorem jgN {i : Nat} : JG K C (gName i) (gN i) := by
  intro B O σ H F τ R v d u τ' r e Q q
  obtain ⟨τ2, e2, e3⟩ := Option.map_eq_some_iff.mp e
  cases e3
  obtain ⟨O2, F2, R2, E2⟩ := set_ok R R Ext.refl (show RV K C H O F σ v (.v d) from r) e2
  exact q _ _ _ _ R2 E2
def gsN (ds : List Dt) : M Unit := fun τ => if ds.isEmpty then some ((), τ) else none
def gsC (g : Dt → M Unit) (gs : List Dt → M Unit) (ds : List Dt) : M Unit := match ds with
  | [] => fun _ => none
  | d :: r => mb (g d) fun _ => gs r
theorem jgsN : JGs K C gNil gsN := by
  intro B O σ H F τ R v d u τ' r e Q q
  unfold gsN at e
  split at e
  · rename_i h
    cases e
    cases r with
    | nil => exact ⟨rfl, q _ _ _ _ R Ext.refl⟩
    | cons _ _ => cases h
  · cases e
theorem jgsC {g : TG} {gs : TGs} {m : Dt → M Unit} {ms : List Dt → M Unit} (h1 : JG K C g m) (h2 : JGs K C gs ms) : JGs K C (gCons g gs) (gsC m ms) := by
  intro B O σ H F τ R v d u τ' r e Q q
  cases r with
  | nil => cases e
  | cons a b =>
    obtain ⟨u1, τ1, e1, e⟩ := mb_some e
    refine ⟨_, _, rfl, h1 B O σ H F τ R _ _ _ _ a e1 _ fun σ1 H1 F1 O1 R1 E1 => ?_⟩
    exact h2 B O1 σ1 H1 F1 τ1 R1 _ _ _ _ (b.same E1.f) e Q fun σ' H' F' O' R' E' => q _ _ _ _ R' (E1.trans E')
def gT (n : Nat) (gs : List Dt → M Unit) (d : Dt) : M Unit := match d with
  | .tuple ds => if ds.length = n then gs ds else fun _ => none
  | .list ds => if ds.length = n then gs ds else fun _ => none
  | _ => fun _ => none
theorem jgT {n : Nat} {gs : TGs} {ms : List Dt → M Unit} (h : JGs K C gs ms) : JG K C (gSeq K n gs) (gT n ms) := by
  intro B O σ H F τ R v d u τ' r e Q q
  unfold gT at e
  split at e
  · split at e
    · rename_i hl
      cases r with
      | tup a b => exact .inl ⟨_, _, rfl, Same.tupS R.sub a, by rw [b.length]; exact hl, h B O σ H F τ R _ _ _ _ b e Q q⟩
    · cases e
  · split at e
    · rename_i hl
      cases r with
      | lst a b => exact .inr ⟨_, _, rfl, R.sub.seq a, by rw [b.length]; exact hl, h B O σ H F τ R _ _ _ _ b e Q q⟩
    · cases e
  · cases e
/-- a name op= e -/
def sAug (i : Nat) (f : Dt → Dt → Option R) (a : M R) : M Fl := fun τ0 => match τ0[i]? with
  | some (.val x) => mb a (fun r => mb (fzR r) fun y => fun τ => match f x y with
    | some (.v z) => (setR i (.v z) τ).map (.nx, ·)
    | _ => none) τ0
  | _ => none
def IpJ (K : PySem.W.Frag) (C : Cl) (t : TIp) (f : Dt → Dt → Option R) : Prop := ∀ (x y : V) (dx dy dz : Dt) (F H : Hp) (Q : VK), Rp K C F x dx → Rp K C F y dy → f dx dy = some (.v dz) → (∀ z, Rp K C F z dz → Q z H) → t x y H Q
def addI : Dt → Dt → Option R
  | .int i, .int j => some (.v (.int (i + j)))
  | _, _ => none
theorem ij_add : IpJ K C (ipI fun i j => i + j) addI := by
  intro x y dx dy dz F H Q rx ry e q
  unfold addI at e
  split at e
  · cases e; cases rx; cases ry; exact ⟨_, _, rfl, rfl, q _ (.int _)⟩
  · cases e
theorem ij_sub : IpJ K C (ipI fun i j => i - j) subD := by
  intro x y dx dy dz F H Q rx ry e q
  unfold subD at e
  split at e
  · cases e; cases rx; cases ry; exact ⟨_, _, rfl, rfl, q _ (.int _)⟩
  · cases e
def mulI : Dt → Dt → Option R
  | .int i, .int j => if isSm i && isSm j then some (.v (.int (i * j))) else none
  | _, _ => none
theorem ij_mul : IpJ K C ipMul mulI := by
  intro x y dx dy dz F H Q rx ry e q
  unfold mulI at e
  split at e
  · split at e
    · rename_i hl
      cases e; cases rx; cases ry
      rw [Bool.and_eq_true] at hl
      exact ⟨_, _, rfl, rfl, small_mul (isSm_of hl.1) (isSm_of hl.2), q _ (.int _)⟩
    · cases e
  · cases e
theorem jsAug {i : Nat} {te : TE} {ti : TIp} {f : Dt → Dt → Option R} {ea : M R} (hf : IpJ K C ti f) (ha : JE K C te ea) : JS K C (tAug i te ti) (sAug i f ea) := by
  intro B O σ H F τ R fl τ' e D q
  unfold sAug at e
  split at e
  · rename_i x hx
    obtain ⟨w, h1, h2⟩ := R.slot i _ hx
    obtain ⟨r, τ1, e1, e⟩ := mb_some e
    obtain ⟨y, τ2, e2, e⟩ := mb_some e
    refine ⟨w, h1, ha B O σ H F τ R _ _ e1 _ fun v1 H1 F1 O1 R1 E1 r1 => ?_⟩
    obtain ⟨O2, F2, R2, E2, _, r2⟩ := fz_ok R R1 E1 r1 e2
    split at e
    · rename_i z hz
      obtain ⟨τ3, e3, e4⟩ := Option.map_eq_some_iff.mp e
      clear e
      cases e4
      refine hf _ _ _ _ _ F2 _ _ (h2.same E2.f) r2 hz fun z' rz => ?_
      obtain ⟨O3, F3, R3, E3⟩ := set_ok R2 R2 Ext.refl (show RV K C H1 O2 F2 σ z' (.v z) from rz) e3
      exact q _ _ _ _ R3 (E2.trans E3)
    · cases e
  · cases e
end
end MR
end BW
--RAW
namespace BW
namespace MR
open PySem PySem.Spec PyProof.Rows L2
section
variable {K : PySem.W.Frag} {C : Cl}
/-! ### functions of the language, by data -/
theorem paired1 {F H : Hp} {xs : List V} {d : Dt} (h : Paired (Vw K C F H) xs [d]) : ∃ x, xs = [x] ∧ Vw K C F H x d := by
  cases h with
  | cons a b => cases b; exact ⟨_, rfl, a⟩
theorem paired2 {F H : Hp} {xs : List V} {d e : Dt} (h : Paired (Vw K C F H) xs [d, e]) : ∃ x y, xs = [x, y] ∧ Vw K C F H x d ∧ Vw K C F H y e := by
  cases h with
  | cons a b =>
    obtain ⟨y, rfl, h'⟩ := paired1 b
    exact ⟨_, y, rfl, a, h'⟩
def lenD : List Dt → Option R
  | [.list ds] => some (.v (.int ds.length))
  | [.tuple ds] => some (.v (.int ds.length))
  | [.str x] => if x.length ≤ 1000000 then some (.v (.int x.length)) else none
  | _ => none
theorem fj_len : FnJ K C (fun xs H Q => ∃ x n, xs = [x] ∧ LenV K x H n ∧ Q (.int n) H) lenD := by
  intro B O σ H F τ xs ds res R h e Q q
  unfold lenD at e
  split at e
  · cases e
    obtain ⟨x, rfl, hv⟩ := paired1 h
    obtain ⟨p, vs, rfl, h1, r1⟩ := hv.list R.sub
    exact ⟨_, _, rfl, .inl ⟨_, h1, r1.length.symm⟩, fin_v R (.int _) q⟩
  · cases e
    obtain ⟨x, rfl, hv⟩ := paired1 h
    obtain ⟨p, vs, rfl, h1, r1⟩ := hv.tupH R.sub
    exact ⟨_, _, rfl, .inr ⟨_, h1, r1.length.symm⟩, fin_v R (.int _) q⟩
  · split at e
    · rename_i hl
      cases e
      obtain ⟨x, rfl, hv⟩ := paired1 h
      cases hv.str
      exact ⟨_, _, rfl, ⟨Nat.le_trans hl million, rfl⟩, fin_v R (.int _) q⟩
    · cases e
  · cases e
def absD : List Dt → Option R
  | [.int i] => some (.v (.int (if i < 0 then -i else i)))
  | _ => none
theorem fj_abs : FnJ K C (fun xs H Q => ∃ i, xs = [.int i] ∧ Q (.int (if i < 0 then -i else i)) H) absD := by
  intro B O σ H F τ xs ds res R h e Q q
  unfold absD at e
  split at e
  · cases e
    obtain ⟨x, rfl, hv⟩ := paired1 h
    cases hv.int
    exact ⟨_, rfl, fin_v R (.int _) q⟩
  · cases e
def intD : List Dt → Option R
  | [.int i] => some (.v (.int i))
  | [.bool k] => some (.v (.int (if k then 1 else 0)))
  | _ => none
theorem fj_int : FnJ K C (fun xs H Q => (∃ i, xs = [.int i] ∧ Q (.int i) H) ∨ ∃ k, xs = [.bl k] ∧ Q (.int (if k then 1 else 0)) H) intD := by
  intro B O σ H F τ xs ds res R h e Q q
  unfold intD at e
  split at e
  · cases e
    obtain ⟨x, rfl, hv⟩ := paired1 h
    cases hv.int
    exact .inl ⟨_, rfl, fin_v R (.int _) q⟩
  · cases e
    obtain ⟨x, rfl, hv⟩ := paired1 h
    cases hv.bool
    exact .inr ⟨_, rfl, fin_v R (.int _) q⟩
  · cases e
def tupD : List Dt → Option R
  | [.list ds] => some (.v (.tuple ds))
  | [.tuple ds] => some (.v (.tuple ds))
  | _ => none
theorem fj_tup : FnJ K C (nTuple K) tupD := by
  intro B O σ H F τ xs ds res R h e Q q
  unfold tupD at e
  split at e
  · cases e
    obtain ⟨x, rfl, hv⟩ := paired1 h
    obtain ⟨p, vs, rfl, h1, r1⟩ := hv.list R.sub
    exact ⟨_, _, rfl, .inl ⟨h1, fin_tup R r1 q⟩⟩
  · cases e
    obtain ⟨x, rfl, hv⟩ := paired1 h
    obtain ⟨p, vs, rfl, h1, r1⟩ := hv.tup
    exact ⟨_, _, rfl, .inr ⟨Same.tupS R.sub h1, fin_v R (.tup h1 r1) q⟩⟩
  · cases e
def lstD : List Dt → Option R
  | [.list ds] => some (.n (.L ds))
  | [.tuple ds] => some (.n (.L ds))
  | _ => none
theorem fj_lst : FnJ K C (nList K) lstD := by
  intro B O σ H F τ xs ds res R h e Q q
  unfold lstD at e
  split at e
  · cases e
    obtain ⟨x, rfl, hv⟩ := paired1 h
    obtain ⟨p, vs, rfl, h1, r1⟩ := hv.list R.sub
    exact ⟨_, _, rfl, .inl h1, fin_lst R r1 q⟩
  · cases e
    obtain ⟨x, rfl, hv⟩ := paired1 h
    obtain ⟨p, vs, rfl, h1, r1⟩ := hv.tupH R.sub
    exact ⟨_, _, rfl, .inr h1, fin_lst R r1 q⟩
  · cases e
def dvmD : List Dt → Option R
  | [.int i, .int j] => if 0 < j ∧ j < 1073741824 then some (.v (.tuple [.int (i / j), .int (i % j)])) else none
  | _ => none
theorem fj_dvm : FnJ K C nDivm dvmD := by
  intro B O σ H F τ xs ds res R h e Q q
  unfold dvmD at e
  split at e
  · split at e
    · rename_i hl
      cases e
      obtain ⟨x, y, rfl, h1, h2⟩ := paired2 h
      cases h1.int
      cases h2.int
      exact ⟨_, _, rfl, hl, fin_tup R (.cons (.int _) (.cons (.int _) .nil)) q⟩
    · cases e
  · cases e
def intsOf : List Dt → Option (List Int)
  | [] => some []
  | .int i :: r => (intsOf r).map (i :: ·)
  | _ :: _ => none
theorem intsOf_ok : ∀ {ds : List Dt} {ns : List Int}, intsOf ds = some ns → ds = ns.map PyData.int
  | [], _, e => by cases e; rfl
  | .int i :: r, ns, e => by
    obtain ⟨n', e1, e2⟩ := Option.map_eq_some_iff.mp e
    cases e2
    rw [intsOf_ok e1]
    rfl
  | .none :: _, _, e => by cases e
  | .bool _ :: _, _, e => by cases e
  | .str _ :: _, _, e => by cases e
  | .list _ :: _, _, e => by cases e
  | .tuple _ :: _, _, e => by cases e
  | .dict _ :: _, _, e => by cases e
theorem intsOf_map : ∀ ns : List Int, intsOf (ns.map PyData.int) = some ns
  | [] => rfl
  | n :: ns => by rw [List.map_cons, intsOf, intsOf_map ns]; rfl
def boolsOf : List Dt → Option (List Bool)
  | [] => some []
  | .bool i :: r => (boolsOf r).map (i :: ·)
  | _ :: _ => none
theorem boolsOf_ok : ∀ {ds : List Dt} {ns : List Bool}, boolsOf ds = some ns → ds = ns.map PyData.bool
  | [], _, e => by cases e; rfl
  | .bool i :: r, ns, e => by
    obtain ⟨n', e1, e2⟩ := Option.map_eq_some_iff.mp e
    cases e2
    rw [boolsOf_ok e1]
    rfl
  | .none :: _, _, e => by cases e
  | .int _ :: _, _, e => by cases e
  | .str _ :: _, _, e => by cases e
  | .list _ :: _, _, e => by cases e
  | .tuple _ :: _, _, e => by cases e
  | .dict _ :: _, _, e => by cases e
theorem boolsOf_map : ∀ ns : List Bool, boolsOf (ns.map PyData.bool) = some ns
  | [] => rfl
  | n :: ns => by rw [List.map_cons, boolsOf, boolsOf_map ns]; rfl
theorem Vw.ints {F H : Hp} {v : V} {ds : List Dt} {ns : List Int} (s : Same F H) (h : Vw K C F H v (.list ds)) (e : intsOf ds = some ns) : ∃ p, v = .ref p ∧ SqL K H p (ns.map V.int) := by
  obtain ⟨p, vs, rfl, h1, r1⟩ := h.list s
  rw [intsOf_ok e] at r1
  rw [r1.ints] at h1
  exact ⟨p, rfl, h1⟩
theorem Vw.bools {F H : Hp} {v : V} {ds : List Dt} {ns : List Bool} (s : Same F H) (h : Vw K C F H v (.list ds)) (e : boolsOf ds = some ns) : ∃ p, v = .ref p ∧ SqL K H p (ns.map V.bl) := by
  obtain ⟨p, vs, rfl, h1, r1⟩ := h.list s
  rw [boolsOf_ok e] at r1
  rw [r1.bools] at h1
  exact ⟨p, rfl, h1⟩
def sumD : List Dt → Option R
  | [.list ds] => (intsOf ds).map fun ns => .v (.int ns.sum)
  | _ => none
theorem fj_sum : FnJ K C (rSum K) sumD := by
  intro B O σ H F τ xs ds res R h e Q q
  unfold sumD at e
  split at e
  · obtain ⟨ns, e1, e2⟩ := Option.map_eq_some_iff.mp e
    clear e
    cases e2
    obtain ⟨x, rfl, hv⟩ := paired1 h
    obtain ⟨p, rfl, h1⟩ := hv.ints R.sub e1
    exact ⟨_, _, rfl, h1, fin_v R (.int _) q⟩
  · cases e
def allD : List Dt → Option R
  | [.list ds] => (boolsOf ds).map fun ns => .v (.bool (ns.all id))
  | _ => none
def anyD : List Dt → Option R
  | [.list ds] => (boolsOf ds).map fun ns => .v (.bool (ns.any id))
  | _ => none
theorem fj_all : FnJ K C (rAll K) allD := by
  intro B O σ H F τ xs ds res R h e Q q
  unfold allD at e
  split at e
  · obtain ⟨ns, e1, e2⟩ := Option.map_eq_some_iff.mp e
    clear e
    cases e2
    obtain ⟨x, rfl, hv⟩ := paired1 h
    obtain ⟨p, rfl, h1⟩ := hv.bools R.sub e1
    exact ⟨_, _, rfl, h1, fin_v R (.bl _) q⟩
  · cases e
theorem fj_any : FnJ K C (rAny K) anyD := by
  intro B O σ H F τ xs ds res R h e Q q
  unfold anyD at e
  split at e
  · obtain ⟨ns, e1, e2⟩ := Option.map_eq_some_iff.mp e
    clear e
    cases e2
    obtain ⟨x, rfl, hv⟩ := paired1 h
    obtain ⟨p, rfl, h1⟩ := hv.bools R.sub e1
    exact ⟨_, _, rfl, h1, fin_v R (.bl _) q⟩
  · cases e
/-- the greatest, the least -/
def maxI : List Int → Option Int
  | [] => none
  | x :: xs => match maxI xs with
    | none => some x
    | some m => some (if m ≤ x then x else m)
def minI : List Int → Option Int
  | [] => none
  | x :: xs => match minI xs with
    | none => some x
    | some m => some (if x ≤ m then x else m)
theorem maxI_none : ∀ {ns : List Int}, maxI ns = none → ns = []
  | [], _ => rfl
  | x :: xs, h => by
    unfold maxI at h
    split at h <;> cases h
theorem minI_none : ∀ {ns : List Int}, minI ns = none → ns = []
  | [], _ => rfl
  | x :: xs, h => by
    unfold minI at h
    split at h <;> cases h
theorem maxI_ok : ∀ {ns : List Int} {m : Int}, maxI ns = some m → m ∈ ns ∧ ∀ y ∈ ns, y ≤ m
  | [], _, h => by cases h
  | x :: xs, m, h => by
    unfold maxI at h
    split at h
    · rename_i e
      cases h
      rw [maxI_none e]
      simp
    · rename_i k e
      cases h
      obtain ⟨h1, h2⟩ := maxI_ok e
      split
      · rename_i hk
        exact ⟨List.mem_cons_self, fun y hy => by
          rcases List.mem_cons.mp hy with rfl | hy
          · exact Int.le_refl _
          · exact Int.le_trans (h2 y hy) hk⟩
      · rename_i hk
        exact ⟨List.mem_cons_of_mem _ h1, fun y hy => by
          rcases List.mem_cons.mp hy with rfl | hy
          · omega
          · exact h2 y hy⟩
theorem minI_ok : ∀ {ns : List Int} {m : Int}, minI ns = some m → m ∈ ns ∧ ∀ y ∈ ns, m ≤ y
  | [], _, h => by cases h
  | x :: xs, m, h => by
    unfold minI at h
    split at h
    · rename_i e
      cases h
      rw [minI_none e]
      simp
    · rename_i k e
      cases h
      obtain ⟨h1, h2⟩ := minI_ok e
      split
      · rename_i hk
        exact ⟨List.mem_cons_self, fun y hy => by
          rcases List.mem_cons.mp hy with rfl | hy
          · exact Int.le_refl _
          · exact Int.le_trans hk (h2 y hy)⟩
      · rename_i hk
        exact ⟨List.mem_cons_of_mem _ h1, fun y hy => by
          rcases List.mem_cons.mp hy with rfl | hy
          · omega
          · exact h2 y hy⟩
def maxD : List Dt → Option R
  | [.list ds] => (intsOf ds).bind fun ns => (maxI ns).map fun m => .v (.int m)
  | _ => none
def minD : List Dt → Option R
  | [.list ds] => (intsOf ds).bind fun ns => (minI ns).map fun m => .v (.int m)
  | _ => none
theorem fj_max : FnJ K C (rMax K) maxD := by
  intro B O σ H F τ xs ds res R h e Q q
  unfold maxD at e
  split at e
  · obtain ⟨ns, e1, e2⟩ := Option.bind_eq_some_iff.mp e
    clear e
    obtain ⟨m, e4, e3⟩ := Option.map_eq_some_iff.mp e2
    clear e2
    cases e3
    obtain ⟨x, rfl, hv⟩ := paired1 h
    obtain ⟨p, rfl, h1⟩ := hv.ints R.sub e1
    obtain ⟨k1, k2⟩ := maxI_ok e4
    refine ⟨_, _, rfl, h1, List.length_pos_of_mem k1, fun m' g1 g2 => ?_⟩
    have : m' = m := Int.le_antisymm (k2 _ g1) (g2 _ k1)
    subst this
    exact fin_v R (.int _) q
  · cases e
theorem fj_min : FnJ K C (rMin K) minD := by
  intro B O σ H F τ xs ds res R h e Q q
  unfold minD at e
  split at e
  · obtain ⟨ns, e1, e2⟩ := Option.bind_eq_some_iff.mp e
    clear e
    obtain ⟨m, e4, e3⟩ := Option.map_eq_some_iff.mp e2
    clear e2
    cases e3
    obtain ⟨x, rfl, hv⟩ := paired1 h
    obtain ⟨p, rfl, h1⟩ := hv.ints R.sub e1
    obtain ⟨k1, k2⟩ := minI_ok e4
    refine ⟨_, _, rfl, h1, List.length_pos_of_mem k1, fun m' g1 g2 => ?_⟩
    have : m' = m := Int.le_antisymm (g2 _ k1) (k2 _ g1)
    subst this
    exact fin_v R (.int _) q
  · cases e
def max2D : List Dt → Option R
  | [.int i, .int j] => some (.v (.int (if j > i then j else i)))
  | _ => none
def min2D : List Dt → Option R
  | [.int i, .int j] => some (.v (.int (if j < i then j else i)))
  | _ => none
theorem fj_max2 : FnJ K C (fun xs H Q => ∃ i j, xs = [.int i, .int j] ∧ Q (.int (if j > i then j else i)) H) max2D := by
  intro B O σ H F τ xs ds res R h e Q q
  unfold max2D at e
  split at e
  · cases e
    obtain ⟨x, y, rfl, h1, h2⟩ := paired2 h
    cases h1.int
    cases h2.int
    exact ⟨_, _, rfl, fin_v R (.int _) q⟩
  · cases e
theorem fj_min2 : FnJ K C (fun xs H Q => ∃ i j, xs = [.int i, .int j] ∧ Q (.int (if j < i then j else i)) H) min2D := by
  intro B O σ H F τ xs ds res R h e Q q
  unfold min2D at e
  split at e
  · cases e
    obtain ⟨x, y, rfl, h1, h2⟩ := paired2 h
    cases h1.int
    cases h2.int
    exact ⟨_, _, rfl, fin_v R (.int _) q⟩
  · cases e
def gcdD : List Dt → Option R
  | [.int i, .int j] => some (.v (.int ((Nat.gcd i.natAbs j.natAbs : Nat) : Int)))
  | _ => none
theorem fj_gcd : FnJ K C rGcd gcdD := by
  intro B O σ H F τ xs ds res R h e Q q
  unfold gcdD at e
  split at e
  · cases e
    obtain ⟨x, y, rfl, h1, h2⟩ := paired2 h
    cases h1.int
    cases h2.int
    exact ⟨_, _, rfl, fin_v R (.int _) q⟩
  · cases e
/-! ### isinstance -/
inductive Ty where
  | bool | int | str | list | tuple
def Ty.name : Ty → String
  | .bool => "bool"
  | .int => "int"
  | .str => "str"
  | .list => "list"
  | .tuple => "tuple"
def isTy : Ty → Dt → Bool
  | .bool, .bool _ => true
  | .int, .bool _ => true
  | .int, .int _ => true
  | .str, .str _ => true
  | .list, .list _ => true
  | .tuple, .tuple _ => true
  | _, _ => false
def tyN : Dt → String
  | .none => "NoneType"
  | .bool _ => "bool"
  | .int _ => "int"
  | .str _ => "str"
  | .list _ => "list"
  | .tuple _ => "tuple"
  | .dict _ => "dict"
theorem kit_isTy (T : Ty) (d : Dt) : kitB (tyN d) T.name = some (isTy T d) := by
  cases T <;> cases d <;> first | rfl | decide +kernel
def notObj : Dt → Bool
  | .dict _ => false
  | _ => true
theorem Vw.ty {F H : Hp} {v : V} {d : Dt} (s : Same F H) (h : Vw K C F H v d) (e : notObj d = true) : TyX K H v (.type (tyN d)) := by
  cases d with
  | none => cases h.none; exact .base .non
  | bool b => cases h.bool; exact .base (.bl _)
  | int b => cases h.int; exact .base (.int _)
  | str b => cases h.str; exact .base (.str _)
  | list b =>
    obtain ⟨p, vs, rfl, h1, r1⟩ := h.list s
    rcases h1 with (h1 | ⟨o, h1⟩) | ⟨o, its, n, h1, h2, _⟩
    · exact .base (.lst h1)
    · exact .base (.frz h1)
    · exact .kList h1 h2
  | tuple b =>
    obtain ⟨p, vs, rfl, h1, r1⟩ := h.tupH s
    rcases h1 with (h1 | ⟨o, h1⟩) | ⟨o, its, n, h1, h2, _⟩
    · exact .base (.tup h1)
    · exact .fTuple h1
    · exact .kTuple h1 h2
  | dict b => cases e
def eIs (T : Ty) (a : M R) : M R := mb a fun r => fun τ => match vw τ r with
  | some d => if notObj d then some (.v (.bool (isTy T d)), τ) else none
  | none => none
theorem jIs {T : Ty} {te : TE} {ea : M R} (ha : JE K C te ea) : JE K C (tCB (rIst K) (tCons te (tCons (tC (.ty T.name)) tNil))) (eIs T ea) := by
  intro B O σ H F τ R a τ' e Q q
  obtain ⟨x, τ1, e1, e⟩ := mb_some e
  refine ha B O σ H F τ R _ _ e1 _ fun v1 H1 F1 O1 R1 E1 r1 => ?_
  split at e
  · rename_i d hd
    split at e
    · rename_i hn
      cases e
      exact .inl ⟨_, _, _, _, isTy T d, rfl, .ty _, (vw_ok R1 r1 hd).ty R1.sub hn, kit_ty (kit_isTy T d), q _ _ _ _ R1 E1 (.bl _)⟩
    · cases e
  · cases e
def eIs2 (T U : Ty) (a : M R) : M R := mb a fun r => fun τ => match vw τ r with
  | some d => if notObj d then some (.v (.bool (isTy T d || isTy U d)), τ) else none
  | none => none
theorem jIs2 {T U : Ty} {te : TE} {ea : M R} (ha : JE K C te ea) : JE K C (tCB (rIst K) (tCons te (tCons (nTup (tCons (tC (.ty T.name)) (tCons (tC (.ty U.name)) tNil))) tNil))) (eIs2 T U ea) := by
  intro B O σ H F τ R a τ' e Q q
  obtain ⟨x, τ1, e1, e⟩ := mb_some e
  refine ha B O σ H F τ R _ _ e1 _ fun v1 H1 F1 O1 R1 E1 r1 => ?_
  split at e
  · rename_i d hd
    split at e
    · rename_i hn
      cases e
      refine ⟨by simp only [List.length_cons, List.length_nil]; decide, fun p G hp sG gG => ?_⟩
      obtain ⟨R2, E2, g⟩ := R1.new hp sG gG
      have hv := (vw_ok R1 r1 hd).mono E2.f sG
      refine .inr ⟨_, p, _, _, _, (isTy T d || isTy U d), rfl, gG, .cons (.ty _) (.cons (.ty _) .nil), hv.ty R2.sub hn, ?_, q _ _ _ _ R2 (E1.trans E2) (.bl _)⟩
      refine kitAny_cons (kit_ty (kit_isTy T d)) (fun h => ?_) (fun h => by rw [h]; rfl)
      rw [h, Bool.false_or]
      refine kitAny_cons (kit_ty (kit_isTy U d)) (fun h => by rw [h]; rfl) (fun h => h)
    · cases e
  · cases e
/-! ### an item, a part -/
def ixD : Dt → Dt → Option R
  | .list ds, .int i => (atI ds i).map R.v
  | .tuple ds, .int i => (atI ds i).map R.v
  | .str z, .int i => if z.length ≤ 1000000 then (atI z.cps.toList i).map fun c => R.v (.str ⟨#[c]⟩) else none
  | _, _ => none
theorem RpA.atI {F : Hp} {vs : List V} {ds : List Dt} {i : Int} {d : Dt} (r : RpA K C F vs ds) (h : L2.atI ds i = some d) : ∃ v, L2.atI vs i = some v ∧ Rp K C F v d := by
  unfold L2.atI at h ⊢
  rw [r.length]
  obtain ⟨j, h1, h2⟩ := Option.bind_eq_some_iff.mp h
  obtain ⟨u, h3, h4⟩ := r.get h2
  exact ⟨u, by rw [h1]; exact h3, h4⟩
theorem oj_ix : OpJ K C (rIx K) ixD := by
  intro B O σ H F τ x y dx dy res R hx hy e Q q
  unfold ixD at e
  split at e
  · obtain ⟨d, e1, e2⟩ := Option.map_eq_some_iff.mp e
    clear e
    cases e2
    obtain ⟨p, vs, rfl, h1, r1⟩ := hx.list R.sub
    cases hy.int
    obtain ⟨v, g1, g2⟩ := r1.atI e1
    exact .inl ⟨_, _, _, _, rfl, rfl, h1, g1, fin_v R g2 q⟩
  · obtain ⟨d, e1, e2⟩ := Option.map_eq_some_iff.mp e
    clear e
    cases e2
    obtain ⟨p, vs, rfl, h1, r1⟩ := hx.tupH R.sub
    cases hy.int
    obtain ⟨v, g1, g2⟩ := r1.atI e1
    exact .inr (.inl ⟨_, _, _, _, rfl, rfl, h1, g1, fin_v R g2 q⟩)
  · split at e
    · rename_i hl
      obtain ⟨d, e1, e2⟩ := Option.map_eq_some_iff.mp e
      clear e
      cases e2
      cases hx.str
      cases hy.int
      exact .inr (.inr ⟨_, _, _, rfl, rfl, Nat.le_trans hl million, e1, fin_v R (.str _) q⟩)
    · cases e
  · cases e
def cutD (xs : List Dt) (lo hi : Option Int) : List Dt := (xs.drop (HT.sIx xs.length 0 lo)).take (HT.sIx xs.length xs.length hi - HT.sIx xs.length 0 lo)
def slD : Dt → Option Int → Option Int → Option R
  | .list ds, lo, hi => some (.n (.L (cutD ds lo hi)))
  | .tuple ds, lo, hi => some (.v (.tuple (cutD ds lo hi)))
  | _, _, _ => none
abbrev JO (K : PySem.W.Frag) (C : Cl) (t : TO) (m : M (Option Int)) : Prop := J K C (fun _ _ _ _ b a => b = a) t m
def oNone : M (Option Int) := fun τ => some (none, τ)
def oSome (a : M R) : M (Option Int) := mb a fun r => fun τ => match vw τ r with
  | some (.int i) => some (some i, τ)
  | _ => none
theorem joNone : JO K C tNoPart oNone := by
  intro B O σ H F τ R a τ' e Q q
  cases e
  exact q _ _ _ _ R Ext.refl rfl
theorem joSome {te : TE} {ea : M R} (ha : JE K C te ea) : JO K C (tPart te) (oSome ea) := by
  intro B O σ H F τ R a τ' e Q q
  obtain ⟨x, τ1, e1, e⟩ := mb_some e
  refine ha B O σ H F τ R _ _ e1 _ fun v1 H1 F1 O1 R1 E1 r1 => ?_
  split at e
  · rename_i i hi
    cases e
    exact ⟨i, (vw_ok R1 r1 hi).int, q _ _ _ _ R1 E1 rfl⟩
  · cases e
def eSl (a : M R) (lo hi : M (Option Int)) : M R := mb a fun r => mb lo fun l => mb hi fun h => fun τ => match vw τ r with
  | some d => (slD d l h).map (·, τ)
  | none => none
theorem jSl {te : TE} {tl th : TO} {ea : M R} {el eh : M (Option Int)} (ha : JE K C te ea) (hl : JO K C tl el) (hh : JO K C th eh) : JE K C (tSl (rSlc K) te tl th) (eSl ea el eh) := by
  intro B O σ H F τ R a τ' e Q q
  obtain ⟨x, τ1, e1, e⟩ := mb_some e
  obtain ⟨l, τ2, e2, e⟩ := mb_some e
  obtain ⟨h, τ3, e3, e⟩ := mb_some e
  refine ha B O σ H F τ R _ _ e1 _ fun v1 H1 F1 O1 R1 E1 r1 => ?_
  refine hl B O1 σ H1 F1 _ R1 _ _ e2 _ fun v2 H2 F2 O2 R2 E2 r2 => ?_
  refine hh B O2 σ H2 F2 _ R2 _ _ e3 _ fun v3 H3 F3 O3 R3 E3 r3 => ?_
  subst r2
  subst r3
  have E := (E1.trans E2).trans E3
  split at e
  · rename_i d hd
    obtain ⟨res, e4, e5⟩ := Option.map_eq_some_iff.mp e
    clear e
    cases e5
    have hv := vw_ok R3 ((r1.ext E2).ext E3) hd
    have q' : ∀ v H' F' O', Rel K C B O' σ H' F' _ → Ext O3 H3 F3 O' H' F' → RV K C H3 O' F' σ v _ → Q v H' := fun v H' F' O' R' E' r' => q v H' F' O' R' (E.trans E') (r'.back fun p h => E.d p h)
    unfold slD at e4
    split at e4
    · cases e4
      obtain ⟨p, vs, rfl, h1, r1⟩ := hv.list R3.sub
      refine .inl ⟨_, _, rfl, h1, fin_lst R3 ?_ q'⟩
      unfold cutV cutD
      rw [r1.length]
      exact (r1.drop _).take _
    · rename_i ds
      cases e4
      obtain ⟨p, vs, rfl, h1, r1⟩ := hv.tup
      refine .inr (.inl ⟨_, _, rfl, Same.tupS R3.sub h1, fun hw => ?_, fun _ => fin_tup R3 ?_ q'⟩)
      · have ec : cutD ds v2 v3 = ds := by
          unfold cutD
          rw [r1.length] at hw
          rw [hw.1, hw.2, List.drop_zero, Nat.sub_zero, List.take_length]
        rw [ec] at q'
        exact fin_v R3 (.tup h1 r1) q'
      · unfold cutV cutD
        rw [r1.length]
        exact (r1.drop _).take _
    · cases e4
  · cases e
def eRev (a : M R) : M R := mb a fun r => fun τ => match vw τ r with
  | some (.list ds) => some (.n (.L ds.reverse), τ)
  | _ => none
theorem jRev {te : TE} {ea : M R} (ha : JE K C te ea) : JE K C (tRevL K te) (eRev ea) := by
  intro B O σ H F τ R a τ' e Q q
  obtain ⟨x, τ1, e1, e⟩ := mb_some e
  refine ha B O σ H F τ R _ _ e1 _ fun v1 H1 F1 O1 R1 E1 r1 => ?_
  split at e
  · rename_i ds hd
    cases e
    obtain ⟨p, vs, rfl, h1, r2⟩ := (vw_ok R1 r1 hd).list R1.sub
    exact ⟨_, _, rfl, h1, New.go (fin_lst R1 r2.reverse fun v H' F' O' R' E' r' => q v H' F' O' R' (E1.trans E') (r'.back fun p h => E1.d p h))⟩
  · cases e
/-- [..] * k -/
def eRep (a b : M R) : M R := mb a fun r => mb b fun s => fun τ => match r, vw τ s with
  | .n (.L ds), some (.int k) => if -1000000 ≤ k ∧ k ≤ 1000000 ∧ ds.length * k.toNat ≤ 1000000 then some (.n (.L (List.replicate k.toNat ds).flatten), τ) else none
  | _, _ => none
theorem jRep {ta tb : TE} {ea eb : M R} (ha : JE K C ta ea) (hb : JE K C tb eb) (hk : ∀ H Q x y, nRep x y H Q → rMul K x y H Q) : JE K C (tOp (rMul K) ta tb) (eRep ea eb) := by
  intro B O σ H F τ R a τ' e Q q
  obtain ⟨x, τ1, e1, ea'⟩ := mb_some e
  clear e
  obtain ⟨y, τ2, e2, e⟩ := mb_some ea'
  clear ea'
  refine ha B O σ H F τ R _ _ e1 _ fun v1 H1 F1 O1 R1 E1 r1 => ?_
  refine hb B O1 σ H1 F1 τ1 R1 _ _ e2 _ fun v2 H2 F2 O2 R2 E2 r2 => ?_
  split at e
  · rename_i ds k hk'
    split at e
    · rename_i hl
      cases e
      have hy := vw_ok R2 r2 hk'
      cases hy.int
      obtain ⟨p, rfl, g2, g3⟩ := r1.ext E2
      obtain ⟨vs, g4, g5⟩ := (R2.own _ _ _ g2).1
      refine hk _ _ _ _ ⟨p, k, vs, rfl, rfl, g4, by omega, by omega, by rw [g5.length]; exact Nat.le_trans hl.2.2 million, fin_lst R2 (g5.reps _) fun v H' F' O' R' E' r' => q v H' F' O' R' ((E1.trans E2).trans E') (r'.back fun p h => (E1.trans E2).d p h)⟩
    · cases e
  · cases e
end
end MR
end BW
--RAW
namespace BW
namespace MR
open PySem PySem.Spec PyProof.Rows L2
section
variable {K : PySem.W.Frag} {C : Cl}
/-! ### what a name holds is changed -/
def eApp (i : Nat) (a : M (List R)) : M R := fun τ0 => match ownAt τ0 i with
  | some (.L _) => mb a (fun rs => fun τ => match ownAt τ i, rds rs with
    | some (.L ds), some [d] => if ds.length < 1000000 then some (.v .none, ownSet τ i (.L (ds ++ [d]))) else none
    | _, _ => none) τ0
  | _ => none
theorem jApp {i : Nat} {ta : TA} {ea : M (List R)} (ha : JA K C ta ea) : JE K C (tBM K "list" rAppend (tVar i) ta) (eApp i ea) := by
  intro B O σ H F τ R a τ' e Q q
  unfold eApp at e
  split at e
  · rename_i ds0 h0
    obtain ⟨p, s0, o0, ⟨vs0, g0, r0⟩, _⟩ := R.ownAt h0
    refine ⟨_, s0, .inl ⟨rfl, _, .inl (.inl g0)⟩, ?_⟩
    obtain ⟨rs, τ1, e1, e2⟩ := mb_some e
    clear e
    refine ha B O σ H F τ R _ _ e1 _ fun v1 H1 F1 O1 R1 E1 r1 => ?_
    split at e2
    · rename_i ds d h1 h2
      split at e2
      · rename_i hl
        cases e2
        obtain ⟨p', s1, o1, ⟨vs, g1, k1⟩, n1⟩ := R1.ownAt h1
        rw [s0] at s1
        cases s1
        have rr := rds_ok r1 h2
        cases rr with
        | cons a b =>
          cases b
          refine ⟨p, vs, _, rfl, rfl, g1, Nat.lt_of_lt_of_le (by rw [k1.length]; exact hl) million, ?_⟩
          exact q _ _ _ _ (R1.updS h1 s0 o1 ⟨_, upd_same, k1.snoc a⟩) (E1.updO (E1.slotNe o1) o1) .non
      · cases e2
    · cases e2
  · cases e
def ePop (i : Nat) : M R := fun τ => match ownAt τ i with
  | some (.L ds) => match ds[ds.length - 1]? with
    | some d => some (.v d, ownSet τ i (.L ds.dropLast))
    | none => none
  | _ => none
theorem RpA.dropLast {F : Hp} {v : List V} {d : List Dt} (h : RpA K C F v d) : RpA K C F v.dropLast d.dropLast := by
  rw [List.dropLast_eq_take, List.dropLast_eq_take, h.length]
  exact h.take _
theorem jPop {i : Nat} : JE K C (tBM0 K "list" rPop (tVar i)) (ePop i) := by
  intro B O σ H F τ R a τ' e Q q
  unfold ePop at e
  split at e
  · rename_i ds h0
    split at e
    · rename_i d hd
      cases e
      obtain ⟨p, s0, o0, ⟨vs, g0, r0⟩, _⟩ := R.ownAt h0
      obtain ⟨u, hu, ru⟩ := r0.get hd
      refine ⟨_, s0, .inl ⟨rfl, _, .inl (.inl g0)⟩, p, vs, u, rfl, rfl, g0, by rw [r0.length]; exact hu, ?_⟩
      exact q _ _ _ _ (R.updS h0 s0 o0 ⟨_, upd_same, r0.dropLast⟩) (Ext.refl.updO (Ext.refl (H := H) (F := F) |>.slotNe o0) o0) ru
    · cases e
  · cases e
/-- pop(k) -/
def ePopAt (i : Nat) (a : M (List R)) : M R := fun τ0 => match ownAt τ0 i with
  | some (.L _) => mb a (fun rs => fun τ => match ownAt τ i, rds rs with
    | some (.L ds), some [.int k] => if 0 ≤ k ∧ k ≤ 1000000 then match ds[k.toNat]? with
      | some d => some (.v d, ownSet τ i (.L (ds.eraseIdx k.toNat)))
      | none => none
      else none
    | _, _ => none) τ0
  | _ => none
theorem RpA.eraseIdx {F : Hp} : ∀ {v : List V} {d : List Dt} (n : Nat), RpA K C F v d → RpA K C F (v.eraseIdx n) (d.eraseIdx n)
  | _, _, _, .nil => by simp; exact .nil
  | _, _, 0, .cons _ r => r
  | _, _, n + 1, .cons h r => .cons h (RpA.eraseIdx n r)
theorem jPopAt {i : Nat} {ta : TA} {ea : M (List R)} (ha : JA K C ta ea) : JE K C (tBM K "list" rPopAt (tVar i) ta) (ePopAt i ea) := by
  intro B O σ H F τ R a τ' e Q q
  unfold ePopAt at e
  split at e
  · rename_i ds0 h0
    obtain ⟨p, s0, o0, ⟨vs0, g0, r0⟩, _⟩ := R.ownAt h0
    refine ⟨_, s0, .inl ⟨rfl, _, .inl (.inl g0)⟩, ?_⟩
    obtain ⟨rs, τ1, e1, e2⟩ := mb_some e
    clear e
    refine ha B O σ H F τ R _ _ e1 _ fun v1 H1 F1 O1 R1 E1 r1 => ?_
    split at e2
    · rename_i ds k h1 h2
      split at e2
      · rename_i hl
        split at e2
        · rename_i d hd
          cases e2
          obtain ⟨p', s1, o1, ⟨vs, g1, k1⟩, n1⟩ := R1.ownAt h1
          rw [s0] at s1
          cases s1
          have rr := rds_ok r1 h2
          cases rr with
          | cons a b =>
            cases b
            cases a
            obtain ⟨u, hu, ru⟩ := k1.get hd
            have hlt := (List.getElem?_eq_some_iff.mp hu).1
            refine ⟨p, vs, _, k.toNat, u, rfl, rfl, g1, by omega, by omega, ?_, hu, ?_⟩
            · unfold seqIndex?
              simp only [Int.not_lt.mpr hl.1, if_false]
              first | (rw [if_pos (by omega)]) | skip
              simp
              omega
            · exact q _ _ _ _ (R1.updS h1 s0 o1 ⟨_, upd_same, k1.eraseIdx _⟩) (E1.updO (E1.slotNe o1) o1) ru
        · cases e2
      · cases e2
    · cases e2
  · cases e
/-- x[k] = .. -/
def gIx (i : Nat) (ix : M R) (d : Dt) : M Unit := fun τ0 => match ownAt τ0 i with
  | some (.L _) => mb ix (fun r => fun τ => match ownAt τ i, vw τ r with
    | some (.L ds), some (.int k) => match ixN ds.length k with
      | some j => some ((), ownSet τ i (.L (ds.set j d)))
      | none => none
    | _, _ => none) τ0
  | _ => none
theorem jgIx {i : Nat} {ti : TE} {ei : M R} (hi : JE K C ti ei) : JG K C (gSub (tVar i) ti rSetL) (gIx i ei) := by
  intro B O σ H F τ R v d u τ' r e Q q
  unfold gIx at e
  split at e
  · rename_i ds0 h0
    obtain ⟨p, s0, o0, ⟨vs0, g0, r0⟩, _⟩ := R.ownAt h0
    obtain ⟨x, τ1, e1, e2⟩ := mb_some e
    clear e
    refine ⟨_, s0, hi B O σ H F τ R _ _ e1 _ fun v1 H1 F1 O1 R1 E1 r1 => ?_⟩
    split at e2
    · rename_i ds k h1 h2
      split at e2
      · rename_i j hj
        cases e2
        obtain ⟨p', s1, o1, ⟨vs, g1, k1⟩, n1⟩ := R1.ownAt h1
        rw [s0] at s1
        cases s1
        have hk := vw_ok R1 r1 h2
        cases hk.int
        refine ⟨p, vs, k, j, rfl, rfl, g1, by rw [k1.length]; exact hj, ?_⟩
        exact q _ _ _ _ (R1.updS h1 s0 o1 ⟨_, upd_same, RpA.set (r.same E1.f) j k1⟩) (E1.updO (E1.slotNe o1) o1)
      · cases e2
    · cases e2
  · cases e
/-- x[k] op= e -/
def sAugS (i : Nat) (ix : M R) (f : Dt → Dt → Option R) (a : M R) : M Fl := fun τ0 => match ownAt τ0 i with
  | some (.L _) => mb ix (fun r => fun τ => match ownAt τ i, vw τ r with
    | some (.L ds), some (.int k) => if 0 ≤ k then match ds[k.toNat]? with
      | some x => mb a (fun r2 => mb (fzR r2) fun y => fun τ2 => match ownAt τ2 i, f x y with
        | some (.L ds2), some (.v z) => if ds2.length = ds.length then some (.nx, ownSet τ2 i (.L (ds2.set k.toNat z))) else none
        | _, _ => none) τ
      | none => none
      else none
    | _, _ => none) τ0
  | _ => none
theorem jsAugS {i : Nat} {ti te : TE} {tp : TIp} {f : Dt → Dt → Option R} {ei ea : M R} (hi : JE K C ti ei) (ha : JE K C te ea) (hf : IpJ K C tp f) : JS K C (tAugS (tVar i) ti te (rGetL K) tp rSetL) (sAugS i ei f ea) := by
  intro B O σ H F τ R fl τ' e D q
  unfold sAugS at e
  split at e
  · rename_i ds0 h0
    obtain ⟨p, s0, o0, ⟨vs0, g0, r0⟩, _⟩ := R.ownAt h0
    obtain ⟨x, τ1, e1, e2⟩ := mb_some e
    clear e
    refine ⟨_, s0, hi B O σ H F τ R _ _ e1 _ fun v1 H1 F1 O1 R1 E1 r1 => ?_⟩
    split at e2
    · rename_i ds k h1 h2
      split at e2
      · rename_i hk0
        split at e2
        · rename_i xd hx
          obtain ⟨p', s1, o1, ⟨vs, g1, k1⟩, n1⟩ := R1.ownAt h1
          rw [s0] at s1
          cases s1
          have hk := vw_ok R1 r1 h2
          cases hk.int
          obtain ⟨u, hu, ru⟩ := k1.get hx
          refine ⟨p, vs, k, u, rfl, rfl, .inl (.inl g1), hk0, hu, ?_⟩
          obtain ⟨r2, τ3, e3, e4⟩ := mb_some e2
          clear e2
          obtain ⟨y, τ4, e5, e6⟩ := mb_some e4
          clear e4
          refine ha B O1 σ H1 F1 τ1 R1 _ _ e3 _ fun v3 H3 F3 O3 R3 E3 r3 => ?_
          obtain ⟨O4, F4, R4, E4, _, r4⟩ := fz_ok R1 R3 E3 r3 e5
          split at e6
          · rename_i ds2 z h3 h4
            split at e6
            · rename_i hl
              cases e6
              refine hf _ _ _ _ _ F4 _ _ (ru.same E4.f) r4 h4 fun z' rz => ?_
              obtain ⟨p', s1, o4, ⟨vs4, g4, k4⟩, n4⟩ := R4.ownAt h3
              rw [s0] at s1
              cases s1
              have hlt := (List.getElem?_eq_some_iff.mp hx).1
              refine ⟨p, vs4, k, k.toNat, rfl, rfl, g4, ?_, ?_⟩
              · unfold ixN
                rw [if_pos hk0, if_pos (by rw [k4.length, hl]; omega)]
              · have EE := E1.trans E4
                exact q _ _ _ _ (R4.updS h3 s0 o4 ⟨_, upd_same, RpA.set rz k.toNat k4⟩) (EE.updO (EE.slotNe o4) o4)
            · cases e6
          · cases e6
        · cases e2
      · cases e2
    · cases e2
  · cases e
end
end MR
end BW
--RAW
namespace BW
namespace MR
open PySem PySem.Spec PyProof.Rows L2
/-! ### while -/
def whG (c : M Bool) (b : M Fl) : Nat → M Fl
  | 0 => fun _ => none
  | n + 1 => fun τ => match c τ with
    | some (true, τ1) => match b τ1 with
      | some (.nx, τ2) => whG c b n τ2
      | some (.ct, τ2) => whG c b n τ2
      | some (.bk, τ2) => some (.nx, τ2)
      | some (.rt r, τ2) => some (.rt r, τ2)
      | none => none
    | some (false, τ1) => some (.nx, τ1)
    | none => none
theorem whG_mono {c : M Bool} {b : M Fl} : ∀ {n : Nat} {τ : List SD} {r : Fl × List SD}, whG c b n τ = some r → whG c b (n + 1) τ = some r
  | 0, _, _, h => by cases h
  | n + 1, τ, r, h => by
    unfold whG at h ⊢
    cases ec : c τ with
    | none => rw [ec] at h; cases h
    | some p =>
      obtain ⟨k, τ1⟩ := p
      rw [ec] at h
      cases k with
      | false => exact h
      | true =>
        dsimp only at h ⊢
        cases eb : b τ1 with
        | none => rw [eb] at h; cases h
        | some p2 =>
          obtain ⟨f, τ2⟩ := p2
          rw [eb] at h
          cases f with
          | nx => exact whG_mono h
          | ct => exact whG_mono h
          | bk => exact h
          | rt r => exact h
theorem whG_le {c : M Bool} {b : M Fl} {n m : Nat} {τ : List SD} {r : Fl × List SD} (h : whG c b n τ = some r) (hm : n ≤ m) : whG c b m τ = some r := by
  induction hm with
  | refl => exact h
  | step _ ih => exact whG_mono ih
open Classical in
noncomputable def sWhile (c : M Bool) (b : M Fl) : M Fl := fun τ => if h : ∃ n r, whG c b n τ = some r then whG c b (choose h) τ else none
theorem sWhile_of {c : M Bool} {b : M Fl} {n : Nat} {τ : List SD} {r : Fl × List SD} (h : whG c b n τ = some r) : sWhile c b τ = some r := by
  have hx : ∃ n r, whG c b n τ = some r := ⟨n, r, h⟩
  unfold sWhile
  rw [dif_pos hx]
  obtain ⟨r', h'⟩ := Classical.choose_spec hx
  rw [h']
  have h1 := whG_le h' (Nat.le_max_left (Classical.choose hx) n)
  have h2 := whG_le h (Nat.le_max_right (Classical.choose hx) n)
  rw [h1] at h2
  exact h2
theorem sWhile_ex {c : M Bool} {b : M Fl} {τ : List SD} {r : Fl × List SD} (h : sWhile c b τ = some r) : ∃ n, whG c b n τ = some r := by
  unfold sWhile at h
  split at h
  · exact ⟨_, h⟩
  · cases h
section
variable {K : PySem.W.Frag} {C : Cl}
theorem jsWhile {c : TT} {tb : TS} {ec : M Bool} {eb : M Fl} (hc : JT K C c ec) (hb : JS K C tb eb) : JS K C (tWhile c tb) (sWhile ec eb) := by
  intro B O σ H F τ R f τ' e D q
  obtain ⟨n, hn⟩ := sWhile_ex e
  refine ⟨fun m σ1 H1 => ∃ F1 O1 τ1, Rel K C B O1 σ1 H1 F1 τ1 ∧ Ext O H F O1 H1 F1 ∧ whG ec eb m τ1 = some (f, τ'), ⟨n, F, O, τ, R, Ext.refl, hn⟩, ?_⟩
  rintro m σ1 H1 ⟨F1, O1, τ1, R1, E1, hm⟩
  cases m with
  | zero => cases hm
  | succ k =>
    unfold whG at hm
    split at hm
    · rename_i τ2 e1
      refine hc B O1 σ1 H1 F1 τ1 R1 _ _ e1 _ fun bv H2 F2 O2 R2 E2 rb => ?_
      subst rb
      refine iteT ⟨fun σ' H' => ∃ F3 O3 τ3, Rel K C B O3 σ' H' F3 τ3 ∧ Ext O H F O3 H' F3 ∧ whG ec eb k τ3 = some (f, τ'), fun σ' H' h => ⟨k, Nat.lt_succ_self _, h⟩, ?_⟩
      have EE := E1.trans E2
      split at hm
      · rename_i τ3 e2
        exact hb B O2 σ1 H2 F2 τ2 R2 _ _ e2 _ fun σ3 H3 F3 O3 R3 E3 => ⟨F3, O3, τ3, R3, EE.trans E3, hm⟩
      · rename_i τ3 e2
        exact hb B O2 σ1 H2 F2 τ2 R2 _ _ e2 _ fun σ3 H3 F3 O3 R3 E3 => ⟨F3, O3, τ3, R3, EE.trans E3, hm⟩
      · rename_i τ3 e2
        cases hm
        exact hb B O2 σ1 H2 F2 τ2 R2 _ _ e2 _ fun σ3 H3 F3 O3 R3 E3 => q _ _ _ _ R3 (EE.trans E3)
      · rename_i r τ3 e2
        cases hm
        exact hb B O2 σ1 H2 F2 τ2 R2 _ _ e2 _ fun σ3 H3 F3 O3 R3 E3 => (q.after EE) _ _ _ _ R3 E3
      · cases hm
    · rename_i τ2 e1
      cases hm
      refine hc B O1 σ1 H1 F1 τ1 R1 _ _ e1 _ fun bv H2 F2 O2 R2 E2 rb => ?_
      subst rb
      exact iteF (q _ _ _ _ R2 (E1.trans E2))
    · cases hm
end
/-! ### what is walked -/
def Yld (F H F' H' : Hp) : Prop := (F' = F ∧ H' = H) ∨ ∃ p xs, H p = none ∧ H' = upd H p (.tup xs) ∧ F' = upd F p (.tup xs)
def ItOk (K : PySem.W.Frag) (C : Cl) (J : It) (F : Hp) (ds : List Dt) : Prop := ∀ F' H', Same F F' → Same F' H' →
  (∀ (i : Nat) (d : Dt), ds[i]? = some d → J.go i H' ∧ ∀ x H'', J.yld i H' x H'' → ∃ F'', Yld F' H' F'' H'' ∧ Rp K C F'' x d) ∧ J.stop ds.length H'
def JI (K : PySem.W.Frag) (C : Cl) (wi : TI) (m : M (List Dt)) : Prop := ∀ (B : Bs) (O : OO) (σ : L2.St) (H F : Hp) (τ : List SD), Rel K C B O σ H F τ → ∀ (ds : List Dt) (τ' : List SD), m τ = some (ds, τ') → ∀ Q : It → Hp → Prop,
  (∀ J H' F' O', Rel K C B O' σ H' F' τ' → Ext O H F O' H' F' → ItOk K C J F' ds → Q J H') → wi σ H Q
section
variable {K : PySem.W.Frag} {C : Cl} {B : Bs} {O : OO} {σ : L2.St} {H F F' H' : Hp} {τ : List SD}
theorem Rel.yld (R : Rel K C B O σ H F τ) (s : Same F F) (y : Yld F H F' H') : Rel K C B O σ H' F' τ ∧ Ext O H F O H' F' := by
  rcases y with ⟨rfl, rfl⟩ | ⟨p, xs, hp, rfl, rfl⟩
  · exact ⟨R, Ext.refl⟩
  · obtain ⟨h1, h2, _⟩ := R.new hp (same_new hp) upd_same
    exact ⟨h1, h2⟩
theorem itl_ok {a : Addr} {xs : List V} {ds : List Dt} (h : SqL K F a xs) (r : RpA K C F xs ds) : ItOk K C (Itl K a) F ds := by
  intro F' H' s1 s2
  have hs := s2.seq (s1.seq h)
  refine ⟨fun i d hd => ?_, ⟨xs, hs, by rw [r.length]; exact Nat.le_refl _⟩⟩
  obtain ⟨u, hu, ru⟩ := r.get hd
  refine ⟨⟨xs, u, hs, hu⟩, ?_⟩
  rintro x H'' ⟨rfl, hx⟩
  have := hx _ hs
  rw [hu] at this
  cases this
  exact ⟨F', .inl ⟨rfl, rfl⟩, ru.same s1⟩
theorem itt_ok {a : Addr} {xs : List V} {ds : List Dt} (h : SqT K F a xs) (r : RpA K C F xs ds) : ItOk K C (Itt K a) F ds := by
  intro F' H' s1 s2
  have hs := Same.tupS s2 (Same.tupS s1 h)
  refine ⟨fun i d hd => ?_, ⟨xs, hs, by rw [r.length]; exact Nat.le_refl _⟩⟩
  obtain ⟨u, hu, ru⟩ := r.get hd
  refine ⟨⟨xs, u, hs, hu⟩, ?_⟩
  rintro x H'' ⟨rfl, hx⟩
  have := hx _ hs
  rw [hu] at this
  cases this
  exact ⟨F', .inl ⟨rfl, rfl⟩, ru.same s1⟩
def itD : Dt → Option (List Dt)
  | .list ds => some ds
  | .tuple ds => some ds
  | _ => none
def iSeqD (a : M R) : M (List Dt) := mb a fun r => mb (fzR r) fun d => fun τ => (itD d).map (·, τ)
theorem jiSeq {te : TE} {ea : M R} (ha : JE K C te ea) : JI K C (iSeq K te) (iSeqD ea) := by
  intro B O σ H F τ R ds τ' e Q q
  obtain ⟨x, τ1, e1, e⟩ := mb_some e
  obtain ⟨d, τ2, e2, e3⟩ := mb_some e
  clear e
  obtain ⟨ds', e4, e5⟩ := Option.map_eq_some_iff.mp e3
  cases e5
  have key : ∀ W : V → Hp → Prop, (∀ v H' F' O', Rel K C B O' σ H' F' τ' → Ext O H F O' H' F' → Rp K C F' v d → W v H') → te σ H W := fun W hW => ha B O σ H F τ R _ _ e1 _ fun v1 H1 F1 O1 R1 E1 r1 => by
    obtain ⟨O2, F2, R2, E2, _, r2⟩ := fz_ok R R1 E1 r1 e2
    exact hW _ _ _ _ R2 E2 r2
  cases d with
  | list l =>
    cases e4
    refine .inl (key _ fun v H1 F1 O1 R1 E1 r1 => ?_)
    cases r1 with
    | lst h1 r1 => exact ⟨_, rfl, ⟨_, R1.sub.seq h1⟩, q _ _ _ _ R1 E1 (itl_ok h1 r1)⟩
  | tuple l =>
    cases e4
    refine .inr (key _ fun v H1 F1 O1 R1 E1 r1 => ?_)
    cases r1 with
    | tup h1 r1 => exact ⟨_, rfl, ⟨_, Same.tupS R1.sub h1⟩, q _ _ _ _ R1 E1 (itt_ok h1 r1)⟩
  | none => cases e4
  | bool b => cases e4
  | int b => cases e4
  | str b => cases e4
  | dict b => cases e4
/-! range -/
def rngD (lo : Int) (n : Nat) : List Dt := (List.range n).map fun (i : Nat) => PyData.int (lo + (i : Int))
theorem itr_ok {lo : Int} {n : Nat} : ItOk K C (Itr lo n) F (rngD lo n) := by
  intro F' H' s1 s2
  refine ⟨fun i d hd => ?_, by show n ≤ _; simp [rngD]⟩
  unfold rngD at hd
  rw [List.getElem?_map] at hd
  obtain ⟨j, hj, rfl⟩ := Option.map_eq_some_iff.mp hd
  obtain ⟨h1, h2⟩ := List.getElem?_eq_some_iff.mp hj
  rw [List.length_range] at h1
  rw [List.getElem_range] at h2
  subst h2
  refine ⟨h1, ?_⟩
  rintro x H'' ⟨rfl, rfl⟩
  exact ⟨F', .inl ⟨rfl, rfl⟩, .int _⟩
def okN (i : Int) : Bool := decide (-1000000000000 ≤ i ∧ i ≤ 1000000000000)
def iRng1D (a : M (List R)) : M (List Dt) := mb a fun rs => fun τ => match vws τ rs with
  | some [.int j] => if okN j then some (rngD 0 j.toNat, τ) else none
  | _ => none
theorem jiRng1 {ta : TA} {ea : M (List R)} (ha : JA K C ta ea) : JI K C (iRng1 ta) (iRng1D ea) := by
  intro B O σ H F τ R ds τ' e Q q
  obtain ⟨x, τ1, e1, e⟩ := mb_some e
  refine ha B O σ H F τ R _ _ e1 _ fun v1 H1 F1 O1 R1 E1 r1 => ?_
  split at e
  · rename_i j hj
    split at e
    · rename_i hk
      cases e
      obtain ⟨x, rfl, hv⟩ := paired1 (vws_ok R1 r1 hj)
      cases hv.int
      have hk := of_decide_eq_true hk
      exact ⟨j, rfl, by omega, by omega, q _ _ _ _ R1 E1 itr_ok⟩
    · cases e
  · cases e
def iRng2D (a : M (List R)) : M (List Dt) := mb a fun rs => fun τ => match vws τ rs with
  | some [.int i, .int j] => if okN i && okN j then some (rngD i (j - i).toNat, τ) else none
  | _ => none
theorem jiRng2 {ta : TA} {ea : M (List R)} (ha : JA K C ta ea) : JI K C (iRng2 ta) (iRng2D ea) := by
  intro B O σ H F τ R ds τ' e Q q
  obtain ⟨x, τ1, e1, e⟩ := mb_some e
  refine ha B O σ H F τ R _ _ e1 _ fun v1 H1 F1 O1 R1 E1 r1 => ?_
  split at e
  · rename_i i j hj
    split at e
    · rename_i hk
      cases e
      obtain ⟨x, y, rfl, hv, hw⟩ := paired2 (vws_ok R1 r1 hj)
      cases hv.int
      cases hw.int
      rw [Bool.and_eq_true] at hk
      have h1 := of_decide_eq_true hk.1
      have h2 := of_decide_eq_true hk.2
      exact ⟨i, j, rfl, by omega, q _ _ _ _ R1 E1 itr_ok⟩
    · cases e
  · cases e
/-! enumerate, zip, reversed -/
def enD : Nat → List Dt → List Dt
  | _, [] => []
  | k, d :: ds => .tuple [.int (k : Nat), d] :: enD (k + 1) ds
theorem enD_len : ∀ (ds : List Dt) (k : Nat), (enD k ds).length = ds.length
  | [], _ => rfl
  | d :: ds, k => by rw [enD, List.length_cons, List.length_cons, enD_len ds]
theorem enD_get : ∀ (ds : List Dt) (k i : Nat) (x : Dt), (enD k ds)[i]? = some x → ∃ d, ds[i]? = some d ∧ x = .tuple [.int ((k + i : Nat) : Int), d]
  | [], _, _, _, h => by simp [enD] at h
  | d :: ds, k, 0, x, h => by simp [enD] at h; subst h; exact ⟨d, rfl, rfl⟩
  | d :: ds, k, i + 1, x, h => by
    simp only [enD, List.getElem?_cons_succ] at h
    obtain ⟨e, h1, h2⟩ := enD_get ds (k + 1) i x h
    exact ⟨e, by simpa using h1, by rw [h2, show k + 1 + i = k + (i + 1) by omega]⟩
theorem pair_ok {p : Addr} {a b : V} {da db : Dt} (s : Same F F') (hp : F' p = some (.tup [a, b])) (ha : Rp K C F a da) (hb : Rp K C F b db) : Rp K C F' (.ref p) (.tuple [da, db]) :=
  .tup (.inl (.inl hp)) (.cons (ha.same s) (.cons (hb.same s) .nil))
theorem ite_ok {a : Addr} {xs : List V} {ds : List Dt} (h : SqL K F a xs) (r : RpA K C F xs ds) : ItOk K C (Ite K a) F (enD 0 ds) := by
  intro F' H' s1 s2
  have hs := s2.seq (s1.seq h)
  refine ⟨fun i d hd => ?_, ⟨xs, hs, by rw [enD_len, r.length]; exact Nat.le_refl _⟩⟩
  obtain ⟨x, hd2, rfl⟩ := enD_get _ _ _ _ hd
  obtain ⟨u, hu, ru⟩ := r.get hd2
  refine ⟨⟨xs, u, hs, hu⟩, ?_⟩
  rintro y H'' ⟨T, z, rfl, hT, rfl, hx⟩
  have := hx _ hs
  rw [hu] at this
  cases this
  rw [Nat.zero_add]
  exact ⟨_, .inr ⟨T, _, hT, rfl, rfl⟩, pair_ok (same_new (s2.free hT)) upd_same (.int _) (ru.same s1)⟩
theorem itet_ok {a : Addr} {xs : List V} {ds : List Dt} (h : SqT K F a xs) (r : RpA K C F xs ds) : ItOk K C (IteT K a) F (enD 0 ds) := by
  intro F' H' s1 s2
  have hs := Same.tupS s2 (Same.tupS s1 h)
  refine ⟨fun i d hd => ?_, ⟨xs, hs, by rw [enD_len, r.length]; exact Nat.le_refl _⟩⟩
  obtain ⟨x, hd2, rfl⟩ := enD_get _ _ _ _ hd
  obtain ⟨u, hu, ru⟩ := r.get hd2
  refine ⟨⟨xs, u, hs, hu⟩, ?_⟩
  rintro y H'' ⟨T, z, rfl, hT, rfl, hx⟩
  have := hx _ hs
  rw [hu] at this
  cases this
  rw [Nat.zero_add]
  exact ⟨_, .inr ⟨T, _, hT, rfl, rfl⟩, pair_ok (same_new (s2.free hT)) upd_same (.int _) (ru.same s1)⟩
def iEnD (a : M (List R)) : M (List Dt) := mb a fun rs => fun τ => match rds rs with
  | some [d] => (itD d).map fun ds => (enD 0 ds, τ)
  | _ => none
theorem jiEn {ta : TA} {ea : M (List R)} (ha : JA K C ta ea) : JI K C (iEnumA K ta) (iEnD ea) := by
  intro B O σ H F τ R ds τ' e Q q
  obtain ⟨x, τ1, e1, e⟩ := mb_some e
  refine ha B O σ H F τ R _ _ e1 _ fun v1 H1 F1 O1 R1 E1 r1 => ?_
  split at e
  · rename_i d hd
    obtain ⟨l, e2, e3⟩ := Option.map_eq_some_iff.mp e
    clear e
    cases e3
    have rr := rds_ok r1 hd
    cases rr with
    | cons a b =>
      cases b
      cases a with
      | lst h1 r1 => cases e2; exact ⟨_, _, rfl, .inl ⟨R1.sub.seq h1, q _ _ _ _ R1 E1 (ite_ok h1 r1)⟩⟩
      | tup h1 r1 => cases e2; exact ⟨_, _, rfl, .inr ⟨Same.tupS R1.sub h1, q _ _ _ _ R1 E1 (itet_ok h1 r1)⟩⟩
      | _ => cases e2
  · cases e
def zpD : List Dt → List Dt → List Dt
  | a :: as, b :: bs => .tuple [a, b] :: zpD as bs
  | _, _ => []
theorem zpD_len : ∀ (as bs : List Dt), (zpD as bs).length = min as.length bs.length
  | [], _ => by simp [zpD]
  | _ :: _, [] => by simp [zpD]
  | a :: as, b :: bs => by simp [zpD, zpD_len as bs]
theorem zpD_get : ∀ (as bs : List Dt) (i : Nat) (x : Dt), (zpD as bs)[i]? = some x → ∃ a b, as[i]? = some a ∧ bs[i]? = some b ∧ x = .tuple [a, b]
  | [], _, _, _, h => by simp [zpD] at h
  | _ :: _, [], _, _, h => by simp [zpD] at h
  | a :: as, b :: bs, 0, x, h => by simp [zpD] at h; subst h; exact ⟨a, b, rfl, rfl, rfl⟩
  | a :: as, b :: bs, i + 1, x, h => by
    simp only [zpD, List.getElem?_cons_succ] at h
    obtain ⟨c, d, h1, h2, h3⟩ := zpD_get as bs i x h
    exact ⟨c, d, by simpa using h1, by simpa using h2, h3⟩
theorem itz_ok {a b : Addr} {xs ys : List V} {ds es : List Dt} (h : SqL K F a xs) (r : RpA K C F xs ds) (h' : SqL K F b ys) (r' : RpA K C F ys es) : ItOk K C (Itz K a b) F (zpD ds es) := by
  intro F' H' s1 s2
  have hs := s2.seq (s1.seq h)
  have hs' := s2.seq (s1.seq h')
  refine ⟨fun i d hd => ?_, ⟨xs, ys, hs, hs', by rw [zpD_len, r.length, r'.length]; omega⟩⟩
  obtain ⟨x, y, hd2, he, rfl⟩ := zpD_get _ _ _ _ hd
  obtain ⟨u, hu, ru⟩ := r.get hd2
  obtain ⟨w, hw, rw'⟩ := r'.get he
  refine ⟨⟨xs, ys, u, w, hs, hs', hu, hw⟩, ?_⟩
  rintro y H'' ⟨T, z, z', rfl, hT, rfl, hx, hy⟩
  have := hx _ hs
  rw [hu] at this
  cases this
  have := hy _ hs'
  rw [hw] at this
  cases this
  exact ⟨_, .inr ⟨T, _, hT, rfl, rfl⟩, pair_ok (same_new (s2.free hT)) upd_same (ru.same s1) (rw'.same s1)⟩
theorem itzt_ok {a b : Addr} {xs ys : List V} {ds es : List Dt} (h : SqT K F a xs) (r : RpA K C F xs ds) (h' : SqT K F b ys) (r' : RpA K C F ys es) : ItOk K C (RZ.ItzT K a b) F (zpD ds es) := by
  intro F' H' s1 s2
  have hs := Same.tupS s2 (Same.tupS s1 h)
  have hs' := Same.tupS s2 (Same.tupS s1 h')
  refine ⟨fun i d hd => ?_, ⟨xs, ys, hs, hs', by rw [zpD_len, r.length, r'.length]; omega⟩⟩
  obtain ⟨x, y, hd2, he, rfl⟩ := zpD_get _ _ _ _ hd
  obtain ⟨u, hu, ru⟩ := r.get hd2
  obtain ⟨w, hw, rw'⟩ := r'.get he
  refine ⟨⟨xs, ys, u, w, hs, hs', hu, hw⟩, ?_⟩
  rintro y H'' ⟨T, z, z', rfl, hT, rfl, hx, hy⟩
  have := hx _ hs
  rw [hu] at this
  cases this
  have := hy _ hs'
  rw [hw] at this
  cases this
  exact ⟨_, .inr ⟨T, _, hT, rfl, rfl⟩, pair_ok (same_new (s2.free hT)) upd_same (ru.same s1) (rw'.same s1)⟩
def iZpD (a : M (List R)) : M (List Dt) := mb a fun rs => fun τ => match rds rs with
  | some [.list ds, .list es] => some (zpD ds es, τ)
  | some [.tuple ds, .tuple es] => some (zpD ds es, τ)
  | _ => none
theorem jiZp {ta : TA} {ea : M (List R)} (ha : JA K C ta ea) : JI K C (RZ.iZipA K ta) (iZpD ea) := by
  intro B O σ H F τ R ds τ' e Q q
  obtain ⟨x, τ1, e1, e⟩ := mb_some e
  refine ha B O σ H F τ R _ _ e1 _ fun v1 H1 F1 O1 R1 E1 r1 => ?_
  split at e
  · rename_i d1 d2 hd
    cases e
    have rr := rds_ok r1 hd
    rcases rr with _ | ⟨a, _ | ⟨b, _ | _⟩⟩
    cases a with
    | lst h1 k1 => cases b with
      | lst h2 k2 => exact ⟨_, _, _, _, rfl, .inl ⟨R1.sub.seq h1, R1.sub.seq h2, q _ _ _ _ R1 E1 (itz_ok h1 k1 h2 k2)⟩⟩
  · rename_i d1 d2 hd
    cases e
    have rr := rds_ok r1 hd
    rcases rr with _ | ⟨a, _ | ⟨b, _ | _⟩⟩
    cases a with
    | tup h1 k1 => cases b with
      | tup h2 k2 => exact ⟨_, _, _, _, rfl, .inr ⟨Same.tupS R1.sub h1, Same.tupS R1.sub h2, q _ _ _ _ R1 E1 (itzt_ok h1 k1 h2 k2)⟩⟩
  · cases e
theorem rev_get {ds : List Dt} {i : Nat} {d : Dt} (h : ds.reverse[i]? = some d) : i < ds.length ∧ ds[ds.length - 1 - i]? = some d := by
  obtain ⟨h1, h2⟩ := List.getElem?_eq_some_iff.mp h
  rw [List.length_reverse] at h1
  refine ⟨h1, ?_⟩
  rw [List.getElem_reverse] at h2
  rw [List.getElem?_eq_getElem (by omega), h2]
theorem itv_ok {a : Addr} {xs : List V} {ds : List Dt} (h : SqL K F a xs) (r : RpA K C F xs ds) : ItOk K C (Itv K a xs.length) F ds.reverse := by
  intro F' H' s1 s2
  have hs := s2.seq (s1.seq h)
  refine ⟨fun i d hd => ?_, by show xs.length ≤ _; rw [List.length_reverse, r.length]; exact Nat.le_refl _⟩
  obtain ⟨hi, hd2⟩ := rev_get hd
  obtain ⟨u, hu, ru⟩ := r.get hd2
  rw [← r.length] at hu hi
  refine ⟨⟨hi, xs, u, hs, hu⟩, ?_⟩
  rintro x H'' ⟨rfl, hx⟩
  have := hx _ hs
  rw [hu] at this
  cases this
  exact ⟨F', .inl ⟨rfl, rfl⟩, ru.same s1⟩
theorem itvt_ok {a : Addr} {xs : List V} {ds : List Dt} (h : SqT K F a xs) (r : RpA K C F xs ds) : ItOk K C (RT.ItvT K a xs.length) F ds.reverse := by
  intro F' H' s1 s2
  have hs := Same.tupS s2 (Same.tupS s1 h)
  refine ⟨fun i d hd => ?_, by show xs.length ≤ _; rw [List.length_reverse, r.length]; exact Nat.le_refl _⟩
  obtain ⟨hi, hd2⟩ := rev_get hd
  obtain ⟨u, hu, ru⟩ := r.get hd2
  rw [← r.length] at hu hi
  refine ⟨⟨hi, xs, u, hs, hu⟩, ?_⟩
  rintro x H'' ⟨rfl, hx⟩
  have := hx _ hs
  rw [hu] at this
  cases this
  exact ⟨F', .inl ⟨rfl, rfl⟩, ru.same s1⟩
def iRvD (a : M R) : M (List Dt) := mb a fun r => mb (fzR r) fun d => fun τ => (itD d).map fun ds => (ds.reverse, τ)
theorem jiRv {te : TE} {ea : M R} (ha : JE K C te ea) : JI K C (RT.iRevA K te) (iRvD ea) := by
  intro B O σ H F τ R ds τ' e Q q
  obtain ⟨x, τ1, e1, e⟩ := mb_some e
  obtain ⟨d, τ2, e2, e3⟩ := mb_some e
  clear e
  obtain ⟨ds', e4, e5⟩ := Option.map_eq_some_iff.mp e3
  cases e5
  refine ha B O σ H F τ R _ _ e1 _ fun v1 H1 F1 O1 R1 E1 r1 => ?_
  obtain ⟨O2, F2, R2, E2, _, r2⟩ := fz_ok R R1 E1 r1 e2
  cases r2 with
  | lst h1 r1 => cases e4; exact ⟨_, _, rfl, .inl ⟨R2.sub.seq h1, q _ _ _ _ R2 E2 (itv_ok h1 r1)⟩⟩
  | tup h1 r1 => cases e4; exact ⟨_, _, rfl, .inr ⟨Same.tupS R2.sub h1, q _ _ _ _ R2 E2 (itvt_ok h1 r1)⟩⟩
  | _ => cases e4
end
end MR
end BW
--RAW
namespace BW
namespace MR
open PySem PySem.Spec PyProof.Rows L2
/-! ### for -/
def forG (g : Dt → M Unit) (b : M Fl) : List Dt → M Fl
  | [] => fun τ => some (.nx, τ)
  | d :: ds => fun τ => match g d τ with
    | some (_, τ1) => match b τ1 with
      | some (.nx, τ2) => forG g b ds τ2
      | some (.ct, τ2) => forG g b ds τ2
      | some (.bk, τ2) => some (.nx, τ2)
      | some (.rt r, τ2) => some (.rt r, τ2)
      | none => none
    | none => none
def sFor (it : M (List Dt)) (g : Dt → M Unit) (b : M Fl) : M Fl := mb it fun ds => forG g b ds
section
variable {K : PySem.W.Frag} {C : Cl}
theorem jsFor {wi : TI} {g : TG} {tb : TS} {it : M (List Dt)} {eg : Dt → M Unit} {eb : M Fl} (hi : JI K C wi it) (hg : JG K C g eg) (hb : JS K C tb eb) : JS K C (tFor wi g tb) (sFor it eg eb) := by
  intro B O σ H F τ R f τ' e D q
  obtain ⟨ds, τ0, e0, e⟩ := mb_some e
  refine hi B O σ H F τ R _ _ e0 _ fun J H0 F0 O0 R0 E0 ok => ?_
  refine ⟨fun i m σ1 H1 => m = ds.length - i ∧ i ≤ ds.length ∧ ∃ F1 O1 τ1, Rel K C B O1 σ1 H1 F1 τ1 ∧ Ext O H F O1 H1 F1 ∧ Same F0 F1 ∧ forG eg eb (ds.drop i) τ1 = some (f, τ'), ⟨ds.length, rfl, Nat.zero_le _, F0, O0, τ0, R0, E0, Same.refl _, by rw [List.drop_zero]; exact e⟩, ?_⟩
  rintro i m σ1 H1 ⟨rfl, hi, F1, O1, τ1, R1, E1, sF, hm⟩
  obtain ⟨k1, k2⟩ := ok F1 H1 sF R1.sub
  by_cases hlt : i < ds.length
  · refine .inr ?_
    obtain ⟨d, hd⟩ : ∃ d, ds[i]? = some d := ⟨_, List.getElem?_eq_getElem hlt⟩
    obtain ⟨g1, g2⟩ := k1 i d hd
    refine ⟨g1, ?_⟩
    have hdr : ds.drop i = d :: ds.drop (i + 1) := by
      rw [List.drop_eq_getElem_cons hlt]
      congr 1
      rw [List.getElem?_eq_getElem hlt] at hd
      exact Option.some.inj hd
    rw [hdr] at hm
    unfold forG at hm
    refine ⟨fun σ' H' => ∃ F3 O3 τ3, Rel K C B O3 σ' H' F3 τ3 ∧ Ext O H F O3 H' F3 ∧ Same F0 F3 ∧ forG eg eb (ds.drop (i + 1)) τ3 = some (f, τ'), fun σ' H' h => ⟨_, by omega, rfl, hlt, h⟩, ?_⟩
    intro x H2 hy
    obtain ⟨F2, y2, r2⟩ := g2 x H2 hy
    obtain ⟨R2, E2⟩ := R1.yld (Same.refl _) y2
    split at hm
    · rename_i u τ3 e1
      refine hg B O1 σ1 H2 F2 τ1 R2 _ _ _ _ r2 e1 _ fun σ3 H3 F3 O3 R3 E3 => ?_
      have EE := (E1.trans E2).trans E3
      have sS := (sF.trans E2.f).trans E3.f
      split at hm
      · rename_i τ4 e2
        exact hb B O3 σ3 H3 F3 τ3 R3 _ _ e2 _ fun σ4 H4 F4 O4 R4 E4 => ⟨F4, O4, τ4, R4, EE.trans E4, sS.trans E4.f, hm⟩
      · rename_i τ4 e2
        exact hb B O3 σ3 H3 F3 τ3 R3 _ _ e2 _ fun σ4 H4 F4 O4 R4 E4 => ⟨F4, O4, τ4, R4, EE.trans E4, sS.trans E4.f, hm⟩
      · rename_i τ4 e2
        cases hm
        exact hb B O3 σ3 H3 F3 τ3 R3 _ _ e2 _ fun σ4 H4 F4 O4 R4 E4 => q _ _ _ _ R4 (EE.trans E4)
      · rename_i r τ4 e2
        cases hm
        exact hb B O3 σ3 H3 F3 τ3 R3 _ _ e2 _ fun σ4 H4 F4 O4 R4 E4 => (q.after EE) _ _ _ _ R4 E4
      · cases hm
    · cases hm
  · have ei : i = ds.length := by omega
    subst ei
    rw [List.drop_length] at hm
    cases hm
    exact .inl ⟨k2, q _ _ _ _ R1 E1⟩
end
/-! ### comprehensions -/
def wipeD (τ : List SD) : List Nat → List SD
  | [] => τ
  | v :: vs => (wipeD τ vs).set v .un
def backD (τ τ3 : List SD) : List Nat → List SD
  | [] => τ3
  | v :: vs => (backD τ τ3 vs).set v (τ[v]?.getD .un)
def okW (τ : List SD) : List Nat → Bool
  | [] => true
  | v :: vs => (match τ[v]? with
    | some (.own _) => false
    | some (.io _) => false
    | _ => true) && okW τ vs
/-- one turn: the datum told, if one is -/
def lcT (vs : List Nat) (g : Dt → M Unit) (t : M Bool) (e : M R) (d : Dt) : M (Option Dt) := fun τ => if okW τ vs then
  match g d (wipeD τ vs) with
  | some (_, τ1) => match t τ1 with
    | some (true, τ2) => match eF e τ2 with
      | some (.v y, τ3) => some (some y, backD τ τ3 vs)
      | _ => none
    | some (false, τ2) => some (none, backD τ τ2 vs)
    | none => none
  | none => none
  else none
def lcG (T : Dt → M (Option Dt)) : List Dt → List Dt → M (List Dt)
  | [], acc => fun τ => some (acc, τ)
  | d :: ds, acc => fun τ => match T d τ with
    | some (some y, τ1) => if acc.length < 1000000 then lcG T ds (acc ++ [y]) τ1 else none
    | some (none, τ1) => lcG T ds acc τ1
    | none => none
def eLc (it : M (List Dt)) (vs : List Nat) (g : Dt → M Unit) (t : M Bool) (e : M R) : M R := mb it fun ds => mb (lcG (lcT vs g t e) ds []) fun acc => fun τ => some (.n (.L acc), τ)
section
variable {K : PySem.W.Frag} {C : Cl} {B : Bs} {O : OO} {σ σ2 : L2.St} {H F : Hp} {τ τ3 : List SD}
theorem wipeD_len : ∀ vs : List Nat, (wipeD τ vs).length = τ.length
  | [] => rfl
  | v :: vs => by rw [wipeD, List.length_set, wipeD_len vs]
theorem Rel.wipe (R : Rel K C B O σ H F τ) : ∀ vs : List Nat, Rel K C B O (L2.wipe σ vs) H F (wipeD τ vs)
  | [] => R
  | v :: vs => by
    have R1 := Rel.wipe R vs
    refine ⟨by rw [wipeD, L2.wipe, List.length_set, List.length_set]; exact R1.len, R1.sub, R1.f0, R1.fr, R1.nf, R1.dm, R1.own, fun j s hj => ?_⟩
    rw [wipeD, List.getElem?_set] at hj
    by_cases e : v = j
    · subst e
      rw [if_pos rfl] at hj
      split at hj
      · cases hj; exact True.intro
      · cases hj
    · rw [if_neg e] at hj
      have q := R1.slot j s hj
      cases s with
      | un => exact True.intro
      | val d => obtain ⟨w, h1, h2⟩ := q; exact ⟨w, by rw [L2.wipe, List.getElem?_set_ne e]; exact h1, h2⟩
      | own y => obtain ⟨w, h1, h2⟩ := q; exact ⟨w, by rw [L2.wipe, List.getElem?_set_ne e]; exact h1, h2⟩
      | io y => obtain ⟨w, h1, h2⟩ := q; exact ⟨w, by rw [L2.wipe, List.getElem?_set_ne e]; exact h1, h2⟩
theorem wipe_at : ∀ (vs : List Nat) (j : Nat), j ∉ vs → (L2.wipe σ vs)[j]? = σ[j]?
  | [], _, _ => rfl
  | v :: vs, j, h => by
    rw [L2.wipe, List.getElem?_set_ne (fun e => h (by rw [e]; exact List.mem_cons_self))]
    exact wipe_at vs j fun h' => h (List.mem_cons_of_mem _ h')
theorem backD_len : ∀ vs : List Nat, (backD τ τ3 vs).length = τ3.length
  | [] => rfl
  | v :: vs => by rw [backD, List.length_set, backD_len vs]
theorem backD_at : ∀ (vs : List Nat) (j : Nat), j ∉ vs → (backD τ τ3 vs)[j]? = τ3[j]?
  | [], _, _ => rfl
  | v :: vs, j, h => by
    rw [backD, List.getElem?_set_ne (fun e => h (by rw [e]; exact List.mem_cons_self))]
    exact backD_at vs j fun h' => h (List.mem_cons_of_mem _ h')
theorem backD_in : ∀ (vs : List Nat) (j : Nat) (s : SD), j ∈ vs → (backD τ τ3 vs)[j]? = some s → s = τ[j]?.getD .un
  | v :: vs, j, s, h, e => by
    rw [backD, List.getElem?_set] at e
    by_cases q : v = j
    · subst q
      rw [if_pos rfl] at e
      split at e
      · cases e; rfl
      · cases e
    · rw [if_neg q] at e
      rcases List.mem_cons.mp h with h | h
      · exact absurd h.symm q
      · exact backD_in vs j s h e
theorem okW_at : ∀ {vs : List Nat} {j : Nat}, okW τ vs = true → j ∈ vs → ∀ y, τ[j]? ≠ some (.own y) ∧ τ[j]? ≠ some (.io y)
  | v :: vs, j, h, hj, y => by
    rw [okW, Bool.and_eq_true] at h
    rcases List.mem_cons.mp hj with rfl | hj
    · constructor <;> intro e <;> rw [e] at h <;> exact absurd h.1 Bool.false_ne_true
    · exact okW_at h.2 hj y
theorem Rel.back {vs : List Nat} {F0 : Hp} {O0 : OO} {H0 : Hp} (R0 : Rel K C B O0 σ H0 F0 τ) (R : Rel K C B O σ2 H F τ3) (s : Same F0 F) (hw : L2.wipe σ2 vs = L2.wipe σ vs) (ok : okW τ vs = true) : Rel K C B O σ H F (backD τ τ3 vs) := by
  have hlen : σ2.length = σ.length := by
    have := congrArg List.length hw
    rwa [L2.wipe_length, L2.wipe_length] at this
  refine ⟨by rw [backD_len, R.len]; exact hlen, R.sub, R.f0, R.fr, R.nf, R.dm, R.own, fun j sd hj => ?_⟩
  by_cases hm : j ∈ vs
  · have e := backD_in vs j sd hm hj
    cases h : τ[j]? with
    | none => rw [h] at e; cases e; exact True.intro
    | some x =>
      rw [h] at e
      have e : sd = x := e
      subst e
      have q := R0.slot j _ h
      cases sd with
      | un => exact True.intro
      | val d => obtain ⟨w, h1, h2⟩ := q; exact ⟨w, h1, h2.same s⟩
      | own y => exact absurd h (okW_at ok hm y).1
      | io y => exact absurd h (okW_at ok hm y).2
  · rw [backD_at vs j hm] at hj
    have q := R.slot j sd hj
    have e : σ2[j]? = σ[j]? := by rw [← wipe_at vs j hm, hw, wipe_at vs j hm]
    cases sd with
    | un => exact True.intro
    | val d => obtain ⟨w, h1, h2⟩ := q; exact ⟨w, by rw [← e]; exact h1, h2⟩
    | own y => obtain ⟨w, h1, h2⟩ := q; exact ⟨w, by rw [← e]; exact h1, h2⟩
    | io y => obtain ⟨w, h1, h2⟩ := q; exact ⟨w, by rw [← e]; exact h1, h2⟩
/-- a target that changes nothing but these slots -/
def JGw (K : PySem.W.Frag) (C : Cl) (vs : List Nat) (g : TG) (m : Dt → M Unit) : Prop := ∀ (B : Bs) (O : OO) (σ : L2.St) (H F : Hp) (τ : List SD), Rel K C B O σ H F τ → ∀ (v : V) (d : Dt) (u : Unit) (τ' : List SD), Rp K C F v d → m d τ = some (u, τ') → ∀ Q : L2.St → Hp → Prop,
  (∀ σ' H' F' O', Rel K C B O' σ' H' F' τ' → Ext O H F O' H' F' → L2.wipe σ' vs = L2.wipe σ vs → Q σ' H') → g v σ H Q
theorem jLc {wi : TI} {g : TG} {tt : TT} {te : TE} {vs : List Nat} {it : M (List Dt)} {eg : Dt → M Unit} {et : M Bool} {ee : M R} (hi : JI K C wi it) (hg : JGw K C vs g eg) (ht : JT K C tt et) (he : JE K C te ee) (hww : ∀ σ : L2.St, L2.wipe (L2.wipe σ vs) vs = L2.wipe σ vs) :
    JE K C (tLc wi g tt te vs) (eLc it vs eg et ee) := by
  intro B O σ H F τ R a τ' e Q q
  obtain ⟨ds, τ0, e0, ea⟩ := mb_some e
  clear e
  obtain ⟨acc, τf, e1, e2⟩ := mb_some ea
  clear ea
  cases e2
  refine hi B O σ H F τ R _ _ e0 _ fun J H0 F0 O0 R0 E0 ok => ?_
  intro D hD
  obtain ⟨R1, E1, g1⟩ := R0.newO (x := .L []) (p := D) (G := upd H0 D (.lst [])) hD (same_new hD) ⟨[], upd_same, .nil⟩
  have hDn : ∀ y, O D ≠ some (.tmp, y) := fun y h => R.live D y h (E0.d D hD)
  have q2 : ∀ X, (∃ F1 O1, Rel K C B O1 σ X F1 τ' ∧ Ext O H F O1 X F1 ∧ O1 D = some (.tmp, .L acc)) → Q (.ref D) X := fun X ⟨F1, O1, R', E', g'⟩ => q _ _ _ _ R' E' ⟨D, rfl, g', E0.d D hD⟩
  refine ⟨fun i m X => m = ds.length - i ∧ i ≤ ds.length ∧ ∃ F1 O1 τ1 ac, Rel K C B O1 σ X F1 τ1 ∧ Ext O H F O1 X F1 ∧ Same F0 F1 ∧ O1 D = some (.tmp, .L ac) ∧ lcG (lcT vs eg et ee) (ds.drop i) ac τ1 = some (acc, τ'), ⟨ds.length, rfl, Nat.zero_le _, F0, _, τ0, [], R1, E0.trans E1, Same.refl _, g1, by rw [List.drop_zero]; exact e1⟩, ?_⟩
  rintro i m X ⟨rfl, hil, F1, O1, τ1, ac, R2, E2, sF, gD, hm⟩
  obtain ⟨k1, k2⟩ := ok F1 X sF R2.sub
  by_cases hlt : i < ds.length
  · refine .inr ?_
    obtain ⟨d, hd⟩ : ∃ d, ds[i]? = some d := ⟨_, List.getElem?_eq_getElem hlt⟩
    obtain ⟨j1, j2⟩ := k1 i d hd
    refine ⟨j1, ?_⟩
    have hdr : ds.drop i = d :: ds.drop (i + 1) := by
      rw [List.drop_eq_getElem_cons hlt]
      congr 1
      rw [List.getElem?_eq_getElem hlt] at hd
      exact Option.some.inj hd
    rw [hdr] at hm
    unfold lcG at hm
    refine ⟨fun X' => ∃ F3 O3 τ3 ac, Rel K C B O3 σ X' F3 τ3 ∧ Ext O H F O3 X' F3 ∧ Same F0 F3 ∧ O3 D = some (.tmp, .L ac) ∧ lcG (lcT vs eg et ee) (ds.drop (i + 1)) ac τ3 = some (acc, τ'), fun X' h => ⟨_, by omega, rfl, hlt, h⟩, ?_⟩
    intro x X2 hy
    obtain ⟨F2, y2, r2⟩ := j2 x X2 hy
    obtain ⟨R3, E3⟩ := R2.yld (Same.refl _) y2
    have EE := E2.trans E3
    have sS := sF.trans E3.f
    have gD3 : O1 D = some (.tmp, .L ac) := gD
    split at hm
    · rename_i y τ3 e3
      split at hm
      · rename_i hl
        unfold lcT at e3
        split at e3
        · rename_i hok
          split at e3
          · rename_i u τ4 e4
            refine hg B O1 _ X2 F2 _ (R3.wipe vs) _ _ _ _ r2 e4 _ fun σ4 H4 F4 O4 R4 E4 w4 => ?_
            refine ⟨w4.trans (hww σ) |>.trans rfl, ?_⟩
            split at e3
            · rename_i τ5 e5
              refine ht B O4 _ H4 F4 _ R4 _ _ e5 _ fun bv H5 F5 O5 R5 E5 rb => ?_
              subst rb
              refine iteT ?_
              split at e3
              · rename_i y' τ6 e6
                cases e3
                refine (jF he) B O5 _ H5 F5 _ R5 _ _ e6 _ fun v6 H6 F6 O6 R6 E6 r6 => ?_
                have g6 := E6.t _ _ (E5.t _ _ (E4.t _ _ gD3))
                obtain ⟨⟨vs6, h6, k6⟩, n6, _⟩ := R6.own _ _ _ g6
                have R7 := Rel.back R3 R6 ((E4.f.trans E5.f).trans E6.f) (w4.trans (hww σ)) hok
                have E7 := ((EE.trans E4).trans E5).trans E6
                have r6' : Rp K C F6 v6 y := r6
                refine ⟨vs6, h6, by rw [k6.length]; exact Nat.lt_of_lt_of_le hl million, F6, _, _, ac ++ [y], R7.updT g6 (x' := .L (ac ++ [y])) ⟨_, upd_same, k6.snoc r6'⟩, E7.updO hDn g6, (sS.trans ((E4.f.trans E5.f).trans E6.f)), if_pos rfl, hm⟩
              · cases e3
            · cases e3
            · cases e3
          · cases e3
        · cases e3
      · cases hm
    · rename_i τ3 e3
      unfold lcT at e3
      split at e3
      · rename_i hok
        split at e3
        · rename_i u τ4 e4
          refine hg B O1 _ X2 F2 _ (R3.wipe vs) _ _ _ _ r2 e4 _ fun σ4 H4 F4 O4 R4 E4 w4 => ?_
          refine ⟨w4.trans (hww σ), ?_⟩
          split at e3
          · rename_i τ5 e5
            split at e3 <;> cases e3
          · rename_i τ5 e5
            cases e3
            refine ht B O4 _ H4 F4 _ R4 _ _ e5 _ fun bv H5 F5 O5 R5 E5 rb => ?_
            subst rb
            refine iteF ?_
            exact ⟨F5, O5, _, ac, Rel.back R3 R5 (E4.f.trans E5.f) (w4.trans (hww σ)) hok, (EE.trans E4).trans E5, sS.trans (E4.f.trans E5.f), E5.t _ _ (E4.t _ _ gD3), hm⟩
          · cases e3
        · cases e3
      · cases e3
    · cases hm
  · have ei : i = ds.length := by omega
    subst ei
    rw [List.drop_length] at hm
    cases hm
    exact .inl ⟨k2, q2 _ ⟨F1, O1, R2, E2, gD⟩⟩
theorem wipe_set {v : Nat} {vs : List Nat} {x : Option V} : ∀ {σ : L2.St}, v ∈ vs → L2.wipe (σ.set v x) vs = L2.wipe σ vs := by
  intro σ h
  apply List.ext_getElem?
  intro j
  by_cases hj : j ∈ vs
  · have : ∀ (us : List Nat) (ρ ρ' : L2.St), ρ.length = ρ'.length → j ∈ us → (L2.wipe ρ us)[j]? = (L2.wipe ρ' us)[j]? := by
      intro us
      induction us with
      | nil => intro ρ ρ' _ h; cases h
      | cons u us ih =>
        intro ρ ρ' hl h
        rw [L2.wipe, L2.wipe, List.getElem?_set, List.getElem?_set, L2.wipe_length, L2.wipe_length, hl]
        by_cases e : u = j
        · rw [if_pos e, if_pos e]
        · rw [if_neg e, if_neg e]
          rcases List.mem_cons.mp h with h | h
          · exact absurd h.symm e
          · exact ih ρ ρ' hl h
    exact this vs _ _ (List.length_set ..) hj
  · rw [wipe_at vs j hj, wipe_at vs j hj, List.getElem?_set_ne (fun e => hj (by rw [← e]; exact h))]
theorem wipe_wipe (vs : List Nat) : ∀ σ : L2.St, L2.wipe (L2.wipe σ vs) vs = L2.wipe σ vs := by
  have : ∀ (us : List Nat), (∀ u ∈ us, u ∈ vs) → ∀ σ : L2.St, L2.wipe (L2.wipe σ us) vs = L2.wipe σ vs := by
    intro us
    induction us with
    | nil => intro _ σ; rfl
    | cons u us ih =>
      intro h σ
      rw [L2.wipe, wipe_set (h u List.mem_cons_self)]
      exact ih (fun x hx => h x (List.mem_cons_of_mem _ hx)) σ
  exact this vs fun _ h => h
theorem jwN {i : Nat} {vs : List Nat} (h : i ∈ vs) : JGw K C vs (gName i) (gN i) := by
  intro B O σ H F τ R v d u τ' r e Q q
  obtain ⟨τ2, e2, e3⟩ := Option.map_eq_some_iff.mp e
  cases e3
  obtain ⟨O2, F2, R2, E2⟩ := set_ok R R Ext.refl (show RV K C H O F σ v (.v d) from r) e2
  exact q _ _ _ _ R2 E2 (wipe_set h)
def JGsw (K : PySem.W.Frag) (C : Cl) (vs : List Nat) (g : TGs) (m : List Dt → M Unit) : Prop := ∀ (B : Bs) (O : OO) (σ : L2.St) (H F : Hp) (τ : List SD), Rel K C B O σ H F τ → ∀ (v : List V) (d : List Dt) (u : Unit) (τ' : List SD), RpA K C F v d → m d τ = some (u, τ') → ∀ Q : L2.St → Hp → Prop,
  (∀ σ' H' F' O', Rel K C B O' σ' H' F' τ' → Ext O H F O' H' F' → L2.wipe σ' vs = L2.wipe σ vs → Q σ' H') → g v σ H Q
theorem jwsN {vs : List Nat} : JGsw K C vs gNil gsN := by
  intro B O σ H F τ R v d u τ' r e Q q
  unfold gsN at e
  split at e
  · rename_i h
    cases e
    cases r with
    | nil => exact ⟨rfl, q _ _ _ _ R Ext.refl rfl⟩
    | cons _ _ => cases h
  · cases e
theorem jwsC {vs : List Nat} {g : TG} {gs : TGs} {m : Dt → M Unit} {ms : List Dt → M Unit} (h1 : JGw K C vs g m) (h2 : JGsw K C vs gs ms) : JGsw K C vs (gCons g gs) (gsC m ms) := by
  intro B O σ H F τ R v d u τ' r e Q q
  cases r with
  | nil => cases e
  | cons a b =>
    obtain ⟨u1, τ1, e1, e⟩ := mb_some e
    refine ⟨_, _, rfl, h1 B O σ H F τ R _ _ _ _ a e1 _ fun σ1 H1 F1 O1 R1 E1 w1 => ?_⟩
    exact h2 B O1 σ1 H1 F1 τ1 R1 _ _ _ _ (b.same E1.f) e Q fun σ' H' F' O' R' E' w' => q _ _ _ _ R' (E1.trans E') (w'.trans w1)
theorem jwT {vs : List Nat} {n : Nat} {gs : TGs} {ms : List Dt → M Unit} (h : JGsw K C vs gs ms) : JGw K C vs (gSeq K n gs) (gT n ms) := by
  intro B O σ H F τ R v d u τ' r e Q q
  unfold gT at e
  split at e
  · split at e
    · rename_i hl
      cases r with
      | tup a b => exact .inl ⟨_, _, rfl, Same.tupS R.sub a, by rw [b.length]; exact hl, h B O σ H F τ R _ _ _ _ b e Q q⟩
    · cases e
  · split at e
    · rename_i hl
      cases r with
      | lst a b => exact .inr ⟨_, _, rfl, R.sub.seq a, by rw [b.length]; exact hl, h B O σ H F τ R _ _ _ _ b e Q q⟩
    · cases e
  · cases e
theorem jtYes : JT K C tYes (fun τ => some (true, τ)) := by
  intro B O σ H F τ R a τ' e Q q
  cases e
  exact q _ _ _ _ R Ext.refl rfl
end
end MR
end BW
--RAW
namespace BW
namespace MR
open PySem PySem.Spec PyProof.Rows L2
/-! ### calls -/
section
variable (K : PySem.W.Frag) (C : Cl)
structure ArgsOk (F H : Hp) (A : Addr → Prop) (vs : List V) (as : List SD) : Prop where
  len : vs.length = as.length
  val : ∀ (i : Nat) (d : Dt), as[i]? = some (.val d) → ∃ v, vs[i]? = some v ∧ Rp K C F v d
  io : ∀ (i : Nat) (x : Own), as[i]? = some (.io x) → ∃ p, vs[i]? = some (.ref p) ∧ A p ∧ OwnOk K C F H p x ∧ F p = none
  nown : ∀ (i : Nat) (x : Own), as[i]? ≠ some (.own x)
  dj : ∀ (i j : Nat) (x y : Own) (p : Addr), as[i]? = some (.io x) → as[j]? = some (.io y) → vs[i]? = some (.ref p) → vs[j]? = some (.ref p) → i = j
  ain : ∀ p, A p → ∃ (i : Nat) (x : Own), as[i]? = some (.io x) ∧ vs[i]? = some (.ref p)
def ResOk (H F' H' : Hp) (v : V) : R → Prop
  | .v d => Rp K C F' v d
  | .n x => ∃ p, v = .ref p ∧ H p = none ∧ OwnOk K C F' H' p x ∧ F' p = none
  | .o _ => False
/-- a def's promise: what it does to data -/
def SpD (np : Nat) (f : List SD → Option (R × List SD)) : Sp := fun vs H Q _ => vs.length = np ∧ ∃ (F : Hp) (as : List SD) (A : Addr → Prop) (r : R) (as' : List SD), Same F H ∧ ArgsOk K C F H A vs as ∧ f as = some (r, as') ∧
  ∀ v H' F', Same F F' → Same F' H' → (∀ p o, H p = some o → ¬ A p → H' p = some o) → (∀ p o, F' p = some o → F p = some o ∨ H p = none) → (∀ p, H' p = none → H p = none) →
    (∀ (i : Nat) (x : Own) (p : Addr), as'[i]? = some (.io x) → vs[i]? = some (.ref p) → OwnOk K C F' H' p x) → ResOk K C H F' H' v r → Q v H'
end
def runD (n : Nat) (m : M Fl) (as : List SD) : Option (R × List SD) := match m (as ++ List.replicate n .un) with
  | some (.nx, τ') => some (.v .none, τ'.take as.length)
  | some (.rt (.v d), τ') => some (.v d, τ'.take as.length)
  | some (.rt (.n x), τ') => some (.n x, τ'.take as.length)
  | some (.rt (.o i), τ') => match τ'[i]? with
    | some (.val d) => some (.v d, τ'.take as.length)
    | some (.own x) => some (.n x, τ'.take as.length)
    | _ => none
  | _ => none
section
variable {K : PySem.W.Frag} {C : Cl}
open Classical in
noncomputable def entO (vs : List V) (as : List SD) : OO := fun p => if h : ∃ ix : Nat × Own, as[ix.1]? = some (.io ix.2) ∧ vs[ix.1]? = some (.ref p) then some (.slot (choose h).1, (choose h).2) else none
theorem entO_of {F H : Hp} {A : Addr → Prop} {vs : List V} {as : List SD} (ok : ArgsOk K C F H A vs as) {i : Nat} {x : Own} {p : Addr} (h1 : as[i]? = some (.io x)) (h2 : vs[i]? = some (.ref p)) : entO vs as p = some (.slot i, x) := by
  have hx : ∃ ix : Nat × Own, as[ix.1]? = some (.io ix.2) ∧ vs[ix.1]? = some (.ref p) := ⟨(i, x), h1, h2⟩
  unfold entO
  rw [dif_pos hx]
  obtain ⟨k1, k2⟩ := Classical.choose_spec hx
  have e := ok.dj _ _ _ _ _ k1 h1 k2 h2
  rw [e] at k1 ⊢
  rw [h1] at k1
  have e2 := SD.io.inj (Option.some.inj k1)
  rw [← e2]
theorem entO_some {vs : List V} {as : List SD} {p : Addr} {t : Tag} {x : Own} (h : entO vs as p = some (t, x)) : ∃ i, t = .slot i ∧ as[i]? = some (.io x) ∧ vs[i]? = some (.ref p) := by
  unfold entO at h
  split at h
  · rename_i hx
    obtain ⟨k1, k2⟩ := Classical.choose_spec hx
    cases h
    exact ⟨_, rfl, k1, k2⟩
  · cases h
theorem entry {F H : Hp} {A : Addr → Prop} {vs : List V} {as : List SD} {σ : L2.St} {n : Nat} (s : Same F H) (ok : ArgsOk K C F H A vs as) (hσ : σ = vs.map some ++ List.replicate n none) :
    Rel K C ⟨σ, H, F, A⟩ (entO vs as) σ H F (as ++ List.replicate n .un) := by
  subst hσ
  refine ⟨by simp [ok.len], s, Same.refl _, fun _ _ h _ => h, fun _ _ h => .inl h, fun _ h => h, fun p t x h => ?_, fun i sd hi => ?_⟩
  · obtain ⟨i, rfl, h1, h2⟩ := entO_some h
    obtain ⟨p', k1, k2, k3, k4⟩ := ok.io i x h1
    rw [h2] at k1
    cases k1
    exact ⟨k3, k4, .inl k2⟩
  · by_cases hl : i < as.length
    · rw [List.getElem?_append_left hl] at hi
      have at_ : ∀ v, vs[i]? = some v → (vs.map some ++ List.replicate n none)[i]? = some (some v) := fun v hv => by
        rw [List.getElem?_append_left (by rw [List.length_map, ok.len]; exact hl), List.getElem?_map, hv]
        rfl
      cases sd with
      | un => exact True.intro
      | val d => obtain ⟨v, k1, k2⟩ := ok.val i d hi; exact ⟨v, at_ v k1, k2⟩
      | own x => exact absurd hi (ok.nown i x)
      | io x =>
        obtain ⟨p, k1, k2, k3, k4⟩ := ok.io i x hi
        exact ⟨p, at_ _ k1, entO_of ok hi k1, k2, at_ _ k1⟩
    · rw [List.getElem?_append_right (by omega)] at hi
      rw [List.getElem?_replicate] at hi
      split at hi
      · cases hi; exact True.intro
      · cases hi
/-- a body's reading keeps the promise -/
theorem fn_sp {t : TS} {m : M Fl} {n np : Nat} {N : List Str} (h : JS K C t m) (hN : N.length = np + n) {vs : List V} {H : Hp} {Q : VK} {E : XK} (hs : SpD K C np (runD n m) vs H Q E) : t { nx := fun _ H' => Q .non H', rt := Q } (L2.start N vs) H := by
  obtain ⟨hl, F, as, A, r, as', s, ok, e, q⟩ := hs
  have hσ : L2.start N vs = vs.map some ++ List.replicate n none := by
    unfold L2.start
    rw [show N.length - vs.length = n by omega]
  have R := entry (n := n) s ok hσ
  unfold runD at e
  have len' : as.length = np := by rw [← ok.len]; exact hl
  have fin : ∀ (τ' : List SD) (σ' : L2.St) (H' F' : Hp) (O' : OO), Rel K C ⟨L2.start N vs, H, F, A⟩ O' σ' H' F' τ' → τ'.take as.length = as' → ∀ v, ResOk K C H F' H' v r → Q v H' := by
    intro τ' σ' H' F' O' R' ht v hr
    refine q v H' F' R'.f0 R'.sub R'.fr R'.nf R'.dm ?_ hr
    intro i x p h1 h2
    rw [← ht, List.getElem?_take] at h1
    split at h1
    · obtain ⟨p', k1, k2, k3, k4⟩ := R'.slot i _ h1
      have k4 : (L2.start N vs)[i]? = some (some (.ref p')) := k4
      rw [hσ, List.getElem?_append_left (by rw [List.length_map, ok.len]; assumption), List.getElem?_map, h2] at k4
      cases k4
      exact (R'.own _ _ _ k2).1
    · cases h1
  split at e
  · rename_i τ' em
    cases e
    exact h _ _ _ _ _ _ R _ _ em _ fun σ' H' F' O' R' E' => fin τ' σ' H' F' O' R' rfl _ .non
  · rename_i d τ' em
    cases e
    exact h _ _ _ _ _ _ R _ _ em _ fun σ' H' F' O' R' E' v rv => fin τ' σ' H' F' O' R' rfl v rv
  · rename_i x τ' em
    cases e
    refine h _ _ _ _ _ _ R _ _ em _ fun σ' H' F' O' R' E' v rv => fin τ' σ' H' F' O' R' rfl v ?_
    obtain ⟨p, k1, k2, k3⟩ := rv
    obtain ⟨g1, g2, _⟩ := R'.own _ _ _ k2
    exact ⟨p, k1, k3, g1, g2⟩
  · rename_i i τ' em
    split at e
    · rename_i d hd
      cases e
      refine h _ _ _ _ _ _ R _ _ em _ fun σ' H' F' O' R' E' v rv => fin τ' σ' H' F' O' R' rfl v ?_
      obtain ⟨w, k1, k2⟩ := R'.slot i _ hd
      have rv : σ'[i]? = some (some v) := rv
      rw [k1] at rv
      cases rv
      exact k2
    · rename_i x hd
      cases e
      refine h _ _ _ _ _ _ R _ _ em _ fun σ' H' F' O' R' E' v rv => fin τ' σ' H' F' O' R' rfl v ?_
      obtain ⟨p, k1, k2, k3⟩ := R'.slot i _ hd
      have rv : σ'[i]? = some (some v) := rv
      rw [k1] at rv
      cases rv
      obtain ⟨g1, g2, _⟩ := R'.own _ _ _ k2
      exact ⟨p, rfl, k3, g1, g2⟩
    · cases e
  · cases e
/-! the caller's side -/
/-- the place and slot of an argument that the callee may change -/
def ioOf : Nat → List R → List (Nat × Nat)
  | _, [] => []
  | k, .o j :: rs => (k, j) :: ioOf (k + 1) rs
  | k, _ :: rs => ioOf (k + 1) rs
def argD (τ : List SD) : R → Option SD
  | .v d => some (.val d)
  | .o j => (ownAt τ j).map .io
  | .n _ => none
def argsD (τ : List SD) : List R → Option (List SD)
  | [] => some []
  | r :: rs => match argD τ r, argsD τ rs with
    | some a, some as => some (a :: as)
    | _, _ => none
/-- a call, the callee's default values behind the arguments -/
def callD (f : List SD → Option (R × List SD)) (dfl : List Dt) (rs : List R) : M R := fun τ => match argsD τ rs with
  | none => none
  | some as => match f (as ++ dfl.map .val) with
    | none => none
    | some (r, as') => match r with
      | .o _ => none
      | _ => match ioOf 0 rs with
        | [] => some (r, τ)
        | [(i, j)] => match as'[i]? with
          | some (.io x') => some (r, ownSet τ j x')
          | _ => none
        | _ => none
theorem argsD_len : ∀ {rs : List R} {τ : List SD} {as : List SD}, argsD τ rs = some as → as.length = rs.length
  | [], _, _, h => by cases h; rfl
  | r :: rs, τ, as, h => by
    unfold argsD at h
    split at h
    · rename_i a as' h1 h2
      cases h
      rw [List.length_cons, List.length_cons, argsD_len h2]
    · cases h
theorem argsD_at : ∀ {rs : List R} {τ : List SD} {as : List SD} {i : Nat} {s : SD}, argsD τ rs = some as → as[i]? = some s → ∃ r, rs[i]? = some r ∧ argD τ r = some s
  | [], _, _, _, _, h, e => by cases h; simp at e
  | r :: rs, τ, as, i, s, h, e => by
    unfold argsD at h
    split at h
    · rename_i a as' h1 h2
      cases h
      cases i with
      | zero => simp at e; subst e; exact ⟨r, rfl, h1⟩
      | succ i => obtain ⟨r', k1, k2⟩ := argsD_at h2 (by simpa using e); exact ⟨r', by simpa using k1, k2⟩
    · cases h
theorem ioOf_mem : ∀ (rs : List R) (k i j : Nat), rs[i]? = some (.o j) → (k + i, j) ∈ ioOf k rs
  | [], _, _, _, h => by simp at h
  | r :: rs, k, 0, j, h => by
    simp at h
    subst h
    exact List.mem_cons_self
  | r :: rs, k, i + 1, j, h => by
    have q := ioOf_mem rs (k + 1) i j (by simpa using h)
    rw [show k + 1 + i = k + (i + 1) by omega] at q
    cases r with
    | o m => exact List.mem_cons_of_mem _ q
    | v d => exact q
    | n x => exact q
theorem ioOf_of : ∀ (rs : List R) (k i j : Nat), (i, j) ∈ ioOf k rs → k ≤ i ∧ rs[i - k]? = some (.o j)
  | [], _, _, _, h => by cases h
  | r :: rs, k, i, j, h => by
    have step : (i, j) ∈ ioOf (k + 1) rs → k ≤ i ∧ (r :: rs)[i - k]? = some (.o j) := fun h => by
      obtain ⟨h1, h2⟩ := ioOf_of rs (k + 1) i j h
      refine ⟨by omega, ?_⟩
      rw [show i - k = (i - (k + 1)) + 1 by omega, List.getElem?_cons_succ]
      exact h2
    cases r with
    | o m =>
      rcases List.mem_cons.mp h with h | h
      · cases h
        exact ⟨Nat.le_refl _, by simp⟩
      · exact step h
    | v d => exact step h
    | n x => exact step h
theorem RVs.at_ {H0 : Hp} {O : OO} {F : Hp} {σ : L2.St} : ∀ {vs : List V} {rs : List R} {i : Nat} {r : R}, RVs K C H0 O F σ vs rs → rs[i]? = some r → ∃ v, vs[i]? = some v ∧ RV K C H0 O F σ v r
  | [], [], _, _, _, e => by simp at e
  | v :: vs, r :: rs, 0, _, h, e => by simp at e; subst e; exact ⟨v, rfl, h.1⟩
  | v :: vs, r :: rs, i + 1, r', h, e => by
    obtain ⟨u, h1, h2⟩ := RVs.at_ h.2 (show rs[i]? = some r' by simpa using e)
    exact ⟨u, by simpa using h1, h2⟩
  | [], _ :: _, _, _, h, _ => h.elim
  | _ :: _, [], _, _, h, _ => h.elim
theorem RVs.length {H0 : Hp} {O : OO} {F : Hp} {σ : L2.St} : ∀ {vs : List V} {rs : List R}, RVs K C H0 O F σ vs rs → vs.length = rs.length
  | [], [], _ => rfl
  | v :: vs, r :: rs, h => by rw [List.length_cons, List.length_cons, RVs.length h.2]
  | [], _ :: _, h => h.elim
  | _ :: _, [], h => h.elim
section
variable {B : Bs} {O : OO} {σ : L2.St} {H F H' F' : Hp} {τ : List SD}
/-- behind a call that changes p alone -/
theorem Rel.afterC {p : Addr} {t : Tag} {x x' : Own} (R : Rel K C B O σ H F τ) (hO : O p = some (t, x)) (sF : Same F F') (sH : Same F' H') (fr : ∀ q o, H q = some o → ¬ q = p → H' q = some o)
    (nf : ∀ q o, F' q = some o → F q = some o ∨ H q = none) (dm : ∀ q, H' q = none → H q = none) (hx : OwnOk K C F' H' p x') {τ' : List SD} (hl : τ'.length = σ.length) (hsl : ∀ (i : Nat) (s : SD), τ'[i]? = some s → SlotOk K C B F' (putO O p t x') σ i s) :
    Rel K C B (putO O p t x') σ H' F' τ' := by
  have nFp : ∀ q t y, O q = some (t, y) → F' q = none := fun q t y h => by
    obtain ⟨k1, k2, _⟩ := R.own q t y h
    obtain ⟨o, ho⟩ := k1.get
    cases e : F' q with
    | none => rfl
    | some o' =>
      rcases nf q o' e with h1 | h1
      · rw [k2] at h1; cases h1
      · rw [ho] at h1; cases h1
  refine ⟨hl, sH, R.f0.trans sF, ?_, ?_, fun q h => R.dm q (dm q h), ?_, hsl⟩
  · intro q o h1 h2
    have n : ¬ q = p := by
      rintro rfl
      rcases (R.own _ _ _ hO).2.2 with h3 | h3
      · exact h2 h3
      · rw [h3] at h1; cases h1
    exact fr q o (R.fr q o h1 h2) n
  · intro q o h
    rcases nf q o h with h | h
    · exact R.nf q o h
    · exact .inr (R.dm q h)
  · intro q t' y h
    unfold putO at h
    split at h
    · rename_i e
      subst e
      cases h
      exact ⟨hx, nFp _ _ _ hO, (R.own _ _ _ hO).2.2⟩
    · rename_i e
      obtain ⟨k1, k2, k3⟩ := R.own q t' y h
      obtain ⟨o, ho⟩ := k1.get
      exact ⟨k1.mono sF ((fr q o ho e).trans ho.symm), nFp _ _ _ h, k3⟩
theorem Rel.after1 {j : Nat} {p : Addr} {x x' : Own} (R : Rel K C B O σ H F τ) (hj : MR.ownAt τ j = some x) (hs : σ[j]? = some (some (.ref p))) (hO : O p = some (.slot j, x)) (sF : Same F F') (sH : Same F' H') (fr : ∀ q o, H q = some o → ¬ q = p → H' q = some o)
    (nf : ∀ q o, F' q = some o → F q = some o ∨ H q = none) (dm : ∀ q, H' q = none → H q = none) (hx : OwnOk K C F' H' p x') : Rel K C B (putO O p (.slot j) x') σ H' F' (ownSet τ j x') ∧ Ext O H F (putO O p (.slot j) x') H' F' := by
  have core : ∀ τ', τ'.length = σ.length → (∀ (i : Nat) (s : SD), τ'[i]? = some s → SlotOk K C B F' (putO O p (.slot j) x') σ i s) → Rel K C B (putO O p (.slot j) x') σ H' F' τ' := fun τ' hl hsl =>
    R.afterC hO sF sH fr nf dm hx hl hsl
  have sl : ∀ (i : Nat) (s : SD), j ≠ i → τ[i]? = some s → SlotOk K C B F' (putO O p (.slot j) x') σ i s := fun i s n h => by
    have q := SlotOk.put n hO (R.slot i s h) (x' := x')
    cases s with
    | un => exact True.intro
    | val d => obtain ⟨w, k1, k2⟩ := q; exact ⟨w, k1, k2.same sF⟩
    | own y => exact q
    | io y => exact q
  have hE : Ext O H F (putO O p (.slot j) x') H' F' := ⟨sF, fun q y h => by
    have n : q ≠ p := by rintro rfl; rw [hO] at h; cases h
    exact (if_neg n).trans h, dm⟩
  refine ⟨?_, hE⟩
  unfold MR.ownAt at hj
  unfold ownSet
  split at hj
  · rename_i y hy
    cases hj
    refine core _ (by rw [List.length_set]; exact R.len) fun i s hi => ?_
    rw [List.getElem?_set] at hi
    split at hi
    · rename_i e
      subst e
      split at hi
      · cases hi
        obtain ⟨q, h1, h2, h3⟩ := R.slot j _ hy
        exact ⟨p, hs, if_pos rfl, by rw [hs] at h1; cases h1; exact h3⟩
      · cases hi
    · rename_i e
      exact sl i s e hi
  · rename_i y hy
    cases hj
    refine core _ (by rw [List.length_set]; exact R.len) fun i s hi => ?_
    rw [List.getElem?_set] at hi
    split at hi
    · rename_i e
      subst e
      split at hi
      · cases hi
        obtain ⟨q, h1, h2, h3⟩ := R.slot j _ hy
        exact ⟨p, hs, if_pos rfl, by rw [hs] at h1; cases h1; exact h3⟩
      · cases hi
    · rename_i e
      exact sl i s e hi
  · cases hj
/-- likewise of a thing that no name holds -/
theorem Rel.afterT {p : Addr} {x x' : Own} (R : Rel K C B O σ H F τ) (hO : O p = some (.tmp, x)) (sF : Same F F') (sH : Same F' H') (fr : ∀ q o, H q = some o → ¬ q = p → H' q = some o)
    (nf : ∀ q o, F' q = some o → F q = some o ∨ H q = none) (dm : ∀ q, H' q = none → H q = none) (hx : OwnOk K C F' H' p x') : Rel K C B (putO O p .tmp x') σ H' F' τ := by
  refine R.afterC hO sF sH fr nf dm hx R.len fun i s h => ?_
  have q := R.slot i s h
  cases s with
  | un => exact True.intro
  | val d => obtain ⟨w, k1, k2⟩ := q; exact ⟨w, k1, k2.same sF⟩
  | own y =>
    obtain ⟨z, h1, h2, h3⟩ := q
    have n : z ≠ p := by rintro rfl; rw [hO] at h2; cases h2
    exact ⟨z, h1, (if_neg n).trans h2, h3⟩
  | io y =>
    obtain ⟨z, h1, h2, h3⟩ := q
    have n : z ≠ p := by rintro rfl; rw [hO] at h2; cases h2
    exact ⟨z, h1, (if_neg n).trans h2, h3⟩
/-- behind a call that changes nothing -/
theorem Rel.after0 (R : Rel K C B O σ H F τ) (sF : Same F F') (sH : Same F' H') (fr : ∀ q o, H q = some o → H' q = some o)
    (nf : ∀ q o, F' q = some o → F q = some o ∨ H q = none) (dm : ∀ q, H' q = none → H q = none) : Rel K C B O σ H' F' τ ∧ Ext O H F O H' F' := by
  refine ⟨⟨R.len, sH, R.f0.trans sF, fun q o h1 h2 => fr q o (R.fr q o h1 h2), ?_, fun q h => R.dm q (dm q h), ?_, ?_⟩, ⟨sF, fun _ _ h => h, dm⟩⟩
  · intro q o h
    rcases nf q o h with h | h
    · exact R.nf q o h
    · exact .inr (R.dm q h)
  · intro q t y h
    obtain ⟨k1, k2, k3⟩ := R.own q t y h
    obtain ⟨o, ho⟩ := k1.get
    refine ⟨k1.mono sF ((fr q o ho).trans ho.symm), ?_, k3⟩
    cases e : F' q with
    | none => rfl
    | some o' =>
      rcases nf q o' e with h1 | h1
      · rw [k2] at h1; cases h1
      · rw [ho] at h1; cases h1
  · intro i s hi
    have q := R.slot i s hi
    cases s with
    | un => exact True.intro
    | val d => obtain ⟨w, k1, k2⟩ := q; exact ⟨w, k1, k2.same sF⟩
    | own y => exact q
    | io y => exact q
/-- a new thing of a callee -/
theorem Rel.addO {p : Addr} {x : Own} (R : Rel K C B O σ H F τ) (hO : ∀ t y, O p ≠ some (t, y)) (hB : B.H p = none) (hx : OwnOk K C F H p x) (hF : F p = none) : Rel K C B (putO O p .tmp x) σ H F τ := by
  refine ⟨R.len, R.sub, R.f0, R.fr, R.nf, R.dm, ?_, ?_⟩
  · intro q t y h
    unfold putO at h
    split at h
    · rename_i e
      subst e
      cases h
      exact ⟨hx, hF, .inr hB⟩
    · exact R.own q t y h
  · intro i s hi
    have h := R.slot i s hi
    cases s with
    | un => exact True.intro
    | val d => exact h
    | own y =>
      obtain ⟨q, h1, h2, h3⟩ := h
      exact ⟨q, h1, (if_neg fun e => hO _ _ (by rw [← e]; exact h2)).trans h2, h3⟩
    | io y =>
      obtain ⟨q, h1, h2, h3⟩ := h
      exact ⟨q, h1, (if_neg fun e => hO _ _ (by rw [← e]; exact h2)).trans h2, h3⟩
end
/-- what the callee's end gives the caller -/
theorem call_fin {B : Bs} {O O2 : OO} {σ : L2.St} {H F H' F' : Hp} {τ τ' : List SD} {r : R} {v : V} {Q : VK} (R0 : Rel K C B O σ H F τ) (R2 : Rel K C B O2 σ H' F' τ') (E2 : Ext O H F O2 H' F') (hk : ∀ p t y, O2 p = some (t, y) → H p ≠ none) (hr : ResOk K C H F' H' v r)
    (q : ∀ v H' F' O', Rel K C B O' σ H' F' τ' → Ext O H F O' H' F' → RV K C H O' F' σ v r → Q v H') : Q v H' := by
  cases r with
  | v d => exact q v H' F' O2 R2 E2 hr
  | o i => exact hr.elim
  | n x =>
    obtain ⟨p, rfl, h1, h2, h3⟩ := hr
    have R3 := R2.addO (fun t y h => hk p t y h h1) (R0.dm p h1) h2 h3
    refine q _ H' F' _ R3 ⟨E2.f, fun w y hw => ?_, E2.d⟩ ⟨p, rfl, if_pos rfl, h1⟩
    have n : w ≠ p := by rintro rfl; exact R0.live w y hw h1
    exact (if_neg n).trans (E2.t w y hw)
theorem own_ne {B : Bs} {O : OO} {σ : L2.St} {H F : Hp} {τ : List SD} (R : Rel K C B O σ H F τ) : ∀ p t y, O p = some (t, y) → H p ≠ none := fun p t y h e => by
  obtain ⟨o, ho⟩ := (R.own _ _ _ h).1.get
  rw [ho] at e
  cases e
theorem call_core {np : Nat} {f : List SD → Option (R × List SD)} {dvs : List V} {dfl : List Dt} {E : XK} {B : Bs} {O1 : OO} {σ : L2.St} {H1 F1 H0 : Hp} {τ1 τ' : List SD} {vs : List V} {rs : List R} {a : R} {Q : VK} (hd : ∀ F, RpA K C F dvs dfl) (R1 : Rel K C B O1 σ H1 F1 τ1) (r1 : RVs K C H0 O1 F1 σ vs rs)
    (hl : rs.length + dfl.length = np) (e2 : callD f dfl rs τ1 = some (a, τ')) (q' : ∀ v H' F' O', Rel K C B O' σ H' F' τ' → Ext O1 H1 F1 O' H' F' → RV K C H1 O' F' σ v a → Q v H') : SpD K C np f (vs ++ dvs) H1 Q E := by
  have hvl := r1.length
  have hdl := (hd F1).length
  unfold callD at e2
  split at e2
  · cases e2
  rename_i as has
  have hasl := argsD_len has
  split at e2
  · cases e2
  rename_i r as' hf
  have key : ∀ A : Addr → Prop, (∀ (i j : Nat) (x : Own) (p : Addr), rs[i]? = some (.o j) → MR.ownAt τ1 j = some x → σ[j]? = some (some (.ref p)) → A p) → (∀ p, A p → ∃ (i j : Nat) (x : Own), rs[i]? = some (.o j) ∧ MR.ownAt τ1 j = some x ∧ σ[j]? = some (some (.ref p))) →
      (∀ i i' j j' : Nat, rs[i]? = some (.o j) → rs[i']? = some (.o j') → i = i') → ArgsOk K C F1 H1 A (vs ++ dvs) (as ++ dfl.map .val) := by
    intro A hA hA' hdj
    have split_at : ∀ (i : Nat) (s : SD), (as ++ dfl.map SD.val)[i]? = some s → (∃ r v, rs[i]? = some r ∧ argD τ1 r = some s ∧ vs[i]? = some v ∧ RV K C H0 O1 F1 σ v r ∧ (vs ++ dvs)[i]? = some v) ∨ ∃ d v, s = .val d ∧ Rp K C F1 v d ∧ (vs ++ dvs)[i]? = some v := by
      intro i s hi
      by_cases hlt : i < as.length
      · rw [List.getElem?_append_left hlt] at hi
        obtain ⟨r, k1, k2⟩ := argsD_at has hi
        obtain ⟨v, k3, k4⟩ := r1.at_ k1
        exact .inl ⟨r, v, k1, k2, k3, k4, by rw [List.getElem?_append_left (by omega)]; exact k3⟩
      · rw [List.getElem?_append_right (by omega), List.getElem?_map] at hi
        obtain ⟨d, k1, rfl⟩ := Option.map_eq_some_iff.mp hi
        obtain ⟨v, k2, k3⟩ := (hd F1).get k1
        refine .inr ⟨d, v, rfl, k3, ?_⟩
        rw [List.getElem?_append_right (by omega), show i - vs.length = i - as.length by omega]
        exact k2
    refine ⟨by simp only [List.length_append, List.length_map]; omega, ?_, ?_, ?_, ?_, ?_⟩
    · intro i d hi
      rcases split_at i _ hi with ⟨r, v, k1, k2, k3, k4, k5⟩ | ⟨d', v, h1, h2, h3⟩
      · cases r with
        | v d' => cases k2; exact ⟨v, k5, k4⟩
        | o j => obtain ⟨x, _, h⟩ := Option.map_eq_some_iff.mp k2; cases h
        | n x => cases k2
      · cases h1; exact ⟨v, h3, h2⟩
    · intro i x hi
      rcases split_at i _ hi with ⟨r, v, k1, k2, k3, k4, k5⟩ | ⟨d', v, h1, h2, h3⟩
      · cases r with
        | v d' => cases k2
        | o j =>
          obtain ⟨y, h1, h⟩ := Option.map_eq_some_iff.mp k2
          cases h
          obtain ⟨p, g1, g2, g3, g4⟩ := R1.ownAt h1
          have k4 : σ[j]? = some (some v) := k4
          rw [g1] at k4
          cases k4
          exact ⟨p, k5, hA i j x p k1 h1 g1, g3, g4⟩
        | n x => cases k2
      · cases h1
    · intro i x hi
      rcases split_at i _ hi with ⟨r, v, k1, k2, k3, k4, k5⟩ | ⟨d', v, h1, h2, h3⟩
      · cases r with
        | v d' => cases k2
        | o j => obtain ⟨y, h1, h⟩ := Option.map_eq_some_iff.mp k2; cases h
        | n x => cases k2
      · cases h1
    · intro i j x y p hi hj _ _
      rcases split_at i _ hi with ⟨r, v, k1, k2, _⟩ | ⟨d', v, h1, _⟩
      · rcases split_at j _ hj with ⟨r', v', k1', k2', _⟩ | ⟨d', v, h1, _⟩
        · cases r with
          | v d' => cases k2
          | n x => cases k2
          | o j1 =>
            cases r' with
            | v d' => cases k2'
            | n x => cases k2'
            | o j2 => exact hdj _ _ _ _ k1 k1'
        · cases h1
      · cases h1
    · intro p hp
      obtain ⟨i, j, x, h1, h2, h3⟩ := hA' p hp
      obtain ⟨v, k1, k2⟩ := r1.at_ h1
      have k2 : σ[j]? = some (some v) := k2
      rw [h3] at k2
      cases k2
      have hlt := (List.getElem?_eq_some_iff.mp h1).1
      refine ⟨i, x, ?_, by rw [List.getElem?_append_left (by omega)]; exact k1⟩
      rw [List.getElem?_append_left (by omega)]
      obtain ⟨s, hs⟩ : ∃ s, as[i]? = some s := ⟨_, List.getElem?_eq_getElem (by omega)⟩
      obtain ⟨r', g1, g2⟩ := argsD_at has hs
      rw [h1] at g1
      cases g1
      rw [hs, ← g2]
      show Option.map SD.io (MR.ownAt τ1 j) = _
      rw [h2]
      rfl
  refine ⟨by rw [List.length_append]; omega, ?_⟩
  have main : (match ioOf 0 rs with
        | [] => some (r, τ1)
        | [(i, j)] => match as'[i]? with
          | some (.io x') => some (r, ownSet τ1 j x')
          | _ => none
        | _ => none) = some (a, τ') ∧ ∀ i, r ≠ .o i := by
    cases r with
    | o i => cases e2
    | v d => exact ⟨e2, fun i h => by cases h⟩
    | n x => exact ⟨e2, fun i h => by cases h⟩
  obtain ⟨e3, _⟩ := main
  clear e2
  split at e3
  · rename_i h0
    cases e3
    have no : ∀ i j : Nat, rs[i]? ≠ some (.o j) := fun i j h => by
      have := ioOf_mem rs 0 i j h
      rw [h0] at this
      cases this
    refine ⟨F1, as ++ dfl.map .val, fun _ => False, _, as', R1.sub, key _ (fun i j x p h => absurd h (no i j)) (fun p h => h.elim) (fun i i' j j' h => absurd h (no i j)), hf, fun v H' F' s1 s2 fr nf dm _ hr => ?_⟩
    obtain ⟨R2, E2⟩ := R1.after0 s1 s2 (fun q o h => fr q o h fun z => z) nf dm
    exact call_fin R1 R2 E2 (own_ne R1) hr q'
  · rename_i i j h0
    split at e3
    · rename_i x' hx'
      cases e3
      have hij := ioOf_of rs 0 i j (by rw [h0]; exact List.mem_cons_self)
      rw [Nat.sub_zero] at hij
      have uniq : ∀ i' j' : Nat, rs[i']? = some (.o j') → i' = i ∧ j' = j := fun i' j' h => by
        have := ioOf_mem rs 0 i' j' h
        rw [h0, Nat.zero_add] at this
        rcases List.mem_cons.mp this with h | h
        · cases h; exact ⟨rfl, rfl⟩
        · cases h
      have hlt := (List.getElem?_eq_some_iff.mp hij.2).1
      obtain ⟨s, hs⟩ : ∃ s, as[i]? = some s := ⟨_, List.getElem?_eq_getElem (by omega)⟩
      obtain ⟨r', g1, g2⟩ := argsD_at has hs
      rw [hij.2] at g1
      cases g1
      obtain ⟨x, hx, hsx⟩ := Option.map_eq_some_iff.mp g2
      obtain ⟨p, k1, k2, k3, k4⟩ := R1.ownAt hx
      obtain ⟨v, m1, m2⟩ := r1.at_ hij.2
      have m2 : σ[j]? = some (some v) := m2
      rw [k1] at m2
      cases m2
      refine ⟨F1, as ++ dfl.map .val, fun q => q = p, _, as', R1.sub, key _ ?_ ?_ ?_, hf, fun v H' F' s1 s2 fr nf dm hio hr => ?_⟩
      · intro i' j' y p' h h' h''
        obtain ⟨rfl, rfl⟩ := uniq i' j' h
        rw [k1] at h''
        cases h''
        rfl
      · rintro p' rfl
        exact ⟨i, j, x, hij.2, hx, k1⟩
      · intro i1 i2 j1 j2 h h'
        rw [(uniq i1 j1 h).1, (uniq i2 j2 h').1]
      · obtain ⟨R2, E2⟩ := R1.after1 hx k1 k2 s1 s2 fr nf dm (hio i x' p hx' (by rw [List.getElem?_append_left (by omega)]; exact m1))
        refine call_fin R1 R2 E2 (fun w t y h => ?_) hr q'
        unfold putO at h
        split at h
        · rename_i e
          subst e
          exact own_ne R1 _ _ _ k2
        · exact own_ne R1 _ _ _ h
    · cases e3
  · cases e3
theorem jCall {np : Nat} {f : List SD → Option (R × List SD)} {dvs : List V} {dfl : List Dt} {E : XK} {t : TA} {ea : M (List R)} (hd : ∀ F, RpA K C F dvs dfl) (ha : JA K C t ea) (hlen : ∀ rs τ τ', ea τ = some (rs, τ') → rs.length + dfl.length = np) :
    JE K C (tCall (SpD K C np f) dvs E t) (mb ea (callD f dfl)) := by
  intro B O σ H F τ R a τ' e Q q
  obtain ⟨rs, τ1, e1, e2⟩ := mb_some e
  clear e
  refine ha B O σ H F τ R _ _ e1 _ fun vs H1 F1 O1 R1 E1 r1 => ?_
  exact call_core hd R1 r1 (hlen _ _ _ e1) e2 fun v H' F' O' R' E' r' => q v H' F' O' R' (E1.trans E') (r'.back fun p h => E1.d p h)
end
end MR
end BW
--RAW
namespace BW
namespace MR
open PySem PySem.Spec PyProof.Rows L2
section
variable {K : PySem.W.Frag} {C : Cl}
theorem oj_lt : OpJ K C (rI0 fun i j => .bl (decide (i < j))) ltD := oj_cmp
theorem oj_le : OpJ K C (rI0 fun i j => .bl (decide (i ≤ j))) leD := oj_cmp
theorem oj_gt : OpJ K C (rI0 fun i j => .bl (decide (j < i))) gtD := oj_cmp
theorem oj_ge : OpJ K C (rI0 fun i j => .bl (decide (j ≤ i))) geD := oj_cmp
theorem jcInt {i : Int} : JE K C (tC (.int i)) (eC (.int i)) := jC fun _ => .int _
theorem jcStr {i : Str} : JE K C (tC (.str i)) (eC (.str i)) := jC fun _ => .str _
theorem jcBool {i : Bool} : JE K C (tC (.bl i)) (eC (.bool i)) := jC fun _ => .bl _
theorem jcNone : JE K C (tC .non) (eC .none) := jC fun _ => .non
def sNever : M Fl := fun _ => none
theorem jsNever : JS K C tNever sNever := by
  intro B O σ H F τ R f τ' e D q
  cases e
def sPar (i j : Nat) (a : M (List R)) : M Fl := mb a fun rs => fun τ => match rs with
  | [r, s] => match setR i r τ with
    | some τ1 => match s with
      | .v d => (setR j (.v d) τ1).map (.nx, ·)
      | _ => none
    | none => none
  | _ => none
theorem jsPar {i j : Nat} {ta : TA} {ea : M (List R)} (ha : JA K C ta ea) : JS K C (tPar i j ta) (sPar i j ea) := by
  intro B O σ H F τ R f τ' e D q
  obtain ⟨rs, τ1, e1, e2⟩ := mb_some e
  clear e
  refine ha B O σ H F τ R _ _ e1 _ fun vs H1 F1 O1 R1 E1 r1 => ?_
  split at e2
  · rename_i r s
    split at e2
    · rename_i τ2 e3
      split at e2
      · rename_i d
        obtain ⟨τ3, e4, e5⟩ := Option.map_eq_some_iff.mp e2
        clear e2
        cases e5
        rcases vs with _ | ⟨v, _ | ⟨w, _ | ⟨z, t⟩⟩⟩
        · exact r1.elim
        · exact r1.2.elim
        · obtain ⟨O2, F2, R2, E2, s2⟩ := set_ok2 R R1 E1 r1.1 e3
          have rw : RV K C H O2 F2 (σ.set i (some v)) w (.v d) := Rp.same s2 (r1.2.1 : Rp K C F1 w d)
          obtain ⟨O3, F3, R3, E3⟩ := set_ok R R2 E2 rw e4
          exact ⟨v, w, rfl, q _ _ _ _ R3 E3⟩
        · exact r1.2.2.elim
      · cases e2
    · cases e2
  · cases e2
theorem alNil : ∀ (rs : List R) (τ τ' : List SD), aNil τ = some (rs, τ') → rs.length = 0 := fun rs τ τ' h => by cases h; rfl
theorem alCons {a : M R} {b : M (List R)} {n : Nat} (h : ∀ (rs : List R) (τ τ' : List SD), b τ = some (rs, τ') → rs.length = n) : ∀ (rs : List R) (τ τ' : List SD), aCons a b τ = some (rs, τ') → rs.length = n + 1 := fun rs τ τ' e => by
  obtain ⟨x, τ1, e1, e2⟩ := mb_some e
  clear e
  obtain ⟨y, τ2, e3, e4⟩ := mb_some e2
  clear e2
  cases e4
  rw [List.length_cons, h _ _ _ e3]
theorem alD {b : M (List R)} {n m np : Nat} (h : ∀ (rs : List R) (τ τ' : List SD), b τ = some (rs, τ') → rs.length = n) (e : n + m = np) : ∀ (rs : List R) (τ τ' : List SD), b τ = some (rs, τ') → rs.length + m = np := fun rs τ τ' k => by rw [h _ _ _ k]; exact e
theorem jiZpO {ta : TA} {ea : M (List R)} {w : TI} (ha : JA K C ta ea) : JI K C (fun σ H R => RZ.iZipA K ta σ H R ∨ w σ H R) (iZpD ea) := by
  intro B O σ H F τ R ds τ' e Q q
  exact .inl (jiZp ha B O σ H F τ R ds τ' e Q q)
/-- a law whose mirror tells True keeps its promise -/
theorem law_of {P : Program} {w : World} {mg : Str → Option Value} {base : Heap} {CX : CXT} {k : Nat} {x : Str} {st : Stmt} {ps : List Str} {r : List SD → Option (R × List SD)} (c : Cal P w K mg base CX k x st ps (SpD K C 1 r))
    (t : ∀ ns : List Int, ns.length ≤ 63 → ∃ as', r [.val (.list (ns.map PyData.int))] = some (.v (.bool true), as')) : Cal P w K mg base CX k x st ps (spLaw K) := by
  obtain ⟨f, fd, g, F, b, R⟩ := c.ex
  refine ⟨f, fd, g, F, b, R.imp fun vs H Q E h => ?_⟩
  obtain ⟨a, ns, rfl, hS, h63, q⟩ := h
  obtain ⟨as', e⟩ := t ns h63
  refine ⟨rfl, H, _, fun _ => False, _, as', Same.refl _, ⟨rfl, ?_, ?_, ?_, ?_, ?_⟩, e, fun v H' F' _ _ _ _ _ _ hr => ?_⟩
  · intro i d hi
    cases i with
    | zero => cases hi; exact ⟨_, rfl, .lst hS (RpA.ofInts ns)⟩
    | succ i => simp at hi
  · intro i d hi
    cases i with
    | zero => cases hi
    | succ i => simp at hi
  · intro i d hi
    cases i with
    | zero => cases hi
    | succ i => simp at hi
  · intro i j d y p hi
    cases i with
    | zero => cases hi
    | succ i => simp at hi
  · intro p hp
    exact hp.elim
  · cases (show Rp K C F' v (.bool true) from hr)
    exact q H'
end
end MR
end BW
--RAW
namespace BW
namespace MR
open PySem PySem.Spec PyProof.Rows L2
/-! ### classes of the text -/
def lookK (f : Str) : List (Dt × Dt) → Option Dt
  | [] => none
  | (.str g, d) :: r => if f == g then some d else lookK f r
  | _ :: r => lookK f r
def putK (f : Str) (d : Dt) : List (Dt × Dt) → List (Dt × Dt)
  | [] => [(.str f, d)]
  | (.str g, x) :: r => if g = f then (.str g, d) :: r else (.str g, x) :: putK f d r
  | y :: r => y :: putK f d r
section
variable {K : PySem.W.Frag} {C : Cl}
theorem RpF.look {F : Hp} {f : Str} : ∀ {fs : List (Str × V)} {ks : List (Dt × Dt)}, RpF K C F fs ks → (∀ d, lookK f ks = some d → ∃ v, fs.lookup f = some v ∧ Rp K C F v d) ∧ (lookK f ks = none → fs.lookup f = none)
  | _, _, .nil => ⟨fun d h => (by cases h), fun _ => rfl⟩
  | _, _, .cons (x := x) h r => by
    have ih := RpF.look (f := f) r
    unfold lookK
    rw [List.lookup_cons]
    cases e : f == x with
    | true => exact ⟨fun d h' => (by cases h'; exact ⟨_, rfl, h⟩), fun h' => (by cases h')⟩
    | false => exact ih
theorem RpF.put {F : Hp} {f : Str} {v : V} {d : Dt} (h : Rp K C F v d) : ∀ {fs : List (Str × V)} {ks : List (Dt × Dt)}, RpF K C F fs ks → RpF K C F (putF f v fs) (putK f d ks)
  | _, _, .nil => .cons h .nil
  | _, _, .cons (x := x) h' r => by
    unfold putF putK
    by_cases e : x = f
    · rw [if_pos e, if_pos e]; exact .cons h r
    · rw [if_neg e, if_neg e]; exact .cons h' (RpF.put h r)
theorem RpF.length {F : Hp} : ∀ {fs : List (Str × V)} {ks : List (Dt × Dt)}, RpF K C F fs ks → fs.length = ks.length
  | _, _, .nil => rfl
  | _, _, .cons _ r => by rw [List.length_cons, List.length_cons, RpF.length r]
theorem Vw.obj {F H : Hp} {v : V} {c : Int} {ks : List (Dt × Dt)} (s : Same F H) (h : Vw K C F H v (.dict ((.none, .int c) :: ks))) : ∃ (n : Nat) (a dx : Addr) (fs : List (Str × V)), c = (n : Int) ∧ v = .ref a ∧ H a = some (.ins (C n) dx fs) ∧ RpF K C F fs ks := by
  rcases h with h | ⟨p, x, rfl, h, e⟩
  · cases h with
    | obj h r => exact ⟨_, _, _, _, rfl, rfl, s _ _ h, r⟩
  · cases x with
    | L ds => cases e
    | I n ks' =>
      cases e
      obtain ⟨dx, fs, h, r⟩ := h
      exact ⟨n, p, dx, fs, rfl, rfl, h, r⟩
def eFld (c : Nat) (f : Str) (a : M R) : M R := mb a fun r => fun τ => match vw τ r with
  | some (.dict ((.none, .int k) :: ks)) => if k = (c : Int) then (lookK f ks).map fun d => (R.v d, τ) else none
  | _ => none
theorem jFld {c : Nat} {f : Str} {te : TE} {ea : M R} (hC : Cls K (C c)) (hN : NoAttr K (C c) f) (ha : JE K C te ea) : JE K C (tFld K te f) (eFld c f ea) := by
  intro B O σ H F τ R a τ' e Q q
  obtain ⟨x, τ1, e1, e2⟩ := mb_some e
  clear e
  refine ha B O σ H F τ R _ _ e1 _ fun v1 H1 F1 O1 R1 E1 r1 => ?_
  split at e2
  · rename_i k ks hk
    split at e2
    · rename_i hc
      obtain ⟨d, e3, e4⟩ := Option.map_eq_some_iff.mp e2
      clear e2
      cases e4
      obtain ⟨n, p, dx, fs, hn, rfl, hp, rf⟩ := (vw_ok R1 r1 hk).obj R1.sub
      have hcn : c = n := by omega
      subst hcn
      obtain ⟨v, h1, h2⟩ := rf.look.1 d e3
      exact ⟨p, _, dx, fs, v, rfl, hp, hC, hN, h1, q _ _ _ _ R1 E1 h2⟩
    · cases e2
  · cases e2
/-- self.f = e -/
def sFldD (i c : Nat) (f : Str) (a : M R) : M Fl := mb a fun r => mb (fzR r) fun d => fun τ => match ownAt τ i with
  | some (.I k ks) => if k = c ∧ ks.length < 900 then some (.nx, ownSet τ i (.I k (putK f d ks))) else none
  | _ => none
theorem jsFld {i c : Nat} {f : Str} {te : TE} {ea : M R} (hC : Cls K (C c)) (hN : NoAttr K (C c) f) (ha : JE K C te ea) : JS K C (sFld K (tVar i) te f) (sFldD i c f ea) := by
  intro B O σ H F τ R fl τ' e D q
  obtain ⟨x, τ1, e1, e2⟩ := mb_some e
  clear e
  obtain ⟨d, τ2, e3, e4⟩ := mb_some e2
  clear e2
  refine ha B O σ H F τ R _ _ e1 _ fun v1 H1 F1 O1 R1 E1 r1 => ?_
  obtain ⟨O2, F2, R2, E2, _, r2⟩ := fz_ok R R1 E1 r1 e3
  split at e4
  · rename_i k ks hk
    split at e4
    · rename_i hc
      obtain ⟨rfl, hl⟩ := hc
      cases e4
      obtain ⟨p, h1, h2, ⟨dx, fs, h3, rf⟩, _⟩ := R2.ownAt hk
      refine ⟨_, h1, p, _, dx, fs, rfl, h3, hC, hN, by rw [rf.length]; omega, ?_⟩
      exact q _ _ _ _ (R2.updS hk h1 h2 ⟨dx, _, upd_same, rf.put r2⟩) (E2.updO (E2.slotNe h2) h2)
    · cases e4
  · cases e4
/-- o.m(..) -/
def eMeth (c : Nat) (m : Str) (f : List SD → Option (R × List SD)) (dfl : List Dt) (a : M R) (b : M (List R)) : M R := mb a fun r => mb (fzR r) fun d => mb b fun rs => fun τ => match d with
  | .dict ((.none, .int k) :: ks) => if k = (c : Int) ∧ (lookK m ks).isNone then callD f dfl (.v d :: rs) τ else none
  | _ => none
theorem jMeth {c np : Nat} {m : Str} {f : List SD → Option (R × List SD)} {dvs : List V} {dfl : List Dt} {E : XK} {te : TE} {t : TA} {ea : M R} {eb : M (List R)} (hd : ∀ F, RpA K C F dvs dfl) (ha : JE K C te ea) (hb : JA K C t eb)
    (hlen : ∀ rs τ τ', eb τ = some (rs, τ') → rs.length + dfl.length + 1 = np) : JE K C (tMeth (C c) m (SpD K C np f) dvs E te t) (eMeth c m f dfl ea eb) := by
  intro B O σ H F τ R a τ' e Q q
  obtain ⟨x, τ1, e1, e2⟩ := mb_some e
  clear e
  obtain ⟨d, τ2, e3, e4⟩ := mb_some e2
  clear e2
  obtain ⟨rs, τ3, e5, e6⟩ := mb_some e4
  clear e4
  refine ha B O σ H F τ R _ _ e1 _ fun v1 H1 F1 O1 R1 E1 r1 => ?_
  obtain ⟨O2, F2, R2, E2, _, r2⟩ := fz_ok R R1 E1 r1 e3
  split at e6
  · rename_i k ks
    split at e6
    · rename_i hc
      obtain ⟨hc, hm⟩ := hc
      cases r2 with
      | obj h rf =>
        rename_i p dx n fs
        have hcn : c = n := by omega
        subst hcn
        refine ⟨p, dx, fs, rfl, R2.sub _ _ h, rf.look.2 (Option.isNone_iff_eq_none.mp hm), ?_⟩
        refine hb B O2 σ H1 F2 τ2 R2 _ _ e5 _ fun vs H3 F3 O3 R3 E3 r3 => ?_
        have EE := E2.trans E3
        have rr : RVs K C H1 O3 F3 σ (.ref p :: vs) (.v (.dict ((.none, .int (c : Int)) :: ks)) :: rs) := ⟨Rp.same E3.f (.obj h rf), r3⟩
        exact call_core hd R3 rr (by rw [List.length_cons]; have := hlen _ _ _ e5; omega) e6 fun v H' F' O' R' E' r' => q v H' F' O' R' (EE.trans E') (r'.back fun p h => EE.d p h)
    · cases e6
  · cases e6
/-- C(..) -/
def eMake (c : Nat) (f : List SD → Option (R × List SD)) (b : M (List R)) : M R := mb b fun rs => fun τ => match rds rs with
  | some ds => match f (.io (.I c []) :: ds.map .val) with
    | some (.v .none, .io (.I k ks) :: _) => if k = c then some (.n (.I c ks), τ) else none
    | _ => none
  | none => none
theorem jMake {c np : Nat} {f : List SD → Option (R × List SD)} {E : XK} {t : TA} {eb : M (List R)} (hb : JA K C t eb) (hlen : ∀ rs τ τ', eb τ = some (rs, τ') → rs.length + 1 = np) : JE K C (tMake (C c) (SpD K C np f) [] E t) (eMake c f eb) := by
  intro B O σ H F τ R a τ' e Q q
  obtain ⟨rs, τ1, e1, e2⟩ := mb_some e
  clear e
  refine hb B O σ H F τ R _ _ e1 _ fun vs H1 F1 O1 R1 E1 r1 => ?_
  intro x dx hx hdx hne
  split at e2
  · rename_i ds hds
    split at e2
    · rename_i k ks rest hf
      split at e2
      · rename_i hk
        rw [hk] at hf
        cases e2
        have sG : Same H1 (upd (upd H1 dx (.own x)) x (.ins (C c) dx [])) := fun b o h => by
          rw [upd_ne (ne_of_none h hx), upd_ne (ne_of_none h hdx)]
          exact h
        obtain ⟨R2, E2, g2⟩ := R1.newO (x := .I c []) hx sG ⟨dx, [], upd_same, .nil⟩
        have rr := rds_ok r1 hds
        refine ⟨by rw [List.append_nil, List.length_cons, r1.length]; exact hlen _ _ _ e1, F1, _, fun q => q = x, _, _, R2.sub, ⟨?_, ?_, ?_, ?_, ?_, ?_⟩, hf, fun v H' F' s1 s2 fr nf dm hio hr => ?_⟩
        · simp only [List.append_nil, List.length_cons, List.length_map]
          rw [rr.length]
        · intro i d hi
          cases i with
          | zero => cases hi
          | succ i =>
            rw [List.getElem?_cons_succ, List.getElem?_map] at hi
            obtain ⟨d', h1, h2⟩ := Option.map_eq_some_iff.mp hi
            cases h2
            obtain ⟨u, h3, h4⟩ := rr.get h1
            exact ⟨u, by simpa using h3, h4⟩
        · intro i y hi
          cases i with
          | zero => cases hi; exact ⟨x, rfl, rfl, ⟨dx, [], upd_same, .nil⟩, R1.sub.free hx⟩
          | succ i =>
            rw [List.getElem?_cons_succ, List.getElem?_map] at hi
            obtain ⟨d', h1, h2⟩ := Option.map_eq_some_iff.mp hi
            cases h2
        · intro i y hi
          cases i with
          | zero => cases hi
          | succ i =>
            rw [List.getElem?_cons_succ, List.getElem?_map] at hi
            obtain ⟨d', h1, h2⟩ := Option.map_eq_some_iff.mp hi
            cases h2
        · intro i j y z p hi hj _ _
          cases i with
          | zero =>
            cases j with
            | zero => rfl
            | succ j =>
              rw [List.getElem?_cons_succ, List.getElem?_map] at hj
              obtain ⟨d', h1, h2⟩ := Option.map_eq_some_iff.mp hj
              cases h2
          | succ i =>
            rw [List.getElem?_cons_succ, List.getElem?_map] at hi
            obtain ⟨d', h1, h2⟩ := Option.map_eq_some_iff.mp hi
            cases h2
        · rintro p rfl
          exact ⟨0, _, rfl, rfl⟩
        · have hx' := hio 0 _ x rfl rfl
          have R3 := R2.afterT g2 s1 s2 fr nf dm hx'
          have hv : v = .non := by cases (show Rp K C F' v .none from hr); rfl
          refine ⟨hv, q _ _ _ _ R3 ⟨E1.f.trans s1, fun w y hw => ?_, fun w hw => E1.d w (sG.free (dm w hw))⟩ ⟨x, rfl, if_pos rfl, E1.d x hx⟩⟩
          have n : w ≠ x := by rintro rfl; exact R.live w y hw (E1.d w hx)
          exact (if_neg n).trans ((if_neg n).trans (E1.t w y hw))
      · cases e2
    · cases e2
  · cases e2
/-- len(o), o of an own class -/
def tLenO (c : Addr) (sp : Sp) (E : XK) (ta : TE) : TE := fun σ H Q => ta σ H fun x H1 => ∃ (a dx : Addr) (fs : List (Str × V)), x = .ref a ∧ H1 a = some (.ins c dx fs) ∧ sp [x] H1 (fun v H2 => ∃ n : Int, v = .int n ∧ 0 ≤ n ∧ n < 2 ^ 63 ∧ Q (.int n) H2) E
theorem pe_lenO {X : Cx} {CX : CXT} {k : Nat} {f c : Addr} {fd : FuncData} {ps : List Str} {sp : Sp} {E : XK} {a : Expr} {ta : TE} {p pos : Pos} (G : FnOk X.prog X.w X.K X.mg X.base CX k f fd ps sp) (hr : Room (k + 1) X.A) (hb : Binds X.K fd ps []) (hx : Passes CX X E)
    (hs : PySem.W.findIn X.K (.ref c) "__len__" = some (some (.ref f))) (hf : PySem.W.isFn X.K (.ref f) = true) (hg : Gl X "len") (hm : X.mg "len" = none) (ha : PE X a ta)
    (na : starEach [a] X.env = (false, eval a X.env) :: starEach [] X.env := by rfl) : PE X (.Call (.Name "len" p) [a] [] pos) (tLenO c sp E ta) := by
  refine ⟨fun pins s σ H Q I h => Call_ (ld_blt I hg hm boot_len (callWith_builtin1 (args_cons (thn (ha.run pins s σ H _ I h) fun u s1 ⟨x, H1, I1, rx, a, dx, fs, ex, ea, q⟩ => args_nil ?_) na) na rfl))⟩
  subst ex
  obtain rfl : u = Value.ref a := rx
  obtain ⟨mA, ⟨ob, ⟨od, es, ep, hod, hrest⟩, hne⟩, _⟩ := ins_get I1.hok ea
  obtain ⟨m, fr⟩ := I1.fr
  have ia : PySem.W.InstAt s1.heap a _ c (some od) := ⟨ob, rfl, rfl, hod⟩
  refine PySem.W.len_K fr I1.ok.mod.kin ia hs hf ?_
  have r2 : Vals [V.ref a] [Value.ref a] := .cons rfl .nil
  have hl : [Value.ref a].length = ps.length := (G.len _ _ _ _ q)
  refine wpAny_call (codeAny_mono (G.run X.A.in1 X.stack s1 H1 ⟨[.ref a], []⟩ [.ref a] [.ref a] _ E hr.in1 I1.env0.in1 (hb s1 [.ref a] I1.kIn hl) r2 q) fun r s' hq => ?_)
  cases r with
  | error e => exact hx pins σ H1 s1 e s' I1 hq
  | ok fl =>
    cases fl with
    | ret u =>
      obtain ⟨v, H', I2, rv, n, rfl, h0, h1, hQ⟩ := I1.after hq
      obtain ⟨t, rfl⟩ := rv
      exact ⟨⟨h0, h1⟩, .int n, H', I2.tok _, ⟨_, rfl⟩, hQ⟩
    | next => exact False.elim hq
    | brk => exact False.elim hq
    | cont => exact False.elim hq
def eLenO (c : Nat) (f : List SD → Option (R × List SD)) (a : M R) : M R := mb a fun r => mb (fzR r) fun d => fun τ => match d with
  | .dict ((.none, .int k) :: _) => if k = (c : Int) then match callD f [] [.v d] τ with
    | some (.v (.int n), τ') => if 0 ≤ n ∧ n < 1000000 then some (.v (.int n), τ') else none
    | _ => none
    else none
  | _ => none
theorem jLenO {c : Nat} {f : List SD → Option (R × List SD)} {E : XK} {te : TE} {ea : M R} (ha : JE K C te ea) : JE K C (tLenO (C c) (SpD K C 1 f) E te) (eLenO c f ea) := by
  intro B O σ H F τ R a τ' e Q q
  obtain ⟨x, τ1, e1, e2⟩ := mb_some e
  clear e
  obtain ⟨d, τ2, e3, e4⟩ := mb_some e2
  clear e2
  refine ha B O σ H F τ R _ _ e1 _ fun v1 H1 F1 O1 R1 E1 r1 => ?_
  obtain ⟨O2, F2, R2, E2, _, r2⟩ := fz_ok R R1 E1 r1 e3
  split at e4
  · rename_i k ks
    split at e4
    · rename_i hc
      split at e4
      · rename_i n τ3 e5
        split at e4
        · rename_i hn
          cases e4
          cases r2 with
          | obj h rf =>
            rename_i p dx m fs
            have hcn : c = m := by omega
            subst hcn
            refine ⟨p, dx, fs, rfl, R2.sub _ _ h, ?_⟩
            have rr : RVs K C H1 O2 F2 σ [.ref p] [.v (.dict ((.none, .int (c : Int)) :: ks))] := ⟨.obj h rf, True.intro⟩
            refine call_core (dvs := []) (fun _ => .nil) R2 rr rfl e5 fun v H' F' O' R' E' r' => ?_
            cases (show Rp K C F' v (.int n) from r')
            exact ⟨n, rfl, hn.1, by omega, q _ _ _ _ R' (E2.trans E') (.int _)⟩
        · cases e4
      · cases e4
    · cases e4
  · cases e4
end
end MR
end BW
--RAW
namespace BW
namespace MXD
open PySem PySem.Spec PyProof.Rows L2
/-! ### max(xs, default=d), xs a list or a tuple of whole numbers -/
theorem fold_max : ∀ (ns : List Int) (n : Int), ns.foldl max n ∈ n :: ns ∧ ∀ y ∈ n :: ns, y ≤ ns.foldl max n
  | [], n => ⟨List.mem_singleton.mpr rfl, fun y h => by rw [List.mem_singleton.mp h]; exact Int.le_refl _⟩
  | a :: ns, n => by
    obtain ⟨h1, h2⟩ := fold_max ns (max n a)
    show ns.foldl max (max n a) ∈ n :: a :: ns ∧ ∀ y ∈ n :: a :: ns, y ≤ ns.foldl max (max n a)
    refine ⟨?_, fun y hy => ?_⟩
    · rcases List.mem_cons.mp h1 with h | h
      · rw [h]
        rcases Int.le_total n a with c | c
        · rw [Int.max_eq_right c]; exact List.mem_cons_of_mem _ List.mem_cons_self
        · rw [Int.max_eq_left c]; exact List.mem_cons_self
      · exact List.mem_cons_of_mem _ (List.mem_cons_of_mem _ h)
    · have h3 := h2 (max n a) List.mem_cons_self
      rcases List.mem_cons.mp hy with rfl | hy
      · exact Int.le_trans (Int.le_max_left _ _) h3
      · rcases List.mem_cons.mp hy with rfl | hy
        · exact Int.le_trans (Int.le_max_right _ _) h3
        · exact h2 y (List.mem_cons_of_mem _ hy)
theorem alike_ints (ns : List Int) : PySem.W.AlikeAll (ns.map .int) := by
  refine ⟨fun x hx y hy => ?_, fun x hx => ?_⟩
  · obtain ⟨i, _, rfl⟩ := List.mem_map.mp hx
    obtain ⟨j, _, rfl⟩ := List.mem_map.mp hy
    rfl
  · obtain ⟨i, _, rfl⟩ := List.mem_map.mp hx
    intro e
    cases e
theorem deep0 : ∀ ns : List Int, PyData.depthAll (ns.map .int) = 0
  | [] => rfl
  | n :: t => by
    show max (PyData.depth (.int n)) (PyData.depthAll (t.map PyData.int)) = 0
    rw [deep0 t]
    rfl
section
variable {X : Cx}
def rMaxDf (K : PySem.W.Frag) : List V → List V → Hp → VK → Prop := fun vs zs H Q => ∃ (a : Addr) (ns : List Int) (d : V), vs = [V.ref a] ∧ zs = [d] ∧ (SqL K H a (ns.map V.int) ∨ SqT K H a (ns.map V.int)) ∧ (ns = [] → Q d H) ∧ ∀ m, m ∈ ns → (∀ y, y ∈ ns → y ≤ m) → Q (.int m) H
theorem cr_maxDf (hc : X.calm = true) (hu : X.A.units + 64 < cLine) : CallRK X (.builtin "max") [Str.ofString "default"] (rMaxDf X.K) := by
  intro pins s σ H vs zs us ws Q I r rz h
  obtain ⟨a, ns, d, rfl, rfl, hs, q0, q1⟩ := h
  obtain rfl := Vals.ref1 r
  obtain ⟨w1, rfl, e1⟩ := vals1 rz
  have fin : ∀ (y : PyData) (ys : List PyData) (v : Value) (h' : Heap) (tk : _) (bs : List Addr), ns.map PyData.int = y :: ys → Reads h' v (PySem.W.maxD y ys) bs → (∀ b o, s.heap.get? b = some o → h'.get? b = some o) → EP X pins σ Q v { s with heap := h', toks := tk } := by
    intro y ys v h' tk bs e hr hk
    cases ns with
    | nil => cases e
    | cons n ns' =>
      cases e
      rw [PySem.W.maxD_ints] at hr
      obtain ⟨h1, h2⟩ := fold_max ns' n
      cases hr
      exact ⟨.int _, H, I.kept hk, ⟨_, rfl⟩, q1 _ h1 h2⟩
  have fin0 : ns.map PyData.int = [] → ∀ (h' : Heap) (tk : _), (∀ b o, s.heap.get? b = some o → h'.get? b = some o) → EP X pins σ Q w1 { s with heap := h', toks := tk } := fun e h' tk hk => ⟨d, H, I.kept hk, e1, q0 (List.map_eq_nil_iff.mp e)⟩
  have hu' : X.A.units + 1 + PyData.depthAll (ns.map PyData.int) < cLine := by
    rw [deep0]
    omega
  rcases hs with hs | hs
  · obtain ⟨its, rv, hl, hz⟩ := I.list hs
    exact PySem.W.max_list_default (I.ok.hd hc) hl.isList (rv.ints.reads s.heap) (alike_ints ns) hu' fin0 fun y ys i v h' tk bs e _ hr hk => fin y ys v h' tk bs e hr hk
  · obtain ⟨its, rv, hl, hz⟩ := I.tuple hs
    exact PySem.W.max_tuple_default (I.ok.hd hc) hl (rv.ints.reads s.heap) (alike_ints ns) hu' fin0 fun y ys i v h' tk bs e _ hr hk => fin y ys v h' tk bs e hr hk
end
end MXD
end BW
--RAW
namespace BW
namespace MR
open PySem PySem.Spec PyProof.Rows L2
/-! ### max(xs, default=d) -/
def maxfD (x d : Dt) : Option R := match d with
  | .int k => match x with
    | .list ds => (intsOf ds).map fun ns => match maxI ns with | some m => .v (.int m) | none => .v (.int k)
    | .tuple ds => (intsOf ds).map fun ns => match maxI ns with | some m => .v (.int m) | none => .v (.int k)
    | _ => none
  | _ => none
def eMaxDf (a d : M R) : M R := mb a fun r => mb d fun z => fun τ => match vw τ r, vw τ z with
  | some x, some y => (maxfD x y).map (·, τ)
  | _, _ => none
section
variable {K : PySem.W.Frag} {C : Cl}
theorem jMaxDf {ta tk : TE} {ea ek : M R} (ha : JE K C ta ea) (hk : JE K C tk ek) : JE K C (tCKw (MXD.rMaxDf K) (tCons ta tNil) (tCons tk tNil)) (eMaxDf ea ek) := by
  intro B O σ H F τ R a τ' e Q q
  obtain ⟨x, τ1, e1, e2⟩ := mb_some e
  clear e
  obtain ⟨z, τ2, e3, e⟩ := mb_some e2
  clear e2
  refine ha B O σ H F τ R _ _ e1 _ fun v1 H1 F1 O1 R1 E1 r1 => ?_
  refine hk B O1 σ H1 F1 _ R1 _ _ e3 _ fun v2 H2 F2 O2 R2 E2 r2 => ?_
  have E12 := E1.trans E2
  have r1' : RV K C H O2 F2 σ v1 x := r1.ext E2
  split at e
  · rename_i dx dy hx hy
    obtain ⟨res, e4, e5⟩ := Option.map_eq_some_iff.mp e
    clear e
    obtain ⟨rfl, rfl⟩ := Prod.mk.inj e5
    have vx := vw_ok R2 r1' hx
    have vy := vw_ok R2 r2 hy
    unfold maxfD at e4
    split at e4
    · rename_i k
      have ey := vy.int
      subst ey
      have fin : ∀ (p : Addr) (ns : List Int), v1 = .ref p → (SqL K H2 p (ns.map V.int) ∨ SqT K H2 p (ns.map V.int)) → res = (match maxI ns with | some m => MR.R.v (.int m) | none => MR.R.v (.int k)) → MXD.rMaxDf K [v1] [.int k] H2 Q := by
        intro p ns hv hs hr
        refine ⟨p, ns, .int k, by rw [hv], rfl, hs, fun h0 => ?_, fun m g1 g2 => ?_⟩
        · subst h0
          cases hr
          exact q _ _ _ _ R2 E12 (.int k)
        · cases hm : maxI ns with
          | none =>
            rw [maxI_none hm] at g1
            cases g1
          | some m' =>
            obtain ⟨k1, k2⟩ := maxI_ok hm
            have : m = m' := Int.le_antisymm (k2 _ g1) (g2 _ k1)
            subst this
            rw [hm] at hr
            cases hr
            exact q _ _ _ _ R2 E12 (.int m)
      split at e4
      · obtain ⟨ns, e6, e7⟩ := Option.map_eq_some_iff.mp e4
        obtain ⟨p, hv, h1⟩ := vx.ints R2.sub e6
        exact fin p ns hv (.inl h1) e7.symm
      · obtain ⟨ns, e6, e7⟩ := Option.map_eq_some_iff.mp e4
        obtain ⟨p, vs, hv, h1, rr⟩ := vx.tup
        rw [intsOf_ok e6] at rr
        rw [rr.ints] at h1
        exact fin p ns hv (.inr (Same.tupS R2.sub h1)) e7.symm
      · cases e4
    · cases e4
  · cases e
end
end MR
end BW
--RAW
namespace BW
namespace SST
open PySem PySem.Spec PyProof.Rows L2
/-! ### set(xs), xs a list of unlike texts -/
section
variable {p : Program} {w : World} {A0 : Around} {R0 : Result → Shared → Prop} {itr : Addr} {fps wrs : List Addr} {GG : Array GenState → Array GenState → Prop} {m : Nat} {PV : Nat → Value → Prop} {SV : Nat → Shared → Prop}
abbrev memT (ts : List Str) (i : Nat) : Str → Bool := fun y => (ts.take i).any (· == y)
theorem memT_next {ts : List Str} {i : Nat} (nd : ts.Nodup) (hi : i < ts.length) : memT ts i (ts.getD i Str.empty) = false ∧ ∀ y, (memT ts i y || decide (y = ts.getD i Str.empty)) = memT ts (i + 1) y := by
  have eg : ts.getD i Str.empty = ts[i] := by rw [List.getD_eq_getElem?_getD, List.getElem?_eq_getElem hi]; rfl
  rw [eg]
  constructor
  · cases hb : memT ts i ts[i] with
    | false => rfl
    | true =>
      obtain ⟨y, hy, ey⟩ := List.any_eq_true.mp hb
      have ey2 : y = ts[i] := eq_of_beq ey
      rw [ey2] at hy
      obtain ⟨j, hj, ej⟩ := List.mem_take_iff_getElem.mp hy
      have hji : j < i := by omega
      exact absurd ej (List.pairwise_iff_getElem.mp nd j i (by omega) hi hji)
  · intro y
    unfold memT
    rw [List.take_add_one, List.getElem?_eq_getElem hi, List.any_append]
    congr 1
    show decide (y = ts[i]) = [ts[i]].any (· == y)
    by_cases e : y = ts[i]
    · subst e; simp
    · have hb : (ts[i] == y) = false := by simpa [beq_iff_eq] using (fun z : ts[i] = y => e z.symm)
      simp [hb, e]
theorem adds (WW : WalksS p w A0.in1 itr fps wrs GG m PV SV) (a : Addr) (ha : a ∉ fps) (ts : List Str) (hm : ts.length = m) (nd : ts.Nodup) (hb : m + 1 < scanBound) (hv : ∀ i v, PV i v → ∃ t, v = .str (ts.getD i Str.empty) t) :
    ∀ (d i : Nat) (s : Shared), m - i = d → i ≤ m → SV i s → s.heap.SetOf (PySem.strKind p w) a (memT ts i) i →
      (∀ s2, Moved (a :: wrs) GG s s2 → s2.heap.SetOf (PySem.strKind p w) a (memT ts m) m → R0 (.ok (.ret .none)) s2) →
      codeAny (model p w) A0 (.builtin "set.update.loop" ⟨[.ref a, .ref itr], []⟩) R0 s := by
  have aw : a ∉ wrs := fun z => ha (WW.sub _ z)
  have up : ∀ b ∈ wrs, b ∈ a :: wrs := fun b z => List.mem_cons_of_mem _ z
  intro d
  induction d with
  | zero =>
    intro i s hd hi st hS fin
    obtain rfl : i = m := by omega
    refine codeAny_builtin PyProof.Rows.F.entry_set_update_loop ?_
    rw [Around.under_plainId PyProof.Rows.F.plain_set_update_loop _]
    show wpAny _ A0.in1 (pyNext (.ref itr) >>= _) _ _ s
    refine wpAny_bind (WW.done s _ _ st fun s2 mv => ?_)
    show wpAny _ A0.in1 (ret Value.none) _ _ s2
    refine wpAny_pure (fin s2 (mv.mono up) ?_)
    obtain ⟨o, es, ep, t, ho, z⟩ := hS
    exact ⟨o, es, ep, t, mv.heap a _ aw ho, z⟩
  | succ d ih =>
    intro i s hd hi st hS fin
    have hlt : i < m := by omega
    refine codeAny_builtin PyProof.Rows.F.entry_set_update_loop ?_
    rw [Around.under_plainId PyProof.Rows.F.plain_set_update_loop _]
    show wpAny _ A0.in1 (pyNext (.ref itr) >>= _) _ _ s
    refine wpAny_bind (WW.item i s _ _ hlt st fun v s2 hPv st2 mv => ?_)
    obtain ⟨tk, rfl⟩ := hv i v hPv
    have hS2 : s2.heap.SetOf (PySem.strKind p w) a (memT ts i) i := by
      obtain ⟨o, es, ep, t, ho, z⟩ := hS
      exact ⟨o, es, ep, t, mv.heap a _ aw ho, z⟩
    show wpAny _ A0.in1 (holding [Value.str (ts.getD i Str.empty) tk] (setAdd a (.str (ts.getD i Str.empty) tk)) >>= _) _ _ s2
    refine wpAny_bind (wpAny_holding ?_)
    unfold setAdd
    refine wpAny_holding (wpAny_bind ((PySem.strKind p w).pyHash (k := ts.getD i Str.empty) (strKind_is _ _ _ _) ?_))
    refine wpAny_setAddHashed_of (knd := PySem.strKind p w) (s := { s2 with toks := s2.toks + 1 }) (strKind_is _ _ _ _) rfl hS2 (by omega) fun h2 sb hS3 => ?_
    obtain ⟨n1, n2⟩ := memT_next nd (show i < ts.length by omega)
    have hS4 : h2.SetOf (PySem.strKind p w) a (memT ts (i + 1)) (i + 1) := SetOf_congr hS3 n2 (by rw [n1]; rfl)
    refine wpAny_pure ⟨plainId_quiet PyProof.Rows.F.plain_set_update_loop _, ih (i + 1) _ (by omega) hlt (WW.frame _ s2 _ _ st2 (Nat.le_succ _) fun b hb2 o e => ?_) hS4 fun s3 mv3 hS5 => ?_⟩
    · rw [sb.2 b (fun z : b = a => ha (z ▸ hb2))]
      exact e
    · refine fin s3 (Moved.trans WW.gtrans ((mv.mono up).then_heap (Nat.le_succ _) fun b o hb2 e => ?_) mv3) hS5
      rw [sb.2 b (fun z : b = a => hb2 (z ▸ List.mem_cons_self))]
      exact e
end
/-- a set without items, as it is made -/
def newS (led : Bool) : Obj := { cls := .type "set", dict := none, data := .set #[] 0 (.fresh 0 0 led) }
section
variable {p : Program} {w : World} {A0 : Around} {EE : Value → Shared → Prop} {s : Shared}
set_option maxHeartbeats 3200000 in
theorem set_texts {l : Addr} {vs : Array Value} {ts : List Str} {Q : Value → Shared → Prop} (hh : A0.handled = none) (hl : s.heap.IsList l vs) (hi : StrsAre vs.toList ts) (nd : ts.Nodup) (hb : ts.length + 1 < scanBound)
    (hQ : ∀ (h2 : Heap) (tk : Nat), h2.SetOf (PySem.strKind p w) s.heap.objs.size (memT ts ts.length) ts.length → (∀ b o, b < s.heap.objs.size → s.heap.get? b = some o → h2.get? b = some o) →
      Q (.ref s.heap.objs.size) { s with heap := h2, toks := tk }) : wpAny (model p w) A0 (call (.type "set") [.ref l]) Q EE s := by
  obtain ⟨c, tl, mro⟩ := PySem.F.called_set.mro
  have made := PySem.F.called_set.made
  have sub := PySem.F.called_set.sub
  have hnt := PySem.F.called_set.notType
  have hcc := PySem.F.called_set.canCreate
  have htc := PySem.F.typeCall_set_1 (.ref l)
  refine wpAny_call (codeAny_of_tree ?_)
  show wpAny _ _ (callAny (.type "set") _) _ _ _
  refine wpAny_pure ⟨Code.quiet_builtin _ (by decide +kernel), codeAny_builtin PySem.F.entry_type_call ?_⟩
  rw [Around.under_plain (weight_type_call_type "set" [.ref l] []) rfl]
  repeat (any_goals (first | assumption | wp_step))
  refine codeAny_mono (code_set_new_1 (.ref l) (E := EE) (Q₁ := fun x s1 => ∃ led, x = .ref s.heap.objs.size ∧ s1 = { s with heap := s.heap.push (newS led) }) fun led => ⟨led, rfl, rfl⟩) fun r s1 hr => ?_
  cases r with
  | error e => exact hr
  | ok fl =>
    cases fl with
    | ret x =>
      obtain ⟨led, rfl, rfl⟩ := hr
      have hN : (s.heap.push (newS led)).get? s.heap.objs.size = some (newS led) := Heap.get?_push_size _ rfl
      have hT : Shared.TypeIs { s with heap := s.heap.push (newS led) } (.ref s.heap.objs.size) "set" := ⟨_, hN, rfl⟩
      have hil := PySem.F.called_set.init.lookup
      have hib := PySem.F.called_set.init.bind (.ref s.heap.objs.size)
      repeat (any_goals (first | assumption | wp_step))
      refine codeAny_mono (codeAny_call_builtin (R := wants (fun r s2 => r = .none ∧ ∃ h2 tk, s2 = { s with heap := h2, toks := tk } ∧ h2.SetOf (PySem.strKind p w) s.heap.objs.size (memT ts ts.length) ts.length ∧
          ∀ b o, b < s.heap.objs.size → s.heap.get? b = some o → h2.get? b = some o) EE) PySem.F.called_set.init.plain PySem.F.entry_set_init (check_set_init_1 hT ?_)) fun r2 s2 hr2 => ?_
      · obtain ⟨⟨oc, od, oda, osl⟩, hol, hc, nl, hd⟩ := hl
        simp only at hc hd
        subst hc
        subst hd
        have hol2 : (s.heap.push (newS led)).get? l = some { cls := .type "list", dict := od, data := .seq vs nl, slots := osl } := Heap.get?_push_of_some _ hol
        have f1 := PySem.F.sub_list_set
        have f2 := PySem.F.sub_list_frozenset
        have f3 : (Value.type "list" == Value.type "dict") = false := by decide
        have hl1 : (s.heap.push (newS led)).IsList l vs := ⟨_, hol2, rfl, nl, rfl⟩
        unfold Builtin.«set.__init__» noKeywords Builtin.Frozenset.updateFrom
        generalize hPI : pyIter = PI
        wp_walk
        subst hPI
        refine wpAny_pyIter_list hl1 (wpAny_bind (wpAny_runValue ?_))
        have lt : l < s.heap.objs.size := Heap.lt_size hol
        have hh4 : A0.in1.in1.in1.handled = none := by simp [hh]
        have szN : (s.heap.push (newS led)).objs.size = s.heap.objs.size + 1 := Heap.size_push ..
        have ni : l ≠ (s.heap.push (newS led)).objs.size := by
          rw [szN]
          exact Nat.ne_of_lt (Nat.lt_succ_of_lt lt)
        have nf : s.heap.objs.size ∉ [(s.heap.push (newS led)).objs.size, l] := by
          intro z
          rcases List.mem_cons.mp z with z | z
          · exact absurd (show (s.heap.objs.size : Nat) = s.heap.objs.size + 1 from z.trans szN) (by omega)
          · rcases List.mem_cons.mp z with z | z
            · exact absurd (show (l : Nat) = s.heap.objs.size from z.symm) (Nat.ne_of_lt lt)
            · cases z
        have hsz : ts.length = vs.size := by rw [← StrsAre.len_eq hi, Array.length_toList]
        refine adds (m := vs.size) ((Walks.list hh4 _ l ni vs).toS) s.heap.objs.size nf ts hsz nd (by omega) (fun i v z => SS.strs_at hi i v (by rw [Array.getElem?_toList]; exact z)) (vs.size - 0) 0 _ (by omega) (Nat.zero_le _)
          ⟨⟨_, Heap.get?_push_size _ rfl, rfl, rfl⟩, (hl1.push _)⟩ ?g1 ?g2
        case g1 =>
          have hg : ((s.heap.push (newS led)).push { cls := .type "list_iterator", data := .fields #[.ref l, .int 0 0] }).get? s.heap.objs.size = some (newS led) := Heap.get?_push_of_some _ hN
          exact SetOf_congr ((setObjOf_fresh (knd := PySem.strKind p w) led).setOf hg (by unfold scanBound; omega)) (fun _ => rfl) rfl
        case g2 =>
          intro s3 mv hS3
          obtain ⟨h3, g3, d3, tk3, os3⟩ := s3
          obtain rfl : g3 = s.gens := mv.gens
          obtain rfl : d3 = s.drawn := mv.drawn
          obtain rfl : os3 = s.os := mv.os
          show wpAny _ _ _ _ _ _
          refine wpAny_pure ?_
          show wpAny _ _ (ret Value.none) _ _ _
          rw [← hsz] at hS3
          refine wpAny_pure ⟨rfl, h3, tk3, rfl, hS3, fun b o hb e => ?_⟩
          refine mv.heap b o (fun z => ?_) (Heap.get?_push_of_some _ (Heap.get?_push_of_some _ e))
          rcases List.mem_cons.mp z with z | z
          · exact absurd (show (b : Nat) = s.heap.objs.size from z) (Nat.ne_of_lt hb)
          · rcases List.mem_cons.mp z with z | z
            · exact absurd (show (b : Nat) = s.heap.objs.size + 1 from z.trans szN) (by omega)
            · cases z
      · cases r2 with
        | error e => exact hr2
        | ok f2 =>
          cases f2 with
          | ret r =>
            obtain ⟨rfl, h2, tk, rfl, hS2, hk2⟩ := hr2
            repeat (any_goals (first | assumption | wp_step))
            exact hQ _ _ hS2 hk2
          | _ => exact hr2.elim
    | _ => exact hr.elim
end
/-- len(set(xs)) -/
def tLenT (K : PySem.W.Frag) (ta : TE) : TE := fun σ H Q => ta σ H fun x H1 => ∃ (l : Addr) (ts : List Str), x = .ref l ∧ SqL K H1 l (ts.map V.str) ∧ ts.Nodup ∧ ts.length ≤ 1000 ∧ Q (.int (ts.length : Nat)) H1
theorem pe_lenT {X : Cx} {a : Expr} {ta : TE} {p1 p2 q pos : Pos} (hg : Gl X "len") (hm : X.mg "len" = none) (hg2 : Gl X "set") (hm2 : X.mg "set" = none) (ha : PE X a ta) (hc : X.calm = true := by rfl)
    (na : starEach [a] X.env = (false, eval a X.env) :: starEach [] X.env := by rfl) : PE X (.Call (.Name "len" p1) [.Call (.Name "set" p2) [a] [] q] [] pos) (tLenT X.K ta) := by
  refine ⟨fun pins s σ H Q I h => Call_ (ld_blt I hg hm boot_len (callWith_builtin1 (args_cons (Call_ (ld_blt I hg2 hm2 boot_set (callWith_type1 (args_cons (thn (ha.run pins s σ H _ I h) fun v s1 ⟨x, H1, I1, r1, q1⟩ => args_nil ?_) na) na rfl))) rfl) rfl rfl))⟩
  obtain ⟨l, ts, rfl, hq, nd, hl, q1⟩ := q1
  cases r1
  obtain ⟨its, r, pl, hz⟩ := I1.list hq
  refine set_texts (I1.ok.hd hc) pl.isList (by simpa using strsAre_of r) nd (by unfold scanBound; omega) fun h2 tk hS hk => ?_
  obtain ⟨o, es, ep, t, ho, hex, hd, _, _, _, hf, hn⟩ := hS
  have I2 : Inv X pins σ H1 { s1 with heap := h2, toks := tk } := I1.kept fun b ob e => hk b ob (Heap.lt_size e) e
  exact args_nil (call_len_set ho hex hd hf (by rw [hn]; omega) ⟨.int ts.length, H1, I2.tok _, ⟨_, by rw [hn]⟩, q1⟩)
end SST
end BW
--RAW
namespace BW
namespace MR
open PySem PySem.Spec PyProof.Rows L2
section
variable {K : PySem.W.Frag} {C : Cl}
/-! ### a text in a text; a text walked; len(set(..)) of texts; [..] of range -/
def inSD : Dt → Dt → Option R
  | .str i, .str j => some (.v (.bool (!(Builtin.Str.occurrences j i 0 j.length 1).isEmpty)))
  | _, _ => none
theorem oj_inS : OpJ K C (fun x y H Q => ∃ i j, x = .str i ∧ y = .str j ∧ Q (.bl (!(Builtin.Str.occurrences j i 0 j.length 1).isEmpty)) H) inSD := by
  intro B O σ H F τ x y dx dy res R hx hy e Q q
  unfold inSD at e
  split at e
  · cases e
    cases hx.str
    cases hy.str
    exact ⟨_, _, rfl, rfl, fin_v R (.bl _) q⟩
  · cases e
def chD (x : Str) : List Dt := x.cps.toList.map fun c => .str ⟨#[c]⟩
def iStrD (a : M R) : M (List Dt) := mb a fun r => fun τ => match vw τ r with
  | some (.str x) => some (chD x, τ)
  | _ => none
theorem its_ok {x : Str} {F : Hp} : ItOk K C (Its x) F (chD x) := by
  intro F' H' s1 s2
  refine ⟨fun i d hd => ?_, ?_⟩
  · unfold chD at hd
    rw [List.getElem?_map] at hd
    obtain ⟨c, hc, rfl⟩ := Option.map_eq_some_iff.mp hd
    rw [Array.getElem?_toList] at hc
    refine ⟨(Array.getElem?_eq_some_iff.mp hc).1, ?_⟩
    rintro y H'' ⟨rfl, c', hc', rfl⟩
    rw [hc] at hc'
    cases hc'
    exact ⟨F', .inl ⟨rfl, rfl⟩, .str _⟩
  · show x.cps.size ≤ (chD x).length
    unfold chD
    rw [List.length_map, Array.length_toList]
    exact Nat.le_refl _
theorem jiStr {te : TE} {ea : M R} (ha : JE K C te ea) : JI K C (iStr te) (iStrD ea) := by
  intro B O σ H F τ R ds τ' e Q q
  obtain ⟨x, τ1, e1, e⟩ := mb_some e
  refine ha B O σ H F τ R _ _ e1 _ fun v1 H1 F1 O1 R1 E1 r1 => ?_
  split at e
  · rename_i y hy
    cases e
    exact ⟨y, (vw_ok R1 r1 hy).str, q _ _ _ _ R1 E1 its_ok⟩
  · cases e
def strsOf : List Dt → Option (List Str)
  | [] => some []
  | .str i :: r => (strsOf r).map (i :: ·)
  | _ :: _ => none
theorem strsOf_ok : ∀ {ds : List Dt} {ns : List Str}, strsOf ds = some ns → ds = ns.map PyData.str
  | [], _, e => by cases e; rfl
  | .str i :: r, ns, e => by
    obtain ⟨n', e1, e2⟩ := Option.map_eq_some_iff.mp e
    cases e2
    rw [strsOf_ok e1]
    rfl
  | .none :: _, _, e => by cases e
  | .bool _ :: _, _, e => by cases e
  | .int _ :: _, _, e => by cases e
  | .list _ :: _, _, e => by cases e
  | .tuple _ :: _, _, e => by cases e
  | .dict _ :: _, _, e => by cases e
theorem strsOf_map : ∀ ns : List Str, strsOf (ns.map PyData.str) = some ns
  | [] => rfl
  | n :: ns => by rw [List.map_cons, strsOf, strsOf_map ns]; rfl
theorem RpA.strs {F : Hp} : ∀ {vs : List V} {ns : List Str}, RpA K C F vs (ns.map PyData.str) → vs = ns.map V.str
  | [], [], _ => rfl
  | v :: vs, n :: ns, h => by
    cases h with
    | cons h r => cases h; rw [RpA.strs r]; rfl
open Classical in
noncomputable def eLenSet (a : M R) : M R := mb a fun r => fun τ => match vw τ r with
  | some (.list ds) => match strsOf ds with
    | some ts => if ts.Nodup ∧ ts.length ≤ 1000 then some (.v (.int ts.length), τ) else none
    | none => none
  | _ => none
theorem jLenSet {te : TE} {ea : M R} (ha : JE K C te ea) : JE K C (SST.tLenT K te) (eLenSet ea) := by
  intro B O σ H F τ R a τ' e Q q
  obtain ⟨x, τ1, e1, e⟩ := mb_some e
  refine ha B O σ H F τ R _ _ e1 _ fun v1 H1 F1 O1 R1 E1 r1 => ?_
  split at e
  · rename_i ds hd
    split at e
    · rename_i ts ht
      split at e
      · rename_i hn
        cases e
        obtain ⟨p, vs, rfl, h1, rr⟩ := (vw_ok R1 r1 hd).list R1.sub
        rw [strsOf_ok ht] at rr
        rw [rr.strs] at h1
        exact ⟨p, ts, rfl, h1, hn.1, hn.2, q _ _ _ _ R1 E1 (.int _)⟩
      · cases e
    · cases e
  · cases e
end
end MR
end BW
--RAW
namespace BW
namespace RVT
open PySem PySem.Spec PyProof.Rows L2 HT
/-! ### xs[::-1], xs a list or a tuple -/
theorem fm_congr {α β : Type} {f g : α → Option β} : ∀ {l : List α}, (∀ x ∈ l, f x = g x) → l.filterMap f = l.filterMap g
  | [], _ => rfl
  | x :: l, h => by
    have e := fm_congr (l := l) fun y hy => h y (List.mem_cons_of_mem _ hy)
    rw [List.filterMap_cons, List.filterMap_cons, h x List.mem_cons_self, e]
theorem back_pick (its : Array Value) : ((List.range its.size).filterMap fun (k : Nat) => its[(((its.size : Int) - 1) + (k : Int) * -1).toNat]?).toArray = its.toList.reverse.toArray := by
  have e : ((List.range its.size).filterMap fun (k : Nat) => its[(((its.size : Int) - 1) + (k : Int) * -1).toNat]?) = ((List.range its.size).map fun k => its.size - 1 - k).filterMap (its[·]?) := by
    rw [List.filterMap_map]
    refine fm_congr fun k hk => ?_
    have := List.mem_range.mp hk
    show its[(((its.size : Int) - 1) + (k : Int) * -1).toNat]? = its[its.size - 1 - k]?
    rw [show (((its.size : Int) - 1) + (k : Int) * -1).toNat = its.size - 1 - k by omega]
  rw [e, PySem.W.krv_range, List.filterMap_reverse, PySem.W.krv_all]
section
variable {prog : Program} {w : World} {A : Around} {E : Value → Shared → Prop} {s : Shared}
theorem applied_back {z : Addr} {a b c : Value} {n : Nat} {Q : Int × Int × Nat → Shared → Prop} (hs : s.heap.IsSliceOf z a b c) (pa : IsPart a none) (pb : IsPart b none) (pc : IsPart c (some (-1))) (h : Q ((n : Int) - 1, -1, n) s) :
    wpAny (model prog w) A (Builtin.Slice.sliceApplied (.ref z) (pure (n : Int))) Q E s := by
  obtain ⟨o, ho, h1, h2⟩ := id hs
  unfold Builtin.Slice.sliceApplied; unfold Builtin.Slice.sliceFields
  refine wpAny_bind (wpAny_bind (wpAny_field ho h2 (x := a) rfl (wpAny_bind (wpAny_field ho h2 (x := b) rfl (wpAny_bind (wpAny_field ho h2 (x := c) rfl (wpAny_pure ?_)))))))
  refine wpAny_bind (slicePart_ pc ?_)
  show wpAny _ _ (if ((-1 : Int) == 0) = true then _ else _) _ _ s
  rw [if_neg (by decide)]
  refine wpAny_bind (slicePart_ pa (wpAny_bind (slicePart_ pb (wpAny_bind (wpAny_pure ?_)))))
  show wpAny _ _ (match Builtin.Slice.sliceAdjust none none (-1) (n : Int) with | (lo, hi) => pure (lo, (-1 : Int), Builtin.Slice.slicePlaces lo hi (-1))) _ _ s
  have e : Builtin.Slice.sliceAdjust none none (-1) (n : Int) = ((n : Int) - 1, -1) := by
    unfold Builtin.Slice.sliceAdjust
    simp
  rw [e]
  show wpAny _ _ (pure ((n : Int) - 1, (-1 : Int), Builtin.Slice.slicePlaces ((n : Int) - 1) (-1) (-1))) _ _ s
  have e2 : Builtin.Slice.slicePlaces ((n : Int) - 1) (-1) (-1) = n := by
    unfold Builtin.Slice.slicePlaces
    rw [if_neg (by decide)]
    by_cases h0 : (n : Int) - 1 > -1
    · rw [if_pos h0, show (- -1 : Int) = 1 by decide, Int.ediv_one]
      omega
    · rw [if_neg h0]
      omega
  rw [e2]
  exact wpAny_pure h
theorem getItem_back {t z : Addr} {its : Array Value} {a b c : Value} {Q : Value → Shared → Prop} (ht : IsTup s.heap t its) (hs : s.heap.IsSliceOf z a b c) (pa : IsPart a none) (pb : IsPart b none) (pc : IsPart c (some (-1)))
    (h : Q (.ref s.heap.objs.size) { s with heap := s.heap.push { cls := .type "tuple", data := .seq its.toList.reverse.toArray } }) (hz : its.size ≤ sizeLine) : wpAny (model prog w) A (getItem (.ref t) (.ref z)) Q E s := by
  have hok : sizeOk (.seq its.toList.reverse.toArray) := by
    show its.toList.reverse.toArray.size ≤ sizeLine
    rw [List.size_toArray, List.length_reverse, Array.length_toList]
    exact hz
  obtain ⟨o, ho, h1, h2⟩ := id hs
  have hT : s.TypeIs (.ref z) "slice" := ⟨o, ho, h1⟩
  unfold getItem
  try with_reducible refine wpAny_holding ?_
  try refine wpAny_bind (wpAny_pure ?_)
  refine wpAny_bind (wpAny_sequenceKey ht.typeIs (by decide) ?_)
  refine wpAny_bind (wpAny_callSpecial?_slot (name := Str.ofString "__getitem__") ht.typeIs PyProof.Rows.slot_tuple_getitem (wpAny_call_entry PyProof.Rows.slot_tuple_getitem ht.typeIs entry_tuple_getitem ?_ (args_tuple_getitem _ _)))
  show wpAny _ _ (Builtin.Tuple.tupleItemsOf (.ref t) >>= _) _ _ s
  refine wpAny_bind (tupleItemsOf_ ht (wpAny_bind (wpAny_typeOf hT ?_)))
  rw [if_pos (by decide)]
  refine wpAny_bind (applied_back hs pa pb pc ?_)
  show wpAny _ _ (if (((its.size : Int) - 1) == 0 && (-1 : Int) == 1 && its.size == its.size) = true then _ else _) _ _ s
  rw [if_neg (by simp), back_pick]
  first
    | exact wpAny_bind (m := Builtin.Tuple.tupleExact _) (wpAny_newObj_type (wpAny_pure ⟨_, rfl, wpAny_pure h⟩) hok)
    | exact wpAny_bind (m := Builtin.Tuple.tupleExact _) (wpAny_newObj_type (wpAny_bind (wpAny_pure (wpAny_pure ⟨_, rfl, wpAny_pure h⟩))) hok)
    | exact wpAny_bind (wpAny_bind (m := Builtin.Tuple.tupleExact _) (wpAny_newObj_type (wpAny_pure (wpAny_pure ⟨_, rfl, wpAny_pure h⟩)) hok))
    | exact wpAny_bind (wpAny_bind (m := Builtin.Tuple.tupleExact _) (wpAny_newObj_type (wpAny_pure ⟨_, rfl, wpAny_pure h⟩) hok))
end
def tRevA (K : PySem.W.Frag) (te : TE) : TE := fun σ H Q => te σ H fun x H1 => (∃ a xs, x = .ref a ∧ SqL K H1 a xs ∧ ∀ p, H1 p = none → Q (.ref p) (upd H1 p (.lst xs.reverse))) ∨ ∃ a xs, x = .ref a ∧ SqT K H1 a xs ∧ ∀ p, H1 p = none → Q (.ref p) (upd H1 p (.tup xs.reverse))
section
variable {X : Cx}
theorem pe_revA {e : Expr} {te : TE} {k : Nat} {p1 p2 p3 pos : Pos} (he : PE X e te) : PE X (.Subscript e (.Slice none none (some (.UnaryOp .USub (.Constant (.int 1) k p1) p2)) p3) pos) (tRevA X.K te) := by
  refine ⟨fun pins s σ H Q I h => Subscript_ (thn (he.run pins s σ H _ I h) fun v s1 ⟨x, H1, I1, r1, q1⟩ => ?_)⟩
  have hst : PO X (some (.UnaryOp .USub (.Constant (.int 1) k p1) p2)) (tPart (tUn (rU fun i => .int (-i)) (tC (.int 1)))) := po_some (pe_un un_neg pe_int)
  refine wpAny_Slice (thn (po_none.run pins s1 σ H1 (fun o Hb => o = none ∧ Hb = H1) I1 ⟨rfl, rfl⟩) fun vl s2 ⟨l, Hb, I2, pl, el, e2⟩ => ?_)
  subst el e2
  refine thn (po_none.run pins s2 σ Hb (fun o Hc => o = none ∧ Hc = Hb) I2 ⟨rfl, rfl⟩) fun vu s3 ⟨u, Hc, I3, pu, eu, e3⟩ => ?_
  subst eu e3
  refine thn (hst.run pins s3 σ Hc (fun o Hd => o = some (-1) ∧ Hd = Hc) I3 ⟨1, rfl, -1, rfl, rfl, rfl⟩) fun vs s4 ⟨o, Hd, I4, ps, eo, e4⟩ => ?_
  subst eo e4
  have I5 : Inv X pins σ Hd { s4 with heap := s4.heap.push { cls := .type "slice", data := .fields #[vl, vu, vs] } } := I4.kept (t' := s4.toks) fun _ _ q => Heap.get?_push_of_some _ q
  rcases q1 with ⟨a, xs, rfl, hx, q⟩ | ⟨a, xs, rfl, hx, q⟩
  · cases r1
    obtain ⟨its, r, ht, hz⟩ := I5.list hx
    have hl := r.length
    show wpAny _ _ (subscriptTail e (.Slice none none (some (.UnaryOp .USub (.Constant (.int 1) k p1) p2)) p3) (.ref a) (.ref s4.heap.objs.size)) (EP X pins σ Q) X.xe { s4 with heap := s4.heap.push { cls := .type "slice", data := .fields #[vl, vu, vs] } }
    refine tail_any (ops := [.ref a, .ref s4.heap.objs.size]) ht.isList.typeIs (PySem.slot_list_getitem.lookup) ?_ (by with_unfolding_all rfl)
    refine wpAny_getItem_list_slice ht.isList (Heap.IsSliceOf.new _ vl vu vs) pl pu ps (by decide) ?_ (by rw [List.size_toArray]; omega)
    rw [PySem.W.krv_pick]
    exact ⟨.ref _, _, I5.laid (t' := s4.toks) (o := .lst xs.reverse) (fun _ _ q => Heap.get?_push_of_some _ q) (Nat.le_refl _) ⟨by rw [List.length_reverse]; exact hz, _, 0, r.reverse, Heap.get?_push_size _ rfl⟩, rfl, q _ (I5.hok.fresh (Nat.le_refl _))⟩
  · cases r1
    obtain ⟨its, r, ht, hz⟩ := I5.tuple hx
    have hl := r.length
    show wpAny _ _ (subscriptTail e (.Slice none none (some (.UnaryOp .USub (.Constant (.int 1) k p1) p2)) p3) (.ref a) (.ref s4.heap.objs.size)) (EP X pins σ Q) X.xe { s4 with heap := s4.heap.push { cls := .type "slice", data := .fields #[vl, vu, vs] } }
    refine tail_any (ops := [.ref a, .ref s4.heap.objs.size]) ht.typeIs (PyProof.Rows.slot_tuple_getitem.lookup) ?_ (by with_unfolding_all rfl)
    refine getItem_back ht (Heap.IsSliceOf.new _ vl vu vs) pl pu ps ?_ (by rw [List.size_toArray]; omega)
    exact ⟨.ref _, _, I5.laid (t' := s4.toks) (o := .tup xs.reverse) (fun _ _ q => Heap.get?_push_of_some _ q) (Nat.le_refl _) ⟨by rw [List.length_reverse]; exact hz, _, r.reverse, IsTup.new _ _⟩, rfl, q _ (I5.hok.fresh (Nat.le_refl _))⟩
end
end RVT
end BW
namespace BW
namespace MR
open PySem PySem.Spec PyProof.Rows L2
def revD : Dt → Option R
  | .list ds => some (.n (.L ds.reverse))
  | .tuple ds => some (.v (.tuple ds.reverse))
  | _ => none
def eRevA (a : M R) : M R := mb a fun r => fun τ => match vw τ r with
  | some d => (revD d).map (·, τ)
  | _ => none
section
variable {K : PySem.W.Frag} {C : Cl}
theorem jRevA {te : TE} {ea : M R} (ha : JE K C te ea) : JE K C (RVT.tRevA K te) (eRevA ea) := by
  intro B O σ H F τ R a τ' e Q q
  obtain ⟨x, τ1, e1, e⟩ := mb_some e
  refine ha B O σ H F τ R _ _ e1 _ fun v1 H1 F1 O1 R1 E1 r1 => ?_
  split at e
  · rename_i d hd
    obtain ⟨res, e2, e3⟩ := Option.map_eq_some_iff.mp e
    cases e3
    unfold revD at e2
    split at e2
    · cases e2
      obtain ⟨p, vs, rfl, h1, r2⟩ := (vw_ok R1 r1 hd).list R1.sub
      exact .inl ⟨_, _, rfl, h1, New.go (fin_lst R1 r2.reverse fun v H' F' O' R' E' r' => q v H' F' O' R' (E1.trans E') (r'.back fun p h => E1.d p h))⟩
    · cases e2
      obtain ⟨p, vs, rfl, h1, r2⟩ := (vw_ok R1 r1 hd).tup
      exact .inr ⟨_, _, rfl, Same.tupS R1.sub h1, New.go (fin_tup R1 r2.reverse fun v H' F' O' R' E' r' => q v H' F' O' R' (E1.trans E') (r'.back fun p h => E1.d p h))⟩
    · cases e2
  · cases e
end
end MR
end BW
--RAW
namespace BW
namespace MR
open PySem PySem.Spec PyProof.Rows L2
/-! ### xs.index(k), xs.count(k) of whole numbers -/
def ixI : List Int → Int → Option Nat
  | [], _ => none
  | x :: xs, k => if x = k then some 0 else (ixI xs k).map (· + 1)
theorem ixI_ok : ∀ {ns : List Int} {k : Int} {j : Nat}, ixI ns k = some j → ns[j]? = some k ∧ ∀ (m : Nat) (z : Int), m < j → ns[m]? = some z → z ≠ k
  | [], _, _, h => by cases h
  | x :: xs, k, j, h => by
    unfold ixI at h
    split at h
    · rename_i e
      cases h
      exact ⟨by rw [e]; rfl, fun m z hm _ => absurd hm (Nat.not_lt_zero m)⟩
    · rename_i e
      obtain ⟨i, e1, rfl⟩ := Option.map_eq_some_iff.mp h
      obtain ⟨h1, h2⟩ := ixI_ok e1
      refine ⟨h1, fun m z hm hz => ?_⟩
      cases m with
      | zero => cases hz; exact e
      | succ m => exact h2 m z (by omega) hz
def eBm (f : List Int → Int → Option Int) (a : M R) (b : M (List R)) : M R := mb a fun r => mb (fzR r) fun d => mb b fun rs => fun τ => match d, vws τ rs with
  | .list ds, some [.int k] => match intsOf ds with
    | some ns => (f ns k).map fun j => (.v (.int j), τ)
    | none => none
  | _, _ => none
def idxF (ns : List Int) (k : Int) : Option Int := (ixI ns k).map Int.ofNat
def cntF (ns : List Int) (k : Int) : Option Int := some (ns.count k : Nat)
section
variable {K : PySem.W.Frag} {C : Cl}
theorem eqV_ii {i j : Int} : eqV (.int i) (.int j) = decide (i = j) := by
  rw [Bool.eq_iff_iff]
  simp [eqV]
theorem jBm {r : V → List V → Hp → VK → Prop} {f : List Int → Int → Option Int} (hr : ∀ (p : Addr) (ns : List Int) (k j : Int) (H : Hp) (Q : VK), SqL K H p (ns.map V.int) → f ns k = some j → Q (.int j) H → r (.ref p) [.int k] H Q) {te : TE} {t : TA} {ea : M R} {eb : M (List R)} (ha : JE K C te ea) (hb : JA K C t eb) : JE K C (tBM K "list" r te t) (eBm f ea eb) := by
  intro B O σ H F τ R a τ' e Q q
  obtain ⟨x, τ1, e1, e2⟩ := mb_some e
  clear e
  obtain ⟨d, τ2, e3, e4⟩ := mb_some e2
  clear e2
  obtain ⟨rs, τ3, e5, e6⟩ := mb_some e4
  clear e4
  refine ha B O σ H F τ R _ _ e1 _ fun v1 H1 F1 O1 R1 E1 r1 => ?_
  obtain ⟨O2, F2, R2, E2, _, r2⟩ := fz_ok R R1 E1 r1 e3
  split at e6
  · rename_i ds k hk
    split at e6
    · rename_i ns hn
      obtain ⟨j, e7, e8⟩ := Option.map_eq_some_iff.mp e6
      cases e8
      rw [intsOf_ok hn] at r2
      cases r2 with
      | lst h1 rr =>
        rename_i p vs
        rw [rr.ints] at h1
        refine ⟨.inl ⟨rfl, _, R2.sub.seq h1⟩, ?_⟩
        refine hb B O2 σ H1 F2 τ2 R2 _ _ e5 _ fun vs H3 F3 O3 R3 E3 r3 => ?_
        have pv := vws_ok R3 r3 hk
        obtain ⟨y, rfl, hy⟩ := paired1 pv
        rw [hy.int]
        exact hr p ns k j H3 Q (R3.sub.seq (E3.f.seq h1)) e7 (q _ _ _ _ R3 (E2.trans E3) (.int j))
    · cases e6
  · cases e6
theorem r_idx (p : Addr) (ns : List Int) (k j : Int) (H : Hp) (Q : VK) (h : SqL K H p (ns.map V.int)) (e : idxF ns k = some j) (q : Q (.int j) H) : rIndex K (.ref p) [.int k] H Q := by
  obtain ⟨i, e1, rfl⟩ := Option.map_eq_some_iff.mp e
  obtain ⟨h1, h2⟩ := ixI_ok e1
  refine ⟨p, ns.map V.int, .int k, i, .int k, rfl, rfl, h, rfl, List.all_eq_true.mpr fun x hx => ?_, by rw [List.getElem?_map, h1]; rfl, by rw [eqV_ii]; exact decide_eq_true rfl, fun m z hm hz => ?_, q⟩
  · obtain ⟨i, _, rfl⟩ := List.mem_map.mp hx
    rfl
  · rw [List.getElem?_map] at hz
    obtain ⟨y, hy, rfl⟩ := Option.map_eq_some_iff.mp hz
    rw [eqV_ii]
    exact decide_eq_false (h2 m y hm hy)
theorem r_cnt (p : Addr) (ns : List Int) (k j : Int) (H : Hp) (Q : VK) (h : SqL K H p (ns.map V.int)) (e : cntF ns k = some j) (q : Q (.int j) H) : rCntI K (.ref p) [.int k] H Q := by
  cases e
  exact ⟨p, ns, k, rfl, rfl, h, q⟩
/-! ### list(range(j)) -/
theorem rg_data {F : Hp} : ∀ l : List Nat, RpA K C F (l.map fun i => V.int (0 + (i : Nat))) (l.map fun (i : Nat) => PyData.int (0 + (i : Int)))
  | [] => .nil
  | i :: l => .cons (.int _) (rg_data l)
def eLstRg (a : M R) : M R := mb a fun r => fun τ => match vw τ r with
  | some (.int j) => if 0 ≤ j ∧ j ≤ 16777216 then some (.n (.L (rngD 0 j.toNat)), τ) else none
  | _ => none
theorem jLstRg {te : TE} {ea : M R} (ha : JE K C te ea) : JE K C (tLstRg (tRg1 te)) (eLstRg ea) := by
  intro B O σ H F τ R a τ' e Q q
  obtain ⟨x, τ1, e1, e⟩ := mb_some e
  refine ha B O σ H F τ R _ _ e1 _ fun v1 H1 F1 O1 R1 E1 r1 => ?_
  split at e
  · rename_i j hj
    split at e
    · rename_i hl
      cases e
      refine ⟨j, (vw_ok R1 r1 hj).int, RgOk.of_le (by decide) hl.2 (by decide) hl.1, fun p hp => ?_⟩
      have rr : RpA K C F1 (rgV 0 j) (rngD 0 j.toNat) := by
        have e0 : rgV 0 j = (List.range j.toNat).map fun i => V.int (0 + (i : Nat)) := by
          unfold rgV
          rw [Int.sub_zero]
        rw [e0]
        exact rg_data _
      exact fin_lst R1 rr (fun v H' F' O' R' E' r' => q v H' F' O' R' (E1.trans E') (r'.back fun p h => E1.d p h)) p _ hp (same_new hp) upd_same
    · cases e
  · cases e
end
end MR
end BW
--RAW
namespace BW
open PySem PySem.Spec PyProof.Rows L2
section
variable {P : Program} {w : World} {K : PySem.W.Frag} {mg : Str → Option Value} {base : Heap} {CX : CXT}
/-- a method stands in a class -/
def AtM (K : PySem.W.Frag) (C : Addr) (m q : Str) (st : Stmt) : Prop := ∃ (f : Addr) (fd : FuncData), Meth K C m f ∧ Fun K m q st f fd
/-- a method that keeps its promise -/
structure CalM (P : Program) (w : World) (K : PySem.W.Frag) (mg : Str → Option Value) (base : Heap) (CX : CXT) (k : Nat) (C : Addr) (m q : Str) (st : Stmt) (ps : List Str) (sp : Sp) : Prop where
  ex : ∃ (f : Addr) (fd : FuncData), Meth K C m f ∧ Fun K m q st f fd ∧ Binds K fd ps [] ∧ FnOk P w K mg base CX k f fd ps sp
def BindM (m q : Str) (st : Stmt) (ps : List Str) : Prop := ∀ (kV doc pm : Value) (an : Option Addr) (cdv ct : Value) (us : List Value), us.length = ps.length → bindArgs (PySem.W.fnOf m q (defArgs st) (defBody st) (defScope st) .none kV doc pm an cdv ct) ⟨us, []⟩ = pure (ps.zip us)
theorem CalM.mk' {k : Nat} {C : Addr} {m q : Str} {st : Stmt} {ps : List Str} {sp : Sp} (a : AtM K C m q st) (hb : BindM m q st ps) (h : ∀ (f : Addr) (fd : FuncData), Fun K m q st f fd → FnOk P w K mg base CX k f fd ps sp) : CalM P w K mg base CX k C m q st ps sp := by
  obtain ⟨f, fd, g, F⟩ := a
  exact ⟨f, fd, g, F, F.binds hb, h f fd F⟩
structure ClsOk (K : PySem.W.Frag) (mg : Str → Option Value) (x : Str) (C : Addr) : Prop where
  cl : Cls K C
  g : mg x = some (.ref C)
  mks : PySem.W.makesIn K C = true
  kp : PySem.W.keepIn K (.ref C) = true
end
section
variable {X : Cx} {CX : CXT} {k : Nat} {C : Addr} {m q x : Str} {st : Stmt} {ps : List Str} {sp : Sp} {E : XK} {p pos apos : Pos} {e o a : Expr} {es : List Expr} {t : TA} {ta : TE}
/-- o.m(e, ..) -/
theorem pe_methM {pl : Sem Bool} (M : CalM X.prog X.w X.K X.mg X.base CX k C m q st ps sp) (O : ClsOk X.K X.mg x C) (hr : Room k X.A) (hx : Passes CX X E) (he : PE X o ta) (ha : PA X (e :: es) t) (h1 : starEach (e :: es) X.env = (false, eval e X.env) :: starEach es X.env := by rfl) (h2 : (backTo pos (starEach es X.env)).any (·.1) = false := by rfl) (h3 : eval (.Call (.Attribute o m apos) (e :: es) [] pos) X.env = (do let ov ← eval o X.env; standAt apos.atName; let (f, first) ← holding [ov] (getMethod ov m pl); callWith pos f first (backTo pos (starEach (e :: es) X.env)) (backToKw pos (keywordEach [] X.env))) := by rfl) : PE X (.Call (.Attribute o m apos) (e :: es) [] pos) (tMeth C m sp [] E ta t) := by
  obtain ⟨f, fd, g, F, b, G⟩ := M.ex
  exact pe_meth he O.cl g G hr b .nil hx ha h1 h2 h3
theorem pe_methM0 {pl : Sem Bool} (M : CalM X.prog X.w X.K X.mg X.base CX k C m q st ps sp) (O : ClsOk X.K X.mg x C) (hr : Room k X.A) (hx : Passes CX X E) (he : PE X o ta) (h3 : eval (.Call (.Attribute o m apos) [] [] pos) X.env = (do let ov ← eval o X.env; standAt apos.atName; let (f, first) ← holding [ov] (getMethod ov m pl); callWith pos f first (backTo pos (starEach [] X.env)) (backToKw pos (keywordEach [] X.env))) := by rfl) : PE X (.Call (.Attribute o m apos) [] [] pos) (tMeth C m sp [] E ta tNil) := by
  obtain ⟨f, fd, g, F, b, G⟩ := M.ex
  exact pe_meth0 he O.cl g G hr b .nil hx h3
/-- C(e, ..) -/
theorem pe_makeM (M : CalM X.prog X.w X.K X.mg X.base CX k C "__init__" q st ps sp) (O : ClsOk X.K X.mg x C) (hr : Room (k + 1) X.A) (hg : Gl X x) (hx : Passes CX X E) (ha : PA X (e :: es) t)
    (hdb : (x == ("__debug__" : Str)) = false := by decide) (he : starEach (e :: es) X.env = (false, eval e X.env) :: starEach es X.env := by rfl) (hpl : (backTo pos (starEach es X.env)).any (·.1) = false := by rfl) :
    PE X (.Call (.Name x p) (e :: es) [] pos) (tMake C sp [] E t) := by
  obtain ⟨f, fd, g, F, b, G⟩ := M.ex
  exact pe_make ⟨O.mks, g.at_, g.fn, O.kp⟩ G hr hg O.g b .nil hx ha hdb he hpl
/-- len(o) -/
theorem pe_lenM (M : CalM X.prog X.w X.K X.mg X.base CX k C "__len__" q st ps sp) (hr : Room (k + 1) X.A) (hx : Passes CX X E) (hg : Gl X "len") (hm : X.mg "len" = none) (ha : PE X a ta)
    (na : starEach [a] X.env = (false, eval a X.env) :: starEach [] X.env := by rfl) : PE X (.Call (.Name "len" p) [a] [] pos) (MR.tLenO C sp E ta) := by
  obtain ⟨f, fd, g, F, b, G⟩ := M.ex
  exact MR.pe_lenO G hr b hx g.at_ g.fn hg hm ha na
end
namespace MR
theorem alM {b : M (List R)} {n m np : Nat} (h : ∀ (rs : List R) (τ τ' : List SD), b τ = some (rs, τ') → rs.length = n) (e : n + m + 1 = np) : ∀ (rs : List R) (τ τ' : List SD), b τ = some (rs, τ') → rs.length + m + 1 = np := fun rs τ τ' k => by rw [h _ _ _ k]; exact e
end MR
end BW
--RAW
namespace BW
namespace MR
open PySem PySem.Spec PyProof.Rows L2
/-! ### a mirror is run -/
def Ev {α : Type} (m : M α) (τ : List SD) (P : α → List SD → Prop) : Prop := ∃ a τ', m τ = some (a, τ') ∧ P a τ'
section
variable {α β : Type} {m : M α} {k : α → M β} {τ : List SD} {d : Dt} {i : Nat} {x : Own} {a b : M R} {as : M (List R)} {f : Dt → Dt → Option R}
theorem Ev.imp {P Q : α → List SD → Prop} (h : Ev m τ P) (hq : ∀ a τ', P a τ' → Q a τ') : Ev m τ Q := by
  obtain ⟨a, τ', e, p⟩ := h
  exact ⟨a, τ', e, hq _ _ p⟩
theorem ev_mb {P : β → List SD → Prop} (h : Ev m τ fun a τ1 => Ev (k a) τ1 P) : Ev (mb m k) τ P := by
  obtain ⟨a, τ1, e1, b, τ2, e2, p⟩ := h
  refine ⟨b, τ2, ?_, p⟩
  unfold mb
  rw [e1]
  exact e2
theorem ev_pure {P : α → List SD → Prop} {y : α} (h : P y τ) : Ev (fun τ => some (y, τ)) τ P := ⟨_, _, rfl, h⟩
theorem ev_C {P : R → List SD → Prop} (h : P (.v d) τ) : Ev (eC d) τ P := ⟨_, _, rfl, h⟩
theorem ev_V {P : R → List SD → Prop} (e : τ[i]? = some (.val d)) (h : P (.v d) τ) : Ev (eV i) τ P := ⟨_, _, by unfold eV; rw [e], h⟩
theorem ev_Vo {P : R → List SD → Prop} (e : τ[i]? = some (.own x)) (h : P (.o i) τ) : Ev (eV i) τ P := ⟨_, _, by unfold eV; rw [e], h⟩
theorem ev_Vi {P : R → List SD → Prop} (e : τ[i]? = some (.io x)) (h : P (.o i) τ) : Ev (eV i) τ P := ⟨_, _, by unfold eV; rw [e], h⟩
theorem ev_op {P : R → List SD → Prop} (h : Ev a τ fun x τ1 => Ev b τ1 fun y τ2 => ∃ dx dy r, vw τ2 x = some dx ∧ vw τ2 y = some dy ∧ f dx dy = some r ∧ P r τ2) : Ev (eOp f a b) τ P := by
  refine ev_mb (h.imp fun x τ1 h => ev_mb (h.imp fun y τ2 h => ?_))
  obtain ⟨dx, dy, r, e1, e2, e3, p⟩ := h
  exact ⟨r, τ2, by simp only [e1, e2, e3, Option.map_some], p⟩
theorem ev_opI {g : Int → Int → Dt} (hf : ∀ i j, f (.int i) (.int j) = some (.v (g i j))) {P : R → List SD → Prop} (h : Ev a τ fun x τ1 => Ev b τ1 fun y τ2 => ∃ i j, vw τ2 x = some (.int i) ∧ vw τ2 y = some (.int j) ∧ P (.v (g i j)) τ2) : Ev (eOp f a b) τ P :=
  ev_op (h.imp fun _ _ h => h.imp fun _ _ ⟨i, j, e1, e2, p⟩ => ⟨_, _, _, e1, e2, hf i j, p⟩)
theorem ev_add {P : R → List SD → Prop} (h : Ev a τ fun x τ1 => Ev b τ1 fun y τ2 => ∃ i j, vw τ2 x = some (.int i) ∧ vw τ2 y = some (.int j) ∧ P (.v (.int (i + j))) τ2) : Ev (eOp addD a b) τ P := ev_opI (g := fun i j => .int (i + j)) (fun _ _ => rfl) h
theorem ev_sub {P : R → List SD → Prop} (h : Ev a τ fun x τ1 => Ev b τ1 fun y τ2 => ∃ i j, vw τ2 x = some (.int i) ∧ vw τ2 y = some (.int j) ∧ P (.v (.int (i - j))) τ2) : Ev (eOp subD a b) τ P := ev_opI (g := fun i j => .int (i - j)) (fun _ _ => rfl) h
theorem ev_lt {P : R → List SD → Prop} (h : Ev a τ fun x τ1 => Ev b τ1 fun y τ2 => ∃ i j, vw τ2 x = some (.int i) ∧ vw τ2 y = some (.int j) ∧ P (.v (.bool (decide (i < j)))) τ2) : Ev (eOp ltD a b) τ P := ev_opI (g := fun i j => .bool (decide (i < j))) (fun _ _ => rfl) h
theorem ev_le {P : R → List SD → Prop} (h : Ev a τ fun x τ1 => Ev b τ1 fun y τ2 => ∃ i j, vw τ2 x = some (.int i) ∧ vw τ2 y = some (.int j) ∧ P (.v (.bool (decide (i ≤ j)))) τ2) : Ev (eOp leD a b) τ P := ev_opI (g := fun i j => .bool (decide (i ≤ j))) (fun _ _ => rfl) h
theorem ev_gt {P : R → List SD → Prop} (h : Ev a τ fun x τ1 => Ev b τ1 fun y τ2 => ∃ i j, vw τ2 x = some (.int i) ∧ vw τ2 y = some (.int j) ∧ P (.v (.bool (decide (j < i)))) τ2) : Ev (eOp gtD a b) τ P := ev_opI (g := fun i j => .bool (decide (j < i))) (fun _ _ => rfl) h
theorem ev_ge {P : R → List SD → Prop} (h : Ev a τ fun x τ1 => Ev b τ1 fun y τ2 => ∃ i j, vw τ2 x = some (.int i) ∧ vw τ2 y = some (.int j) ∧ P (.v (.bool (decide (j ≤ i)))) τ2) : Ev (eOp geD a b) τ P := ev_opI (g := fun i j => .bool (decide (j ≤ i))) (fun _ _ => rfl) h
theorem ev_mul {P : R → List SD → Prop} (h : Ev a τ fun x τ1 => Ev b τ1 fun y τ2 => ∃ i j, vw τ2 x = some (.int i) ∧ vw τ2 y = some (.int j) ∧ (i.natAbs < 18446744073709551616 ∨ j.natAbs < 18446744073709551616) ∧ P (.v (.int (i * j))) τ2) : Ev (eOp mulD a b) τ P :=
  ev_op (h.imp fun _ _ h => h.imp fun _ _ ⟨i, j, e1, e2, c, p⟩ => ⟨_, _, .v (.int (i * j)), e1, e2, if_pos (by unfold mulOk; rcases c with c | c <;> simp [c]), p⟩)
theorem ev_mod {P : R → List SD → Prop} (h : Ev a τ fun x τ1 => Ev b τ1 fun y τ2 => ∃ i j, vw τ2 x = some (.int i) ∧ vw τ2 y = some (.int j) ∧ 0 < j ∧ P (.v (.int (i % j))) τ2) : Ev (eOp modD a b) τ P :=
  ev_op (h.imp fun _ _ h => h.imp fun _ _ ⟨i, j, e1, e2, c, p⟩ => ⟨_, _, .v (.int (i % j)), e1, e2, if_pos c, p⟩)
theorem sm_lt {j : Int} (h : j.natAbs < 18446744073709551616) : isSm j = true := decide_eq_true (Nat.lt_of_lt_of_le h (by
  rw [show (18446744073709551616 : Nat) = 2 ^ 64 by rfl]
  exact Nat.pow_le_pow_right (by decide) (by decide)))
theorem ev_fdv {P : R → List SD → Prop} (h : Ev a τ fun x τ1 => Ev b τ1 fun y τ2 => ∃ i j, vw τ2 x = some (.int i) ∧ vw τ2 y = some (.int j) ∧ (0 < j ∧ j.natAbs < 18446744073709551616) ∧ P (.v (.int (i / j))) τ2) : Ev (eOp fdvD a b) τ P :=
  ev_op (h.imp fun _ _ h => h.imp fun _ _ ⟨i, j, e1, e2, c, p⟩ => ⟨_, _, .v (.int (i / j)), e1, e2, by
    show (if j ≠ 0 ∧ isSm j = true then some (R.v (.int (i.fdiv j))) else none) = _
    rw [if_pos ⟨by omega, sm_lt c.2⟩, Int.fdiv_eq_ediv_of_nonneg _ (by omega)], p⟩)
theorem ev_pow {P : R → List SD → Prop} (h : Ev a τ fun x τ1 => Ev b τ1 fun y τ2 => ∃ i j, vw τ2 x = some (.int i) ∧ vw τ2 y = some (.int j) ∧ (0 ≤ j ∧ j ≤ 1000 ∧ i.natAbs < 18446744073709551616) ∧ P (.v (.int (i ^ j.toNat))) τ2) : Ev (eOp powD a b) τ P :=
  ev_op (h.imp fun _ _ h => h.imp fun _ _ ⟨i, j, e1, e2, c, p⟩ => ⟨_, _, .v (.int (i ^ j.toNat)), e1, e2, if_pos c, p⟩)
theorem ev_ixL {P : R → List SD → Prop} (h : Ev a τ fun x τ1 => Ev b τ1 fun y τ2 => ∃ ds i d, vw τ2 x = some (.list ds) ∧ vw τ2 y = some (.int i) ∧ L2.atI ds i = some d ∧ P (.v d) τ2) : Ev (eOp ixD a b) τ P :=
  ev_op (h.imp fun _ _ h => h.imp fun _ _ ⟨ds, i, d, e1, e2, c, p⟩ => ⟨_, _, .v d, e1, e2, by show (L2.atI ds i).map R.v = _; rw [c]; rfl, p⟩)
theorem ev_un {g : Dt → Option R} {P : R → List SD → Prop} (h : Ev a τ fun x τ1 => ∃ dx r, vw τ1 x = some dx ∧ g dx = some r ∧ P r τ1) : Ev (eUn g a) τ P := by
  refine ev_mb (h.imp fun x τ1 h => ?_)
  obtain ⟨dx, r, e1, e3, p⟩ := h
  exact ⟨r, τ1, by simp only [e1, e3, Option.map_some], p⟩
theorem ev_fn {g : List Dt → Option R} {P : R → List SD → Prop} (h : Ev as τ fun rs τ1 => ∃ ds r, vws τ1 rs = some ds ∧ g ds = some r ∧ P r τ1) : Ev (eFn g as) τ P := by
  refine ev_mb (h.imp fun x τ1 h => ?_)
  obtain ⟨dx, r, e1, e3, p⟩ := h
  exact ⟨r, τ1, by simp only [e1, e3, Option.map_some], p⟩
theorem ev_nil {P : List R → List SD → Prop} (h : P [] τ) : Ev aNil τ P := ⟨_, _, rfl, h⟩
theorem ev_cons {P : List R → List SD → Prop} (h : Ev a τ fun x τ1 => Ev as τ1 fun xs τ2 => P (x :: xs) τ2) : Ev (aCons a as) τ P := ev_mb (h.imp fun _ _ h => ev_mb (h.imp fun _ _ h => ev_pure h))
theorem ev_F {P : R → List SD → Prop} (h : Ev a τ fun x τ1 => Ev (fzR x) τ1 fun d τ2 => P (.v d) τ2) : Ev (eF a) τ P := ev_mb (h.imp fun _ _ h => ev_mb (h.imp fun _ _ h => ev_pure h))
theorem ev_fzv {P : Dt → List SD → Prop} (h : P d τ) : Ev (fzR (.v d)) τ P := ⟨_, _, rfl, h⟩
theorem ev_fzn {P : Dt → List SD → Prop} (h : P x.dt τ) : Ev (fzR (.n x)) τ P := ⟨_, _, rfl, h⟩
theorem ev_fzo {P : Dt → List SD → Prop} (e : τ[i]? = some (.own x)) (h : P x.dt (τ.set i (.val x.dt))) : Ev (fzR (.o i)) τ P := ⟨_, _, by unfold fzR; dsimp only; rw [e], h⟩
theorem ev_tup {P : R → List SD → Prop} (h : Ev as τ fun rs τ1 => ∃ ds, rds rs = some ds ∧ ds.length ≤ 1000000 ∧ P (.v (.tuple ds)) τ1) : Ev (eTup as) τ P := by
  refine ev_mb (h.imp fun x τ1 h => ?_)
  obtain ⟨ds, e1, e3, p⟩ := h
  exact ⟨_, τ1, by simp only [e1]; exact if_pos e3, p⟩
theorem ev_lst {P : R → List SD → Prop} (h : Ev as τ fun rs τ1 => ∃ ds, rds rs = some ds ∧ ds.length ≤ 1000000 ∧ P (.n (.L ds)) τ1) : Ev (eLst as) τ P := by
  refine ev_mb (h.imp fun x τ1 h => ?_)
  obtain ⟨ds, e1, e3, p⟩ := h
  exact ⟨_, τ1, by simp only [e1]; exact if_pos e3, p⟩
theorem ev_next {P : Fl → List SD → Prop} (h : P .nx τ) : Ev sNext τ P := ⟨_, _, rfl, h⟩
theorem ev_seq {s t : M Fl} {P : Fl → List SD → Prop} (h : Ev s τ fun f τ1 => match f with | .nx => Ev t τ1 P | f => P f τ1) : Ev (sSeq s t) τ P := by
  obtain ⟨f, τ1, e, p⟩ := h
  unfold sSeq
  cases f with
  | nx => obtain ⟨g, τ2, e2, p2⟩ := p; exact ⟨g, τ2, by simp only [e]; exact e2, p2⟩
  | rt r => exact ⟨_, _, by simp only [e], p⟩
  | bk => exact ⟨_, _, by simp only [e], p⟩
  | ct => exact ⟨_, _, by simp only [e], p⟩
theorem ev_ret {P : Fl → List SD → Prop} (h : Ev a τ fun r τ1 => P (.rt r) τ1) : Ev (sRet a) τ P := ev_mb (h.imp fun _ _ h => ev_pure h)
theorem ev_drop {P : Fl → List SD → Prop} (h : Ev a τ fun _ τ1 => P .nx τ1) : Ev (sDrop a) τ P := ev_mb (h.imp fun _ _ h => ev_pure h)
theorem ev_if {c : M Bool} {s t : M Fl} {P : Fl → List SD → Prop} (h : Ev c τ fun k τ1 => if k = true then Ev s τ1 P else Ev t τ1 P) : Ev (sIf c s t) τ P := by
  refine ev_mb (h.imp fun k τ1 h => ?_)
  cases k with
  | true => exact h
  | false => exact h
theorem ev_set {P : Fl → List SD → Prop} (h : Ev a τ fun r τ1 => ∃ τ2, setR i r τ1 = some τ2 ∧ P .nx τ2) : Ev (sSet i a) τ P := by
  refine ev_mb (h.imp fun r τ1 h => ?_)
  obtain ⟨τ2, e, p⟩ := h
  exact ⟨_, _, by dsimp only; rw [e]; rfl, p⟩
theorem ev_asg {g : Dt → M Unit} {P : Fl → List SD → Prop} (h : Ev a τ fun r τ1 => Ev (fzR r) τ1 fun d τ2 => Ev (g d) τ2 fun _ τ3 => P .nx τ3) : Ev (sAsg g a) τ P := ev_mb (h.imp fun _ _ h => ev_mb (h.imp fun _ _ h => ev_mb (h.imp fun _ _ h => ev_pure h)))
theorem ev_gN {P : Unit → List SD → Prop} (h : ∃ τ2, setR i (.v d) τ = some τ2 ∧ P () τ2) : Ev (gN i d) τ P := by
  obtain ⟨τ2, e, p⟩ := h
  exact ⟨_, _, by unfold gN; rw [e]; rfl, p⟩
theorem ev_gIx {ix : M R} {P : Unit → List SD → Prop} (h : ∃ ds, ownAt τ i = some (.L ds) ∧ Ev ix τ fun r τ1 => ∃ ds k j, ownAt τ1 i = some (.L ds) ∧ vw τ1 r = some (.int k) ∧ ixN ds.length k = some j ∧ P () (ownSet τ1 i (.L (ds.set j d)))) : Ev (gIx i ix d) τ P := by
  obtain ⟨ds, e, r, τ1, e1, ds', k, j, e2, e3, e4, p⟩ := h
  refine ⟨(), _, ?_, p⟩
  unfold gIx
  simp only [e, mb, e1, e2, e3, e4]
theorem ev_tv {P : Bool → List SD → Prop} (h : Ev a τ fun r τ1 => ∃ k, r = .v (.bool k) ∧ P k τ1) : Ev (tVal a) τ P := by
  refine ev_mb (h.imp fun r τ1 h => ?_)
  obtain ⟨k, rfl, p⟩ := h
  exact ⟨_, _, rfl, p⟩
theorem ev_call {f : List SD → Option (R × List SD)} {dfl : List Dt} {as : M (List R)} {P : R → List SD → Prop} (h : Ev as τ fun rs τ1 => ∃ xs r as', argsD τ1 rs = some xs ∧ f (xs ++ dfl.map .val) = some (r, as') ∧ (∀ i, r ≠ .o i) ∧
    ((ioOf 0 rs = [] ∧ P r τ1) ∨ ∃ i j x', ioOf 0 rs = [(i, j)] ∧ as'[i]? = some (.io x') ∧ P r (ownSet τ1 j x'))) : Ev (mb as (callD f dfl)) τ P := by
  refine ev_mb (h.imp fun rs τ1 h => ?_)
  obtain ⟨xs, r, as', e1, e2, e3, h⟩ := h
  unfold callD
  rcases h with ⟨e4, p⟩ | ⟨i, j, x', e4, e5, p⟩
  · refine ⟨r, τ1, ?_, p⟩
    simp only [e1, e2, e4]
  · refine ⟨r, _, ?_, p⟩
    simp only [e1, e2, e4, e5]
def FinOk (k : Nat) (P : R → List SD → Prop) : Fl → List SD → Prop
  | .nx, τ => P (.v .none) (τ.take k)
  | .rt (.v d), τ => P (.v d) (τ.take k)
  | .rt (.n x), τ => P (.n x) (τ.take k)
  | .rt (.o i), τ => (∃ d, τ[i]? = some (.val d) ∧ P (.v d) (τ.take k)) ∨ ∃ x, τ[i]? = some (.own x) ∧ P (.n x) (τ.take k)
  | _, _ => False
theorem ev_run {m : M Fl} {n : Nat} {as : List SD} {P : R → List SD → Prop} (h : Ev m (as ++ List.replicate n .un) (FinOk as.length P)) : ∃ r as', runD n m as = some (r, as') ∧ P r as' := by
  obtain ⟨f, τ', e, p⟩ := h
  unfold runD
  rw [e]
  cases f with
  | nx => exact ⟨_, _, rfl, p⟩
  | bk => exact p.elim
  | ct => exact p.elim
  | rt r =>
    cases r with
    | v d => exact ⟨_, _, rfl, p⟩
    | n x => exact ⟨_, _, rfl, p⟩
    | o i =>
      rcases p with ⟨d, e2, p⟩ | ⟨x, e2, p⟩
      · exact ⟨_, _, by dsimp only; rw [e2], p⟩
      · exact ⟨_, _, by dsimp only; rw [e2], p⟩
theorem forG_ev {g : Dt → M Unit} {b : M Fl} {P : Fl → List SD → Prop} (I : List Dt → List SD → Prop) : ∀ {ds : List Dt} {τ : List SD}, I ds τ → (∀ τ, I [] τ → P .nx τ) →
    (∀ d ds τ, I (d :: ds) τ → Ev (g d) τ fun _ τ1 => Ev b τ1 fun f τ2 => match f with | .nx => I ds τ2 | .ct => I ds τ2 | .bk => P .nx τ2 | .rt r => P (.rt r) τ2) → Ev (forG g b ds) τ P
  | [], τ, h, hz, _ => ⟨_, _, rfl, hz τ h⟩
  | d :: ds, τ, h, hz, hs => by
    obtain ⟨_, τ1, e1, f, τ2, e2, p⟩ := hs d ds τ h
    cases f with
    | nx =>
      obtain ⟨r, τ3, e3, p3⟩ := forG_ev I (ds := ds) p hz hs
      exact ⟨r, τ3, by unfold forG; simp only [e1, e2]; exact e3, p3⟩
    | ct =>
      obtain ⟨r, τ3, e3, p3⟩ := forG_ev I (ds := ds) p hz hs
      exact ⟨r, τ3, by unfold forG; simp only [e1, e2]; exact e3, p3⟩
    | bk => exact ⟨_, _, by unfold forG; simp only [e1, e2], p⟩
    | rt r => exact ⟨_, _, by unfold forG; simp only [e1, e2], p⟩
theorem ev_for {it : M (List Dt)} {g : Dt → M Unit} {b : M Fl} {P : Fl → List SD → Prop} (h : Ev it τ fun ds τ1 => Ev (forG g b ds) τ1 P) : Ev (sFor it g b) τ P := ev_mb h
theorem lcG_ev {T : Dt → M (Option Dt)} {P : List Dt → List SD → Prop} (I : List Dt → List Dt → List SD → Prop) : ∀ {ds acc : List Dt} {τ : List SD}, I ds acc τ → (∀ acc τ, I [] acc τ → P acc τ) →
    (∀ d ds acc τ, I (d :: ds) acc τ → Ev (T d) τ fun y τ1 => match y with | some y => acc.length < 1000000 ∧ I ds (acc ++ [y]) τ1 | none => I ds acc τ1) → Ev (lcG T ds acc) τ P
  | [], acc, τ, h, hz, _ => ⟨_, _, rfl, hz acc τ h⟩
  | d :: ds, acc, τ, h, hz, hs => by
    obtain ⟨y, τ1, e1, p⟩ := hs d ds acc τ h
    cases y with
    | none =>
      obtain ⟨r, τ3, e3, p3⟩ := lcG_ev I (ds := ds) p hz hs
      exact ⟨r, τ3, by unfold lcG; simp only [e1]; exact e3, p3⟩
    | some y =>
      obtain ⟨r, τ3, e3, p3⟩ := lcG_ev I (ds := ds) p.2 hz hs
      exact ⟨r, τ3, by unfold lcG; simp only [e1]; rw [if_pos p.1]; exact e3, p3⟩
theorem ev_lc {it : M (List Dt)} {vs : List Nat} {g : Dt → M Unit} {t : M Bool} {e : M R} {P : R → List SD → Prop} (h : Ev it τ fun ds τ1 => Ev (lcG (lcT vs g t e) ds []) τ1 fun acc τ2 => P (.n (.L acc)) τ2) : Ev (eLc it vs g t e) τ P :=
  ev_mb (h.imp fun _ _ h => ev_mb (h.imp fun _ _ h => ev_pure h))
theorem ev_lcT {vs : List Nat} {g : Dt → M Unit} {t : M Bool} {e : M R} {P : Option Dt → List SD → Prop} (hw : okW τ vs = true) (h : Ev (g d) (wipeD τ vs) fun _ τ1 => Ev t τ1 fun k τ2 => if k = true then Ev (eF e) τ2 fun r τ3 => ∃ y, r = .v y ∧ P (some y) (backD τ τ3 vs) else P none (backD τ τ2 vs)) : Ev (lcT vs g t e d) τ P := by
  obtain ⟨_, τ1, e1, k, τ2, e2, h⟩ := h
  cases k with
  | true =>
    obtain ⟨r, τ3, e3, y, rfl, p⟩ := h
    exact ⟨_, _, by unfold lcT; rw [if_pos hw]; simp only [e1, e2, e3], p⟩
  | false => exact ⟨_, _, by unfold lcT; rw [if_pos hw]; simp only [e1, e2], h⟩
theorem sWhile_ev {c : M Bool} {b : M Fl} {P : Fl → List SD → Prop} (W : Nat → List SD → Prop) (hs : ∀ n τ, W n τ → Ev c τ fun k τ1 => if k = true then Ev b τ1 fun f τ2 => match f with | .nx => ∃ m, m < n ∧ W m τ2 | .ct => ∃ m, m < n ∧ W m τ2 | .bk => P .nx τ2 | .rt r => P (.rt r) τ2 else P .nx τ1) : ∀ (n : Nat) {τ : List SD}, W n τ → Ev (sWhile c b) τ P := by
  have key : ∀ (n : Nat) (τ : List SD), W n τ → ∃ k r τ', whG c b k τ = some (r, τ') ∧ P r τ' := by
    intro n
    induction n using Nat.strongRecOn with
    | ind n ih =>
      intro τ hw
      obtain ⟨k, τ1, e1, h⟩ := hs n τ hw
      cases k with
      | false => exact ⟨1, _, _, by unfold whG; simp only [e1], h⟩
      | true =>
        obtain ⟨f, τ2, e2, p⟩ := h
        cases f with
        | nx =>
          obtain ⟨m, hm, hw2⟩ := p
          obtain ⟨k, r, τ', e3, p3⟩ := ih m hm τ2 hw2
          exact ⟨k + 1, r, τ', by unfold whG; simp only [e1, e2]; exact e3, p3⟩
        | ct =>
          obtain ⟨m, hm, hw2⟩ := p
          obtain ⟨k, r, τ', e3, p3⟩ := ih m hm τ2 hw2
          exact ⟨k + 1, r, τ', by unfold whG; simp only [e1, e2]; exact e3, p3⟩
        | bk => exact ⟨1, _, _, by unfold whG; simp only [e1, e2], p⟩
        | rt r => exact ⟨1, _, _, by unfold whG; simp only [e1, e2], p⟩
  intro n τ hw
  obtain ⟨k, r, τ', e, p⟩ := key n τ hw
  exact ⟨r, τ', sWhile_of e, p⟩
theorem ev_rng1 {as : M (List R)} {P : List Dt → List SD → Prop} (h : Ev as τ fun rs τ1 => ∃ j, vws τ1 rs = some [.int j] ∧ (-1000000000000 ≤ j ∧ j ≤ 1000000000000) ∧ P (rngD 0 j.toNat) τ1) : Ev (iRng1D as) τ P := by
  refine ev_mb (h.imp fun rs τ1 h => ?_)
  obtain ⟨j, e1, e2, p⟩ := h
  exact ⟨_, τ1, by simp only [e1]; exact if_pos (decide_eq_true e2), p⟩
theorem ev_seqI {P : List Dt → List SD → Prop} (h : Ev a τ fun r τ1 => Ev (fzR r) τ1 fun d τ2 => ∃ ds, itD d = some ds ∧ P ds τ2) : Ev (iSeqD a) τ P :=
  ev_mb (h.imp fun _ _ h => ev_mb (h.imp fun _ _ ⟨ds, e, p⟩ => ⟨ds, _, by rw [e]; rfl, p⟩))
theorem ev_popAt {as : M (List R)} {P : R → List SD → Prop} (h : ∃ l, ownAt τ i = some (.L l) ∧ Ev as τ fun rs τ1 => ∃ ds k d, ownAt τ1 i = some (.L ds) ∧ rds rs = some [.int k] ∧ (0 ≤ k ∧ k ≤ 1000000) ∧ ds[k.toNat]? = some d ∧ P (.v d) (ownSet τ1 i (.L (ds.eraseIdx k.toNat)))) : Ev (ePopAt i as) τ P := by
  obtain ⟨l, e, rs, τ1, e1, ds, k, d, e2, e3, e4, e5, p⟩ := h
  refine ⟨_, _, ?_, p⟩
  unfold ePopAt
  simp only [e, mb, e1, e2, e3]
  rw [if_pos e4]
  simp only [e5]
theorem ev_app {as : M (List R)} {P : R → List SD → Prop} (h : ∃ l, ownAt τ i = some (.L l) ∧ Ev as τ fun rs τ1 => ∃ ds d, ownAt τ1 i = some (.L ds) ∧ rds rs = some [d] ∧ ds.length < 1000000 ∧ P (.v .none) (ownSet τ1 i (.L (ds ++ [d])))) : Ev (eApp i as) τ P := by
  obtain ⟨l, e, rs, τ1, e1, ds, d, e2, e3, e4, p⟩ := h
  refine ⟨_, _, ?_, p⟩
  unfold eApp
  simp only [e, mb, e1, e2, e3]
  rw [if_pos e4]
theorem ev_fld {c : Nat} {f : Str} {P : R → List SD → Prop} (h : Ev a τ fun r τ1 => ∃ ks d, vw τ1 r = some (.dict ((.none, .int (c : Int)) :: ks)) ∧ lookK f ks = some d ∧ P (.v d) τ1) : Ev (eFld c f a) τ P := by
  refine ev_mb (h.imp fun r τ1 h => ?_)
  obtain ⟨ks, d, e1, e2, p⟩ := h
  exact ⟨.v d, τ1, by simp only [e1]; rw [if_pos trivial, e2]; rfl, p⟩
theorem eqv_ii' (i j : Int) : PyData.eqv (.int i) (.int j) = decide (i = j) := by
  rw [Bool.eq_iff_iff]
  simp [PyData.eqv]
theorem ev_eqI {P : R → List SD → Prop} (h : Ev a τ fun x τ1 => Ev b τ1 fun y τ2 => ∃ i j, vw τ2 x = some (.int i) ∧ vw τ2 y = some (.int j) ∧ P (.v (.bool (decide (i = j)))) τ2) : Ev (eOp eqD a b) τ P :=
  ev_opI (g := fun i j => .bool (decide (i = j))) (fun i j => by show some (R.v (.bool (PyData.eqv (.int i) (.int j)))) = _; rw [eqv_ii']) h
theorem ev_neI {P : R → List SD → Prop} (h : Ev a τ fun x τ1 => Ev b τ1 fun y τ2 => ∃ i j, vw τ2 x = some (.int i) ∧ vw τ2 y = some (.int j) ∧ P (.v (.bool (!decide (i = j)))) τ2) : Ev (eOp neD a b) τ P :=
  ev_opI (g := fun i j => .bool (!decide (i = j))) (fun i j => by show some (R.v (.bool (!PyData.eqv (.int i) (.int j)))) = _; rw [eqv_ii']) h
/-- what may be written over -/
def Fre (u : SD) : Prop := ∀ x, u ≠ .io x
theorem Fre.un : Fre .un := fun x h => by cases h
theorem Fre.val {d : Dt} : Fre (.val d) := fun x h => by cases h
theorem setR_v {u : SD} (h : τ[i]? = some u) (hu : Fre u) : setR i (.v d) τ = some (τ.set i (.val d)) := by
  unfold setR
  rw [h]
  cases u with
  | io x => exact absurd rfl (hu x)
  | un => rfl
  | val y => rfl
  | own y => rfl
theorem ev_gNf {u : SD} {P : Unit → List SD → Prop} (e : τ[i]? = some u) (hu : Fre u) (h : P () (τ.set i (.val d))) : Ev (gN i d) τ P := ev_gN ⟨_, setR_v e hu, h⟩
theorem ev_setV {u : SD} {P : Fl → List SD → Prop} (h : Ev a τ fun r τ1 => ∃ d u, r = .v d ∧ τ1[i]? = some u ∧ Fre u ∧ P .nx (τ1.set i (.val d))) : Ev (sSet i a) τ P :=
  ev_set (h.imp fun r τ1 ⟨d, u, e, e2, hu, p⟩ => by subst e; exact ⟨_, setR_v e2 hu, p⟩)
theorem ev_is {T : Ty} {P : R → List SD → Prop} (h : Ev a τ fun r τ1 => ∃ d, vw τ1 r = some d ∧ notObj d = true ∧ P (.v (.bool (isTy T d))) τ1) : Ev (eIs T a) τ P := by
  refine ev_mb (h.imp fun r τ1 h => ?_)
  obtain ⟨d, e1, e2, p⟩ := h
  exact ⟨_, τ1, by simp only [e1]; rw [if_pos e2], p⟩
theorem ev_truR {r : R} {P : Bool → List SD → Prop} (h : ∃ d k, vw τ r = some d ∧ truD d = some k ∧ P k τ) : Ev (truR r) τ P := by
  obtain ⟨d, k, e1, e2, p⟩ := h
  exact ⟨k, τ, by unfold truR; simp only [e1, e2, Option.map_some], p⟩
theorem ev_tru {P : Bool → List SD → Prop} (h : Ev a τ fun r τ1 => ∃ d k, vw τ1 r = some d ∧ truD d = some k ∧ P k τ1) : Ev (tTru a) τ P := ev_mb (h.imp fun _ _ h => ev_truR h)
theorem ev_tnot {t : M Bool} {P : Bool → List SD → Prop} (h : Ev t τ fun k τ1 => P (!k) τ1) : Ev (tstNot t) τ P := ev_mb (h.imp fun _ _ h => ev_pure h)
theorem ev_tor {t u : M Bool} {P : Bool → List SD → Prop} (h : Ev t τ fun k τ1 => if k = true then P true τ1 else Ev u τ1 P) : Ev (tstOr t u) τ P := by
  refine ev_mb (h.imp fun k τ1 h => ?_)
  cases k with
  | true => exact ⟨_, _, rfl, h⟩
  | false => exact h
theorem ev_tand {t u : M Bool} {P : Bool → List SD → Prop} (h : Ev t τ fun k τ1 => if k = true then Ev u τ1 P else P false τ1) : Ev (tstAnd t u) τ P := by
  refine ev_mb (h.imp fun k τ1 h => ?_)
  cases k with
  | true => exact h
  | false => exact ⟨_, _, rfl, h⟩
theorem ev_not {P : R → List SD → Prop} (h : Ev a τ fun r τ1 => ∃ d k, vw τ1 r = some d ∧ truD d = some k ∧ P (.v (.bool !k)) τ1) : Ev (eNot a) τ P := ev_mb (h.imp fun _ _ ⟨d, k, e1, e2, p⟩ => ev_mb (ev_truR ⟨d, k, e1, e2, ev_pure p⟩))
theorem ev_and {P : R → List SD → Prop} (h : Ev a τ fun r τ1 => ∃ d k, vw τ1 r = some d ∧ truD d = some k ∧ if k = true then Ev b τ1 P else P r τ1) : Ev (eAnd a b) τ P := ev_mb (h.imp fun r τ1 ⟨d, k, e1, e2, p⟩ => ev_mb (ev_truR ⟨d, k, e1, e2, by
  cases k with
  | true => exact p
  | false => exact ⟨_, _, rfl, p⟩⟩))
theorem ev_or {P : R → List SD → Prop} (h : Ev a τ fun r τ1 => ∃ d k, vw τ1 r = some d ∧ truD d = some k ∧ if k = true then P r τ1 else Ev b τ1 P) : Ev (eOr a b) τ P := ev_mb (h.imp fun r τ1 ⟨d, k, e1, e2, p⟩ => ev_mb (ev_truR ⟨d, k, e1, e2, by
  cases k with
  | true => exact ⟨_, _, rfl, p⟩
  | false => exact p⟩))
theorem ev_chainLe {e : M R} {P : R → List SD → Prop} (h : Ev a τ fun x τ1 => Ev b τ1 fun y τ2 => ∃ i j, vw τ2 x = some (.int i) ∧ vw τ2 y = some (.int j) ∧ i ≤ j ∧ Ev e τ2 fun z τ3 => ∃ j k, vw τ3 y = some (.int j) ∧ vw τ3 z = some (.int k) ∧ P (.v (.bool (decide (j ≤ k)))) τ3) : Ev (eChain leD leD a b e) τ P := by
  refine ev_mb (h.imp fun x τ1 h => ev_mb (h.imp fun y τ2 h => ?_))
  obtain ⟨i, j, e1, e2, hij, z, τ3, e3, j', k, e4, e5, p⟩ := h
  refine ⟨.v (.bool (decide (j' ≤ k))), τ3, ?_, p⟩
  have el : leD (.int i) (.int j) = some (.v (.bool true)) := by
    show some (R.v (.bool (decide (i ≤ j)))) = _
    rw [decide_eq_true hij]
  simp only [e1, e2, el, mb, e3, e4, e5]
  rfl
theorem ev_callV {f : List SD → Option (R × List SD)} {as : M (List R)} {P : R → List SD → Prop} (h : Ev as τ fun rs τ1 => ∃ xs, argsD τ1 rs = some xs ∧ ∃ d as', f (xs ++ ([] : List Dt).map .val) = some (.v d, as') ∧ ioOf 0 rs = [] ∧ P (.v d) τ1) : Ev (mb as (callD f [])) τ P :=
  ev_call (h.imp fun rs τ1 ⟨xs, e1, d, as', e2, e3, p⟩ => ⟨xs, .v d, as', e1, e2, fun i => by simp, .inl ⟨e3, p⟩⟩)
theorem ev_iStr {P : List Dt → List SD → Prop} (h : Ev a τ fun r τ1 => ∃ x, vw τ1 r = some (.str x) ∧ P (chD x) τ1) : Ev (iStrD a) τ P := by
  refine ev_mb (h.imp fun r τ1 h => ?_)
  obtain ⟨x, e1, p⟩ := h
  exact ⟨_, τ1, by simp only [e1], p⟩
theorem ev_lenSet {P : R → List SD → Prop} (h : Ev a τ fun r τ1 => ∃ ts : List Str, vw τ1 r = some (.list (ts.map .str)) ∧ ts.Nodup ∧ ts.length ≤ 1000 ∧ P (.v (.int ts.length)) τ1) : Ev (eLenSet a) τ P := by
  refine ev_mb (h.imp fun r τ1 h => ?_)
  obtain ⟨ts, e1, e2, e3, p⟩ := h
  refine ⟨_, τ1, ?_, p⟩
  simp only [e1, strsOf_map]
  exact if_pos ⟨e2, e3⟩
theorem ev_meth0 {c : Nat} {m : Str} {f : List SD → Option (R × List SD)} {P : R → List SD → Prop} (h : Ev a τ fun r τ1 => Ev (fzR r) τ1 fun d τ2 => ∃ ks r' as', d = .dict ((.none, .int (c : Int)) :: ks) ∧ (lookK m ks).isNone = true ∧ f [.val d] = some (r', as') ∧ (∀ i, r' ≠ .o i) ∧ P r' τ2) : Ev (eMeth c m f [] a aNil) τ P := by
  refine ev_mb (h.imp fun r τ1 h => ev_mb (h.imp fun d τ2 h => ?_))
  obtain ⟨ks, r', as', rfl, e1, e2, e3, p⟩ := h
  refine ⟨r', τ2, ?_, p⟩
  show (if (c : Int) = (c : Int) ∧ (lookK m ks).isNone = true then callD f [] [.v (.dict ((.none, .int (c : Int)) :: ks))] τ2 else none) = _
  rw [if_pos ⟨rfl, e1⟩]
  unfold callD
  have e4 : f ([.val (.dict ((.none, .int (c : Int)) :: ks))] ++ ([] : List Dt).map .val) = some (r', as') := e2
  simp only [argsD, argD, e4]
  cases r' with
  | o i => exact absurd rfl (e3 i)
  | v d => rfl
  | n x => rfl
theorem ev_en {as : M (List R)} {P : List Dt → List SD → Prop} (h : Ev as τ fun rs τ1 => ∃ d ds, rds rs = some [d] ∧ itD d = some ds ∧ P (enD 0 ds) τ1) : Ev (iEnD as) τ P := by
  refine ev_mb (h.imp fun rs τ1 h => ?_)
  obtain ⟨d, ds, e1, e2, p⟩ := h
  exact ⟨_, τ1, by simp only [e1, e2]; rfl, p⟩
theorem ev_aug {g : Dt → Dt → Option R} {y : Dt} {P : Fl → List SD → Prop} (e : τ[i]? = some (.val y)) (h : Ev a τ fun r τ1 => Ev (fzR r) τ1 fun d τ2 => ∃ z u, g y d = some (.v z) ∧ τ2[i]? = some u ∧ Fre u ∧ P .nx (τ2.set i (.val z))) : Ev (sAug i g a) τ P := by
  obtain ⟨r, τ1, e1, d, τ2, e2, z, u, e3, e4, e5, p⟩ := h
  refine ⟨.nx, _, ?_, p⟩
  unfold sAug
  simp only [e, mb, e1, e2, e3]
  rw [setR_v e4 e5]
  rfl
theorem ev_sl {lo hi : M (Option Int)} {P : R → List SD → Prop} (h : Ev a τ fun r τ1 => Ev lo τ1 fun l τ2 => Ev hi τ2 fun u τ3 => ∃ d r', vw τ3 r = some d ∧ slD d l u = some r' ∧ P r' τ3) : Ev (eSl a lo hi) τ P := by
  refine ev_mb (h.imp fun r τ1 h => ev_mb (h.imp fun l τ2 h => ev_mb (h.imp fun u τ3 h => ?_)))
  obtain ⟨d, r', e1, e2, p⟩ := h
  exact ⟨r', τ3, by simp only [e1, e2]; rfl, p⟩
theorem ev_oNone {P : Option Int → List SD → Prop} (h : P none τ) : Ev oNone τ P := ⟨_, _, rfl, h⟩
theorem ev_oSome {P : Option Int → List SD → Prop} (h : Ev a τ fun r τ1 => ∃ i, vw τ1 r = some (.int i) ∧ P (some i) τ1) : Ev (oSome a) τ P := by
  refine ev_mb (h.imp fun r τ1 h => ?_)
  obtain ⟨i, e1, p⟩ := h
  exact ⟨_, τ1, by simp only [e1], p⟩
theorem ev_bm {f : List Int → Int → Option Int} {as : M (List R)} {P : R → List SD → Prop} (h : Ev a τ fun r τ1 => Ev (fzR r) τ1 fun d τ2 => Ev as τ2 fun rs τ3 => ∃ (ns : List Int) (k j : Int), d = .list (ns.map .int) ∧ vws τ3 rs = some [.int k] ∧ f ns k = some j ∧ P (.v (.int j)) τ3) : Ev (eBm f a as) τ P := by
  refine ev_mb (h.imp fun r τ1 h => ev_mb (h.imp fun d τ2 h => ev_mb (h.imp fun rs τ3 h => ?_)))
  obtain ⟨ns, k, j, rfl, e1, e2, p⟩ := h
  exact ⟨_, τ3, by simp only [e1, intsOf_map, e2]; rfl, p⟩
theorem ev_listRg {P : R → List SD → Prop} (h : Ev a τ fun r τ1 => ∃ j, vw τ1 r = some (.int j) ∧ (0 ≤ j ∧ j ≤ 16777216) ∧ P (.n (.L (rngD 0 j.toNat))) τ1) : Ev (eLstRg a) τ P := by
  refine ev_mb (h.imp fun r τ1 h => ?_)
  obtain ⟨j, e1, e2, p⟩ := h
  exact ⟨_, τ1, by simp only [e1]; exact if_pos e2, p⟩
theorem ev_if_ {t : M Bool} {P : R → List SD → Prop} (h : Ev t τ fun k τ1 => if k = true then Ev a τ1 P else Ev b τ1 P) : Ev (eIf t a b) τ P := by
  refine ev_mb (h.imp fun k τ1 h => ?_)
  cases k with
  | true => exact h
  | false => exact h
end
end MR
end BW
--RAW
namespace BW
namespace MR
open PySem PySem.Spec PyProof.Rows L2
/-! ### shorter rules: what a def hands back; walks over written out lists -/
def Ret (f : List SD → Option (R × List SD)) (as : List SD) (r : R) : Prop := ∃ as', f as = some (r, as')
section
variable {α β : Type} {m : M Fl} {τ : List SD} {i n : Nat} {a b : M R} {as : M (List R)} {f : List SD → Option (R × List SD)}
theorem ret_run {xs : List SD} {r : R} (h : Ev m (xs ++ List.replicate n .un) (FinOk xs.length fun r' _ => r' = r)) : Ret (runD n m) xs r := by
  obtain ⟨r', as', e, rfl⟩ := ev_run h
  exact ⟨as', e⟩
theorem ret_of {xs : List SD} {r r' : R} {as' : List SD} (e : f xs = some (r, as')) (h : r = r') : Ret f xs r' := ⟨as', h ▸ e⟩
theorem ev_callR {P : R → List SD → Prop} (h : Ev as τ fun rs τ1 => ∃ xs r, argsD τ1 rs = some xs ∧ Ret f xs r ∧ ioOf 0 rs = [] ∧ (∀ i, r ≠ .o i) ∧ P r τ1) : Ev (mb as (callD f [])) τ P :=
  ev_call (h.imp fun rs τ1 ⟨xs, r, e1, ⟨as', e2⟩, e3, e4, p⟩ => ⟨xs, r, as', e1, by rw [List.map_nil, List.append_nil]; exact e2, e4, .inl ⟨e3, p⟩⟩)
theorem ev_callRv {P : R → List SD → Prop} {d : Dt} {xs : List SD} (hr : Ret f xs (.v d)) (h : Ev as τ fun rs τ1 => argsD τ1 rs = some xs ∧ ioOf 0 rs = [] ∧ P (.v d) τ1) : Ev (mb as (callD f [])) τ P :=
  ev_callR (h.imp fun rs τ1 ⟨e1, e2, p⟩ => ⟨xs, _, e1, hr, e2, fun i => by simp, p⟩)
theorem ev_callRn {P : R → List SD → Prop} {x : Own} {xs : List SD} (hr : Ret f xs (.n x)) (h : Ev as τ fun rs τ1 => argsD τ1 rs = some xs ∧ ioOf 0 rs = [] ∧ P (.n x) τ1) : Ev (mb as (callD f [])) τ P :=
  ev_callR (h.imp fun rs τ1 ⟨e1, e2, p⟩ => ⟨xs, _, e1, hr, e2, fun i => by simp, p⟩)
/-- a walk over xs, as they are written by enc: what holds behind the turns so far -/
theorem forG_xs {g : Dt → M Unit} {b : M Fl} {P : Fl → List SD → Prop} (enc : α → Dt) (I : List α → List SD → Prop) {xs : List α} {ds : List Dt} (hd : ds = xs.map enc) (h0 : I [] τ) (hz : ∀ τ, I xs τ → P .nx τ)
    (hs : ∀ pre x rest τ, xs = pre ++ x :: rest → I pre τ → Ev (g (enc x)) τ fun _ τ1 => Ev b τ1 fun f τ2 => match f with | .nx => I (pre ++ [x]) τ2 | .ct => I (pre ++ [x]) τ2 | .bk => P .nx τ2 | .rt r => P (.rt r) τ2) : Ev (forG g b ds) τ P := by
  subst hd
  refine forG_ev (fun ds τ => ∃ pre rest, ds = List.map enc rest ∧ xs = pre ++ rest ∧ I pre τ) ⟨[], xs, rfl, rfl, h0⟩ ?_ ?_
  · rintro τ ⟨pre, rest, e, rfl, h⟩
    cases rest with
    | nil => rw [List.append_nil] at hz; exact hz τ h
    | cons y t => cases e
  · rintro d ds τ ⟨pre, rest, e, rfl, h⟩
    cases rest with
    | nil => cases e
    | cons y t =>
      rw [List.map_cons] at e
      obtain ⟨rfl, rfl⟩ := List.cons.inj e
      refine (hs pre y t τ rfl h).imp fun _ τ1 h => h.imp fun f τ2 h => ?_
      cases f with
      | nx => exact ⟨pre ++ [y], t, rfl, by simp, h⟩
      | ct => exact ⟨pre ++ [y], t, rfl, by simp, h⟩
      | bk => exact h
      | rt r => exact h
/-- a comprehension over xs: what is made so far, and the state -/
theorem lc_xs {T : Dt → M (Option Dt)} {P : List Dt → List SD → Prop} (enc : α → Dt) (I : List α → List Dt → List SD → Prop) {xs : List α} {ds : List Dt} (hd : ds = xs.map enc) (h0 : I [] [] τ) (hz : ∀ acc τ, I xs acc τ → P acc τ)
    (hs : ∀ pre x rest acc τ, xs = pre ++ x :: rest → I pre acc τ → Ev (T (enc x)) τ fun y τ1 => match y with | some y => acc.length < 1000000 ∧ I (pre ++ [x]) (acc ++ [y]) τ1 | none => I (pre ++ [x]) acc τ1) : Ev (lcG T ds []) τ P := by
  subst hd
  refine lcG_ev (fun ds acc τ => ∃ pre rest, ds = List.map enc rest ∧ xs = pre ++ rest ∧ I pre acc τ) ⟨[], xs, rfl, rfl, h0⟩ ?_ ?_
  · rintro acc τ ⟨pre, rest, e, rfl, h⟩
    cases rest with
    | nil => rw [List.append_nil] at hz; exact hz acc τ h
    | cons y t => cases e
  · rintro d ds acc τ ⟨pre, rest, e, rfl, h⟩
    cases rest with
    | nil => cases e
    | cons y t =>
      rw [List.map_cons] at e
      obtain ⟨rfl, rfl⟩ := List.cons.inj e
      refine (hs pre y t acc τ rfl h).imp fun y' τ1 h => ?_
      cases y' with
      | none => exact ⟨pre ++ [y], t, rfl, by simp, h⟩
      | some z => exact ⟨h.1, pre ++ [y], t, rfl, by simp, h.2⟩
/-- [f x for x in xs], no state -/
theorem lc_map {vs : List Nat} {g : Dt → M Unit} {t : M Bool} {e : M R} {P : List Dt → List SD → Prop} (enc : α → Dt) (f : α → Dt) {xs : List α} {ds : List Dt} (hd : ds = xs.map enc) (hw : okW τ vs = true) (hl : xs.length ≤ 1000000) (hP : P (xs.map f) τ)
    (hs : ∀ x ∈ xs, Ev (g (enc x)) (wipeD τ vs) fun _ τ1 => Ev t τ1 fun k τ2 => k = true ∧ Ev (eF e) τ2 fun r τ3 => r = .v (f x) ∧ backD τ τ3 vs = τ) : Ev (lcG (lcT vs g t e) ds []) τ P := by
  refine lc_xs enc (fun pre acc τ' => acc = pre.map f ∧ τ' = τ) hd ⟨rfl, rfl⟩ ?_ ?_
  · rintro acc τ' ⟨rfl, rfl⟩
    exact hP
  · rintro pre x rest acc τ' rfl ⟨rfl, rfl⟩
    refine ev_lcT hw ((hs x (by simp)).imp fun _ τ1 h => h.imp fun k τ2 h => ?_)
    obtain ⟨rfl, h⟩ := h
    rw [if_pos rfl]
    refine h.imp fun r τ3 h => ⟨f x, h.1, ?_, ?_, h.2⟩
    · rw [List.length_map]
      rw [List.length_append, List.length_cons] at hl
      omega
    · rw [List.map_append]
      rfl
/-- [f x for x in xs if p x], no state -/
theorem lc_filter {vs : List Nat} {g : Dt → M Unit} {t : M Bool} {e : M R} {P : List Dt → List SD → Prop} (enc : α → Dt) (f : α → Dt) (p : α → Bool) {xs : List α} {ds : List Dt} (hd : ds = xs.map enc) (hw : okW τ vs = true) (hl : xs.length ≤ 1000000) (hP : P ((xs.filter p).map f) τ)
    (hs : ∀ x ∈ xs, Ev (g (enc x)) (wipeD τ vs) fun _ τ1 => Ev t τ1 fun k τ2 => k = p x ∧ if p x = true then Ev (eF e) τ2 fun r τ3 => r = .v (f x) ∧ backD τ τ3 vs = τ else backD τ τ2 vs = τ) : Ev (lcG (lcT vs g t e) ds []) τ P := by
  refine lc_xs enc (fun pre acc τ' => acc = (pre.filter p).map f ∧ τ' = τ) hd ⟨rfl, rfl⟩ ?_ ?_
  · rintro acc τ' ⟨rfl, rfl⟩
    exact hP
  · rintro pre x rest acc τ' rfl ⟨rfl, rfl⟩
    refine ev_lcT hw ((hs x (by simp)).imp fun _ τ1 h => h.imp fun k τ2 h => ?_)
    obtain ⟨rfl, h⟩ := h
    by_cases c : p x = true
    · rw [if_pos c] at h ⊢
      refine h.imp fun r τ3 h => ⟨f x, h.1, ?_, ?_, h.2⟩
      · rw [List.length_map]
        rw [List.length_append, List.length_cons] at hl
        have := List.length_filter_le p pre
        omega
      · rw [List.filter_append, List.map_append, List.filter_cons_of_pos c]
        rfl
    · rw [if_neg c] at h ⊢
      refine ⟨?_, h⟩
      rw [List.filter_append, List.filter_cons_of_neg c, List.filter_nil, List.append_nil]
theorem rng0 (n : Nat) : rngD 0 n = (List.range n).map fun (k : Nat) => PyData.int (k : Int) := by
  unfold rngD
  exact List.map_congr_left fun k _ => by rw [Int.zero_add]
theorem enD_map (enc : α → Dt) : ∀ (xs : List α) (k : Nat), enD k (xs.map enc) = (xs.zipIdx k).map fun p => .tuple [.int (p.2 : Int), enc p.1]
  | [], _ => rfl
  | x :: xs, k => by
    rw [List.map_cons, List.zipIdx_cons, List.map_cons, ← enD_map enc xs (k + 1)]
    rfl
end
end MR
end BW
--RAW
namespace BW
namespace MR
open PySem PySem.Spec PyProof.Rows L2
/-- a call, its arguments read -/
inductive CallK (f : List SD → Option (R × List SD)) (xs τ : List SD) (P : R → List SD → Prop) : Prop
  | no (h : False)
  | is (r : R) (h : Ret f xs r) (h2 : ∀ i, r ≠ .o i) (p : P r τ)
section
variable {f : List SD → Option (R × List SD)} {xs τ : List SD} {P : R → List SD → Prop} {a : M R} {as : M (List R)}
theorem CallK.v {d : Dt} (h : Ret f xs (.v d)) (p : P (.v d) τ) : CallK f xs τ P := .is _ h (fun i => by simp) p
theorem CallK.n {x : Own} (h : Ret f xs (.n x)) (p : P (.n x) τ) : CallK f xs τ P := .is _ h (fun i => by simp) p
theorem CallK.r {r : R} (h : Ret f xs r) (h2 : ∀ i, r ≠ .o i) (p : P r τ) : CallK f xs τ P := .is _ h h2 p
/-- a call, with a thing that it may change or without -/
inductive CallU (f : List SD → Option (R × List SD)) (rs : List R) (xs τ : List SD) (P : R → List SD → Prop) : Prop
  | no (h : False)
  | is (r : R) (h0 : ioOf 0 rs = []) (h : Ret f xs r) (h2 : ∀ i, r ≠ .o i) (p : P r τ)
  | io (r : R) (i j : Nat) (x' : Own) (as' : List SD) (h0 : ioOf 0 rs = [(i, j)]) (h : f xs = some (r, as')) (h1 : as'[i]? = some (.io x')) (h2 : ∀ i, r ≠ .o i) (p : P r (ownSet τ j x'))
theorem CallU.v {rs : List R} {d : Dt} (h : Ret f xs (.v d)) (p : P (.v d) τ) (h0 : ioOf 0 rs = [] := by rfl) : CallU f rs xs τ P := .is _ h0 h (fun i => by simp) p
theorem CallU.n {rs : List R} {x : Own} (h : Ret f xs (.n x)) (p : P (.n x) τ) (h0 : ioOf 0 rs = [] := by rfl) : CallU f rs xs τ P := .is _ h0 h (fun i => by simp) p
theorem CallU.r {rs : List R} {r : R} (h : Ret f xs r) (h2 : ∀ i, r ≠ .o i) (p : P r τ) (h0 : ioOf 0 rs = [] := by rfl) : CallU f rs xs τ P := .is _ h0 h h2 p
theorem CallU.iv {rs : List R} {d : Dt} {i j : Nat} {x' : Own} {as' : List SD} (h : f xs = some (.v d, as')) (p : P (.v d) (ownSet τ j x')) (h0 : ioOf 0 rs = [(i, j)] := by rfl) (h1 : as'[i]? = some (.io x') := by rfl) : CallU f rs xs τ P := .io _ _ _ _ _ h0 h h1 (fun i => by simp) p
theorem CallU.in_ {rs : List R} {x : Own} {i j : Nat} {x' : Own} {as' : List SD} (h : f xs = some (.n x, as')) (p : P (.n x) (ownSet τ j x')) (h0 : ioOf 0 rs = [(i, j)] := by rfl) (h1 : as'[i]? = some (.io x') := by rfl) : CallU f rs xs τ P := .io _ _ _ _ _ h0 h h1 (fun i => by simp) p
theorem ev_callU (h : Ev as τ fun rs τ1 => ∃ xs, argsD τ1 rs = some xs ∧ CallU f rs xs τ1 P) : Ev (mb as (callD f [])) τ P := by
  refine ev_call (h.imp fun rs τ1 ⟨xs, e1, k⟩ => ?_)
  rcases k with h | ⟨r, h0, ⟨as', h⟩, h2, p⟩ | ⟨r, i, j, x', as', h0, h, h1, h2, p⟩
  · exact h.elim
  · exact ⟨xs, r, as', e1, by rw [List.map_nil, List.append_nil]; exact h, h2, .inl ⟨h0, p⟩⟩
  · exact ⟨xs, r, as', e1, by rw [List.map_nil, List.append_nil]; exact h, h2, .inr ⟨i, j, x', h0, h1, p⟩⟩
theorem ev_callA (h : Ev as τ fun rs τ1 => ∃ xs, argsD τ1 rs = some xs ∧ ioOf 0 rs = [] ∧ CallK f xs τ1 P) : Ev (mb as (callD f [])) τ P :=
  ev_callR (h.imp fun rs τ1 ⟨xs, e1, e2, k⟩ => by
    rcases k with h | ⟨r, h, h2, p⟩
    · exact h.elim
    · exact ⟨xs, r, e1, h, e2, h2, p⟩)
theorem ev_methA {c : Nat} {m : Str} (h : Ev a τ fun r τ1 => Ev (fzR r) τ1 fun d τ2 => Ev as τ2 fun rs τ3 => ∃ ks xs, d = .dict ((.none, .int (c : Int)) :: ks) ∧ (lookK m ks).isNone = true ∧ argsD τ3 rs = some xs ∧ ioOf 0 rs = [] ∧ CallK f (.val d :: xs) τ3 P) : Ev (eMeth c m f [] a as) τ P := by
  refine ev_mb (h.imp fun r τ1 h => ev_mb (h.imp fun d τ2 h => ev_mb (h.imp fun rs τ3 h => ?_)))
  obtain ⟨ks, xs, rfl, e1, e2, e3, k⟩ := h
  rcases k with h | ⟨r', ⟨as', h⟩, h2, p⟩
  · exact h.elim
  refine ⟨r', τ3, ?_, p⟩
  show (if (c : Int) = (c : Int) ∧ (lookK m ks).isNone = true then callD f [] (.v (.dict ((.none, .int (c : Int)) :: ks)) :: rs) τ3 else none) = _
  rw [if_pos ⟨rfl, e1⟩]
  unfold callD
  have e4 : f ((.val (.dict ((.none, .int (c : Int)) :: ks)) :: xs) ++ ([] : List Dt).map .val) = some (r', as') := by
    rw [List.map_nil, List.append_nil]
    exact h
  have e5 : ioOf 0 (.v (.dict ((.none, .int (c : Int)) :: ks)) :: rs) = [] := by
    show ioOf 1 rs = []
    have : ∀ (rs : List R) (k : Nat), ioOf k rs = [] → ∀ j, ioOf j rs = [] := fun rs => by
      induction rs with
      | nil => exact fun _ _ _ => rfl
      | cons y t ih =>
        intro k hk j
        cases y with
        | o i => cases hk
        | v d => exact ih _ hk _
        | n x => exact ih _ hk _
    exact this rs 0 e3 1
  simp only [argsD, argD, e2, e4, e5]
theorem ev_lenOA {c : Nat} (h : Ev a τ fun r τ1 => Ev (fzR r) τ1 fun d τ2 => ∃ ks, d = .dict ((.none, .int (c : Int)) :: ks) ∧ CallK f [.val d] τ2 fun r τ3 => ∃ n, r = .v (.int n) ∧ (0 ≤ n ∧ n < 1000000) ∧ P (.v (.int n)) τ3) : Ev (eLenO c f a) τ P := by
  refine ev_mb (h.imp fun r τ1 h => ev_mb (h.imp fun d τ2 h => ?_))
  obtain ⟨ks, rfl, k⟩ := h
  rcases k with h | ⟨r', ⟨as', h⟩, h2, n, rfl, hn, p⟩
  · exact h.elim
  refine ⟨_, τ2, ?_, p⟩
  show (if (c : Int) = (c : Int) then _ else none) = _
  rw [if_pos rfl]
  have e4 : f ([.val (.dict ((.none, .int (c : Int)) :: ks))] ++ ([] : List Dt).map .val) = some (.v (.int n), as') := h
  unfold callD
  simp only [argsD, argD, e4, ioOf]
  rw [if_pos hn]
theorem ev_makeA {c : Nat} (h : Ev as τ fun rs τ1 => ∃ ds, rds rs = some ds ∧ ∃ ks, (∃ as', f (.io (.I c []) :: ds.map .val) = some (.v .none, .io (.I c ks) :: as')) ∧ P (.n (.I c ks)) τ1) : Ev (eMake c f as) τ P := by
  refine ev_mb (h.imp fun rs τ1 h => ?_)
  obtain ⟨ds, e1, ks, ⟨as', e2⟩, p⟩ := h
  exact ⟨_, τ1, by simp [e1, e2], p⟩
theorem ev_eqIc {n : Int} (h : Ev a τ fun x τ1 => ∃ i, vw τ1 x = some (.int i) ∧ P (.v (.bool (decide (i = n)))) τ1) : Ev (eOp eqD a (eC (.int n))) τ P :=
  ev_eqI (h.imp fun _ _ ⟨i, e, p⟩ => ev_C ⟨i, n, e, rfl, p⟩)
theorem ev_neIc {n : Int} (h : Ev a τ fun x τ1 => ∃ i, vw τ1 x = some (.int i) ∧ P (.v (.bool (!decide (i = n)))) τ1) : Ev (eOp neD a (eC (.int n))) τ P :=
  ev_neI (h.imp fun _ _ ⟨i, e, p⟩ => ev_C ⟨i, n, e, rfl, p⟩)
theorem iteDT {p : Prop} [Decidable p] {x y : Prop} (h : p) (q : x) : if decide p = true then x else y := by
  rw [if_pos (decide_eq_true h)]
  exact q
theorem iteDF {p : Prop} [Decidable p] {x y : Prop} (h : ¬ p) (q : y) : if decide p = true then x else y := by
  rw [if_neg (fun e => h (of_decide_eq_true e))]
  exact q
theorem iteNT {p : Prop} [Decidable p] {x y : Prop} (h : p) (q : y) : if (!decide p) = true then x else y := by
  rw [decide_eq_true h]
  exact q
theorem iteNF {p : Prop} [Decidable p] {x y : Prop} (h : ¬ p) (q : x) : if (!decide p) = true then x else y := by
  rw [decide_eq_false h]
  exact q
theorem iteD2 {p : Prop} [Decidable p] {x y : Prop} (h1 : p → x) (h2 : ¬ p → y) : if decide p = true then x else y := by
  by_cases c : p
  · exact iteDT c (h1 c)
  · exact iteDF c (h2 c)
theorem iteN2 {p : Prop} [Decidable p] {x y : Prop} (h1 : ¬ p → x) (h2 : p → y) : if (!decide p) = true then x else y := by
  by_cases c : p
  · exact iteNT c (h2 c)
  · exact iteNF c (h1 c)
theorem ev_ixT {τ : List SD} {b : M R} (h : Ev a τ fun x τ1 => Ev b τ1 fun y τ2 => ∃ ds i d, vw τ2 x = some (.tuple ds) ∧ vw τ2 y = some (.int i) ∧ L2.atI ds i = some d ∧ P (.v d) τ2) : Ev (eOp ixD a b) τ P :=
  ev_op (h.imp fun _ _ h => h.imp fun _ _ ⟨ds, i, d, e1, e2, c, p⟩ => ⟨_, _, .v d, e1, e2, by show (L2.atI ds i).map R.v = _; rw [c]; rfl, p⟩)
/-- an item of a list, of a tuple -/
inductive IxK (x y : R) (τ : List SD) (P : R → List SD → Prop) : Prop
  | no (h : False)
  | is (dx dy : Dt) (r : R) (e1 : vw τ x = some dx) (e2 : vw τ y = some dy) (e3 : ixD dx dy = some r) (p : P r τ)
theorem IxK.l {x y : R} {ds : List Dt} {i : Int} {d : Dt} (e1 : vw τ x = some (.list ds)) (e2 : vw τ y = some (.int i)) (e3 : L2.atI ds i = some d) (p : P (.v d) τ) : IxK x y τ P := .is _ _ _ e1 e2 (by show (L2.atI ds i).map R.v = _; rw [e3]; rfl) p
theorem IxK.t {x y : R} {ds : List Dt} {i : Int} {d : Dt} (e1 : vw τ x = some (.tuple ds)) (e2 : vw τ y = some (.int i)) (e3 : L2.atI ds i = some d) (p : P (.v d) τ) : IxK x y τ P := .is _ _ _ e1 e2 (by show (L2.atI ds i).map R.v = _; rw [e3]; rfl) p
theorem ev_ix {b : M R} (h : Ev a τ fun x τ1 => Ev b τ1 fun y τ2 => IxK x y τ2 P) : Ev (eOp ixD a b) τ P :=
  ev_op (h.imp fun _ _ h => h.imp fun _ _ k => by
    rcases k with h | ⟨dx, dy, r, e1, e2, e3, p⟩
    · exact h.elim
    · exact ⟨dx, dy, r, e1, e2, e3, p⟩)
theorem ev_pop {i : Nat} {ds : List Dt} {d : Dt} (e : ownAt τ i = some (.L (ds ++ [d]))) (p : P (.v d) (ownSet τ i (.L ds))) : Ev (ePop i) τ P := by
  refine ⟨_, _, ?_, p⟩
  unfold ePop
  simp [e]
theorem ev_rv {P : List Dt → List SD → Prop} (h : Ev a τ fun r τ1 => Ev (fzR r) τ1 fun d τ2 => ∃ ds, itD d = some ds ∧ P ds.reverse τ2) : Ev (iRvD a) τ P := by
  refine ev_mb (h.imp fun r τ1 h => ev_mb (h.imp fun d τ2 h => ?_))
  obtain ⟨ds, e, p⟩ := h
  exact ⟨_, τ2, by simp only [e]; rfl, p⟩
theorem ev_revA (h : Ev a τ fun r τ1 => ∃ d r', vw τ1 r = some d ∧ revD d = some r' ∧ P r' τ1) : Ev (eRevA a) τ P := by
  refine ev_mb (h.imp fun r τ1 h => ?_)
  obtain ⟨d, r', e1, e2, p⟩ := h
  exact ⟨r', τ1, by simp only [e1, e2]; rfl, p⟩
theorem ev_maxDf {d : M R} (h : Ev a τ fun r τ1 => Ev d τ1 fun z τ2 => ∃ x y r', vw τ2 r = some x ∧ vw τ2 z = some y ∧ maxfD x y = some r' ∧ P r' τ2) : Ev (eMaxDf a d) τ P := by
  refine ev_mb (h.imp fun r τ1 h => ev_mb (h.imp fun z τ2 h => ?_))
  obtain ⟨x, y, r', e1, e2, e3, p⟩ := h
  exact ⟨r', τ2, by simp only [e1, e2, e3]; rfl, p⟩
end
end MR
end BW
--RAW
namespace BW
namespace MR
open PySem PySem.Spec PyProof.Rows L2
section
variable {τ : List SD} {i j : Nat} {u : SD} {d : Dt} {x : Own} {P : List SD → Prop}
theorem Fre.own {y : Own} : Fre (.own y) := fun x h => by cases h
theorem setV (e : τ[i]? = some u) (hu : Fre u) (p : P (τ.set i (.val d))) : ∃ τ2, setR i (.v d) τ = some τ2 ∧ P τ2 := ⟨_, setR_v e hu, p⟩
theorem setN (e : τ[i]? = some u) (hu : Fre u) (p : P (τ.set i (.own x))) : ∃ τ2, setR i (.n x) τ = some τ2 ∧ P τ2 := by
  refine ⟨_, ?_, p⟩
  unfold setR
  rw [e]
  cases u with
  | io x => exact absurd rfl (hu x)
  | un => rfl
  | val y => rfl
  | own y => rfl
theorem setO (e : τ[i]? = some u) (hu : Fre u) (n : j ≠ i) (e2 : τ[j]? = some (.own x)) (p : P ((τ.set j (.val x.dt)).set i (.val x.dt))) : ∃ τ2, setR i (.o j) τ = some τ2 ∧ P τ2 := by
  refine ⟨_, ?_, p⟩
  unfold setR
  rw [e]
  cases u with
  | io x => exact absurd rfl (hu x)
  | un => dsimp only; rw [if_neg n, e2]
  | val y => dsimp only; rw [if_neg n, e2]
  | own y => dsimp only; rw [if_neg n, e2]
/-- a slot whose datum is for good or not yet -/
theorem fz_any {Q : Dt → List SD → Prop} (h : τ[i]? = some (.own x) ∨ τ[i]? = some (.val x.dt)) (q : Q x.dt (τ.set i (.val x.dt))) : Ev (eV i) τ fun r τ1 => Ev (fzR r) τ1 Q := by
  rcases h with e | e
  · exact ev_Vo e (ev_fzo e q)
  · refine ev_V e (ev_fzv ?_)
    have e2 : τ.set i (.val x.dt) = τ := by
      obtain ⟨h, e3⟩ := List.getElem?_eq_some_iff.mp e
      rw [← e3]
      exact List.set_getElem_self h
    rwa [e2] at q
theorem atI_last {α : Type} {l : List α} {d : α} : L2.atI (l ++ [d]) (-1) = some d := by
  unfold L2.atI L2.ixN
  rw [if_neg (by decide), List.length_append, List.length_singleton, if_pos (by omega), show ((-1 : Int) + ((l.length + 1 : Nat) : Int)).toNat = l.length by omega]
  simp
theorem atI_get {α : Type} {l : List α} {i : Int} (h0 : 0 ≤ i) (h1 : i < l.length) : ∃ v, l[i.toNat]? = some v ∧ L2.atI l i = some v := by
  have e : l[i.toNat]? = some l[i.toNat] := List.getElem?_eq_getElem (by omega)
  refine ⟨_, e, ?_⟩
  unfold L2.atI L2.ixN
  rw [if_pos h0, if_pos (by omega)]
  exact e
/-- both ways of a test lead to what I says -/
theorem iteJ {p : Prop} [Decidable p] {m1 m2 : M Fl} {Q : Fl → List SD → Prop} (I : List SD → Prop) (h1 : p → Ev m1 τ fun f τ1 => f = .nx ∧ I τ1) (h2 : ¬ p → Ev m2 τ fun f τ1 => f = .nx ∧ I τ1) (h3 : ∀ τ1, I τ1 → Q .nx τ1) : if decide p = true then Ev m1 τ Q else Ev m2 τ Q :=
  iteD2 (fun c => (h1 c).imp fun f τ1 ⟨e, h⟩ => e ▸ h3 τ1 h) (fun c => (h2 c).imp fun f τ1 ⟨e, h⟩ => e ▸ h3 τ1 h)
end
end MR
end BW
--RAW
namespace BW
namespace MR
open PySem PySem.Spec PyProof.Rows L2
/-! ### likeness of data -/
def Sh (k : Nat) (d : Dt) : Prop := d.canLay0 = true ∧ d.depth ≤ k
theorem Sh.int {i : Int} : Sh 0 (.int i) := ⟨rfl, Nat.le_refl 0⟩
theorem Sh.bool {i : Bool} : Sh 0 (.bool i) := ⟨rfl, Nat.le_refl 0⟩
theorem Sh.non : Sh 0 .none := ⟨rfl, Nat.le_refl 0⟩
theorem Sh.str {x : Str} (h : PyData.strOk x = true) : Sh 0 (.str x) := ⟨by rw [PyData.canLay0]; exact h, by rw [PyData.depth]; exact Nat.le_refl 0⟩
theorem Sh.mono {j k : Nat} {d : Dt} (h : Sh j d) (e : j ≤ k) : Sh k d := ⟨h.1, Nat.le_trans h.2 e⟩
theorem Sh.all {k : Nat} : ∀ {ds : List Dt}, (∀ d ∈ ds, Sh k d) → PyData.canLayAll0 ds = true ∧ PyData.depthAll ds ≤ k
  | [], _ => ⟨rfl, Nat.zero_le _⟩
  | d :: ds, h => by
    obtain ⟨h1, h2⟩ := Sh.all fun x hx => h x (List.mem_cons_of_mem d hx)
    obtain ⟨h3, h4⟩ := h d List.mem_cons_self
    rw [PyData.canLayAll0, PyData.depthAll, h1, h3]
    exact ⟨rfl, Nat.max_le.mpr ⟨h4, h2⟩⟩
theorem Sh.tup {k : Nat} {ds : List Dt} (h : ∀ d ∈ ds, Sh k d) : Sh (k + 1) (.tuple ds) := by
  obtain ⟨h1, h2⟩ := Sh.all h
  exact ⟨by rw [PyData.canLay0]; exact h1, by rw [PyData.depth]; omega⟩
theorem Sh.lst {k : Nat} {ds : List Dt} (h : ∀ d ∈ ds, Sh k d) : Sh (k + 1) (.list ds) := by
  obtain ⟨h1, h2⟩ := Sh.all h
  exact ⟨by rw [PyData.canLay0]; exact h1, by rw [PyData.depth]; omega⟩
theorem Sh.ints {l : List Int} : ∀ d ∈ l.map PyData.int, Sh 0 d := fun d h => by
  obtain ⟨i, _, rfl⟩ := List.mem_map.mp h
  exact .int
theorem Sh.maps {α : Type} {k : Nat} {f : α → Dt} {l : List α} (h : ∀ x ∈ l, Sh k (f x)) : ∀ d ∈ l.map f, Sh k d := fun d hd => by
  obtain ⟨i, hi, rfl⟩ := List.mem_map.mp hd
  exact h i hi
theorem Sh.shaped {k : Nat} {d : Dt} (h : Sh k d) (e : k ≤ 64) : SeqAt.shaped d = true := by
  unfold SeqAt.shaped
  rw [h.1, decide_eq_true (Nat.le_trans h.2 e)]
  rfl
theorem eqvAll_map {α : Type} {f : α → Dt} {p : α → α → Bool} : ∀ {a b : List α}, (∀ x ∈ a, ∀ y ∈ b, PyData.eqv (f x) (f y) = p x y) → PyData.eqvAll (a.map f) (b.map f) = (decide (a.length = b.length) && (a.zip b).all fun z => p z.1 z.2)
  | [], [], _ => by simp [PyData.eqvAll]
  | [], _ :: _, _ => by simp [PyData.eqvAll]
  | _ :: _, [], _ => by simp [PyData.eqvAll]
  | x :: a, y :: b, h => by
    rw [List.map_cons, List.map_cons, PyData.eqvAll, h x List.mem_cons_self y List.mem_cons_self, eqvAll_map fun u hu v hv => h u (List.mem_cons_of_mem _ hu) v (List.mem_cons_of_mem _ hv)]
    simp only [List.length_cons, List.zip_cons_cons, List.all_cons, Nat.add_right_cancel_iff]
    cases p x y <;> simp
theorem zip_all_eq {α : Type} [DecidableEq α] : ∀ {a b : List α}, (decide (a.length = b.length) && (a.zip b).all fun z => decide (z.1 = z.2)) = decide (a = b)
  | [], [] => by simp
  | [], _ :: _ => by simp
  | _ :: _, [] => by simp
  | x :: a, y :: b => by
    have ih := zip_all_eq (a := a) (b := b)
    by_cases c : x = y
    · subst c
      by_cases e : a = b
      · subst e
        rw [decide_eq_true (rfl : x :: a = x :: a)]
        rw [decide_eq_true (rfl : a = a)] at ih
        simp only [List.length_cons, List.zip_cons_cons, List.all_cons, Nat.add_right_cancel_iff, decide_true, Bool.true_and] at ih ⊢
        exact ih
      · have e2 : ¬ (x :: a = x :: b) := fun h => e (List.cons.inj h).2
        rw [decide_eq_false e2]
        rw [decide_eq_false e] at ih
        simp only [List.length_cons, List.zip_cons_cons, List.all_cons, Nat.add_right_cancel_iff, decide_true, Bool.true_and]
        exact ih
    · have e2 : ¬ (x :: a = y :: b) := fun h => c (List.cons.inj h).1
      rw [decide_eq_false e2]
      simp [c]
theorem eqvAll_inj {α : Type} [DecidableEq α] {f : α → Dt} {a b : List α} (h : ∀ x ∈ a, ∀ y ∈ b, PyData.eqv (f x) (f y) = decide (x = y)) : PyData.eqvAll (a.map f) (b.map f) = decide (a = b) := by
  rw [eqvAll_map h, zip_all_eq]
theorem eqv_int {i j : Int} : PyData.eqv (.int i) (.int j) = decide (i = j) := eqv_ii' i j
theorem eqv_str {i j : Str} : PyData.eqv (.str i) (.str j) = decide (i = j) := by
  rw [PyData.eqv, Bool.eq_iff_iff, beq_iff_eq, decide_eq_true_eq]
theorem eqv_tupI {a b : List Int} : PyData.eqv (.tuple (a.map .int)) (.tuple (b.map .int)) = decide (a = b) := by
  rw [PyData.eqv]
  exact eqvAll_inj fun x _ y _ => eqv_int
theorem eqv_lstI {a b : List Int} : PyData.eqv (.list (a.map .int)) (.list (b.map .int)) = decide (a = b) := by
  rw [PyData.eqv]
  exact eqvAll_inj fun x _ y _ => eqv_int
mutual
theorem eqv_refl : ∀ {d : Dt}, d.canLay0 = true → PyData.eqv d d = true
  | .none, _ => by rw [PyData.eqv]
  | .bool b, _ => by rw [PyData.eqv]; exact beq_self_eq_true b
  | .int i, _ => by rw [PyData.eqv]; exact beq_self_eq_true i
  | .str i, _ => by rw [PyData.eqv]; exact beq_self_eq_true i
  | .list xs, h => by rw [PyData.eqv]; exact eqvAll_refl (by rw [PyData.canLay0] at h; exact h)
  | .tuple xs, h => by rw [PyData.eqv]; exact eqvAll_refl (by rw [PyData.canLay0] at h; exact h)
  | .dict _, h => by rw [PyData.canLay0] at h; cases h
theorem eqvAll_refl : ∀ {ds : List Dt}, PyData.canLayAll0 ds = true → PyData.eqvAll ds ds = true
  | [], _ => by rw [PyData.eqvAll]
  | d :: ds, h => by
    rw [PyData.canLayAll0, Bool.and_eq_true] at h
    rw [PyData.eqvAll, eqv_refl h.1, eqvAll_refl h.2]
    rfl
end
/-- two data held against each other -/
inductive EqK (x y : R) (τ : List SD) (P : Bool → Prop) : Prop
  | no (h : False)
  | is (dx dy : Dt) (e1 : vw τ x = some dx) (e2 : vw τ y = some dy) (s1 : SeqAt.shaped dx = true) (s2 : SeqAt.shaped dy = true) (p : P (PyData.eqv dx dy))
section
variable {x y : R} {τ : List SD} {Q : Bool → Prop} {P : R → List SD → Prop} {a b : M R}
theorem EqK.ii {i j : Int} (e1 : vw τ x = some (.int i)) (e2 : vw τ y = some (.int j)) (p : Q (decide (i = j))) : EqK x y τ Q := .is _ _ e1 e2 (Sh.int.shaped (by decide)) (Sh.int.shaped (by decide)) (by rw [eqv_int]; exact p)
theorem EqK.same {k : Nat} {d : Dt} (e1 : vw τ x = some d) (e2 : vw τ y = some d) (s : Sh k d) (hk : k ≤ 64) (p : Q true) : EqK x y τ Q := .is _ _ e1 e2 (s.shaped hk) (s.shaped hk) (by rw [eqv_refl s.1]; exact p)
theorem EqK.sh {k j : Nat} {d e : Dt} (e1 : vw τ x = some d) (e2 : vw τ y = some e) (s1 : Sh k d) (s2 : Sh j e) (hk : k ≤ 64) (hj : j ≤ 64) (p : Q (PyData.eqv d e)) : EqK x y τ Q := .is _ _ e1 e2 (s1.shaped hk) (s2.shaped hj) p
theorem ev_eqG (h : Ev a τ fun x τ1 => Ev b τ1 fun y τ2 => EqK x y τ2 fun k => P (.v (.bool k)) τ2) : Ev (eOp eqD a b) τ P :=
  ev_op (h.imp fun _ _ h => h.imp fun _ _ k => by
    rcases k with h | ⟨dx, dy, e1, e2, s1, s2, p⟩
    · exact h.elim
    · exact ⟨dx, dy, _, e1, e2, by unfold eqD; rw [s1, s2]; rfl, p⟩)
theorem ev_neG (h : Ev a τ fun x τ1 => Ev b τ1 fun y τ2 => EqK x y τ2 fun k => P (.v (.bool !k)) τ2) : Ev (eOp neD a b) τ P :=
  ev_op (h.imp fun _ _ h => h.imp fun _ _ k => by
    rcases k with h | ⟨dx, dy, e1, e2, s1, s2, p⟩
    · exact h.elim
    · exact ⟨dx, dy, _, e1, e2, by unfold neD; rw [s1, s2]; rfl, p⟩)
/-- a sum, of whatever -/
inductive AddK (x y : R) (τ : List SD) (P : R → List SD → Prop) : Prop
  | no (h : False)
  | is (dx dy : Dt) (r : R) (e1 : vw τ x = some dx) (e2 : vw τ y = some dy) (e3 : addD dx dy = some r) (p : P r τ)
theorem AddK.ii {i j : Int} (e1 : vw τ x = some (.int i)) (e2 : vw τ y = some (.int j)) (p : P (.v (.int (i + j))) τ) : AddK x y τ P := .is _ _ _ e1 e2 rfl p
theorem AddK.tt {l m : List Dt} (e1 : vw τ x = some (.tuple l)) (e2 : vw τ y = some (.tuple m)) (h : l.length + m.length ≤ 1000000) (p : P (.v (.tuple (l ++ m))) τ) : AddK x y τ P := .is _ _ _ e1 e2 (if_pos h) p
theorem AddK.ll {l m : List Dt} (e1 : vw τ x = some (.list l)) (e2 : vw τ y = some (.list m)) (h : l.length + m.length ≤ 1000000) (p : P (.n (.L (l ++ m))) τ) : AddK x y τ P := .is _ _ _ e1 e2 (if_pos h) p
theorem ev_addG (h : Ev a τ fun x τ1 => Ev b τ1 fun y τ2 => AddK x y τ2 P) : Ev (eOp addD a b) τ P :=
  ev_op (h.imp fun _ _ h => h.imp fun _ _ k => by
    rcases k with h | ⟨dx, dy, r, e1, e2, e3, p⟩
    · exact h.elim
    · exact ⟨dx, dy, r, e1, e2, e3, p⟩)
/-- a product, of whatever -/
inductive MulK (x y : R) (τ : List SD) (P : R → List SD → Prop) : Prop
  | no (h : False)
  | is (dx dy : Dt) (r : R) (e1 : vw τ x = some dx) (e2 : vw τ y = some dy) (e3 : mulD dx dy = some r) (p : P r τ)
theorem MulK.ii {i j : Int} (e1 : vw τ x = some (.int i)) (e2 : vw τ y = some (.int j)) (h : i.natAbs < 18446744073709551616 ∨ j.natAbs < 18446744073709551616) (p : P (.v (.int (i * j))) τ) : MulK x y τ P := .is _ _ _ e1 e2 (if_pos (by unfold mulOk; rcases h with c | c <;> simp [c])) p
theorem MulK.t1 {l : List Dt} (e1 : vw τ x = some (.tuple l)) (e2 : vw τ y = some (.int 1)) (p : P (.v (.tuple l)) τ) : MulK x y τ P := .is _ _ _ e1 e2 rfl p
theorem MulK.t0 {d : Dt} {l : List Dt} (e1 : vw τ x = some (.tuple (d :: l))) (e2 : vw τ y = some (.int 0)) (p : P (.v (.tuple [])) τ) : MulK x y τ P := .is _ _ _ e1 e2 (by simp [mulD]) p
theorem ev_mulG (h : Ev a τ fun x τ1 => Ev b τ1 fun y τ2 => MulK x y τ2 P) : Ev (eOp mulD a b) τ P :=
  ev_op (h.imp fun _ _ h => h.imp fun _ _ k => by
    rcases k with h | ⟨dx, dy, r, e1, e2, e3, p⟩
    · exact h.elim
    · exact ⟨dx, dy, r, e1, e2, e3, p⟩)
/-! cuts -/
variable {α : Type}
theorem cut_to {l : List Dt} {k : Nat} : BW.MR.cutD l none (some (k : Int)) = l.take k := by
  unfold BW.MR.cutD
  rw [HT.sIx_none, HT.sIx_nat, List.drop_zero, Nat.sub_zero]
  by_cases h : k ≤ l.length
  · rw [Nat.min_eq_left h]
  · rw [Nat.min_eq_right (by omega), List.take_length, List.take_of_length_le (by omega)]
theorem cut_from {l : List Dt} {k : Nat} : BW.MR.cutD l (some (k : Int)) none = l.drop k := by
  unfold BW.MR.cutD
  rw [HT.sIx_none, HT.sIx_nat]
  by_cases h : k ≤ l.length
  · rw [Nat.min_eq_left h, List.take_of_length_le (by rw [List.length_drop]; omega)]
  · rw [Nat.min_eq_right (by omega), Nat.sub_self, List.take_zero, List.drop_eq_nil_of_le (by omega)]
theorem cut_mid {l : List Dt} {j k : Nat} (h : j ≤ k) : BW.MR.cutD l (some (j : Int)) (some (k : Int)) = (l.drop j).take (k - j) := by
  unfold BW.MR.cutD
  rw [HT.sIx_nat, HT.sIx_nat]
  by_cases h1 : k ≤ l.length
  · rw [Nat.min_eq_left h1, Nat.min_eq_left (by omega)]
  · by_cases h2 : j ≤ l.length
    · rw [Nat.min_eq_left h2, Nat.min_eq_right (by omega), List.take_of_length_le (by rw [List.length_drop]; omega), List.take_of_length_le (by rw [List.length_drop]; omega)]
    · rw [Nat.min_eq_right (by omega), Nat.min_eq_right (by omega), Nat.sub_self, List.take_zero, List.drop_eq_nil_of_le (by omega), List.take_nil]
theorem maxI_fold {ns : List Int} (h : ∀ y ∈ ns, 0 ≤ y) : (match maxI ns with | some m => R.v (.int m) | none => R.v (.int 0)) = R.v (.int (ns.foldl max 0)) := by
  have key : ∀ (l : List Int) (a : Int), a ≤ l.foldl max a ∧ (∀ y ∈ l, y ≤ l.foldl max a) ∧ (l.foldl max a = a ∨ l.foldl max a ∈ l) := by
    intro l
    induction l with
    | nil => exact fun a => ⟨Int.le_refl a, (fun y h => by cases h), .inl rfl⟩
    | cons x l ih =>
      intro a
      obtain ⟨h1, h2, h3⟩ := ih (max a x)
      refine ⟨Int.le_trans (Int.le_max_left a x) h1, fun y hy => ?_, ?_⟩
      · rcases List.mem_cons.mp hy with rfl | hy
        · exact Int.le_trans (Int.le_max_right a y) h1
        · exact h2 y hy
      · rcases h3 with h3 | h3
        · rcases Int.le_total a x with c | c
          · exact .inr (by rw [List.foldl_cons, h3, Int.max_eq_right c]; exact List.mem_cons_self)
          · exact .inl (by rw [List.foldl_cons, h3, Int.max_eq_left c])
        · exact .inr (List.mem_cons_of_mem _ h3)
  obtain ⟨k1, k2, k3⟩ := key ns 0
  cases e : maxI ns with
  | none =>
    rw [maxI_none e]
    rfl
  | some m =>
    obtain ⟨h1, h2⟩ := maxI_ok e
    have : m = ns.foldl max 0 := by
      rcases k3 with k3 | k3
      · have := k2 m h1
        have := h m h1
        omega
      · have := h2 _ k3
        have := k2 m h1
        omega
    rw [this]
end
end MR
end BW
--RAW
namespace BW
namespace MR
open PySem PySem.Spec PyProof.Rows L2
/-! ### the reader by classes: what is asked next -/
class St (G : Prop) (H : outParam Prop) : Prop where
  imp : H → G
class At (τ : List SD) (i : Nat) (s : outParam SD) : Prop where
  eq : τ[i]? = some s
section
variable {τ τ' τ'' : List SD} {i j n : Nat} {s x0 u : SD}
instance At.z_ : At (s :: τ) 0 s := ⟨rfl⟩
instance At.s_ [h : At τ i s] : At (x0 :: τ) (i + 1) s := ⟨by rw [List.getElem?_cons_succ]; exact h.eq⟩
class SetC (τ : List SD) (i : Nat) (s : SD) (τ' : outParam (List SD)) : Prop where
  eq : τ.set i s = τ'
instance SetC.z_ : SetC (x0 :: τ) 0 s (s :: τ) := ⟨rfl⟩
instance SetC.s_ [h : SetC τ i s τ'] : SetC (x0 :: τ) (i + 1) s (x0 :: τ') := ⟨by rw [List.set_cons_succ, h.eq]⟩
class Uns (n : Nat) (τ : outParam (List SD)) : Prop where
  eq : List.replicate n SD.un = τ
instance Uns.z_ : Uns 0 [] := ⟨rfl⟩
instance Uns.s_ [h : Uns n τ] : Uns (n + 1) (.un :: τ) := ⟨by rw [List.replicate_succ, h.eq]⟩
class CatC (a b : List SD) (c : outParam (List SD)) : Prop where
  eq : a ++ b = c
instance CatC.z_ : CatC [] τ τ := ⟨rfl⟩
instance CatC.s_ [h : CatC τ τ' τ''] : CatC (x0 :: τ) τ' (x0 :: τ'') := ⟨by rw [List.cons_append, h.eq]⟩
/-- may be written over -/
class FreC (u : SD) : Prop where
  fre : Fre u
instance FreC.un_ : FreC .un := ⟨Fre.un⟩
instance FreC.val_ {d : Dt} : FreC (.val d) := ⟨Fre.val⟩
instance FreC.own_ {x : Own} : FreC (.own x) := ⟨Fre.own⟩
class OwnC (τ : List SD) (i : Nat) (x : outParam Own) : Prop where
  eq : ownAt τ i = some x
instance OwnC.o_ {x : Own} [h : At τ i (.own x)] : OwnC τ i x := ⟨by unfold ownAt; rw [h.eq]⟩
instance OwnC.i_ {x : Own} [h : At τ i (.io x)] : OwnC τ i x := ⟨by unfold ownAt; rw [h.eq]⟩
class OwnSetC (τ : List SD) (i : Nat) (x : Own) (τ' : outParam (List SD)) : Prop where
  eq : ownSet τ i x = τ'
instance OwnSetC.o_ {x y : Own} [h : At τ i (.own y)] [k : SetC τ i (.own x) τ'] : OwnSetC τ i x τ' := ⟨by unfold ownSet; rw [h.eq]; exact k.eq⟩
instance OwnSetC.i_ {x y : Own} [h : At τ i (.io y)] [k : SetC τ i (.io x) τ'] : OwnSetC τ i x τ' := ⟨by unfold ownSet; rw [h.eq]; exact k.eq⟩
/-- what a value is -/
class VwC (τ : List SD) (r : R) (d : outParam Dt) : Prop where
  eq : vw τ r = some d
section
variable {d : Dt} {ds : List Dt} {c : Nat} {ks : List (Dt × Dt)} {x : Own} {r : R} {rs : List R}
instance VwC.v_ : VwC τ (.v d) d := ⟨rfl⟩
instance VwC.nl_ : VwC τ (.n (.L ds)) (.list ds) := ⟨rfl⟩
instance VwC.ni_ : VwC τ (.n (.I c ks)) (.dict ((.none, .int c) :: ks)) := ⟨rfl⟩
instance VwC.ov_ [h : At τ i (.val d)] : VwC τ (.o i) d := ⟨by unfold vw; dsimp only; rw [h.eq]⟩
instance VwC.ol_ [h : At τ i (.own (.L ds))] : VwC τ (.o i) (.list ds) := ⟨by unfold vw; dsimp only; rw [h.eq]; rfl⟩
instance VwC.oi_ [h : At τ i (.own (.I c ks))] : VwC τ (.o i) (.dict ((.none, .int c) :: ks)) := ⟨by unfold vw; dsimp only; rw [h.eq]; rfl⟩
instance VwC.il_ [h : At τ i (.io (.L ds))] : VwC τ (.o i) (.list ds) := ⟨by unfold vw; dsimp only; rw [h.eq]; rfl⟩
instance VwC.ii_ [h : At τ i (.io (.I c ks))] : VwC τ (.o i) (.dict ((.none, .int c) :: ks)) := ⟨by unfold vw; dsimp only; rw [h.eq]; rfl⟩
class VwsC (τ : List SD) (rs : List R) (ds : outParam (List Dt)) : Prop where
  eq : vws τ rs = some ds
instance VwsC.z_ : VwsC τ [] [] := ⟨rfl⟩
instance VwsC.s_ [h : VwC τ r d] [k : VwsC τ rs ds] : VwsC τ (r :: rs) (d :: ds) := ⟨by unfold vws; rw [h.eq, k.eq]⟩
class RdsC (rs : List R) (ds : outParam (List Dt)) : Prop where
  eq : rds rs = some ds
instance RdsC.z_ : RdsC [] [] := ⟨rfl⟩
instance RdsC.s_ [k : RdsC rs ds] : RdsC (.v d :: rs) (d :: ds) := ⟨by unfold rds; rw [k.eq]; rfl⟩
class ArgsC (τ : List SD) (rs : List R) (xs : outParam (List SD)) : Prop where
  eq : argsD τ rs = some xs
instance ArgsC.z_ : ArgsC τ [] [] := ⟨rfl⟩
instance ArgsC.v_ {xs : List SD} [k : ArgsC τ rs xs] : ArgsC τ (.v d :: rs) (.val d :: xs) := ⟨by unfold argsD; rw [k.eq]; rfl⟩
instance ArgsC.o_ {xs : List SD} [h : OwnC τ i x] [k : ArgsC τ rs xs] : ArgsC τ (.o i :: rs) (.io x :: xs) := ⟨by unfold argsD; rw [show argD τ (.o i) = some (.io x) by show (ownAt τ i).map SD.io = _; rw [h.eq]; rfl, k.eq]⟩
/-- a tuple, however it is written -/
class AsT (d : Dt) (ds : outParam (List Dt)) : Prop where
  eq : d = .tuple ds
instance AsT.t_ : AsT (.tuple ds) ds := ⟨rfl⟩
class AsQ (d : Dt) (ds : outParam (List Dt)) : Prop where
  eq : itD d = some ds
instance AsQ.l_ : AsQ (.list ds) ds := ⟨rfl⟩
instance AsQ.t_ [h : AsT d ds] : AsQ d ds := ⟨by rw [h.eq]; rfl⟩
/-- how many -/
class LenC (l : List Dt) (n : outParam Nat) : Prop where
  eq : l.length = n
instance (priority := low) LenC.any_ : LenC ds ds.length := ⟨rfl⟩
instance LenC.nil_ : LenC [] 0 := ⟨rfl⟩
instance LenC.cons_ [h : LenC ds n] : LenC (d :: ds) (n + 1) := ⟨by rw [List.length_cons, h.eq]⟩
instance LenC.map_ {α : Type} {f : α → Dt} {l : List α} : LenC (l.map f) l.length := ⟨List.length_map ..⟩
instance LenC.app_ {es : List Dt} {m : Nat} [h : LenC ds n] [k : LenC es m] : LenC (ds ++ es) (n + m) := ⟨by rw [List.length_append, h.eq, k.eq]⟩
instance LenC.rev_ [h : LenC ds n] : LenC ds.reverse n := ⟨by rw [List.length_reverse, h.eq]⟩
class IsNC (d : Dt) (b : outParam Bool) : Prop where
  eq : isN d = b
instance IsNC.n_ : IsNC .none true := ⟨rfl⟩
instance IsNC.b_ {b : Bool} : IsNC (.bool b) false := ⟨rfl⟩
instance IsNC.i_ {b : Int} : IsNC (.int b) false := ⟨rfl⟩
instance IsNC.s_ {b : Str} : IsNC (.str b) false := ⟨rfl⟩
instance IsNC.l_ : IsNC (.list ds) false := ⟨rfl⟩
instance IsNC.t_ [h : AsT d ds] : IsNC d false := ⟨by rw [h.eq]; rfl⟩
class TruC (d : Dt) (b : outParam Bool) : Prop where
  eq : truD d = some b
instance TruC.n_ : TruC .none false := ⟨rfl⟩
instance TruC.b_ {b : Bool} : TruC (.bool b) b := ⟨rfl⟩
instance TruC.i_ {b : Int} : TruC (.int b) (!decide (b = 0)) := ⟨by show some (b != 0) = _; congr 1⟩
/-- an item by its written place -/
class IxC (l : List Dt) (i : Int) (d : outParam Dt) : Prop where
  eq : L2.atI l i = some d
instance IxC.a_ {a : Dt} : IxC (a :: ds) 0 a := ⟨by unfold L2.atI L2.ixN; simp⟩
instance IxC.b_ {a b : Dt} : IxC (a :: b :: ds) 1 b := ⟨by unfold L2.atI L2.ixN; rw [if_pos (by decide), if_pos (by simp only [List.length_cons]; omega)]; rfl⟩
instance IxC.c_ {a b e : Dt} : IxC (a :: b :: e :: ds) 2 e := ⟨by unfold L2.atI L2.ixN; rw [if_pos (by decide), if_pos (by simp only [List.length_cons]; omega)]; rfl⟩
instance IxC.l_ : IxC (ds ++ [d]) (-1) d := ⟨atI_last⟩
class ShC (d : Dt) (k : outParam Nat) : Prop where
  eq : Sh k d
instance ShC.int_ {i : Int} : ShC (.int i) 0 := ⟨Sh.int⟩
instance ShC.bool_ {i : Bool} : ShC (.bool i) 0 := ⟨Sh.bool⟩
instance ShC.non_ : ShC .none 0 := ⟨Sh.non⟩
class ShsC (l : List Dt) (k : outParam Nat) : Prop where
  eq : ∀ d ∈ l, Sh k d
instance ShsC.nil_ : ShsC [] 0 := ⟨fun _ h => by cases h⟩
instance ShsC.cons_ {a b : Nat} [h : ShC d a] [k : ShsC ds b] : ShsC (d :: ds) (max a b) := ⟨fun e he => by
  rcases List.mem_cons.mp he with rfl | he
  · exact h.eq.mono (Nat.le_max_left a b)
  · exact (k.eq e he).mono (Nat.le_max_right a b)⟩
instance ShsC.map_ {α : Type} {f : α → Dt} {l : List α} {k : Nat} [h : ∀ x, ShC (f x) k] : ShsC (l.map f) k := ⟨Sh.maps fun x _ => (h x).eq⟩
instance ShC.list_ {k : Nat} [h : ShsC ds k] : ShC (.list ds) (k + 1) := ⟨Sh.lst h.eq⟩
instance ShC.tup_ {k : Nat} [t : AsT d ds] [h : ShsC ds k] : ShC d (k + 1) := ⟨by rw [t.eq]; exact Sh.tup h.eq⟩
end
end
/-! what is asked behind an operation -/
def SideK (c Q : Prop) : Prop := c ∧ Q
theorem SideK.mk {c Q : Prop} (h : c) (q : Q) : SideK c Q := ⟨h, q⟩
def IfK (k : Bool) (A B : Prop) : Prop := if k = true then A else B
def SeqK (t : M Fl) (P : Fl → List SD → Prop) : Fl → List SD → Prop
  | .nx, τ => Ev t τ P
  | f, τ => P f τ
def OpK (f : Dt → Dt → Option R) (x y : R) (τ : List SD) (P : R → List SD → Prop) : Prop := ∃ dx dy r, vw τ x = some dx ∧ vw τ y = some dy ∧ f dx dy = some r ∧ P r τ
def UnK (f : Dt → Option R) (x : R) (τ : List SD) (P : R → List SD → Prop) : Prop := ∃ dx r, vw τ x = some dx ∧ f dx = some r ∧ P r τ
def FnK (f : List Dt → Option R) (rs : List R) (τ : List SD) (P : R → List SD → Prop) : Prop := ∃ ds r, vws τ rs = some ds ∧ f ds = some r ∧ P r τ
def SetK (i : Nat) (r : R) (τ : List SD) (P : List SD → Prop) : Prop := ∃ τ2, setR i r τ = some τ2 ∧ P τ2
def TupK (rs : List R) (P : R → Prop) : Prop := ∃ ds, rds rs = some ds ∧ ds.length ≤ 1000000 ∧ P (.v (.tuple ds))
def LstK (rs : List R) (P : R → Prop) : Prop := ∃ ds, rds rs = some ds ∧ ds.length ≤ 1000000 ∧ P (.n (.L ds))
def BoolK (r : R) (P : Bool → Prop) : Prop := ∃ k, r = .v (.bool k) ∧ P k
def TruK (r : R) (τ : List SD) (P : Bool → Prop) : Prop := ∃ d k, vw τ r = some d ∧ truD d = some k ∧ P k
def CalK (f : List SD → Option (R × List SD)) (rs : List R) (τ : List SD) (P : R → List SD → Prop) : Prop := ∃ xs, argsD τ rs = some xs ∧ CallU f rs xs τ P
def AppK (i : Nat) (rs : List R) (τ : List SD) (P : R → List SD → Prop) : Prop := ∃ ds d, ownAt τ i = some (.L ds) ∧ rds rs = some [d] ∧ ds.length < 1000000 ∧ P (.v .none) (ownSet τ i (.L (ds ++ [d])))
def ItK (d : Dt) (P : List Dt → Prop) : Prop := ∃ ds, itD d = some ds ∧ P ds
def RngK (rs : List R) (τ : List SD) (P : List Dt → Prop) : Prop := ∃ j, vws τ rs = some [.int j] ∧ (-1000000000000 ≤ j ∧ j ≤ 1000000000000) ∧ P (rngD 0 j.toNat)
def OneK (rs : List R) (P : Dt → Prop) : Prop := ∃ d, rds rs = some [d] ∧ P d
def FldK (c : Nat) (f : Str) (r : R) (τ : List SD) (P : R → Prop) : Prop := ∃ ks d, vw τ r = some (.dict ((.none, .int (c : Int)) :: ks)) ∧ lookK f ks = some d ∧ P (.v d)
def MethK (c : Nat) (m : Str) (f : List SD → Option (R × List SD)) (d : Dt) (rs : List R) (τ : List SD) (P : R → List SD → Prop) : Prop := ∃ ks xs, d = .dict ((.none, .int (c : Int)) :: ks) ∧ (lookK m ks).isNone = true ∧ argsD τ rs = some xs ∧ ioOf 0 rs = [] ∧ CallK f (.val d :: xs) τ P
def LenOK (c : Nat) (f : List SD → Option (R × List SD)) (d : Dt) (τ : List SD) (P : R → List SD → Prop) : Prop := ∃ ks, d = .dict ((.none, .int (c : Int)) :: ks) ∧ CallK f [.val d] τ fun r τ3 => ∃ n, r = .v (.int n) ∧ (0 ≤ n ∧ n < 1000000) ∧ P (.v (.int n)) τ3
def IntK (r : R) (τ : List SD) (P : Int → Prop) : Prop := ∃ i, vw τ r = some (.int i) ∧ P i
def IsK (T : Ty) (r : R) (τ : List SD) (P : R → Prop) : Prop := ∃ d, vw τ r = some d ∧ notObj d = true ∧ P (.v (.bool (isTy T d)))
def SlK (r : R) (l u : Option Int) (τ : List SD) (P : R → List SD → Prop) : Prop := ∃ d r', vw τ r = some d ∧ slD d l u = some r' ∧ P r' τ
def FzK (r : R) (τ : List SD) (P : Dt → List SD → Prop) : Prop := Ev (fzR r) τ P
section
variable {α β : Type} {τ τ' : List SD} {i j n c : Nat} {u : SD} {d e : Dt} {ds es : List Dt} {ks : List (Dt × Dt)} {x y : R} {rs : List R} {b b2 : Bool} {a a2 a3 : M R} {as : M (List R)} {t t2 : M Bool} {s s2 : M Fl} {A B : Prop} {p q : Int}
variable {P : Fl → List SD → Prop} {PR : R → List SD → Prop} {PA : List R → List SD → Prop} {PB : Bool → List SD → Prop} {PD : Dt → List SD → Prop} {PI : List Dt → List SD → Prop} {PO : Option Int → List SD → Prop} {PU : Unit → List SD → Prop} {PO : Option Int → List SD → Prop}
/-! tests -/
instance St.ift_ : St (IfK true A B) A := ⟨fun h => by unfold IfK; rw [if_pos rfl]; exact h⟩
instance St.iff__ : St (IfK false A B) B := ⟨fun h => by unfold IfK; rw [if_neg (by decide)]; exact h⟩
instance (priority := low) St.ifn_ : St (IfK (!b) A B) (IfK b B A) := ⟨fun h => by cases b <;> exact h⟩
theorem IfK.yes {p : Prop} [Decidable p] (h : p) (q : A) : IfK (decide p) A B := iteDT h q
theorem IfK.no {p : Prop} [Decidable p] (h : ¬ p) (q : B) : IfK (decide p) A B := iteDF h q
theorem IfK.two {p : Prop} [Decidable p] (h1 : p → A) (h2 : ¬ p → B) : IfK (decide p) A B := iteD2 h1 h2
theorem IfK.any (h1 : b = true → A) (h2 : b = false → B) : IfK b A B := by cases b with | true => exact h1 rfl | false => exact h2 rfl
theorem IfK.join {p : Prop} [Decidable p] {m1 m2 : M Fl} {Q : Fl → List SD → Prop} (I : List SD → Prop) (h1 : p → Ev m1 τ fun f τ1 => f = .nx ∧ I τ1) (h2 : ¬ p → Ev m2 τ fun f τ1 => f = .nx ∧ I τ1) (h3 : ∀ τ1, I τ1 → Q .nx τ1) : IfK (decide p) (Ev m1 τ Q) (Ev m2 τ Q) := iteJ I h1 h2 h3
instance St.seqn_ : St (SeqK s P .nx τ) (Ev s τ P) := ⟨id⟩
instance St.seqr_ : St (SeqK s P (.rt x) τ) (P (.rt x) τ) := ⟨id⟩
instance St.seqb_ : St (SeqK s P .bk τ) (P .bk τ) := ⟨id⟩
instance St.seqc_ : St (SeqK s P .ct τ) (P .ct τ) := ⟨id⟩
/-! statements -/
instance St.seq_ : St (Ev (sSeq s s2) τ P) (Ev s τ (SeqK s2 P)) := ⟨fun h => ev_seq (h.imp fun f τ1 h => by cases f <;> exact h)⟩
instance St.next_ : St (Ev sNext τ P) (P .nx τ) := ⟨ev_next⟩
instance St.brk_ : St (Ev sBreak τ P) (P .bk τ) := ⟨fun h => ⟨_, _, rfl, h⟩⟩
instance St.cont_ : St (Ev sCont τ P) (P .ct τ) := ⟨fun h => ⟨_, _, rfl, h⟩⟩
instance St.ret_ : St (Ev (sRet a) τ P) (Ev a τ fun r τ1 => P (.rt r) τ1) := ⟨ev_ret⟩
instance St.retn_ : St (Ev sRetN τ P) (P (.rt (.v .none)) τ) := ⟨fun h => ⟨_, _, rfl, h⟩⟩
instance St.drop_ : St (Ev (sDrop a) τ P) (Ev a τ fun _ τ1 => P .nx τ1) := ⟨ev_drop⟩
instance St.ifs_ : St (Ev (sIf t s s2) τ P) (Ev t τ fun k τ1 => IfK k (Ev s τ1 P) (Ev s2 τ1 P)) := ⟨ev_if⟩
instance St.set_ : St (Ev (sSet i a) τ P) (Ev a τ fun r τ1 => SetK i r τ1 (P .nx)) := ⟨ev_set⟩
instance St.asg_ {g : Dt → M Unit} : St (Ev (sAsg g a) τ P) (Ev a τ fun r τ1 => FzK r τ1 fun d τ2 => Ev (g d) τ2 fun _ τ3 => P .nx τ3) := ⟨ev_asg⟩
instance St.for__ {it : M (List Dt)} {g : Dt → M Unit} : St (Ev (sFor it g s) τ P) (Ev it τ fun ds τ1 => Ev (forG g s ds) τ1 P) := ⟨ev_for⟩
instance St.aug_ {f : Dt → Dt → Option R} [h : At τ i (.val d)] : St (Ev (sAug i f a) τ P) (Ev a τ fun r τ1 => FzK r τ1 fun e τ2 => ∃ z, f d e = some (.v z) ∧ ∃ u, τ2[i]? = some u ∧ Fre u ∧ P .nx (τ2.set i (.val z))) :=
  ⟨fun k => ev_aug h.eq (k.imp fun _ _ k => k.imp fun _ _ ⟨z, e1, u, e2, e3, q⟩ => ⟨z, u, e1, e2, e3, q⟩)⟩
/-! expressions -/
instance St.c_ : St (Ev (eC d) τ PR) (PR (.v d) τ) := ⟨ev_C⟩
instance St.vv_ [h : At τ i (.val d)] : St (Ev (eV i) τ PR) (PR (.v d) τ) := ⟨ev_V h.eq⟩
instance St.vo_ {x : Own} [h : At τ i (.own x)] : St (Ev (eV i) τ PR) (PR (.o i) τ) := ⟨ev_Vo h.eq⟩
instance St.vi_ {x : Own} [h : At τ i (.io x)] : St (Ev (eV i) τ PR) (PR (.o i) τ) := ⟨ev_Vi h.eq⟩
instance St.op_ {f : Dt → Dt → Option R} : St (Ev (eOp f a a2) τ PR) (Ev a τ fun x τ1 => Ev a2 τ1 fun y τ2 => OpK f x y τ2 PR) := ⟨ev_op⟩
instance St.un_ {f : Dt → Option R} : St (Ev (eUn f a) τ PR) (Ev a τ fun x τ1 => UnK f x τ1 PR) := ⟨ev_un⟩
instance St.fn_ {f : List Dt → Option R} : St (Ev (eFn f as) τ PR) (Ev as τ fun x τ1 => FnK f x τ1 PR) := ⟨ev_fn⟩
instance St.nil_ : St (Ev aNil τ PA) (PA [] τ) := ⟨ev_nil⟩
instance St.cons_ : St (Ev (aCons a as) τ PA) (Ev a τ fun x τ1 => Ev as τ1 fun xs τ2 => PA (x :: xs) τ2) := ⟨ev_cons⟩
instance St.F_ : St (Ev (eF a) τ PR) (Ev a τ fun x τ1 => FzK x τ1 fun d τ2 => PR (.v d) τ2) := ⟨ev_F⟩
instance St.fzv_ : St (FzK (.v d) τ PD) (PD d τ) := ⟨ev_fzv⟩
instance St.fznl_ : St (FzK (.n (.L ds)) τ PD) (PD (.list ds) τ) := ⟨fun h => ev_fzn h⟩
instance St.fzni_ : St (FzK (.n (.I c ks)) τ PD) (PD (.dict ((.none, .int c) :: ks)) τ) := ⟨fun h => ev_fzn h⟩
instance St.fzol_ [h : At τ i (.own (.L ds))] [k : SetC τ i (.val (.list ds)) τ'] : St (FzK (.o i) τ PD) (PD (.list ds) τ') := ⟨fun q => ev_fzo h.eq (by rw [show (Own.L ds).dt = .list ds from rfl, k.eq]; exact q)⟩
instance St.fzoi_ [h : At τ i (.own (.I c ks))] [k : SetC τ i (.val (.dict ((.none, .int c) :: ks))) τ'] : St (FzK (.o i) τ PD) (PD (.dict ((.none, .int c) :: ks)) τ') := ⟨fun q => ev_fzo h.eq (by rw [show (Own.I c ks).dt = .dict ((.none, .int c) :: ks) from rfl, k.eq]; exact q)⟩
instance St.tup_ : St (Ev (eTup as) τ PR) (Ev as τ fun rs τ1 => TupK rs fun r => PR r τ1) := ⟨ev_tup⟩
instance St.lst_ : St (Ev (eLst as) τ PR) (Ev as τ fun rs τ1 => LstK rs fun r => PR r τ1) := ⟨ev_lst⟩
instance St.tupk_ {Q : R → Prop} [h : RdsC rs ds] [k : LenC ds n] : St (TupK rs Q) (SideK (n ≤ 1000000) (Q (.v (.tuple ds)))) := ⟨fun ⟨h1, q⟩ => ⟨ds, h.eq, by rw [k.eq]; exact h1, q⟩⟩
instance St.lstk_ {Q : R → Prop} [h : RdsC rs ds] [k : LenC ds n] : St (LstK rs Q) (SideK (n ≤ 1000000) (Q (.n (.L ds)))) := ⟨fun ⟨h1, q⟩ => ⟨ds, h.eq, by rw [k.eq]; exact h1, q⟩⟩
instance St.tv_ : St (Ev (tVal a) τ PB) (Ev a τ fun r τ1 => BoolK r fun k => PB k τ1) := ⟨ev_tv⟩
instance St.boolk_ {Q : Bool → Prop} : St (BoolK (.v (.bool b)) Q) (Q b) := ⟨fun q => ⟨b, rfl, q⟩⟩
instance St.tru_ : St (Ev (tTru a) τ PB) (Ev a τ fun r τ1 => TruK r τ1 fun k => PB k τ1) := ⟨ev_tru⟩
instance St.truk_ {Q : Bool → Prop} [h : VwC τ x d] [k : TruC d b] : St (TruK x τ Q) (Q b) := ⟨fun q => ⟨d, b, h.eq, k.eq, q⟩⟩
instance St.tnot_ : St (Ev (tstNot t) τ PB) (Ev t τ fun k τ1 => PB (!k) τ1) := ⟨ev_tnot⟩
instance St.tor_ : St (Ev (tstOr t t2) τ PB) (Ev t τ fun k τ1 => IfK k (PB true τ1) (Ev t2 τ1 PB)) := ⟨ev_tor⟩
instance St.tand_ : St (Ev (tstAnd t t2) τ PB) (Ev t τ fun k τ1 => IfK k (Ev t2 τ1 PB) (PB false τ1)) := ⟨ev_tand⟩
instance St.not__ : St (Ev (eNot a) τ PR) (Ev a τ fun r τ1 => TruK r τ1 fun k => PR (.v (.bool !k)) τ1) := ⟨ev_not⟩
instance St.and__ : St (Ev (eAnd a a2) τ PR) (Ev a τ fun r τ1 => TruK r τ1 fun k => IfK k (Ev a2 τ1 PR) (PR r τ1)) := ⟨ev_and⟩
instance St.or__ : St (Ev (eOr a a2) τ PR) (Ev a τ fun r τ1 => TruK r τ1 fun k => IfK k (PR r τ1) (Ev a2 τ1 PR)) := ⟨ev_or⟩
instance St.ife_ : St (Ev (eIf t a a2) τ PR) (Ev t τ fun k τ1 => IfK k (Ev a τ1 PR) (Ev a2 τ1 PR)) := ⟨ev_if_⟩
instance St.lc_ {it : M (List Dt)} {vs : List Nat} {g : Dt → M Unit} : St (Ev (eLc it vs g t a) τ PR) (Ev it τ fun ds τ1 => Ev (lcG (lcT vs g t a) ds []) τ1 fun acc τ2 => PR (.n (.L acc)) τ2) := ⟨ev_lc⟩
instance St.yes_ {k : Bool} : St (Ev (fun τ => some (k, τ)) τ PB) (PB k τ) := ⟨ev_pure⟩
instance St.seqi_ : St (Ev (iSeqD a) τ PI) (Ev a τ fun r τ1 => FzK r τ1 fun d τ2 => ItK d fun ds => PI ds τ2) := ⟨ev_seqI⟩
instance St.itk_ {Q : List Dt → Prop} [h : AsQ d ds] : St (ItK d Q) (Q ds) := ⟨fun q => ⟨ds, h.eq, q⟩⟩
instance St.rng1_ : St (Ev (iRng1D as) τ PI) (Ev as τ fun rs τ1 => RngK rs τ1 fun ds => PI ds τ1) := ⟨ev_rng1⟩
instance St.rngk_ {Q : List Dt → Prop} [h : VwsC τ rs [.int p]] : St (RngK rs τ Q) (SideK (-1000000000000 ≤ p ∧ p ≤ 1000000000000) (Q ((List.range p.toNat).map fun (k : Nat) => PyData.int (k : Int)))) := ⟨fun ⟨h1, q⟩ => ⟨p, h.eq, h1, by rw [rng0]; exact q⟩⟩
instance St.en_ : St (Ev (iEnD as) τ PI) (Ev as τ fun rs τ1 => OneK rs fun d => ItK d fun ds => PI (enD 0 ds) τ1) := ⟨fun h => ev_en (h.imp fun _ _ ⟨d, e, ds, e2, q⟩ => ⟨d, ds, e, e2, q⟩)⟩
instance St.onek_ {Q : Dt → Prop} [h : RdsC rs [d]] : St (OneK rs Q) (Q d) := ⟨fun q => ⟨d, h.eq, q⟩⟩
instance St.rv_ : St (Ev (iRvD a) τ PI) (Ev a τ fun r τ1 => FzK r τ1 fun d τ2 => ItK d fun ds => PI ds.reverse τ2) := ⟨ev_rv⟩
instance St.call_ {f : List SD → Option (R × List SD)} : St (Ev (mb as (callD f [])) τ PR) (Ev as τ fun rs τ1 => CalK f rs τ1 PR) := ⟨ev_callU⟩
instance St.calk_ {f : List SD → Option (R × List SD)} {xs : List SD} [h : ArgsC τ rs xs] : St (CalK f rs τ PR) (CallU f rs xs τ PR) := ⟨fun q => ⟨xs, h.eq, q⟩⟩
instance St.app_ : St (Ev (eApp i as) τ PR) (SideK (∃ l, ownAt τ i = some (.L l)) (Ev as τ fun rs τ1 => AppK i rs τ1 PR)) := ⟨fun ⟨⟨l, e⟩, h⟩ => ev_app ⟨l, e, h.imp fun _ _ ⟨ds, d, e1, e2, e3, q⟩ => ⟨ds, d, e1, e2, e3, q⟩⟩⟩
instance St.sideown_ {l : List Dt} {Q : Prop} [h : OwnC τ i (.L l)] : St (SideK (∃ l, ownAt τ i = some (.L l)) Q) Q := ⟨fun q => ⟨⟨l, h.eq⟩, q⟩⟩
instance (priority := low) St.appk_ [h : OwnC τ i (.L ds)] [h2 : RdsC rs [d]] [k : OwnSetC τ i (.L (ds ++ [d])) τ'] [l : LenC ds n] : St (AppK i rs τ PR) (SideK (n < 1000000) (PR (.v .none) τ')) := ⟨fun ⟨h1, q⟩ => ⟨ds, d, h.eq, h2.eq, by rw [l.eq]; exact h1, by rw [k.eq]; exact q⟩⟩
instance St.appi_ {l : List Int} [h : OwnC τ i (.L (l.map .int))] [h2 : RdsC rs [.int p]] [k : OwnSetC τ i (.L ((l ++ [p]).map .int)) τ'] : St (AppK i rs τ PR) (SideK (l.length < 1000000) (PR (.v .none) τ')) := ⟨fun ⟨h1, q⟩ => ⟨_, _, h.eq, h2.eq, by rw [List.length_map]; exact h1, by rw [show l.map PyData.int ++ [PyData.int p] = (l ++ [p]).map .int by rw [List.map_append]; rfl, k.eq]; exact q⟩⟩
instance St.fld_ {f : Str} : St (Ev (eFld c f a) τ PR) (Ev a τ fun r τ1 => FldK c f r τ1 fun r => PR r τ1) := ⟨ev_fld⟩
class LookC (f : Str) (ks : List (Dt × Dt)) (d : outParam Dt) : Prop where
  eq : lookK f ks = some d
instance LookC.z_ {f : Str} : LookC f ((.str f, d) :: ks) d := ⟨by unfold lookK; rw [if_pos (by simp)]⟩
instance St.fldk_ {f : Str} {Q : R → Prop} [h : VwC τ x (.dict ((.none, .int (c : Int)) :: ks))] [k : LookC f ks d] : St (FldK c f x τ Q) (Q (.v d)) := ⟨fun q => ⟨ks, d, h.eq, k.eq, q⟩⟩
instance St.meth_ {m : Str} {f : List SD → Option (R × List SD)} : St (Ev (eMeth c m f [] a as) τ PR) (Ev a τ fun r τ1 => FzK r τ1 fun d τ2 => Ev as τ2 fun rs τ3 => MethK c m f d rs τ3 PR) := ⟨ev_methA⟩
instance St.leno_ {f : List SD → Option (R × List SD)} : St (Ev (eLenO c f a) τ PR) (Ev a τ fun r τ1 => FzK r τ1 fun d τ2 => LenOK c f d τ2 PR) := ⟨ev_lenOA⟩
instance St.revA_ : St (Ev (eRevA a) τ PR) (Ev a τ fun r τ1 => UnK revD r τ1 PR) := ⟨ev_revA⟩
instance St.sl_ {lo hi : M (Option Int)} : St (Ev (eSl a lo hi) τ PR) (Ev a τ fun r τ1 => Ev lo τ1 fun l τ2 => Ev hi τ2 fun u τ3 => SlK r l u τ3 PR) := ⟨ev_sl⟩
instance St.on_ : St (Ev oNone τ PO) (PO none τ) := ⟨ev_oNone⟩
instance St.os_ : St (Ev (oSome a) τ PO) (Ev a τ fun r τ1 => IntK r τ1 fun i => PO (some i) τ1) := ⟨ev_oSome⟩
instance St.intk_ {Q : Int → Prop} [h : VwC τ x (.int p)] : St (IntK x τ Q) (Q p) := ⟨fun q => ⟨p, h.eq, q⟩⟩
instance St.is__ {T : Ty} : St (Ev (eIs T a) τ PR) (Ev a τ fun r τ1 => IsK T r τ1 fun r => PR r τ1) := ⟨ev_is⟩
class TyC (T : Ty) (d : Dt) (b : outParam Bool) : Prop where
  eq : notObj d = true ∧ isTy T d = b
instance TyC.bb_ : TyC .bool (.bool b) true := ⟨rfl, rfl⟩
instance TyC.bi_ : TyC .bool (.int p) false := ⟨rfl, rfl⟩
instance TyC.ii_ : TyC .int (.int p) true := ⟨rfl, rfl⟩
instance TyC.ib_ : TyC .int (.bool b) true := ⟨rfl, rfl⟩
instance TyC.ll_ : TyC .list (.list ds) true := ⟨rfl, rfl⟩
instance TyC.ln_ : TyC .list .none false := ⟨rfl, rfl⟩
instance TyC.tt_ [h : AsT d ds] : TyC .tuple d true := ⟨by rw [h.eq]; exact ⟨rfl, rfl⟩⟩
instance TyC.lt_ [h : AsT d ds] : TyC .list d false := ⟨by rw [h.eq]; exact ⟨rfl, rfl⟩⟩
instance TyC.tl_ : TyC .tuple (.list ds) false := ⟨rfl, rfl⟩
instance TyC.ss_ {z : Str} : TyC .str (.str z) true := ⟨rfl, rfl⟩
instance St.isk_ {T : Ty} {Q : R → Prop} [h : VwC τ x d] [k : TyC T d b] : St (IsK T x τ Q) (Q (.v (.bool b))) := ⟨fun q => ⟨d, h.eq, k.eq.1, by rw [k.eq.2]; exact q⟩⟩
/-! operators -/
section
variable [hx : VwC τ x (.int p)] [hy : VwC τ y (.int q)]
instance St.addi_ : St (OpK addD x y τ PR) (PR (.v (.int (p + q))) τ) := ⟨fun h => ⟨_, _, _, hx.eq, hy.eq, rfl, h⟩⟩
instance St.subi_ : St (OpK subD x y τ PR) (PR (.v (.int (p - q))) τ) := ⟨fun h => ⟨_, _, _, hx.eq, hy.eq, rfl, h⟩⟩
instance St.muli_ : St (OpK mulD x y τ PR) (SideK (p.natAbs < 18446744073709551616 ∨ q.natAbs < 18446744073709551616) (PR (.v (.int (p * q))) τ)) := ⟨fun ⟨h1, h⟩ => ⟨_, _, _, hx.eq, hy.eq, if_pos (by unfold mulOk; rcases h1 with c | c <;> simp [c]), h⟩⟩
instance St.modi_ : St (OpK modD x y τ PR) (SideK (0 < q) (PR (.v (.int (p % q))) τ)) := ⟨fun ⟨h1, h⟩ => ⟨_, _, .v (.int (p % q)), hx.eq, hy.eq, if_pos h1, h⟩⟩
instance St.fdvi_ : St (OpK fdvD x y τ PR) (SideK (0 < q ∧ q.natAbs < 18446744073709551616) (PR (.v (.int (p / q))) τ)) := ⟨fun ⟨h1, h⟩ => ⟨_, _, .v (.int (p / q)), hx.eq, hy.eq, by
    show (if q ≠ 0 ∧ isSm q = true then some (R.v (.int (p.fdiv q))) else none) = _
    rw [if_pos ⟨by omega, sm_lt h1.2⟩, Int.fdiv_eq_ediv_of_nonneg _ (by omega)], h⟩⟩
instance St.lti_ : St (OpK ltD x y τ PR) (PR (.v (.bool (decide (p < q)))) τ) := ⟨fun h => ⟨_, _, _, hx.eq, hy.eq, rfl, h⟩⟩
instance St.lei_ : St (OpK leD x y τ PR) (PR (.v (.bool (decide (p ≤ q)))) τ) := ⟨fun h => ⟨_, _, _, hx.eq, hy.eq, rfl, h⟩⟩
instance St.gti_ : St (OpK gtD x y τ PR) (PR (.v (.bool (decide (q < p)))) τ) := ⟨fun h => ⟨_, _, _, hx.eq, hy.eq, rfl, h⟩⟩
instance St.gei_ : St (OpK geD x y τ PR) (PR (.v (.bool (decide (q ≤ p)))) τ) := ⟨fun h => ⟨_, _, _, hx.eq, hy.eq, rfl, h⟩⟩
instance (priority := high) St.eqi_ : St (OpK eqD x y τ PR) (PR (.v (.bool (decide (p = q)))) τ) := ⟨fun h => ⟨_, _, .v (.bool (decide (p = q))), hx.eq, hy.eq, by show some (R.v (.bool (PyData.eqv (.int p) (.int q)))) = _; rw [eqv_ii'], h⟩⟩
instance (priority := high) St.nei_ : St (OpK neD x y τ PR) (PR (.v (.bool (!decide (p = q)))) τ) := ⟨fun h => ⟨_, _, .v (.bool (!decide (p = q))), hx.eq, hy.eq, by show some (R.v (.bool (!PyData.eqv (.int p) (.int q)))) = _; rw [eqv_ii'], h⟩⟩
end
instance St.negi_ [hx : VwC τ x (.int p)] : St (UnK negD x τ PR) (PR (.v (.int (-p))) τ) := ⟨fun h => ⟨_, _, hx.eq, rfl, h⟩⟩
instance (priority := low) St.addt_ {a b : Dt} {m : Nat} [hx : VwC τ x a] [hy : VwC τ y b] [ha : AsT a ds] [hb : AsT b es] [hl : LenC ds n] [hm : LenC es m] : St (OpK addD x y τ PR) (SideK (n + m ≤ 1000000) (PR (.v (.tuple (ds ++ es))) τ)) :=
  ⟨fun ⟨h1, h⟩ => ⟨.tuple ds, .tuple es, .v (.tuple (ds ++ es)), by rw [hx.eq, ha.eq], by rw [hy.eq, hb.eq], if_pos (by rw [hl.eq, hm.eq]; exact h1), h⟩⟩
instance St.addl_ {m : Nat} [hx : VwC τ x (.list ds)] [hy : VwC τ y (.list es)] [hl : LenC ds n] [hm : LenC es m] : St (OpK addD x y τ PR) (SideK (n + m ≤ 1000000) (PR (.n (.L (ds ++ es))) τ)) :=
  ⟨fun ⟨h1, h⟩ => ⟨_, _, .n (.L (ds ++ es)), hx.eq, hy.eq, if_pos (by rw [hl.eq, hm.eq]; exact h1), h⟩⟩
instance St.isn_ [hx : VwC τ x d] [hy : VwC τ y .none] [k : IsNC d b] : St (OpK isD x y τ PR) (PR (.v (.bool b)) τ) := ⟨fun h => ⟨_, _, .v (.bool b), hx.eq, hy.eq, by rw [← k.eq]; cases d <;> rfl, h⟩⟩
instance St.isnn_ [hx : VwC τ x d] [hy : VwC τ y .none] [k : IsNC d b] : St (OpK isnD x y τ PR) (PR (.v (.bool (!b))) τ) := ⟨fun h => ⟨_, _, .v (.bool (!b)), hx.eq, hy.eq, by rw [← k.eq]; cases d <;> rfl, h⟩⟩
instance St.ixl_ [hx : VwC τ x (.list ds)] [hy : VwC τ y (.int p)] [k : IxC ds p d] : St (OpK ixD x y τ PR) (PR (.v d) τ) := ⟨fun h => ⟨_, _, .v d, hx.eq, hy.eq, by show (L2.atI ds p).map R.v = _; rw [k.eq]; rfl, h⟩⟩
instance St.ixt_ [hx : VwC τ x e] [ha : AsT e ds] [hy : VwC τ y (.int p)] [k : IxC ds p d] : St (OpK ixD x y τ PR) (PR (.v d) τ) := ⟨fun h => ⟨.tuple ds, _, .v d, by rw [hx.eq, ha.eq], hy.eq, by show (L2.atI ds p).map R.v = _; rw [k.eq]; rfl, h⟩⟩
theorem OpK.ixl [hx : VwC τ x (.list ds)] [hy : VwC τ y (.int p)] (k : L2.atI ds p = some d) (h : PR (.v d) τ) : OpK ixD x y τ PR := ⟨_, _, .v d, hx.eq, hy.eq, by show (L2.atI ds p).map R.v = _; rw [k]; rfl, h⟩
theorem OpK.ixt [hx : VwC τ x e] [ha : AsT e ds] [hy : VwC τ y (.int p)] (k : L2.atI ds p = some d) (h : PR (.v d) τ) : OpK ixD x y τ PR := ⟨.tuple ds, _, .v d, by rw [hx.eq, ha.eq], hy.eq, by show (L2.atI ds p).map R.v = _; rw [k]; rfl, h⟩
/-- both data alike by what they are -/
theorem OpK.eq {k m : Nat} [hx : VwC τ x d] [hy : VwC τ y e] [h1 : ShC d k] [h2 : ShC e m] (hk : k ≤ 64) (hm : m ≤ 64) (h : PR (.v (.bool (PyData.eqv d e))) τ) : OpK eqD x y τ PR := ⟨_, _, .v (.bool (PyData.eqv d e)), hx.eq, hy.eq, by unfold eqD; rw [h1.eq.shaped hk, h2.eq.shaped hm]; rfl, h⟩
theorem OpK.ne {k m : Nat} [hx : VwC τ x d] [hy : VwC τ y e] [h1 : ShC d k] [h2 : ShC e m] (hk : k ≤ 64) (hm : m ≤ 64) (h : PR (.v (.bool (!PyData.eqv d e))) τ) : OpK neD x y τ PR := ⟨_, _, .v (.bool (!PyData.eqv d e)), hx.eq, hy.eq, by unfold neD; rw [h1.eq.shaped hk, h2.eq.shaped hm]; rfl, h⟩
theorem OpK.eqs {k : Nat} [hx : VwC τ x d] [hy : VwC τ y d] (s : Sh k d) (hk : k ≤ 64) (h : PR (.v (.bool true)) τ) : OpK eqD x y τ PR := ⟨_, _, .v (.bool true), hx.eq, hy.eq, by unfold eqD; rw [s.shaped hk, eqv_refl s.1]; rfl, h⟩
theorem OpK.nes {k : Nat} [hx : VwC τ x d] [hy : VwC τ y d] (s : Sh k d) (hk : k ≤ 64) (h : PR (.v (.bool false)) τ) : OpK neD x y τ PR := ⟨_, _, .v (.bool false), hx.eq, hy.eq, by unfold neD; rw [s.shaped hk, eqv_refl s.1]; rfl, h⟩
/-! built-ins -/
instance St.lenl_ [h : VwsC τ rs [.list ds]] [k : LenC ds n] : St (FnK lenD rs τ PR) (PR (.v (.int (n : Int))) τ) := ⟨fun q => ⟨_, _, h.eq, rfl, by rw [k.eq]; exact q⟩⟩
instance St.lent_ [h : VwsC τ rs [d]] [t : AsT d ds] [k : LenC ds n] : St (FnK lenD rs τ PR) (PR (.v (.int (n : Int))) τ) := ⟨fun q => ⟨[.tuple ds], _, by rw [h.eq, t.eq], rfl, by rw [k.eq]; exact q⟩⟩
instance St.tupl_ [h : VwsC τ rs [.list ds]] : St (FnK tupD rs τ PR) (PR (.v (.tuple ds)) τ) := ⟨fun q => ⟨_, _, h.eq, rfl, q⟩⟩
instance St.lstt_ [h : VwsC τ rs [d]] [t : AsT d ds] : St (FnK lstD rs τ PR) (PR (.n (.L ds)) τ) := ⟨fun q => ⟨[.tuple ds], _, by rw [h.eq, t.eq], rfl, q⟩⟩
instance St.lstl_ [h : VwsC τ rs [.list ds]] : St (FnK lstD rs τ PR) (PR (.n (.L ds)) τ) := ⟨fun q => ⟨_, _, h.eq, rfl, q⟩⟩
instance St.intb_ [h : VwsC τ rs [.bool b]] : St (FnK intD rs τ PR) (PR (.v (.int (if b = true then 1 else 0))) τ) := ⟨fun q => ⟨_, _, h.eq, rfl, q⟩⟩
instance St.inti_ [h : VwsC τ rs [.int p]] : St (FnK intD rs τ PR) (PR (.v (.int p)) τ) := ⟨fun q => ⟨_, _, h.eq, rfl, q⟩⟩
instance St.max2_ [h : VwsC τ rs [.int p, .int q]] : St (FnK max2D rs τ PR) (PR (.v (.int (if q > p then q else p))) τ) := ⟨fun z => ⟨_, _, h.eq, rfl, z⟩⟩
instance St.min2_ [h : VwsC τ rs [.int p, .int q]] : St (FnK min2D rs τ PR) (PR (.v (.int (if q < p then q else p))) τ) := ⟨fun z => ⟨_, _, h.eq, rfl, z⟩⟩
instance St.allb_ {bs : List Bool} [h : VwsC τ rs [.list (bs.map .bool)]] : St (FnK allD rs τ PR) (PR (.v (.bool (bs.all id))) τ) := ⟨fun q => ⟨_, .v (.bool (bs.all id)), h.eq, by show (boolsOf (bs.map .bool)).map _ = _; rw [boolsOf_map]; rfl, q⟩⟩
theorem FnK.mk {f : List Dt → Option R} [h : VwsC τ rs ds] (e : f ds = some x) (q : PR x τ) : FnK f rs τ PR := ⟨_, _, h.eq, e, q⟩
/-! slots -/
instance St.setv_ {Q : List SD → Prop} [h : At τ i u] [f : FreC u] [k : SetC τ i (.val d) τ'] : St (SetK i (.v d) τ Q) (Q τ') := ⟨fun q => setV h.eq f.fre (by rw [k.eq]; exact q)⟩
instance St.setn_ {X : Own} {Q : List SD → Prop} [h : At τ i u] [f : FreC u] [k : SetC τ i (.own X) τ'] : St (SetK i (.n X) τ Q) (Q τ') := ⟨fun q => setN h.eq f.fre (by rw [k.eq]; exact q)⟩
instance St.gn_ [h : At τ i u] [f : FreC u] [k : SetC τ i (.val d) τ'] : St (Ev (gN i d) τ PU) (PU () τ') := ⟨fun q => ev_gNf h.eq f.fre (by rw [k.eq]; exact q)⟩
instance St.gt_ {gs : List Dt → M Unit} [h : AsT d ds] [k : LenC ds n] : St (Ev (gT n gs d) τ PU) (Ev (gs ds) τ PU) := ⟨fun q => by rw [h.eq]; show Ev (if ds.length = n then gs ds else fun _ => none) τ PU; rw [if_pos k.eq]; exact q⟩
instance St.gsn_ : St (Ev (gsN []) τ PU) (PU () τ) := ⟨fun q => ⟨_, _, rfl, q⟩⟩
instance St.gsc_ {g : Dt → M Unit} {gs : List Dt → M Unit} : St (Ev (gsC g gs (d :: ds)) τ PU) (Ev (g d) τ fun _ τ1 => Ev (gs ds) τ1 PU) := ⟨fun q => ev_mb q⟩
/-! what a def hands back -/
instance St.finn_ {Q : R → List SD → Prop} : St (FinOk n Q .nx τ) (Q (.v .none) (τ.take n)) := ⟨id⟩
instance St.finv_ {Q : R → List SD → Prop} : St (FinOk n Q (.rt (.v d)) τ) (Q (.v d) (τ.take n)) := ⟨id⟩
instance St.finw_ {X : Own} {Q : R → List SD → Prop} : St (FinOk n Q (.rt (.n X)) τ) (Q (.n X) (τ.take n)) := ⟨id⟩
instance St.fino_ {X : Own} {Q : R → List SD → Prop} [h : At τ i (.own X)] : St (FinOk n Q (.rt (.o i)) τ) (Q (.n X) (τ.take n)) := ⟨fun q => .inr ⟨X, h.eq, q⟩⟩
instance St.finp_ {Q : R → List SD → Prop} [h : At τ i (.val d)] : St (FinOk n Q (.rt (.o i)) τ) (Q (.v d) (τ.take n)) := ⟨fun q => .inl ⟨d, h.eq, q⟩⟩
theorem ret_st {m : M Fl} {xs us τ0 : List SD} {r : R} [h1 : Uns n us] [h2 : CatC xs us τ0] (h : Ev m τ0 (FinOk xs.length fun r' _ => r' = r)) : Ret (runD n m) xs r := ret_run (by rw [h1.eq, h2.eq]; exact h)
theorem run_st {m : M Fl} {as us τ0 : List SD} {Q : R → List SD → Prop} [h1 : Uns n us] [h2 : CatC as us τ0] (h : Ev m τ0 (FinOk as.length Q)) : ∃ r as', runD n m as = some (r, as') ∧ Q r as' := ev_run (by rw [h1.eq, h2.eq]; exact h)
theorem CallU.jv {f : List SD → Option (R × List SD)} {xs as' : List SD} {X : Own} [k : OwnSetC τ j X τ'] (h : f xs = some (.v d, as')) (p : PR (.v d) τ') (h0 : ioOf 0 rs = [(i, j)] := by rfl) (h1 : as'[i]? = some (.io X) := by rfl) : CallU f rs xs τ PR := .iv h (by rw [k.eq]; exact p) h0 h1
theorem CallU.jn {f : List SD → Option (R × List SD)} {xs as' : List SD} {X Y : Own} [k : OwnSetC τ j X τ'] (h : f xs = some (.n Y, as')) (p : PR (.n Y) τ') (h0 : ioOf 0 rs = [(i, j)] := by rfl) (h1 : as'[i]? = some (.io X) := by rfl) : CallU f rs xs τ PR := .in_ h (by rw [k.eq]; exact p) h0 h1
end
end MR
end BW
--RAW
namespace BW
namespace MR
open PySem PySem.Spec PyProof.Rows L2
/-! ### walks, for the reader by classes -/
def LoopK (J : List SD → Prop) (P : Fl → List SD → Prop) : Fl → List SD → Prop
  | .nx, τ => J τ
  | .ct, τ => J τ
  | .bk, τ => P .nx τ
  | .rt r, τ => P (.rt r) τ
def TrueK (k : Bool) (Q : Prop) : Prop := k = true ∧ Q
section
variable {α : Type} {τ τ' τ0 τ1 : List SD} {J : List SD → Prop} {P : Fl → List SD → Prop} {Q : Prop} {r : R} {vs : List Nat} {v : Nat} {g : Dt → M Unit} {b : M Fl} {t : M Bool} {e : M R} {ds : List Dt}
instance St.loopn_ : St (LoopK J P .nx τ) (J τ) := ⟨id⟩
instance St.loopc_ : St (LoopK J P .ct τ) (J τ) := ⟨id⟩
instance St.loopb_ : St (LoopK J P .bk τ) (P .nx τ) := ⟨id⟩
instance St.loopr_ : St (LoopK J P (.rt r) τ) (P (.rt r) τ) := ⟨id⟩
instance St.true_ : St (TrueK true Q) Q := ⟨fun q => ⟨rfl, q⟩⟩
class WipeC (τ : List SD) (vs : List Nat) (τ' : outParam (List SD)) : Prop where
  eq : wipeD τ vs = τ'
instance WipeC.z_ : WipeC τ [] τ := ⟨rfl⟩
instance WipeC.s_ [h : WipeC τ vs τ0] [k : SetC τ0 v .un τ1] : WipeC τ (v :: vs) τ1 := ⟨by show (wipeD τ vs).set v .un = _; rw [h.eq, k.eq]⟩
theorem for_st (enc : α → Dt) (I : List α → List SD → Prop) {xs : List α} (hd : ds = xs.map enc) (h0 : I [] τ) (hz : ∀ τ, I xs τ → P .nx τ)
    (hs : ∀ pre x rest τ, xs = pre ++ x :: rest → I pre τ → Ev (g (enc x)) τ fun _ τ1 => Ev b τ1 (LoopK (I (pre ++ [x])) P)) : Ev (forG g b ds) τ P :=
  forG_xs enc I hd h0 hz fun pre x rest τ e h => (hs pre x rest τ e h).imp fun _ τ1 h => h.imp fun f τ2 h => by cases f <;> exact h
theorem while_st {c : M Bool} (W : Nat → List SD → Prop) (n : Nat) (h0 : W n τ) (hs : ∀ n τ, W n τ → Ev c τ fun k τ1 => IfK k (Ev b τ1 (LoopK (fun τ2 => ∃ m, m < n ∧ W m τ2) P)) (P .nx τ1)) : Ev (sWhile c b) τ P :=
  sWhile_ev W (fun n τ h => (hs n τ h).imp fun k τ1 h => by
    cases k with
    | true => exact (show Ev b τ1 (LoopK (fun τ2 => ∃ m, m < n ∧ W m τ2) P) from h).imp fun f τ2 h => by cases f <;> exact h
    | false => exact h) n h0
/-- one turn of a comprehension -/
theorem lcT_st {d : Dt} {PO : Option Dt → List SD → Prop} [w : WipeC τ vs τ0] (hw : okW τ vs = true) (h : Ev (g d) τ0 fun _ τ1 => Ev t τ1 fun k τ2 => IfK k (Ev (eF e) τ2 fun r τ3 => ∃ y, r = .v y ∧ PO (some y) (backD τ τ3 vs)) (PO none (backD τ τ2 vs))) : Ev (lcT vs g t e d) τ PO :=
  ev_lcT hw (by rw [w.eq]; exact h)
theorem map_st {PA : List Dt → List SD → Prop} [w : WipeC τ vs τ0] (enc : α → Dt) (f : α → Dt) {xs : List α} (hd : ds = xs.map enc) (hw : okW τ vs = true) (hl : xs.length ≤ 1000000) (hP : PA (xs.map f) τ)
    (hs : ∀ x ∈ xs, Ev (g (enc x)) τ0 fun _ τ1 => Ev t τ1 fun k τ2 => TrueK k (Ev (eF e) τ2 fun r τ3 => r = .v (f x) ∧ backD τ τ3 vs = τ)) : Ev (lcG (lcT vs g t e) ds []) τ PA :=
  lc_map enc f hd hw hl hP fun x hx => by rw [w.eq]; exact hs x hx
theorem filter_st {PA : List Dt → List SD → Prop} [w : WipeC τ vs τ0] (enc : α → Dt) (f : α → Dt) (p : α → Bool) {xs : List α} (hd : ds = xs.map enc) (hw : okW τ vs = true) (hl : xs.length ≤ 1000000) (hP : PA ((xs.filter p).map f) τ)
    (hs : ∀ x ∈ xs, Ev (g (enc x)) τ0 fun _ τ1 => Ev t τ1 fun k τ2 => k = p x ∧ if p x = true then Ev (eF e) τ2 fun r τ3 => r = .v (f x) ∧ backD τ τ3 vs = τ else backD τ τ2 vs = τ) : Ev (lcG (lcT vs g t e) ds []) τ PA :=
  lc_filter enc f p hd hw hl hP fun x hx => by rw [w.eq]; exact hs x hx
theorem lc_st {PA : List Dt → List SD → Prop} {T : Dt → M (Option Dt)} (enc : α → Dt) (I : List α → List Dt → List SD → Prop) {xs : List α} (hd : ds = xs.map enc) (h0 : I [] [] τ) (hz : ∀ acc τ, I xs acc τ → PA acc τ)
    (hs : ∀ pre x rest acc τ, xs = pre ++ x :: rest → I pre acc τ → Ev (T (enc x)) τ fun y τ1 => match y with | some y => acc.length < 1000000 ∧ I (pre ++ [x]) (acc ++ [y]) τ1 | none => I (pre ++ [x]) acc τ1) : Ev (lcG T ds []) τ PA := lc_xs enc I hd h0 hz hs
instance IxC.ml_ {f : α → Dt} {l : List α} {p : α} : IxC ((l ++ [p]).map f) (-1) (f p) := ⟨by rw [List.map_append]; exact atI_last⟩
instance St.powi_ {x y : R} {p q : Int} {PR : R → List SD → Prop} [hx : VwC τ x (.int p)] [hy : VwC τ y (.int q)] : St (OpK powD x y τ PR) (SideK (0 ≤ q ∧ q ≤ 1000 ∧ p.natAbs < 18446744073709551616) (PR (.v (.int (p ^ q.toNat))) τ)) := ⟨fun ⟨h1, h⟩ => ⟨_, _, .v (.int (p ^ q.toNat)), hx.eq, hy.eq, if_pos h1, h⟩⟩
section
variable {x : R} {PR : R → List SD → Prop} {p q : Int} {j k : Nat} {f : α → Dt} {l : List α}
theorem SlK.lfrom [hx : VwC τ x (.list (l.map f))] (hp : p = (j : Int)) (h : PR (.n (.L ((l.drop j).map f))) τ) : SlK x (some p) none τ PR := ⟨_, _, hx.eq, by subst hp; show some (R.n (.L _)) = _; rw [cut_from, ← List.map_drop], h⟩
theorem SlK.lto [hx : VwC τ x (.list (l.map f))] (hp : p = (j : Int)) (h : PR (.n (.L ((l.take j).map f))) τ) : SlK x none (some p) τ PR := ⟨_, _, hx.eq, by subst hp; show some (R.n (.L _)) = _; rw [cut_to, ← List.map_take], h⟩
theorem SlK.lmid [hx : VwC τ x (.list (l.map f))] (hp : p = (j : Int)) (hq : q = ((j + k : Nat) : Int)) (h : PR (.n (.L (((l.drop j).take k).map f))) τ) : SlK x (some p) (some q) τ PR := ⟨_, _, hx.eq, by subst hp; subst hq; show some (R.n (.L _)) = _; rw [cut_mid (by omega), Nat.add_sub_cancel_left, ← List.map_drop, ← List.map_take], h⟩
end
def RgLK (r : R) (τ : List SD) (PR : R → List SD → Prop) : Prop := ∃ j, vw τ r = some (.int j) ∧ (0 ≤ j ∧ j ≤ 16777216) ∧ PR (.n (.L (rngD 0 j.toNat))) τ
def zts (n : Nat) : List Int := (List.range n).map fun i : Nat => (i : Int)
theorem rng_zts {n : Nat} : rngD 0 n = (zts n).map .int := by
  rw [rng0]
  unfold zts
  rw [List.map_map]
  rfl
theorem mem_zts {n : Nat} {m : Int} : m ∈ zts n ↔ 0 ≤ m ∧ m < n := by
  unfold zts
  rw [List.mem_map]
  constructor
  · rintro ⟨i, hi, rfl⟩
    have := List.mem_range.mp hi
    omega
  · intro h
    exact ⟨m.toNat, List.mem_range.mpr (by omega), by omega⟩
theorem zts_len {n : Nat} : (zts n).length = n := by
  unfold zts
  rw [List.length_map, List.length_range]
instance St.lrg_ {a : M R} {PR : R → List SD → Prop} : St (Ev (eLstRg a) τ PR) (Ev a τ fun r τ1 => RgLK r τ1 PR) := ⟨ev_listRg⟩
instance St.lrgk_ {PR : R → List SD → Prop} {p : Int} [h : VwC τ r (.int p)] : St (RgLK r τ PR) (SideK (0 ≤ p ∧ p ≤ 16777216) (PR (.n (.L ((zts p.toNat).map .int))) τ)) := ⟨fun ⟨h1, q⟩ => ⟨p, h.eq, h1, by rw [rng_zts]; exact q⟩⟩
/-- C(..) -/
def MakeK (c : Nat) (f : List SD → Option (R × List SD)) (ds : List Dt) (P : R → Prop) : Prop := ∃ ks, (∃ as', f (.io (.I c []) :: ds.map .val) = some (.v .none, .io (.I c ks) :: as')) ∧ P (.n (.I c ks))
instance St.make_ {c : Nat} {f : List SD → Option (R × List SD)} {as : M (List R)} {PR : R → List SD → Prop} : St (Ev (eMake c f as) τ PR) (Ev as τ fun rs τ1 => ∃ ds, rds rs = some ds ∧ MakeK c f ds fun r => PR r τ1) := ⟨fun h => ev_makeA h⟩
instance St.rdsx_ {rs : List R} {ds : List Dt} {Q : List Dt → Prop} [h : RdsC rs ds] : St (∃ ds, rds rs = some ds ∧ Q ds) (Q ds) := ⟨fun q => ⟨ds, h.eq, q⟩⟩
theorem MakeK.mk {c : Nat} {f : List SD → Option (R × List SD)} {ds : List Dt} {P : R → Prop} {ks : List (Dt × Dt)} {as' : List SD} (h : f (.io (.I c []) :: ds.map .val) = some (.v .none, .io (.I c ks) :: as')) (p : P (.n (.I c ks))) : MakeK c f ds P := ⟨ks, ⟨as', h⟩, p⟩
/-- xs.pop() -/
theorem pop_st {i : Nat} {ds : List Dt} {d : Dt} {PR : R → List SD → Prop} [h : OwnC τ i (.L (ds ++ [d]))] [k : OwnSetC τ i (.L ds) τ'] (p : PR (.v d) τ') : Ev (ePop i) τ PR := ev_pop h.eq (by rw [k.eq]; exact p)
/-- xs.index(k) -/
def BmK (f : List Int → Int → Option Int) (d : Dt) (rs : List R) (τ : List SD) (PR : R → List SD → Prop) : Prop := ∃ (ns : List Int) (k j : Int), d = .list (ns.map .int) ∧ vws τ rs = some [.int k] ∧ f ns k = some j ∧ PR (.v (.int j)) τ
instance St.bm_ {f : List Int → Int → Option Int} {a : M R} {as : M (List R)} {PR : R → List SD → Prop} : St (Ev (eBm f a as) τ PR) (Ev a τ fun r τ1 => FzK r τ1 fun d τ2 => Ev as τ2 fun rs τ3 => BmK f d rs τ3 PR) := ⟨fun h => ev_bm h⟩
theorem BmK.mk {f : List Int → Int → Option Int} {ns : List Int} {rs : List R} {p j : Int} {PR : R → List SD → Prop} [h : VwsC τ rs [.int p]] (e : f ns p = some j) (q : PR (.v (.int j)) τ) : BmK f (.list (ns.map .int)) rs τ PR := ⟨ns, p, j, rfl, h.eq, e, q⟩
instance St.cnt_ {ns : List Int} {rs : List R} {p : Int} {PR : R → List SD → Prop} [h : VwsC τ rs [.int p]] : St (BmK cntF (.list (ns.map .int)) rs τ PR) (PR (.v (.int (ns.count p : Nat))) τ) := ⟨fun q => ⟨ns, p, _, rfl, h.eq, rfl, q⟩⟩
/-- xs[k] = e -/
def StoK (i : Nat) (r : R) (d : Dt) (τ : List SD) (P : List SD → Prop) : Prop := ∃ ds k j, ownAt τ i = some (.L ds) ∧ vw τ r = some (.int k) ∧ ixN ds.length k = some j ∧ P (ownSet τ i (.L (ds.set j d)))
instance St.gix_ {i : Nat} {ix : M R} {d : Dt} {PU : Unit → List SD → Prop} {l : List Dt} [h : OwnC τ i (.L l)] : St (Ev (gIx i ix d) τ PU) (Ev ix τ fun r τ1 => StoK i r d τ1 (PU ())) := ⟨fun q => ev_gIx ⟨l, h.eq, q⟩⟩
theorem StoK.mk {i j : Nat} {d : Dt} {k : Int} {P : List SD → Prop} [h : OwnC τ i (.L ds)] [hv : VwC τ r (.int k)] (e : ixN ds.length k = some j) [o : OwnSetC τ i (.L (ds.set j d)) τ'] (p : P τ') : StoK i r d τ P := ⟨ds, k, j, h.eq, hv.eq, e, by rw [o.eq]; exact p⟩
instance St.sto0_ {i : Nat} {d a : Dt} {P : List SD → Prop} [h : OwnC τ i (.L (a :: ds))] [hv : VwC τ r (.int 0)] [o : OwnSetC τ i (.L (d :: ds)) τ'] : St (StoK i r d τ P) (P τ') := ⟨fun p => ⟨a :: ds, 0, 0, h.eq, hv.eq, by unfold L2.ixN; simp, by rw [List.set_cons_zero, o.eq]; exact p⟩⟩
instance St.stol_ {i : Nat} {d a : Dt} {P : List SD → Prop} [h : OwnC τ i (.L (ds ++ [a]))] [hv : VwC τ r (.int (-1))] [o : OwnSetC τ i (.L (ds ++ [d])) τ'] : St (StoK i r d τ P) (P τ') := ⟨fun p => ⟨ds ++ [a], -1, ds.length, h.eq, hv.eq, by unfold L2.ixN; rw [if_neg (by decide), List.length_append, List.length_singleton, if_pos (by omega)]; congr 1; omega, by rw [List.set_append_right _ _ (Nat.le_refl _), Nat.sub_self, List.set_cons_zero, o.eq]; exact p⟩⟩
/-- a slot whose thing is for good already or not yet -/
theorem fz_st {i : Nat} {x : Own} {PD : Dt → List SD → Prop} (h : τ[i]? = some (.own x) ∨ τ[i]? = some (.val x.dt)) [k : SetC τ i (.val x.dt) τ'] (q : PD x.dt τ') : Ev (eV i) τ fun r τ1 => FzK r τ1 PD := fz_any h (by rw [k.eq]; exact q)
end
end MR
end BW
--RAW
namespace BW
namespace SRT
open PySem PySem.Spec PyProof.Rows L2
/-! ### sorted(xs), xs a list or a tuple of whole numbers -/
section
variable {prog : Program} {w : World} {A : Around} {E : Value → Shared → Prop} {s : Shared}
theorem gather_tup {t : Addr} {ys : List Value} {W : List Value → Shared → Prop} (ht : IsTup s.heap t ys.toArray) (hz : ys.length ≤ sizeLine)
    (hW : W ys { s with heap := (s.heap.push (seqObj "list" #[] 0)).update s.heap.objs.size (Obj.mapSeq (· ++ ys.toArray)) }) : wpAny (model prog w) A (collect (.ref t)) W E s := by
  obtain ⟨u, hu, hcl, n, hdt⟩ := id ht
  unfold collect
  refine wpAny_bind (wpAny_runValue (codeAny_builtin entry_proto_collect' ?_)); show wpAny _ _ (do again (.builtin "list.__iadd__" ⟨[← newList [], .ref t], []⟩)) _ _ s
  refine wpAny_bind (wpAny_newList (wpAny_pure ⟨Code.quiet_builtin _ (by decide +kernel), codeAny_builtin entry_list_iadd' ?_⟩)); show wpAny _ _ (Builtin.List.listExtendWith (.ref s.heap.objs.size) (.ref t) (.ref s.heap.objs.size)) _ _ { s with heap := s.heap.push (seqObj "list" #[] 0) }
  have hu' : (s.heap.push (seqObj "list" #[] 0)).get? t = some u := Heap.get?_push_of_some _ hu
  unfold Builtin.List.listExtendWith; refine wpAny_bind (wpAny_typeOf (T := "tuple") ⟨u, hu', hcl⟩ ?_)
  have tt : (Value.type "tuple" == Value.type "tuple") = true := by rfl
  rw [if_pos (by rw [tt]; simp)]; refine wpAny_bind (listItems_at hu' hdt (wpAny_bind (listItems_at (xs := #[]) (n := 0) (Heap.get?_push_size _ rfl) rfl ?_)))
  rw [if_neg (by simp)]; refine wpAny_bind (listUpdate_at (xs := #[]) (n := 0) (Heap.get?_push_size _ rfl) rfl (wpAny_pure ?_) (Nat.zero_le _) (by show (#[] ++ ys.toArray).size ≤ sizeLine + 1; simp only [Array.size_append, List.size_toArray, List.length_nil]; omega))
  show wpAny (model prog w) A (do let o ← load s.heap.objs.size; match o.data with | .seq xs _ => pure xs.toList | _ => unsupported "internal:collect") W E { s with heap := (s.heap.push (seqObj "list" #[] 0)).update s.heap.objs.size (Obj.mapSeq (· ++ ys.toArray)) }
  refine wpAny_bind (wpAny_load (get?_update_seq (Heap.get?_push_size _ rfl) _) ?_); show wpAny _ _ (pure ((#[] : Array Value) ++ ys.toArray).toList) W E _
  rw [show ((#[] : Array Value) ++ ys.toArray).toList = ys by simp]; exact wpAny_pure hW
theorem sort_tup {t : Addr} {ys : List Value} {ltv : Value → Value → Bool} {W : Value → Shared → Prop} (O : SrtO.Swo ltv) (ht : IsTup s.heap t ys.toArray) (hz : ys.length ≤ sizeLine)
    (hS : 2 ≤ ys.length → ∀ (g : Heap) (b : Addr), g.get? b = some (seqObj "list" ys.toArray 0) → (∀ c o, s.heap.get? c = some o → c ≠ b ∧ g.get? c = some o) → SrtO.SortableO prog w A.in1.in1 { s with heap := g } b ys ltv)
    (hW : ∀ out : List Value, SrtO.Srtd ltv out → SrtO.Stb ltv out ys → W (.ref (s.heap.objs.size + 1)) { s with heap := sortedAll s.heap ys out.toArray }) : wpAny (model prog w) A (call (.builtin "sorted") [.ref t]) W E s := by
  refine Calls.call_function_entry kind_sorted plain_sorted entry_sorted (args_sorted1 _) ?_; unfold Builtin.«sorted»
  refine wpAny_bind (m := checkCount "sorted" 1 1 _) (wpAny_pure (wpAny_bind (gather_tup ht hz (wpAny_bind (wpAny_newList ?_ hz)))))
  have sz : ((s.heap.push (seqObj "list" #[] 0)).update s.heap.objs.size (Obj.mapSeq (· ++ ys.toArray))).objs.size = s.heap.objs.size + 1 := (Heap.size_update _ _ _).trans (size_push' _ _)
  have hob : (((s.heap.push (seqObj "list" #[] 0)).update s.heap.objs.size (Obj.mapSeq (· ++ ys.toArray))).push (seqObj "list" ys.toArray 0)).get? (s.heap.objs.size + 1) = some (seqObj "list" ys.toArray 0) := by rw [← sz]; exact Heap.get?_push_size _ rfl
  have keep : ∀ c o, s.heap.get? c = some o → c ≠ s.heap.objs.size + 1 ∧ (((s.heap.push (seqObj "list" #[] 0)).update s.heap.objs.size (Obj.mapSeq (· ++ ys.toArray))).push (seqObj "list" ys.toArray 0)).get? c = some o := by
    intro c o q; have lt : c < s.heap.objs.size := Heap.lt_size q
    refine ⟨Nat.ne_of_lt (Nat.lt_succ_of_lt lt), Heap.get?_push_of_some _ ((Heap.get?_update_ne _ _ _ _ (Nat.ne_of_lt lt)).trans (Heap.get?_push_of_some _ q))⟩
  show wpAny _ _ _ _ _ { s with heap := ((s.heap.push (seqObj "list" #[] 0)).update s.heap.objs.size (Obj.mapSeq (· ++ ys.toArray))).push (seqObj "list" ys.toArray 0) }
  rw [sz]; refine wpAny_bind (wpAny_holding (wpAny_call_entry slot_list_sort ⟨_, hob, rfl⟩ entry_list_sort (SrtO.list_sort_ord O hob hz (fun h2 => hS h2 _ _ hob keep) fun out hs hb => ⟨_, rfl, wpAny_pure ⟨_, rfl, hW out hs hb⟩⟩) (args_list_sort _)))
end
section
variable {X : Cx}
def rSortA (K : PySem.W.Frag) : List V → Hp → VK → Prop := fun vs H Q => ∃ (a : Addr) (ns : List Int), vs = [V.ref a] ∧ (SqL K H a (ns.map V.int) ∨ SqT K H a (ns.map V.int)) ∧ ∀ (ms : List Int) (p : Addr), ms.Perm ns → ms.Pairwise (· ≤ ·) → H p = none → Q (.ref p) (upd H p (.lst (ms.map V.int)))
theorem cr_sortA : CallR X (.builtin "sorted") (rSortA X.K) := by
  intro pins s σ H vs us Q I r h
  obtain ⟨a, ns, rfl, hs, q⟩ := h
  rcases hs with hs | hs
  · exact cr_sortedI pins s σ H _ us Q I r ⟨a, ns, rfl, hs, q⟩
  · obtain ⟨its, rv, ht, hz⟩ := I.tuple hs
    rw [Vals.ref1 r]; have hi := rv.ints
    refine sort_tup SrtO.swo_int ht (by rw [← rv.length]; exact hz) (fun h2 g b _ _ => SrtO.ints_sortable hi h2) fun out h1 h2 => ?_
    obtain ⟨k1, k2, k3⟩ := SrtO.ints_out hi h1 h2; obtain ⟨ep, he'⟩ := PyProof.Rows.sortedAll_at s.heap its out.toArray
    have hl : ((out.map SrtO.iv).map V.int).length ≤ sizeLine := by rw [List.length_map, k2.length_eq]; rwa [List.length_map] at hz
    exact ⟨.ref _, upd H (s.heap.objs.size + 1) (.lst ((out.map SrtO.iv).map V.int)), I.laid (t' := s.toks) (fun _ _ => PyProof.Rows.sortedAll_old) (Nat.le_succ _) ⟨hl, out, ep, vals_of_ints k1, he'⟩, rfl, q _ _ k2 k3 (I.hok.fresh (Nat.le_succ _))⟩
end
end SRT
namespace MR
open PySem PySem.Spec PyProof.Rows L2
/-- the whole numbers, rising -/
def rising (ns : List Int) : List Int := ns.mergeSort (fun a b => decide (a ≤ b))
theorem rising_perm (ns : List Int) : (rising ns).Perm ns := List.mergeSort_perm _ _
theorem rising_sorted (ns : List Int) : (rising ns).Pairwise (· ≤ ·) := by
  have h := List.pairwise_mergeSort (le := fun (a b : Int) => decide (a ≤ b)) (fun a b c h1 h2 => by simp only [decide_eq_true_eq] at *; omega) (fun a b => by simp only [Bool.or_eq_true, decide_eq_true_eq]; omega) ns
  exact h.imp fun h => of_decide_eq_true h
theorem rising_is {ms ns : List Int} (h : ms.Perm ns) (s : ms.Pairwise (· ≤ ·)) : ms = rising ns := by
  refine List.Perm.eq_of_pairwise (le := fun (a b : Int) => a ≤ b) ?_ s (rising_sorted ns) (h.trans (rising_perm ns).symm)
  intro a b _ _ h1 h2
  exact Int.le_antisymm h1 h2
noncomputable def sortD : List Dt → Option R
  | [.list ds] => (intsOf ds).map fun ns => .n (.L ((rising ns).map .int))
  | [.tuple ds] => (intsOf ds).map fun ns => .n (.L ((rising ns).map .int))
  | _ => none
section
variable {K : PySem.W.Frag} {C : Cl}
theorem fj_sort : FnJ K C (SRT.rSortA K) sortD := by
  intro B O σ H F τ xs ds res R h e Q q
  unfold sortD at e
  split at e
  · obtain ⟨ns, e1, e2⟩ := Option.map_eq_some_iff.mp e
    cases e2
    obtain ⟨x, rfl, hv⟩ := paired1 h
    obtain ⟨p, vs, rfl, h1, r1⟩ := hv.list R.sub
    refine ⟨p, ns, rfl, .inl ?_, fun ms p' h2 h3 np => ?_⟩
    · have := RpA.ints (K := K) (C := C) (F := F) (v := vs) (ns := ns) (by rw [← intsOf_ok e1]; exact r1)
      rw [← this]; exact h1
    · rw [rising_is h2 h3]
      exact fin_lst R (RpA.ofInts _) q p' _ np (same_new np) upd_same
  · obtain ⟨ns, e1, e2⟩ := Option.map_eq_some_iff.mp e
    cases e2
    obtain ⟨x, rfl, hv⟩ := paired1 h
    obtain ⟨p, vs, rfl, h1, r1⟩ := hv.tupH R.sub
    refine ⟨p, ns, rfl, .inr ?_, fun ms p' h2 h3 np => ?_⟩
    · have := RpA.ints (K := K) (C := C) (F := F) (v := vs) (ns := ns) (by rw [← intsOf_ok e1]; exact r1)
      rw [← this]; exact h1
    · rw [rising_is h2 h3]
      exact fin_lst R (RpA.ofInts _) q p' _ np (same_new np) upd_same
  · cases e
/-! what is never come to -/
def eNever : M R := fun _ => none
theorem pe_never {X : Cx} {e : Expr} : PE X e (fun _ _ _ => False) := ⟨fun _ _ _ _ _ _ h => h.elim⟩
theorem jeNever : JE K C (fun _ _ _ => False) eNever := by
  intro B O σ H F τ R a τ' e Q q
  cases e
end
end MR
end BW
--RAW
namespace BW
namespace OEQ
open PySem PySem.Spec PyProof.Rows L2
/-! ### == and != of objects of an own class with an own __eq__ -/
/-- what a class with an own __eq__ must have beside -/
structure EqC (K : PySem.W.Frag) (C : Addr) : Prop where
  ne : PySem.W.findIn K (.ref C) "__ne__" = some (some (.builtin "object.__ne__"))
  ob : PySem.W.mroIn K C (.type "object") = some true
  sl : PySem.W.notFirst K C (.type "list") = true
  ss : PySem.W.notFirst K C (.type "str") = true
  ca : PySem.W.findIn K (.ref C) "__class__" = some (some (.builtin "object.__class__"))
  hn : PySem.W.specialIn K (.builtin "object.__class__") "__get__" = some (some (.builtin "getset_descriptor.__get__"))
  tk : PySem.W.takesIn K (.builtin "object.__class__") = some true
  ic : PySem.W.isClsIn K C = true
  ty : PySem.W.typeIn K (.ref C) = some (.type "type")
  bl : PySem.W.subIn K (.type "list") (.ref C) = some false
  bs : PySem.W.subIn K (.type "str") (.ref C) = some false
theorem EqC.kit {K : PySem.W.Frag} {C : Addr} (q : EqC K C) {T : String} (e : PySem.W.subIn K (.type T) (.ref C) = some false) : PySem.W.kitOne K (.type T) (.ref C) = some false := by
  unfold PySem.W.kitOne
  rw [if_neg (by simp)]
  show (if ((PySem.W.clsIn K C).isSome && PySem.W.typeIn K (.ref C) == some (.type "type")) = true then PySem.W.subIn K (.type T) (.ref C) else none) = _
  rw [if_pos (by rw [q.ty, show (PySem.W.clsIn K C).isSome = true from q.ic]; simp)]
  exact e
theorem EqC.kl {K : PySem.W.Frag} {C : Addr} (q : EqC K C) : PySem.W.kitOne K (.type "list") (.ref C) = some false := q.kit q.bl
theorem EqC.ks {K : PySem.W.Frag} {C : Addr} (q : EqC K C) : PySem.W.kitOne K (.type "str") (.ref C) = some false := q.kit q.bs
section
variable {prog : Program} {w : World} {A : Around} {E : Value → Shared → Prop} {s : Shared} {K : PySem.W.Frag} {x C f : Addr} {ox : Obj} {od : Option Obj} {b tb : Value}
/-- a built-in that stands in the class, bound -/
theorem bound_B {M : Model} {name : Str} {id : String} {args : List Value} {Q : Option Value → Shared → Prop} (X : K.In s.heap) (I : PySem.W.InstAt s.heap x ox C od) (hs : PySem.W.findIn K (.ref C) name = some (some (.builtin id)))
    (hb : ∀ self, bindSpecial (.builtin id) self = pure (.builtin id, [self])) (h : wpAny M A (call (.builtin id) (.ref x :: args)) (fun v => Q (some v)) E s) : wpAny M A (callSpecialIfBound? (.ref x) name args) Q E s := by
  simp only [callSpecialIfBound?, bindSpecialIfBound?]; refine wpAny_holding (wpAny_bind (wpAny_bind (wpAny_bind (I.type.here ((PySem.W.looks_findIn X hs).here ?_)))))
  refine wpAny_bind (wpAny_askSetting (wpAny_ite ?_)); have fin : wpAny M A (call (.builtin id) ([.ref x] ++ args) >>= fun v => pure (some v)) Q E s := wpAny_bind (wpAny_mono h (fun v s' k => wpAny_pure k) fun _ _ e => e)
  split
  · exact wpAny_bind ((PySem.W.Looks.of_pure (hb _)).here (wpAny_pure (by exact fin)))
  · exact wpAny_tryCatch (wpAny_bind ((PySem.W.Looks.of_pure (hb _)).here (wpAny_pure (by exact fin))))
/-- object.__ne__ asks the own __eq__ -/
theorem onot {Q : Value → Shared → Prop} (hu : A.in1.units < cLine) (X : K.In s.heap) (I : PySem.W.InstAt s.heap x ox C od) (hm : PySem.W.mroIn K C (.type "object") = some true) (hr : PySem.W.findIn K (.ref C) "__eq__" = some (some (.ref f))) (hf : PySem.W.isFn K (.ref f) = true)
    (h : wpAny (model prog w) A.in1 (call (.ref f) [.ref x, b]) (fun v s' => ∃ k, v = .bool k ∧ Q (.bool (!k)) s') E s) : wpAny (model prog w) A (call (.builtin "object.__ne__") [.ref x, b]) Q E s := by
  refine wpAny_call (codeAny_call_builtin PySem.F.cmp_object.ne.plain PySem.F.cmpEntry_ne (PySem.W.check_slot (i := "object.__ne__") (owner := "object") (n := "__ne__") PySem.F.cmpKind_ne PySem.F.cmpSplit_ne (I.type.andThen (PySem.W.looks_mroIn X hm)) (PySem.F.cmpArgs_ne _ _) ?_))
  unfold Builtin.«object.__ne__»
  refine wpAny_bind (m := slotArgs "__ne__" 1 _) (wpAny_pure ?_)
  refine wpAny_bind (m := cRoomFor _ _) (wpAny_cRoomFor hu ?_)
  refine wpAny_bind (m := callSpecialIfBound? (.ref x) (Str.ofString "__eq__") _) (PySem.W.ifBound_K X I hr hf (wpAny_mono h (fun r s' hq => ?_) fun _ _ y => y))
  obtain ⟨k, rfl, hq⟩ := hq
  refine wpAny_bind (m := truthy (.bool k)) (wpAny_truthy_bool ?_)
  exact wpAny_pure hq
/-- a rich comparison that its first side answers -/
theorem rich_of {op : CmpOp} {Q : Value → Shared → Prop} (hu : A.units < cLine) (X : K.In s.heap) (I : PySem.W.InstAt s.heap x ox C od) (hb : PySem.W.Looks (model prog w) s.heap (typeOf b) tb) (hn : PySem.W.notFirst K C tb = true)
    (one : wpAny (model prog w) A (tryCompare (.ref x) (cmpInfo op).2.1 b) (fun r s' => ∃ v, r = some v ∧ Q v s') E s) : wpAny (model prog w) A (richCompare op (.ref x) b) Q E s := by
  unfold richCompare; simp only [oneThing_ref]; refine wpAny_holding (wpAny_bind (wpAny_cRoomFor hu ?_)); refine wpAny_bind (I.type.here (wpAny_bind (hb.here ?_)))
  split
  · rename_i q
    have e : PySem.W.subIn K tb (.ref C) = some false := by rcases Bool.or_eq_true_iff.mp hn with e | e; (· rw [beq_iff_eq.mp e] at q; simp at q); exact beq_iff_eq.mp e
    refine wpAny_bind ((PySem.W.looks_subIn X e).here ?_); simp only [Bool.false_eq_true, if_false]; refine wpAny_bind (wpAny_mono one (fun r s' z => ?_) fun _ _ y => y)
    obtain ⟨v, rfl, hq⟩ := z; exact wpAny_pure hq
  · refine wpAny_bind (wpAny_pure ?_); simp only [Bool.false_eq_true, if_false]; refine wpAny_bind (wpAny_mono one (fun r s' z => ?_) fun _ _ y => y)
    obtain ⟨v, rfl, hq⟩ := z; exact wpAny_pure hq
end
section
variable {X : Cx} {CX : CXT} {n : Nat} {C f : Addr} {fd : FuncData} {ps : List Str} {sp : Sp} {E : XK} {A : Around} {pins : List (Addr × Obj)} {σ : L2.St} {H : Hp} {s : Shared} {x y : V} {u v : Value} {Q : VK}
/-- the own __eq__ is called -/
theorem eq_run (F : FnOk X.prog X.w X.K X.mg X.base CX n f fd ps sp) (hb : Binds X.K fd ps []) (hx : Passes CX X E) (sb : Sub X n A) (I : Inv X pins σ H s) (rx : RelV x v) (ry : RelV y u) (h : sp [x, y] H Q E) : wpAny (model X.prog X.w) A (call (.ref f) [v, u]) (EP X pins σ Q) X.xe s := by
  have e0 : Env0 X.prog X.w X.K X.mg X.base A X.stack s H := by have e := I.env0; exact ⟨by rw [sb.fr]; exact e.frames, e.mod, e.bs, e.bsz, e.funs, e.frf, e.hok, e.bare⟩
  have hl := F.len _ _ _ _ h; have r2 : Vals [x, y] [v, u] := .cons rx (.cons ry .nil)
  refine wpAny_call (codeAny_mono (F.run A X.stack s H ⟨[v, u], []⟩ [v, u] [x, y] Q E sb.room e0 (by have := hb s [v, u] I.kIn (by simpa using hl); simpa using this) r2 h) fun r s' hq => ?_)
  cases r with
  | error e => exact hx pins σ H s e s' I hq
  | ok fl => cases fl with
    | ret w => exact I.after hq
    | _ => exact False.elim hq
/-- what stands on the other side -/
def YOk (K : PySem.W.Frag) (C : Addr) (H : Hp) (y : V) : Prop := ∃ tb, TyX K H y tb ∧ PySem.W.notFirst K C tb = true
def rEqO (neg : Bool) (K : PySem.W.Frag) (C : Addr) (sp : Sp) (E : XK) : R2 := fun x y H Q => (∃ (a dx : Addr) (fs : List (Str × V)), x = .ref a ∧ H a = some (.ins C dx fs)) ∧ YOk K C H y ∧ sp [x, y] H (fun v H' => ∃ k, v = .bl k ∧ Q (.bl (xor neg k)) H') E
theorem op_eqO {q : Str} {st : Stmt} (M : CalM X.prog X.w X.K X.mg X.base CX n C "__eq__" q st ps sp) (hr : Room (n + 1) X.A) (hx : Passes CX X E) : OpR X (compareOp .Eq) (rEqO false X.K C sp E) := by
  obtain ⟨f, fd, g, _, hb, F⟩ := M.ex
  intro pins s σ H x y v u Q I rx ry hq
  obtain ⟨⟨a, dx, fs, rfl, ha⟩, ⟨tb, ty, hn⟩, hsp⟩ := hq
  cases rx
  obtain ⟨mA, J, _⟩ := ins_get I.hok ha
  obtain ⟨od, J, _⟩ := J.look
  obtain ⟨P, kx, hP, _⟩ := kit_of I ry ty
  have hr0 : Room n X.A := hr.mono (Nat.le_succ _)
  show wpAny (model X.prog X.w) X.A (richCompare .Eq (.ref a) u) (EP X pins σ Q) X.xe s
  refine rich_of hr0.units0 I.kIn J (kx.ty _ _ I.kIn hP) hn ?_
  unfold tryCompare
  refine wpAny_bind (PySem.W.ifBound_K I.kIn J g.at_ g.fn (wpAny_mono (eq_run (x := V.ref a) (v := Value.ref a) F hb hx ⟨hr0, rfl⟩ I rfl ry hsp) (fun r s' z => ?_) fun _ _ y => y))
  obtain ⟨z, H', I', rz, k, rfl, hQ⟩ := z
  cases rz
  refine wpAny_pure ⟨_, rfl, .bl k, H', I', rfl, ?_⟩
  rwa [Bool.false_xor] at hQ
theorem op_neO {q : Str} {st : Stmt} (M : CalM X.prog X.w X.K X.mg X.base CX n C "__eq__" q st ps sp) (q0 : EqC X.K C) (hr : Room (n + 1) X.A) (hx : Passes CX X E) : OpR X (compareOp .NotEq) (rEqO true X.K C sp E) := by
  obtain ⟨f, fd, g, _, hb, F⟩ := M.ex
  intro pins s σ H x y v u Q I rx ry hq
  obtain ⟨⟨a, dx, fs, rfl, ha⟩, ⟨tb, ty, hn⟩, hsp⟩ := hq
  cases rx
  obtain ⟨mA, J, _⟩ := ins_get I.hok ha
  obtain ⟨od, J, _⟩ := J.look
  obtain ⟨P, kx, hP, _⟩ := kit_of I ry ty
  have hr0 : Room n X.A := hr.mono (Nat.le_succ _)
  show wpAny (model X.prog X.w) X.A (richCompare .NotEq (.ref a) u) (EP X pins σ Q) X.xe s
  refine rich_of hr0.units0 I.kIn J (kx.ty _ _ I.kIn hP) hn ?_
  unfold tryCompare
  refine wpAny_bind (bound_B I.kIn J q0.ne PySem.F.cmp_object.ne.bind (onot hr.in1.units0 I.kIn J q0.ob g.at_ g.fn (wpAny_mono (eq_run (x := V.ref a) (v := Value.ref a) F hb hx ⟨hr.in1, rfl⟩ I rfl ry hsp) (fun r s' z => ?_) fun _ _ y => y)))
  obtain ⟨z, H', I', rz, k, rfl, hQ⟩ := z
  cases rz
  refine ⟨k, rfl, wpAny_pure ⟨_, rfl, .bl (!k), H', I', rfl, ?_⟩⟩
  rwa [Bool.true_xor] at hQ
end
end OEQ
end BW
--RAW
namespace BW
namespace MR
open PySem PySem.Spec PyProof.Rows L2
/-! ### objects compared; isinstance of an own class; reverse, clear, extend; index of truths; calls by keywords -/
def yOk (c : Nat) : Dt → Bool
  | .list _ => true
  | .str _ => true
  | .dict ((.none, .int k) :: _) => decide (k = (c : Int))
  | _ => false
def eEqO (neg : Bool) (c : Nat) (f : List SD → Option (R × List SD)) (a b : M R) : M R := mb a fun r => mb (fzR r) fun d => mb b fun s => mb (fzR s) fun e => fun τ => if yOk c e = true then match d with
  | .dict ((.none, .int k) :: _) => if k = (c : Int) then match callD f [] [.v d, .v e] τ with
    | some (.v (.bool k), τ') => some (.v (.bool (xor neg k)), τ')
    | _ => none
    else none
  | _ => none
  else none
section
variable {K : PySem.W.Frag} {C : Cl}
theorem jEqO {neg : Bool} {c : Nat} {f : List SD → Option (R × List SD)} {E : XK} {ta tb : TE} {ea eb : M R} (cl : Cls K (C c)) (qc : OEQ.EqC K (C c)) (ha : JE K C ta ea) (hb : JE K C tb eb) : JE K C (tOp (OEQ.rEqO neg K (C c) (SpD K C 2 f) E) ta tb) (eEqO neg c f ea eb) := by
  intro B O σ H F τ R a τ' e Q q
  obtain ⟨x, τ1, e1, e2⟩ := mb_some e
  clear e
  obtain ⟨d, τ2, e3, e4⟩ := mb_some e2
  clear e2
  obtain ⟨y, τ3, e5, e6⟩ := mb_some e4
  clear e4
  obtain ⟨g, τ4, e7, e8⟩ := mb_some e6
  clear e6
  refine ha B O σ H F τ R _ _ e1 _ fun v1 H1 F1 O1 R1 E1 r1 => ?_
  obtain ⟨O2, F2, R2, E2, _, r2⟩ := fz_ok R R1 E1 r1 e3
  refine hb B O2 σ H1 F2 τ2 R2 _ _ e5 _ fun v3 H3 F3 O3 R3 E3 r3 => ?_
  obtain ⟨O4, F4, R4, E4, _, r4⟩ := fz_ok R2 R3 E3 r3 e7
  have r2' := r2.same E4.f
  split at e8
  · rename_i hy
    split at e8
    · rename_i k ks
      split at e8
      · rename_i hc
        split at e8
        · rename_i kk τ5 e9
          cases e8
          have yy : OEQ.YOk K (C c) H3 v3 := by
            cases g with
            | list l => exact ⟨_, Vw.ty (C := C) R4.sub (.inl r4) rfl, qc.sl⟩
            | str l => exact ⟨_, Vw.ty (C := C) R4.sub (.inl r4) rfl, qc.ss⟩
            | dict l =>
              cases r4 with
              | obj h rf =>
                rename_i p dx m fs ks'
                have hm : decide ((m : Int) = (c : Int)) = true := hy
                have hcm : m = c := by have := of_decide_eq_true hm; omega
                subst hcm
                exact ⟨_, .base (.ins (R4.sub _ _ h) cl qc.ca qc.hn qc.tk qc.ob), by unfold PySem.W.notFirst; simp⟩
              | ord h1 h2 h3 => cases hy
              | ed h1 => cases hy
            | none => cases hy
            | bool l => cases hy
            | int l => cases hy
            | tuple l => cases hy
          cases r2' with
          | obj h rf =>
            rename_i p dx m fs
            have hcn : c = m := by omega
            subst hcn
            refine ⟨⟨p, dx, fs, rfl, R4.sub _ _ h⟩, yy, ?_⟩
            have rr : RVs K C H3 O4 F4 σ [.ref p, v3] [.v (.dict ((.none, .int (c : Int)) :: ks)), .v g] := ⟨.obj h rf, r4, True.intro⟩
            refine call_core (dvs := []) (fun _ => .nil) R4 rr rfl e9 fun v H' F' O' R' E' r' => ?_
            cases (show Rp K C F' v (.bool kk) from r')
            exact ⟨kk, rfl, q _ _ _ _ R' ((E2.trans E4).trans E') (.bl _)⟩
        · cases e8
      · cases e8
    · cases e8
  · cases e8
/-! isinstance(x, C) -/
def eIsC (c : Nat) (a : M R) : M R := mb a fun r => fun τ => match vw τ r with
  | some (.dict ((.none, .int k) :: _)) => if k = (c : Int) then some (.v (.bool true), τ) else none
  | some (.list _) => some (.v (.bool false), τ)
  | some (.str _) => some (.v (.bool false), τ)
  | _ => none
theorem jIsC {c : Nat} {te : TE} {ea : M R} (cl : Cls K (C c)) (qc : OEQ.EqC K (C c)) (ha : JE K C te ea) : JE K C (tCB (rIst K) (tCons te (tCons (tC (.ref (C c))) tNil))) (eIsC c ea) := by
  intro B O σ H F τ R a τ' e Q q
  obtain ⟨x, τ1, e1, e⟩ := mb_some e
  refine ha B O σ H F τ R _ _ e1 _ fun v1 H1 F1 O1 R1 E1 r1 => ?_
  split at e
  · rename_i k ks hd
    split at e
    · rename_i hk
      cases e
      have go : ∃ (p dx : Addr) (fs : List (Str × V)), v1 = .ref p ∧ H1 p = some (.ins (C c) dx fs) := by
        rcases vw_ok R1 r1 hd with h | ⟨p, y, rfl, h, e⟩
        · cases h with
          | obj h rf =>
            rename_i p dx m fs
            have hcm : m = c := by omega
            subst hcm
            exact ⟨p, dx, fs, rfl, R1.sub _ _ h⟩
        · cases y with
          | L l => cases e
          | I m l =>
            have e' := PyData.dict.inj e
            have e3 := PyData.int.inj (congrArg Prod.snd (List.cons.inj e').1)
            have hcm : m = c := by omega
            subst hcm
            obtain ⟨dx, fs, h, _⟩ := h
            exact ⟨p, dx, fs, rfl, h⟩
      obtain ⟨p, dx, fs, rfl, hp⟩ := go
      exact .inl ⟨_, _, _, _, true, rfl, .own _, .base (.ins hp cl qc.ca qc.hn qc.tk qc.ob), by unfold PySem.W.kitOne; simp, q _ _ _ _ R1 E1 (.bl _)⟩
    · cases e
  · rename_i l hd
    cases e
    exact .inl ⟨_, _, _, _, false, rfl, .own _, (vw_ok R1 r1 hd).ty R1.sub rfl, qc.kl, q _ _ _ _ R1 E1 (.bl _)⟩
  · rename_i l hd
    cases e
    exact .inl ⟨_, _, _, _, false, rfl, .own _, (vw_ok R1 r1 hd).ty R1.sub rfl, qc.ks, q _ _ _ _ R1 E1 (.bl _)⟩
  · cases e
/-! reverse, clear, extend -/
def eRevS (i : Nat) : M R := fun τ => match ownAt τ i with
  | some (.L ds) => some (.v .none, ownSet τ i (.L ds.reverse))
  | _ => none
theorem jRevS {i : Nat} : JE K C (tBM0 K "list" rReverse (tVar i)) (eRevS i) := by
  intro B O σ H F τ R a τ' e Q q
  unfold eRevS at e
  split at e
  · rename_i ds h0
    cases e
    obtain ⟨p, s0, o0, ⟨vs, g0, r0⟩, _⟩ := R.ownAt h0
    refine ⟨_, s0, .inl ⟨rfl, _, .inl (.inl g0)⟩, p, vs, rfl, rfl, g0, ?_⟩
    exact q _ _ _ _ (R.updS h0 s0 o0 ⟨_, upd_same, r0.reverse⟩) (Ext.refl.updO (Ext.refl (H := H) (F := F) |>.slotNe o0) o0) .non
  · cases e
/-- e.clear(), e a new list -/
def eClrT (a : M R) : M R := mb a fun r => fun τ => match r with
  | .n (.L _) => some (.v .none, τ)
  | _ => none
theorem jClrT {te : TE} {ea : M R} (ha : JE K C te ea) : JE K C (tBM0 K "list" rClear te) (eClrT ea) := by
  intro B O σ H F τ R a τ' e Q q
  obtain ⟨x, τ1, e1, e⟩ := mb_some e
  refine ha B O σ H F τ R _ _ e1 _ fun v1 H1 F1 O1 R1 E1 r1 => ?_
  split at e
  · cases e
    obtain ⟨p, rfl, h2, h3⟩ := r1
    obtain ⟨⟨vs, g0, r0⟩, _⟩ := R1.own _ _ _ h2
    refine ⟨.inl ⟨rfl, _, .inl (.inl g0)⟩, p, vs, rfl, rfl, g0, ?_⟩
    refine q _ _ _ _ (R1.updT (x' := .L []) h2 ⟨[], upd_same, .nil⟩) (E1.updO (fun y hy => ?_) h2) .non
    obtain ⟨o, ho⟩ := (R.own _ _ _ hy).1.get
    rw [h3] at ho
    cases ho
  · cases e
/-- xs.extend(e), e a new list -/
def eExt (i : Nat) (a : M R) : M R := fun τ0 => match ownAt τ0 i with
  | some (.L _) => (mb a fun r => fun τ => match r, ownAt τ i with
    | .n (.L es), some (.L ds) => if ds.length + es.length ≤ 1000000 then some (.v .none, ownSet τ i (.L (ds ++ es))) else none
    | _, _ => none) τ0
  | _ => none
theorem jExt {i : Nat} {te : TE} {ea : M R} (ha : JE K C te ea) : JE K C (tBM K "list" rExtend (tVar i) (tCons te tNil)) (eExt i ea) := by
  intro B O σ H F τ R a τ' e Q q
  unfold eExt at e
  split at e
  · rename_i ds0 h0
    obtain ⟨p, s0, o0, ⟨vs0, g0, r0⟩, _⟩ := R.ownAt h0
    refine ⟨_, s0, .inl ⟨rfl, _, .inl (.inl g0)⟩, ?_⟩
    obtain ⟨r, τ1, e1, e2⟩ := mb_some e
    clear e
    refine ha B O σ H F τ R _ _ e1 _ fun v1 H1 F1 O1 R1 E1 r1 => ?_
    split at e2
    · rename_i es ds h1
      split at e2
      · rename_i hl
        cases e2
        obtain ⟨p', s1, o1, ⟨vs, g1, k1⟩, n1⟩ := R1.ownAt h1
        rw [s0] at s1
        cases s1
        obtain ⟨b, rfl, h2, h3⟩ := r1
        obtain ⟨⟨ws, g2, k2⟩, _⟩ := R1.own _ _ _ h2
        refine ⟨p, b, vs, ws, rfl, rfl, g1, g2, Nat.le_trans (by rw [k1.length, k2.length]; exact hl) million, ?_⟩
        exact q _ _ _ _ (R1.updS h1 s0 o1 ⟨_, upd_same, k1.append k2⟩) (E1.updO (E1.slotNe o1) o1) .non
      · cases e2
    · cases e2
  · cases e
/-! index of truths -/
def boolsI : List Dt → Option (List Bool)
  | [] => some []
  | .bool b :: r => (boolsI r).map (b :: ·)
  | _ :: _ => none
theorem boolsI_ok : ∀ {ds : List Dt} {bs : List Bool}, boolsI ds = some bs → ds = bs.map PyData.bool
  | [], _, e => by cases e; rfl
  | .bool b :: r, bs, e => by
    obtain ⟨n', e1, e2⟩ := Option.map_eq_some_iff.mp e
    cases e2
    rw [boolsI_ok e1]
    rfl
theorem boolsI_map : ∀ bs : List Bool, boolsI (bs.map PyData.bool) = some bs
  | [] => rfl
  | b :: bs => by rw [List.map_cons, boolsI, boolsI_map bs]; rfl
def ixB : List Bool → Bool → Option Nat
  | [], _ => none
  | x :: xs, k => if x = k then some 0 else (ixB xs k).map (· + 1)
theorem ixB_ok : ∀ {ns : List Bool} {k : Bool} {j : Nat}, ixB ns k = some j → ns[j]? = some k ∧ ∀ (m : Nat) (z : Bool), m < j → ns[m]? = some z → z ≠ k
  | [], _, _, h => by cases h
  | x :: xs, k, j, h => by
    unfold ixB at h
    split at h
    · rename_i e
      cases h
      exact ⟨by rw [e]; rfl, fun m z hm _ => absurd hm (Nat.not_lt_zero m)⟩
    · rename_i e
      obtain ⟨i, e1, rfl⟩ := Option.map_eq_some_iff.mp h
      obtain ⟨h1, h2⟩ := ixB_ok e1
      refine ⟨h1, fun m z hm hz => ?_⟩
      cases m with
      | zero => cases hz; exact e
      | succ m => exact h2 m z (by omega) hz
def eIxB (a : M R) (k : Bool) : M R := mb a fun r => mb (fzR r) fun d => fun τ => match d with
  | .list ds => match boolsI ds with
    | some bs => (ixB bs k).map fun j => (.v (.int (j : Nat)), τ)
    | none => none
  | _ => none
theorem eqV_bb {i j : Bool} : eqV (.bl i) (.bl j) = decide (i = j) := by cases i <;> cases j <;> rfl
theorem jIxB {te : TE} {ea : M R} {k : Bool} (ha : JE K C te ea) : JE K C (tBM K "list" (rIndex K) te (tCons (tC (.bl k)) tNil)) (eIxB ea k) := by
  intro B O σ H F τ R a τ' e Q q
  obtain ⟨x, τ1, e1, e2⟩ := mb_some e
  clear e
  obtain ⟨d, τ2, e3, e4⟩ := mb_some e2
  clear e2
  refine ha B O σ H F τ R _ _ e1 _ fun v1 H1 F1 O1 R1 E1 r1 => ?_
  obtain ⟨O2, F2, R2, E2, _, r2⟩ := fz_ok R R1 E1 r1 e3
  split at e4
  · rename_i ds
    split at e4
    · rename_i bs hb
      obtain ⟨j, e7, e8⟩ := Option.map_eq_some_iff.mp e4
      cases e8
      rw [boolsI_ok hb] at r2
      cases r2 with
      | lst h1 rr =>
        rename_i p vs
        rw [rr.bools] at h1
        obtain ⟨k1, k2⟩ := ixB_ok e7
        refine ⟨.inl ⟨rfl, _, R2.sub.seq h1⟩, p, bs.map V.bl, .bl k, j, .bl k, rfl, rfl, R2.sub.seq h1, rfl, List.all_eq_true.mpr fun x hx => ?_, by rw [List.getElem?_map, k1]; rfl, by rw [eqV_bb]; exact decide_eq_true rfl, fun m z hm hz => ?_, q _ _ _ _ R2 E2 (.int _)⟩
        · obtain ⟨i, _, rfl⟩ := List.mem_map.mp hx
          rfl
        · rw [List.getElem?_map] at hz
          obtain ⟨y, hy, rfl⟩ := Option.map_eq_some_iff.mp hz
          rw [eqV_bb]
          exact decide_eq_false (k2 m y hm hy)
    · cases e4
  · cases e4
/-! calls by keywords -/
def eCallK (g : List R → List R) (f : List SD → Option (R × List SD)) (as : M (List R)) : M R := mb as fun rs => callD f [] (g rs)
theorem jCallK {np : Nat} {f : List SD → Option (R × List SD)} {E : XK} {t : TA} {ea : M (List R)} {gV : List V → List V} {gR : List R → List R} (hg : ∀ (H0 : Hp) (O : OO) (F : Hp) (σ : L2.St) (vs : List V) (rs : List R), RVs K C H0 O F σ vs rs → RVs K C H0 O F σ (gV vs) (gR rs)) (ha : JA K C t ea) (hlen : ∀ rs τ τ', ea τ = some (rs, τ') → (gR rs).length = np) :
    JE K C (tCallK0 (SpD K C np f) gV E t) (eCallK gR f ea) := by
  intro B O σ H F τ R a τ' e Q q
  obtain ⟨rs, τ1, e1, e2⟩ := mb_some e
  clear e
  refine ha B O σ H F τ R _ _ e1 _ fun vs H1 F1 O1 R1 E1 r1 => ?_
  have h := call_core (np := np) (K := K) (C := C) (dvs := []) (dfl := []) (E := E) (Q := Q) (fun _ => .nil) R1 (hg _ _ _ _ _ _ r1) (show (gR rs).length + ([] : List Dt).length = np from hlen _ _ _ e1) e2 fun v H' F' O' R' E' r' => q v H' F' O' R' (E1.trans E') (r'.back fun p h => E1.d p h)
  rwa [List.append_nil] at h
end
/-! reading them -/
section
variable {τ τ' : List SD} {PR : R → List SD → Prop} {a b : M R} {neg : Bool} {c i : Nat} {f : List SD → Option (R × List SD)} {d e : Dt} {ds es : List Dt} {as : M (List R)} {x : R}
def EqOK (neg : Bool) (c : Nat) (f : List SD → Option (R × List SD)) (d e : Dt) (τ : List SD) (PR : R → List SD → Prop) : Prop := yOk c e = true ∧ (∃ ks, d = .dict ((.none, .int (c : Int)) :: ks)) ∧ CallK f [.val d, .val e] τ fun r τ3 => ∃ k, r = .v (.bool k) ∧ PR (.v (.bool (xor neg k))) τ3
theorem ev_eqO (h : Ev a τ fun r τ1 => FzK r τ1 fun d τ2 => Ev b τ2 fun s τ3 => FzK s τ3 fun e τ4 => EqOK neg c f d e τ4 PR) : Ev (eEqO neg c f a b) τ PR := by
  refine ev_mb (h.imp fun r τ1 h => ev_mb (Ev.imp h fun d τ2 h => ev_mb (h.imp fun s τ3 h => ev_mb (Ev.imp h fun e τ4 h => ?_))))
  obtain ⟨h1, ⟨ks, rfl⟩, k⟩ := h
  rcases k with h | ⟨r', ⟨as', h⟩, h2, n, rfl, p⟩
  · exact h.elim
  refine ⟨_, τ4, ?_, p⟩
  show (if yOk c e = true then (if (c : Int) = (c : Int) then _ else none) else none) = _
  rw [if_pos h1, if_pos rfl]
  have e4 : f ([.val (.dict ((.none, .int (c : Int)) :: ks)), .val e] ++ ([] : List Dt).map .val) = some (.v (.bool n), as') := h
  unfold callD
  simp only [argsD, argD, e4, ioOf]
instance St.eqo_ : St (Ev (eEqO neg c f a b) τ PR) (Ev a τ fun r τ1 => FzK r τ1 fun d τ2 => Ev b τ2 fun s τ3 => FzK s τ3 fun e τ4 => EqOK neg c f d e τ4 PR) := ⟨ev_eqO⟩
theorem EqOK.mk {ks : List (Dt × Dt)} {k : Bool} (h : Ret f [.val (.dict ((.none, .int (c : Int)) :: ks)), .val e] (.v (.bool k))) (p : PR (.v (.bool (xor neg k))) τ) (h1 : yOk c e = true := by rfl) : EqOK neg c f (.dict ((.none, .int (c : Int)) :: ks)) e τ PR := ⟨h1, ⟨_, rfl⟩, CallK.v h ⟨_, rfl, p⟩⟩
def IsCK (c : Nat) (x : R) (τ : List SD) (PR : R → Prop) : Prop := ∃ d, vw τ x = some d ∧ ((∃ ks, d = .dict ((.none, .int (c : Int)) :: ks) ∧ PR (.v (.bool true))) ∨ ((∃ l, d = .list l) ∨ ∃ z, d = .str z) ∧ PR (.v (.bool false)))
instance St.isc_ : St (Ev (eIsC c a) τ PR) (Ev a τ fun r τ1 => IsCK c r τ1 fun r => PR r τ1) := ⟨fun h => ev_mb (h.imp fun r τ1 h => by
  obtain ⟨d, h1, h2⟩ := h
  rcases h2 with ⟨ks, rfl, p⟩ | ⟨h2, p⟩
  · refine ⟨_, τ1, ?_, p⟩
    show (match vw τ1 r with | some (.dict ((.none, .int k) :: _)) => if k = (c : Int) then some (R.v (.bool true), τ1) else none | some (.list _) => some (R.v (.bool false), τ1) | some (.str _) => some (R.v (.bool false), τ1) | _ => none) = _
    rw [h1]
    exact if_pos rfl
  · refine ⟨_, τ1, ?_, p⟩
    show (match vw τ1 r with | some (.dict ((.none, .int k) :: _)) => if k = (c : Int) then some (R.v (.bool true), τ1) else none | some (.list _) => some (R.v (.bool false), τ1) | some (.str _) => some (R.v (.bool false), τ1) | _ => none) = _
    rw [h1]
    rcases h2 with ⟨l, rfl⟩ | ⟨l, rfl⟩ <;> rfl)⟩
instance St.iscd_ {ks : List (Dt × Dt)} {Q : R → Prop} [h : VwC τ x (.dict ((.none, .int (c : Int)) :: ks))] : St (IsCK c x τ Q) (Q (.v (.bool true))) := ⟨fun q => ⟨_, h.eq, .inl ⟨_, rfl, q⟩⟩⟩
instance St.iscl_ {Q : R → Prop} [h : VwC τ x (.list ds)] : St (IsCK c x τ Q) (Q (.v (.bool false))) := ⟨fun q => ⟨_, h.eq, .inr ⟨.inl ⟨_, rfl⟩, q⟩⟩⟩
instance St.iscs_ {z : Str} {Q : R → Prop} [h : VwC τ x (.str z)] : St (IsCK c x τ Q) (Q (.v (.bool false))) := ⟨fun q => ⟨_, h.eq, .inr ⟨.inr ⟨_, rfl⟩, q⟩⟩⟩
instance St.revs_ [h : OwnC τ i (.L ds)] [k : OwnSetC τ i (.L ds.reverse) τ'] : St (Ev (eRevS i) τ PR) (PR (.v .none) τ') := ⟨fun p => ⟨.v .none, τ', by unfold eRevS; rw [h.eq]; show some (R.v .none, ownSet τ i (.L ds.reverse)) = _; rw [k.eq], p⟩⟩
def ClrK (x : R) (P : R → Prop) : Prop := ∃ l, x = .n (.L l) ∧ P (.v .none)
instance St.clr_ : St (Ev (eClrT a) τ PR) (Ev a τ fun r τ1 => ClrK r fun r => PR r τ1) := ⟨fun h => ev_mb (h.imp fun r τ1 ⟨l, e, p⟩ => ⟨.v .none, τ1, by subst e; rfl, p⟩)⟩
instance St.clrk_ {P : R → Prop} : St (ClrK (.n (.L ds)) P) (P (.v .none)) := ⟨fun p => ⟨_, rfl, p⟩⟩
def ExtK (i : Nat) (x : R) (τ : List SD) (P : R → List SD → Prop) : Prop := ∃ ds es, x = .n (.L es) ∧ ownAt τ i = some (.L ds) ∧ ds.length + es.length ≤ 1000000 ∧ P (.v .none) (ownSet τ i (.L (ds ++ es)))
instance St.ext_ {l : List Dt} [o : OwnC τ i (.L l)] : St (Ev (eExt i a) τ PR) (Ev a τ fun r τ1 => ExtK i r τ1 PR) := ⟨fun h => by
  have k : Ev (mb a fun r => fun τ => match r, ownAt τ i with | .n (.L es), some (.L ds) => if ds.length + es.length ≤ 1000000 then some (R.v .none, ownSet τ i (.L (ds ++ es))) else none | _, _ => none) τ PR := ev_mb (h.imp fun r τ1 ⟨ds, es, e1, e2, e3, p⟩ => ⟨.v .none, ownSet τ1 i (.L (ds ++ es)), by subst e1; simp only [e2]; exact if_pos e3, p⟩)
  obtain ⟨r, τ2, e, p⟩ := k
  exact ⟨r, τ2, by unfold eExt; rw [o.eq]; exact e, p⟩⟩
instance St.extk_ {n m : Nat} [o : OwnC τ i (.L ds)] [s : OwnSetC τ i (.L (ds ++ es)) τ'] [hn : LenC ds n] [hm : LenC es m] : St (ExtK i (.n (.L es)) τ PR) (SideK (n + m ≤ 1000000) (PR (.v .none) τ')) := ⟨fun ⟨h, p⟩ => ⟨ds, es, rfl, o.eq, by rw [hn.eq, hm.eq]; exact h, by rw [s.eq]; exact p⟩⟩
def IxBK (d : Dt) (k : Bool) (P : R → Prop) : Prop := ∃ bs j, d = .list (bs.map .bool) ∧ ixB bs k = some j ∧ P (.v (.int (j : Nat)))
instance St.ixb_ {k : Bool} : St (Ev (eIxB a k) τ PR) (Ev a τ fun r τ1 => FzK r τ1 fun d τ2 => IxBK d k fun r => PR r τ2) := ⟨fun h => ev_mb (h.imp fun r τ1 h => ev_mb (Ev.imp h fun d τ2 ⟨bs, j, e1, e2, p⟩ => ⟨_, τ2, by
  subst e1
  show (match boolsI (bs.map PyData.bool) with | some bs => (ixB bs k).map fun j => (R.v (.int (j : Nat)), τ2) | none => none) = _
  rw [boolsI_map]
  show (ixB bs k).map _ = _
  rw [e2]
  rfl, p⟩))⟩
theorem IxBK.mk {bs : List Bool} {k : Bool} {j : Nat} {P : R → Prop} (e : ixB bs k = some j) (p : P (.v (.int (j : Nat)))) : IxBK (.list (bs.map .bool)) k P := ⟨bs, j, rfl, e, p⟩
instance St.callk_ {g : List R → List R} : St (Ev (eCallK g f as) τ PR) (Ev as τ fun rs τ1 => CalK f (g rs) τ1 PR) := ⟨fun h => ev_mb (h.imp fun rs τ1 ⟨xs, e, q⟩ => by
  have k : Ev (mb (fun τ => some (g rs, τ)) (callD f [])) τ1 PR := ev_callU ⟨_, _, rfl, xs, e, q⟩
  exact k)⟩
end
end MR
end BW
--RAW
namespace BW
namespace MR
open PySem PySem.Spec PyProof.Rows L2
/-! ### what is read while nothing may be changed: own things are lent -/
def lendS : SD → SD
  | .own x => .val x.dt
  | .io x => .val x.dt
  | s => s
def lend (m : M R) : M R := fun τ => match m (τ.map lendS) with
  | some (.v d, _) => if flatD d = true then some (.v d, τ) else none
  | some (.n (.L ds), _) => if ds.all flatD = true then some (.n (.L ds), τ) else none
  | _ => none
section
variable {K : PySem.W.Frag} {C : Cl} {B : Bs} {O : OO} {σ : L2.St} {H F G : Hp} {τ : List SD}
open Classical in
noncomputable def lendF (O : OO) (H F : Hp) : Hp := fun p => match F p with
  | some o => some o
  | none => if (O p).isSome then H p else none
theorem lendF_sub (R : Rel K C B O σ H F τ) : Same (lendF O H F) H := fun p o h => by
  unfold lendF at h
  split at h
  · rename_i u hu
    cases h
    exact R.sub _ _ hu
  · split at h
    · exact h
    · cases h
theorem lendF_ext : Same F (lendF O H F) := fun p o h => by
  unfold lendF
  rw [h]
theorem lend_own {p : Addr} {t : Tag} {x : Own} (R : Rel K C B O σ H F τ) (h : O p = some (t, x)) : Rp K C (lendF O H F) (.ref p) x.dt := by
  obtain ⟨h1, h2, _⟩ := R.own p t x h
  have e : lendF O H F p = H p := by
    unfold lendF
    rw [h2]
    simp [h]
  cases x with
  | L ds =>
    obtain ⟨vs, g, r⟩ := h1
    exact .lst (.inl (.inl (e.trans g))) (r.same lendF_ext)
  | I c ks =>
    obtain ⟨dx, fs, g, r⟩ := h1
    exact .obj (e.trans g) (r.same lendF_ext)
theorem Rel.lend (R : Rel K C B O σ H F τ) : Rel K C ⟨σ, H, lendF O H F, fun _ => False⟩ (fun _ => none) σ H (lendF O H F) (τ.map lendS) := by
  refine ⟨by rw [List.length_map]; exact R.len, lendF_sub R, Same.refl _, fun _ _ h _ => h, fun _ _ h => .inl h, fun _ h => h, (fun p t x h => by cases h), fun i s hi => ?_⟩
  rw [List.getElem?_map] at hi
  obtain ⟨s0, h0, rfl⟩ := Option.map_eq_some_iff.mp hi
  have h := R.slot i s0 h0
  cases s0 with
  | un => exact True.intro
  | val d => obtain ⟨v, h1, h2⟩ := h; exact ⟨v, h1, h2.same lendF_ext⟩
  | own x => obtain ⟨p, h1, h2, _⟩ := h; exact ⟨_, h1, lend_own R h2⟩
  | io x => obtain ⟨p, h1, h2, _⟩ := h; exact ⟨_, h1, lend_own R h2⟩
theorem Rp.flatly {F F' : Hp} {v : V} : ∀ {d : Dt}, flatD d = true → Rp K C F v d → Rp K C F' v d
  | .none, _, h => by cases h; exact .non
  | .bool _, _, h => by cases h; exact .bl _
  | .int _, _, h => by cases h; exact .int _
  | .str _, _, h => by cases h; exact .str _
  | .list _, e, _ => by cases e
  | .tuple _, e, _ => by cases e
  | .dict _, e, _ => by cases e
theorem RpA.flatly {F F' : Hp} : ∀ {vs : List V} {ds : List Dt}, ds.all flatD = true → RpA K C F vs ds → RpA K C F' vs ds
  | _, _, _, .nil => .nil
  | _, _, e, .cons h r => by
    rw [List.all_cons, Bool.and_eq_true] at e
    exact .cons (h.flatly e.1) (RpA.flatly e.2 r)
theorem jLend {te : TE} {ea : M R} (ha : JE K C te ea) : JE K C te (lend ea) := by
  intro B O σ H F τ R a τ' e Q q
  unfold lend at e
  split at e
  · rename_i d τ2 e1
    split at e
    · rename_i hf
      cases e
      refine ha _ _ _ _ _ _ R.lend _ _ e1 _ fun v H' F' O' R' E' r' => ?_
      obtain ⟨R2, E2⟩ := R.grow (G := H') fun p o h => R'.fr p o h (fun x => x)
      exact q v H' F O R2 E2 (Rp.flatly hf r')
    · cases e
  · rename_i ds τ2 e1
    split at e
    · rename_i hf
      cases e
      refine ha _ _ _ _ _ _ R.lend _ _ e1 _ fun v H' F' O' R' E' r' => ?_
      obtain ⟨p, rfl, h2, h3⟩ := r'
      obtain ⟨⟨vs, g, r⟩, _⟩ := R'.own _ _ _ h2
      obtain ⟨R2, E2, g2⟩ := R.newO (x := .L ds) h3 (G := H') (fun p o h => R'.fr p o h (fun x => x)) ⟨vs, g, RpA.flatly hf r⟩
      exact q _ H' F _ R2 E2 ⟨p, rfl, g2, h3⟩
    · cases e
  · cases e
end
/-! reading it -/
class LendC (τ : List SD) (τ' : outParam (List SD)) : Prop where
  eq : τ.map lendS = τ'
instance LendC.nil_ : LendC [] [] := ⟨rfl⟩
instance LendC.un_ {τ τ' : List SD} [h : LendC τ τ'] : LendC (.un :: τ) (.un :: τ') := ⟨by rw [List.map_cons, h.eq]; rfl⟩
instance LendC.val_ {τ τ' : List SD} {d : Dt} [h : LendC τ τ'] : LendC (.val d :: τ) (.val d :: τ') := ⟨by rw [List.map_cons, h.eq]; rfl⟩
instance LendC.own_ {τ τ' : List SD} {ds : List Dt} [h : LendC τ τ'] : LendC (.own (.L ds) :: τ) (.val (.list ds) :: τ') := ⟨by rw [List.map_cons, h.eq]; rfl⟩
instance LendC.io_ {τ τ' : List SD} {ds : List Dt} [h : LendC τ τ'] : LendC (.io (.L ds) :: τ) (.val (.list ds) :: τ') := ⟨by rw [List.map_cons, h.eq]; rfl⟩
instance LendC.owni_ {τ τ' : List SD} {c : Nat} {ks : List (Dt × Dt)} [h : LendC τ τ'] : LendC (.own (.I c ks) :: τ) (.val (.dict ((.none, .int c) :: ks)) :: τ') := ⟨by rw [List.map_cons, h.eq]; rfl⟩
instance LendC.ioi_ {τ τ' : List SD} {c : Nat} {ks : List (Dt × Dt)} [h : LendC τ τ'] : LendC (.io (.I c ks) :: τ) (.val (.dict ((.none, .int c) :: ks)) :: τ') := ⟨by rw [List.map_cons, h.eq]; rfl⟩
/-- what any other slot lends -/
instance (priority := low) LendC.any_ {τ τ' : List SD} {s : SD} [h : LendC τ τ'] : LendC (s :: τ) (lendS s :: τ') := ⟨by rw [List.map_cons, h.eq]⟩
inductive BackK (r : R) (τ : List SD) (P : R → List SD → Prop) : Prop
  | v (d : Dt) (e : r = .v d) (h : flatD d = true) (p : P (.v d) τ)
  | n (ds : List Dt) (e : r = .n (.L ds)) (h : ds.all flatD = true) (p : P (.n (.L ds)) τ)
theorem ev_lend {m : M R} {τ τ1 : List SD} {P : R → List SD → Prop} (e : τ.map lendS = τ1) (h : Ev m τ1 fun r _ => BackK r τ P) : Ev (lend m) τ P := by
  obtain ⟨r, τ2, h1, h2⟩ := h
  rcases h2 with ⟨d, rfl, hf, p⟩ | ⟨ds, rfl, hf, p⟩
  · exact ⟨.v d, τ, by unfold lend; rw [e, h1]; exact if_pos hf, p⟩
  · exact ⟨.n (.L ds), τ, by unfold lend; rw [e, h1]; exact if_pos hf, p⟩
instance St.lend_ {m : M R} {τ τ1 : List SD} {P : R → List SD → Prop} [h : LendC τ τ1] : St (Ev (lend m) τ P) (Ev m τ1 fun r _ => BackK r τ P) := ⟨ev_lend h.eq⟩
instance St.backb_ {b : Bool} {τ : List SD} {P : R → List SD → Prop} : St (BackK (.v (.bool b)) τ P) (P (.v (.bool b)) τ) := ⟨fun p => .v _ rfl rfl p⟩
instance St.backi_ {b : Int} {τ : List SD} {P : R → List SD → Prop} : St (BackK (.v (.int b)) τ P) (P (.v (.int b)) τ) := ⟨fun p => .v _ rfl rfl p⟩
instance St.backs_ {b : Str} {τ : List SD} {P : R → List SD → Prop} : St (BackK (.v (.str b)) τ P) (P (.v (.str b)) τ) := ⟨fun p => .v _ rfl rfl p⟩
theorem all_flat_str {ss : List Str} : (ss.map PyData.str).all flatD = true := List.all_eq_true.mpr fun x h => by
  obtain ⟨s, _, rfl⟩ := List.mem_map.mp h
  rfl
theorem all_flat_int {ss : List Int} : (ss.map PyData.int).all flatD = true := List.all_eq_true.mpr fun x h => by
  obtain ⟨s, _, rfl⟩ := List.mem_map.mp h
  rfl
instance St.backls_ {ss : List Str} {τ : List SD} {P : R → List SD → Prop} : St (BackK (.n (.L (ss.map .str))) τ P) (P (.n (.L (ss.map .str))) τ) := ⟨fun p => .n _ rfl all_flat_str p⟩
instance St.backli_ {ss : List Int} {τ : List SD} {P : R → List SD → Prop} : St (BackK (.n (.L (ss.map .int))) τ P) (P (.n (.L (ss.map .int))) τ) := ⟨fun p => .n _ rfl all_flat_int p⟩
end MR
end BW
--RAW
namespace BW
namespace MR
open PySem PySem.Spec PyProof.Rows L2
/-! ### C(xs), xs a list of the def's own that stays its own -/
def eMakeO (c j : Nat) (f : List SD → Option (R × List SD)) : M R := fun τ => match ownAt τ j with
  | some (.L ds) => match f [.io (.I c []), .io (.L ds)] with
    | some (.v .none, [.io (.I k ks), .io (.L es)]) => if k = c then some (.n (.I c ks), ownSet τ j (.L es)) else none
    | _ => none
  | _ => none
section
variable {K : PySem.W.Frag} {C : Cl}
theorem jMakeO {c j : Nat} {f : List SD → Option (R × List SD)} {E : XK} : JE K C (tMake (C c) (SpD K C 2 f) [] E (tCons (tVar j) tNil)) (eMakeO c j f) := by
  intro B O σ H F τ R a τ' e Q q
  unfold eMakeO at e
  split at e
  · rename_i ds h0
    split at e
    · rename_i k ks es hf
      split at e
      · rename_i hk
        subst hk
        cases e
        obtain ⟨p, s0, o0, ⟨vs, g0, r0⟩, n0⟩ := R.ownAt h0
        refine ⟨_, s0, ?_⟩
        intro x dx hx hdx hne
        have px : p ≠ x := ne_of_none g0 hx
        have sG : Same H (upd (upd H dx (.own x)) x (.ins (C k) dx [])) := fun b o h => by
          rw [upd_ne (ne_of_none h hx), upd_ne (ne_of_none h hdx)]
          exact h
        obtain ⟨R2, E2, g2⟩ := R.newO (x := .I k []) hx sG ⟨dx, [], upd_same, .nil⟩
        refine ⟨rfl, F, [.io (.I k []), .io (.L ds)], fun q => q = x ∨ q = p, _, _, R2.sub, ⟨rfl, ?_, ?_, ?_, ?_, ?_⟩, hf, fun v H' F' s1 s2 fr nf dm hio hr => ?_⟩
        · intro i d hi
          rcases i with _ | _ | i
          · cases hi
          · cases hi
          · simp at hi
        · intro i y hi
          rcases i with _ | _ | i
          · cases hi
            exact ⟨x, rfl, .inl rfl, ⟨dx, [], upd_same, .nil⟩, R.sub.free hx⟩
          · cases hi
            exact ⟨p, rfl, .inr rfl, ⟨vs, sG _ _ g0, r0⟩, n0⟩
          · simp at hi
        · intro i y hi
          rcases i with _ | _ | i
          · cases hi
          · cases hi
          · simp at hi
        · intro i l y z w hi hl h1 h2
          rcases i with _ | _ | i <;> rcases l with _ | _ | l
          · rfl
          · cases h1
            cases h2
            exact absurd rfl px
          · simp at hl
          · cases h1
            cases h2
            exact absurd rfl px
          · rfl
          · simp at hl
          · simp at hi
          · simp at hi
          · simp at hi
        · rintro w (rfl | rfl)
          · exact ⟨0, _, rfl, rfl⟩
          · exact ⟨1, _, rfl, rfl⟩
        · have hx' := hio 0 _ x rfl rfl
          obtain ⟨us, hp', rp'⟩ := hio 1 _ p rfl rfl
          have hv : v = .non := by cases (show Rp K C F' v .none from hr); rfl
          have fp : F' p = none := by
            cases e : F' p with
            | none => rfl
            | some o =>
              rcases nf p o e with h | h
              · rw [n0] at h; cases h
              · rw [sG _ _ g0] at h; cases h
          have hpH : (upd (upd H dx (.own x)) x (.ins (C k) dx [])) p = some (.lst vs) := sG _ _ g0
          -- the heap with what stood at p
          have R3 : Rel K C B _ σ (upd H' p (.lst vs)) F' τ := R2.afterT (x' := .I k ks) g2 s1 (fun b o h => by rw [upd_ne (ne_of_none h fp)]; exact s2 _ _ h) (fun b o h hb => by
            by_cases e : b = p
            · subst e
              rw [hpH] at h
              cases h
              rw [upd_same]
            · rw [upd_ne e]
              exact fr b o h (fun z => z.elim hb e)) nf (fun b h => by
            by_cases e : b = p
            · subst e; rw [upd_same] at h; cases h
            · rw [upd_ne e] at h; exact dm b h) (by
            obtain ⟨dx', fs, h1, h2⟩ := hx'
            exact ⟨dx', fs, by rw [upd_ne (fun e => px e.symm)]; exact h1, h2⟩)
          have hO3 : (putO (putO O x .tmp (.I k [])) x .tmp (.I k ks)) p = some (.slot j, .L ds) := (if_neg px).trans ((if_neg px).trans o0)
          have R4 := R3.updS (u := .lst us) (x' := .L es) h0 s0 hO3 ⟨us, upd_same, rp'⟩
          have hH : upd (upd H' p (.lst vs)) p (.lst us) = H' := funext fun b => by
            by_cases e : b = p
            · subst e; rw [upd_same, hp']
            · rw [upd_ne e, upd_ne e]
          rw [hH] at R4
          refine ⟨hv, q _ _ _ _ R4 ⟨s1, fun w y hw => ?_, fun w hw => sG.free (dm w hw)⟩ ⟨x, rfl, ?_, hx⟩⟩
          · have n : w ≠ x := by rintro rfl; exact R.live w y hw hx
            have n2 : w ≠ p := by rintro rfl; rw [o0] at hw; cases hw
            exact (if_neg n2).trans ((if_neg n).trans ((if_neg n).trans hw))
          · exact (if_neg (fun e => px e.symm)).trans (if_pos rfl)
      · cases e
    · cases e
  · cases e
end
/-! reading it -/
def MakeOK (c j : Nat) (f : List SD → Option (R × List SD)) (τ : List SD) (PR : R → List SD → Prop) : Prop := ∃ ds ks es, ownAt τ j = some (.L ds) ∧ f [.io (.I c []), .io (.L ds)] = some (.v .none, [.io (.I c ks), .io (.L es)]) ∧ PR (.n (.I c ks)) (ownSet τ j (.L es))
instance St.makeo_ {c j : Nat} {f : List SD → Option (R × List SD)} {τ : List SD} {PR : R → List SD → Prop} : St (Ev (eMakeO c j f) τ PR) (MakeOK c j f τ PR) := ⟨fun ⟨ds, ks, es, h1, h2, p⟩ => ⟨.n (.I c ks), ownSet τ j (.L es), by
  unfold eMakeO
  rw [h1]
  show (match f [.io (.I c []), .io (.L ds)] with | some (.v .none, [.io (.I k ks), .io (.L es)]) => if k = c then some (R.n (.I c ks), ownSet τ j (.L es)) else none | _ => none) = _
  rw [h2]
  exact if_pos rfl, p⟩⟩
theorem MakeOK.mk {c j : Nat} {f : List SD → Option (R × List SD)} {τ τ' : List SD} {PR : R → List SD → Prop} {ds es : List Dt} {ks : List (Dt × Dt)} [o : OwnC τ j (.L ds)] [s : OwnSetC τ j (.L es) τ'] (h : f [.io (.I c []), .io (.L ds)] = some (.v .none, [.io (.I c ks), .io (.L es)])) (p : PR (.n (.I c ks)) τ') : MakeOK c j f τ PR := ⟨ds, ks, es, o.eq, h, by rw [s.eq]; exact p⟩
end MR
end BW
--RAW
namespace BW
namespace MR
open PySem PySem.Spec PyProof.Rows L2
/-! ### zip_longest(one, other, fillvalue=e) of two tuples -/
def zlD : Dt → List Dt → List Dt → List Dt
  | _, [], [] => []
  | f, a :: as, [] => .tuple [a, f] :: zlD f as []
  | f, [], b :: bs => .tuple [f, b] :: zlD f [] bs
  | f, a :: as, b :: bs => .tuple [a, b] :: zlD f as bs
theorem zlD_len : ∀ (f : Dt) (as bs : List Dt), (zlD f as bs).length = max as.length bs.length
  | _, [], [] => by simp [zlD]
  | f, a :: as, [] => by simp [zlD, zlD_len f as []]
  | f, [], b :: bs => by simp [zlD, zlD_len f [] bs]
  | f, a :: as, b :: bs => by simp [zlD, zlD_len f as bs]
theorem zlD_get : ∀ (f : Dt) (as bs : List Dt) (i : Nat) (x : Dt), (zlD f as bs)[i]? = some x → x = .tuple [as[i]?.getD f, bs[i]?.getD f]
  | _, [], [], _, _, h => by simp [zlD] at h
  | f, a :: as, [], 0, x, h => by simp [zlD] at h; subst h; rfl
  | f, a :: as, [], i + 1, x, h => by
    simp only [zlD, List.getElem?_cons_succ] at h
    simpa using zlD_get f as [] i x h
  | f, [], b :: bs, 0, x, h => by simp [zlD] at h; subst h; rfl
  | f, [], b :: bs, i + 1, x, h => by
    simp only [zlD, List.getElem?_cons_succ] at h
    simpa using zlD_get f [] bs i x h
  | f, a :: as, b :: bs, 0, x, h => by simp [zlD] at h; subst h; rfl
  | f, a :: as, b :: bs, i + 1, x, h => by
    simp only [zlD, List.getElem?_cons_succ] at h
    simpa using zlD_get f as bs i x h
def iZlD (a : M (List R)) (b : M R) : M (List Dt) := mb a fun rs => mb b fun s => mb (fzR s) fun d => fun τ => match rds rs with
  | some [.tuple ds, .tuple es] => some (zlD d ds es, τ)
  | _ => none
section
variable {K : PySem.W.Frag} {C : Cl} {F : Hp}
theorem RpA.getD {vs : List V} {ds : List Dt} {f : V} {d : Dt} (r : RpA K C F vs ds) (rf : Rp K C F f d) (i : Nat) : Rp K C F (vs.getD i f) (ds[i]?.getD d) := by
  rw [List.getD_eq_getElem?_getD]
  cases h : ds[i]? with
  | some x =>
    obtain ⟨u, hu, ru⟩ := r.get h
    rw [hu]
    exact ru
  | none =>
    have h2 := List.getElem?_eq_none_iff.mp h
    rw [List.getElem?_eq_none_iff.mpr (by rw [r.length]; exact h2)]
    exact rf
theorem itzl_ok {a b : Addr} {xs ys : List V} {ds es : List Dt} {f : V} {d : Dt} (h : SqT K F a xs) (r : RpA K C F xs ds) (h' : SqT K F b ys) (r' : RpA K C F ys es) (rf : Rp K C F f d) : ItOk K C (Itzl K a b xs ys f) F (zlD d ds es) := by
  intro F' H' s1 s2
  have hs := Same.tupS s2 (Same.tupS s1 h)
  have hs' := Same.tupS s2 (Same.tupS s1 h')
  refine ⟨fun i x hx => ?_, ⟨hs, hs', by rw [zlD_len, r.length, r'.length]⟩⟩
  have hl := (List.getElem?_eq_some_iff.mp hx).1
  rw [zlD_len] at hl
  have e := zlD_get _ _ _ _ _ hx
  subst e
  refine ⟨⟨hs, hs', by rw [r.length, r'.length]; omega⟩, ?_⟩
  rintro v H'' ⟨T, rfl, hT, rfl⟩
  exact ⟨_, .inr ⟨T, _, hT, rfl, rfl⟩, pair_ok (same_new (s2.free hT)) upd_same ((r.getD rf i).same s1) ((r'.getD rf i).same s1)⟩
theorem jiZl {ta : TA} {tf : TE} {ea : M (List R)} {eb : M R} (ha : JA K C ta ea) (hb : JE K C tf eb) : JI K C (iZl K ta tf) (iZlD ea eb) := by
  intro B O σ H F τ R ds τ' e Q q
  obtain ⟨rs, τ1, e1, e2⟩ := mb_some e
  clear e
  obtain ⟨s, τ2, e3, e4⟩ := mb_some e2
  clear e2
  obtain ⟨d, τ3, e5, e6⟩ := mb_some e4
  clear e4
  refine ha B O σ H F τ R _ _ e1 _ fun vs H1 F1 O1 R1 E1 r1 => ?_
  refine hb B O1 σ H1 F1 τ1 R1 _ _ e3 _ fun v2 H2 F2 O2 R2 E2 r2 => ?_
  obtain ⟨O3, F3, R3, E3, _, r3⟩ := fz_ok R1 R2 E2 r2 e5
  split at e6
  · rename_i d1 d2 hd
    cases e6
    have rr := (rds_ok r1 hd).same E3.f
    rcases rr with _ | ⟨a, _ | ⟨b, _ | _⟩⟩
    cases a with
    | tup h1 k1 => cases b with
      | tup h2 k2 => exact ⟨_, _, _, _, rfl, Same.tupS R3.sub h1, Same.tupS R3.sub h2, q _ _ _ _ R3 (E1.trans E3) (itzl_ok h1 k1 h2 k2 r3)⟩
  · cases e6
end
def ZlK (rs : List R) (d : Dt) (P : List Dt → Prop) : Prop := ∃ ds es, rds rs = some [.tuple ds, .tuple es] ∧ P (zlD d ds es)
instance St.zl_ {as : M (List R)} {b : M R} {τ : List SD} {PI : List Dt → List SD → Prop} : St (Ev (iZlD as b) τ PI) (Ev as τ fun rs τ1 => Ev b τ1 fun s τ2 => FzK s τ2 fun d τ3 => ZlK rs d fun ds => PI ds τ3) := ⟨fun h => ev_mb (h.imp fun rs τ1 h => ev_mb (h.imp fun s τ2 h => ev_mb (Ev.imp h fun d τ3 ⟨ds, es, e, p⟩ => ⟨_, τ3, by simp only [e], p⟩)))⟩
def zlP : List Int → List Int → List (Int × Int)
  | [], [] => []
  | a :: as, [] => (a, 0) :: zlP as []
  | [], b :: bs => (0, b) :: zlP [] bs
  | a :: as, b :: bs => (a, b) :: zlP as bs
def ipD (p : Int × Int) : Dt := .tuple [.int p.1, .int p.2]
instance AsT.ipD_ {p : Int × Int} : AsT (ipD p) [.int p.1, .int p.2] := ⟨rfl⟩
theorem zlD_map : ∀ as bs : List Int, zlD (.int 0) (as.map .int) (bs.map .int) = (zlP as bs).map ipD
  | [], [] => by simp [zlD, zlP]
  | a :: as, [] => by
    have := zlD_map as []
    simp only [List.map_cons, List.map_nil, zlD, zlP] at this ⊢
    rw [this]
    rfl
  | [], b :: bs => by
    have := zlD_map [] bs
    simp only [List.map_cons, List.map_nil, zlD, zlP] at this ⊢
    rw [this]
    rfl
  | a :: as, b :: bs => by
    have := zlD_map as bs
    simp only [List.map_cons, zlD, zlP] at this ⊢
    rw [this]
    rfl
theorem zlP_len : ∀ as bs : List Int, (zlP as bs).length = max as.length bs.length
  | [], [] => by simp [zlP]
  | a :: as, [] => by simp [zlP, zlP_len as []]
  | [], b :: bs => by simp [zlP, zlP_len [] bs]
  | a :: as, b :: bs => by simp [zlP, zlP_len as bs]
/-! an attribute is set -/
def FldSK (i c : Nat) (f : Str) (d : Dt) (τ : List SD) (P : List SD → Prop) : Prop := ∃ ks, ownAt τ i = some (.I c ks) ∧ ks.length < 900 ∧ P (ownSet τ i (.I c (putK f d ks)))
instance St.fldS_ {i c : Nat} {f : Str} {a : M R} {τ : List SD} {P : Fl → List SD → Prop} : St (Ev (sFldD i c f a) τ P) (Ev a τ fun r τ1 => FzK r τ1 fun d τ2 => FldSK i c f d τ2 (P .nx)) := ⟨fun h => ev_mb (h.imp fun r τ1 h => ev_mb (Ev.imp h fun d τ2 ⟨ks, e, h1, p⟩ => ⟨_, _, by
  simp only [e, true_and]
  exact if_pos h1, p⟩))⟩
instance St.fldS0_ {i c : Nat} {f : Str} {d : Dt} {τ τ' : List SD} {P : List SD → Prop} [o : OwnC τ i (.I c [])] [s : OwnSetC τ i (.I c [(.str f, d)]) τ'] : St (FldSK i c f d τ P) (P τ') := ⟨fun p => ⟨[], o.eq, by simp, by show P (ownSet τ i (.I c [(.str f, d)])); rw [s.eq]; exact p⟩⟩
end MR
end BW
--RAW
namespace BW
namespace MR
open PySem PySem.Spec PyProof.Rows L2
/-! ### comprehensions with two fors -/
def lcT2 (vs : List Nat) (g : Dt → M Unit) (t : M Bool) (it1 : M (List Dt)) (T1 : Dt → M (Option Dt)) (d : Dt) (acc : List Dt) : M (List Dt) := fun τ => if okW τ vs then
  match g d (wipeD τ vs) with
  | some (_, τ1) => match t τ1 with
    | some (true, τ2) => match it1 τ2 with
      | some (ds1, τ3) => match lcG T1 ds1 acc τ3 with
        | some (acc1, τ4) => some (acc1, backD τ τ4 vs)
        | none => none
      | none => none
    | some (false, τ2) => some (acc, backD τ τ2 vs)
    | none => none
  | none => none
  else none
def lcG2 (T : Dt → List Dt → M (List Dt)) : List Dt → List Dt → M (List Dt)
  | [], acc => fun τ => some (acc, τ)
  | d :: ds, acc => fun τ => match T d acc τ with
    | some (acc1, τ1) => lcG2 T ds acc1 τ1
    | none => none
def eLc2 (it : M (List Dt)) (vs : List Nat) (g : Dt → M Unit) (t : M Bool) (it1 : M (List Dt)) (vs1 : List Nat) (g1 : Dt → M Unit) (t1 : M Bool) (e : M R) : M R := mb it fun ds => mb (lcG2 (lcT2 vs g t it1 (lcT vs1 g1 t1 e)) ds []) fun acc => fun τ => some (.n (.L acc), τ)
section
variable {K : PySem.W.Frag} {C : Cl} {B : Bs} {O : OO} {σ σ2 : L2.St} {H F : Hp} {τ τ3 : List SD}
/-- the inner loop, from a list that is being filled -/
theorem lc_in {g1 : TG} {tt1 : TT} {te : TE} {vs1 : List Nat} {eg1 : Dt → M Unit} {et1 : M Bool} {ee : M R} (hg : JGw K C vs1 g1 eg1) (ht : JT K C tt1 et1) (he : JE K C te ee)
    {J : It} {ds1 : List Dt} {H0 F0 : Hp} {O0 : OO} {τ0 τ4 : List SD} {D : Addr} {ac0 acc1 : List Dt} (R0 : Rel K C B O0 σ2 H0 F0 τ0) (ok : ItOk K C J F0 ds1) (E0 : Ext O H F O0 H0 F0) (hDn : ∀ y, O D ≠ some (.tmp, y)) (gD0 : O0 D = some (.tmp, .L ac0))
    (e1 : lcG (lcT vs1 eg1 et1 ee) ds1 ac0 τ0 = some (acc1, τ4)) {Nx : Hp → Prop} (q : ∀ X F1 O1, Rel K C B O1 σ2 X F1 τ4 → Ext O H F O1 X F1 → Same F0 F1 → O1 D = some (.tmp, .L acc1) → Nx X) :
    ∃ W1 : Nat → Nat → Hp → Prop, (∃ m, W1 0 m H0) ∧ ∀ j k H, W1 j k H →
      (J.stop j H ∧ Nx H) ∨ (J.go j H ∧ ∃ Nx1 : Hp → Prop, (∀ H', Nx1 H' → ∃ k', k' < k ∧ W1 (j + 1) k' H') ∧ ∀ x H', J.yld j H x H' → g1 x (L2.wipe σ2 vs1) H' fun σ3 H5 => L2.wipe σ3 vs1 = L2.wipe σ2 vs1 ∧ tt1 σ3 H5 fun b H6 =>
        if b = true then te σ3 H6 fun y H7 => ∃ acc, H7 D = some (.lst acc) ∧ acc.length < sizeLine ∧ Nx1 (upd H7 D (.lst (acc ++ [y]))) else Nx1 H6) := by
  have hww := wipe_wipe vs1
  refine ⟨fun i m X => m = ds1.length - i ∧ i ≤ ds1.length ∧ ∃ F1 O1 τ1 ac, Rel K C B O1 σ2 X F1 τ1 ∧ Ext O H F O1 X F1 ∧ Same F0 F1 ∧ O1 D = some (.tmp, .L ac) ∧ lcG (lcT vs1 eg1 et1 ee) (ds1.drop i) ac τ1 = some (acc1, τ4), ⟨ds1.length, rfl, Nat.zero_le _, F0, O0, τ0, ac0, R0, E0, Same.refl _, gD0, by rw [List.drop_zero]; exact e1⟩, ?_⟩
  rintro i m X ⟨rfl, hil, F1, O1, τ1, ac, R2, E2, sF, gD, hm⟩
  obtain ⟨k1, k2⟩ := ok F1 X sF R2.sub
  by_cases hlt : i < ds1.length
  · refine .inr ?_
    obtain ⟨d, hd⟩ : ∃ d, ds1[i]? = some d := ⟨_, List.getElem?_eq_getElem hlt⟩
    obtain ⟨j1, j2⟩ := k1 i d hd
    refine ⟨j1, ?_⟩
    have hdr : ds1.drop i = d :: ds1.drop (i + 1) := by
      rw [List.drop_eq_getElem_cons hlt]
      congr 1
      rw [List.getElem?_eq_getElem hlt] at hd
      exact Option.some.inj hd
    rw [hdr] at hm
    unfold lcG at hm
    refine ⟨fun X' => ∃ F3 O3 τ3 ac, Rel K C B O3 σ2 X' F3 τ3 ∧ Ext O H F O3 X' F3 ∧ Same F0 F3 ∧ O3 D = some (.tmp, .L ac) ∧ lcG (lcT vs1 eg1 et1 ee) (ds1.drop (i + 1)) ac τ3 = some (acc1, τ4), fun X' h => ⟨_, by omega, rfl, hlt, h⟩, ?_⟩
    intro x X2 hy
    obtain ⟨F2, y2, r2⟩ := j2 x X2 hy
    obtain ⟨R3, E3⟩ := R2.yld (Same.refl _) y2
    have EE := E2.trans E3
    have sS := sF.trans E3.f
    have gD3 : O1 D = some (.tmp, .L ac) := gD
    split at hm
    · rename_i y τ3 e3
      split at hm
      · rename_i hl
        unfold lcT at e3
        split at e3
        · rename_i hok
          split at e3
          · rename_i u τ4' e4
            refine hg B O1 _ X2 F2 _ (R3.wipe vs1) _ _ _ _ r2 e4 _ fun σ4 H4 F4 O4 R4 E4 w4 => ?_
            refine ⟨w4.trans (hww σ2) |>.trans rfl, ?_⟩
            split at e3
            · rename_i τ5 e5
              refine ht B O4 _ H4 F4 _ R4 _ _ e5 _ fun bv H5 F5 O5 R5 E5 rb => ?_
              subst rb
              refine iteT ?_
              split at e3
              · rename_i y' τ6 e6
                cases e3
                refine (jF he) B O5 _ H5 F5 _ R5 _ _ e6 _ fun v6 H6 F6 O6 R6 E6 r6 => ?_
                have g6 := E6.t _ _ (E5.t _ _ (E4.t _ _ gD3))
                obtain ⟨⟨vs6, h6, k6⟩, n6, _⟩ := R6.own _ _ _ g6
                have R7 := Rel.back R3 R6 ((E4.f.trans E5.f).trans E6.f) (w4.trans (hww σ2)) hok
                have E7 := ((EE.trans E4).trans E5).trans E6
                have r6' : Rp K C F6 v6 y := r6
                refine ⟨vs6, h6, by rw [k6.length]; exact Nat.lt_of_lt_of_le hl million, F6, _, _, ac ++ [y], R7.updT g6 (x' := .L (ac ++ [y])) ⟨_, upd_same, k6.snoc r6'⟩, E7.updO hDn g6, (sS.trans ((E4.f.trans E5.f).trans E6.f)), if_pos rfl, hm⟩
              · cases e3
            · cases e3
            · cases e3
          · cases e3
        · cases e3
      · cases hm
    · rename_i τ3 e3
      unfold lcT at e3
      split at e3
      · rename_i hok
        split at e3
        · rename_i u τ4' e4
          refine hg B O1 _ X2 F2 _ (R3.wipe vs1) _ _ _ _ r2 e4 _ fun σ4 H4 F4 O4 R4 E4 w4 => ?_
          refine ⟨w4.trans (hww σ2), ?_⟩
          split at e3
          · rename_i τ5 e5
            split at e3 <;> cases e3
          · rename_i τ5 e5
            cases e3
            refine ht B O4 _ H4 F4 _ R4 _ _ e5 _ fun bv H5 F5 O5 R5 E5 rb => ?_
            subst rb
            refine iteF ?_
            exact ⟨F5, O5, _, ac, Rel.back R3 R5 (E4.f.trans E5.f) (w4.trans (hww σ2)) hok, (EE.trans E4).trans E5, sS.trans (E4.f.trans E5.f), E5.t _ _ (E4.t _ _ gD3), hm⟩
          · cases e3
        · cases e3
      · cases e3
    · cases hm
  · have ei : i = ds1.length := by omega
    subst ei
    rw [List.drop_length] at hm
    cases hm
    exact .inl ⟨k2, q _ F1 O1 R2 E2 sF gD⟩
theorem jLc2 {wi wi1 : TI} {g g1 : TG} {tt tt1 : TT} {te : TE} {vs vs1 : List Nat} {it it1 : M (List Dt)} {eg eg1 : Dt → M Unit} {et et1 : M Bool} {ee : M R} (hi : JI K C wi it) (hg : JGw K C vs g eg) (ht : JT K C tt et) (hi1 : JI K C wi1 it1) (hg1 : JGw K C vs1 g1 eg1) (ht1 : JT K C tt1 et1) (he : JE K C te ee) :
    JE K C (tLc2 wi g tt wi1 g1 tt1 te vs vs1) (eLc2 it vs eg et it1 vs1 eg1 et1 ee) := by
  have hww := wipe_wipe vs
  intro B O σ H F τ R a τ' e Q q
  obtain ⟨ds, τ0, e0, ea⟩ := mb_some e
  clear e
  obtain ⟨acc, τf, e1, e2⟩ := mb_some ea
  clear ea
  cases e2
  refine hi B O σ H F τ R _ _ e0 _ fun J H0 F0 O0 R0 E0 ok => ?_
  intro D hD
  obtain ⟨R1, E1, g1'⟩ := R0.newO (x := .L []) (p := D) (G := upd H0 D (.lst [])) hD (same_new hD) ⟨[], upd_same, .nil⟩
  have hDn : ∀ y, O D ≠ some (.tmp, y) := fun y h => R.live D y h (E0.d D hD)
  have q2 : ∀ X, (∃ F1 O1, Rel K C B O1 σ X F1 τ' ∧ Ext O H F O1 X F1 ∧ O1 D = some (.tmp, .L acc)) → Q (.ref D) X := fun X ⟨F1, O1, R', E', g'⟩ => q _ _ _ _ R' E' ⟨D, rfl, g', E0.d D hD⟩
  refine ⟨fun i m X => m = ds.length - i ∧ i ≤ ds.length ∧ ∃ F1 O1 τ1 ac, Rel K C B O1 σ X F1 τ1 ∧ Ext O H F O1 X F1 ∧ Same F0 F1 ∧ O1 D = some (.tmp, .L ac) ∧ lcG2 (lcT2 vs eg et it1 (lcT vs1 eg1 et1 ee)) (ds.drop i) ac τ1 = some (acc, τ'), ⟨ds.length, rfl, Nat.zero_le _, F0, _, τ0, [], R1, E0.trans E1, Same.refl _, g1', by rw [List.drop_zero]; exact e1⟩, ?_⟩
  rintro i m X ⟨rfl, hil, F1, O1, τ1, ac, R2, E2, sF, gD, hm⟩
  obtain ⟨k1, k2⟩ := ok F1 X sF R2.sub
  by_cases hlt : i < ds.length
  · refine .inr ?_
    obtain ⟨d, hd⟩ : ∃ d, ds[i]? = some d := ⟨_, List.getElem?_eq_getElem hlt⟩
    obtain ⟨j1, j2⟩ := k1 i d hd
    refine ⟨j1, ?_⟩
    have hdr : ds.drop i = d :: ds.drop (i + 1) := by
      rw [List.drop_eq_getElem_cons hlt]
      congr 1
      rw [List.getElem?_eq_getElem hlt] at hd
      exact Option.some.inj hd
    rw [hdr] at hm
    unfold lcG2 at hm
    refine ⟨fun X' => ∃ F3 O3 τ3 ac, Rel K C B O3 σ X' F3 τ3 ∧ Ext O H F O3 X' F3 ∧ Same F0 F3 ∧ O3 D = some (.tmp, .L ac) ∧ lcG2 (lcT2 vs eg et it1 (lcT vs1 eg1 et1 ee)) (ds.drop (i + 1)) ac τ3 = some (acc, τ'), fun X' h => ⟨_, by omega, rfl, hlt, h⟩, ?_⟩
    intro x X2 hy
    obtain ⟨F2, y2, r2⟩ := j2 x X2 hy
    obtain ⟨R3, E3⟩ := R2.yld (Same.refl _) y2
    have EE := E2.trans E3
    have sS := sF.trans E3.f
    split at hm
    · rename_i acc1 τ3 e3
      unfold lcT2 at e3
      split at e3
      · rename_i hok
        split at e3
        · rename_i u τ4 e4
          refine hg B O1 _ X2 F2 _ (R3.wipe vs) _ _ _ _ r2 e4 _ fun σ4 H4 F4 O4 R4 E4 w4 => ?_
          refine ⟨w4.trans (hww σ) |>.trans rfl, ?_⟩
          split at e3
          · rename_i τ5 e5
            refine ht B O4 _ H4 F4 _ R4 _ _ e5 _ fun bv H5 F5 O5 R5 E5 rb => ?_
            subst rb
            refine iteT ?_
            split at e3
            · rename_i ds1 τ6 e6
              split at e3
              · rename_i acc2 τ7 e7
                cases e3
                refine hi1 B O5 _ H5 F5 _ R5 _ _ e6 _ fun J1 H6 F6 O6 R6 E6 ok6 => ?_
                have E7 := ((EE.trans E4).trans E5).trans E6
                refine lc_in hg1 ht1 he R6 ok6 E7 hDn (E6.t _ _ (E5.t _ _ (E4.t _ _ gD))) e7 fun X' F7 O7 R7 E8 s8 g7 => ?_
                have s9 := ((E4.f.trans E5.f).trans E6.f).trans s8
                exact ⟨F7, O7, _, acc1, Rel.back R3 R7 s9 (w4.trans (hww σ)) hok, E8, sS.trans s9, g7, hm⟩
              · cases e3
            · cases e3
          · rename_i τ5 e5
            cases e3
            refine ht B O4 _ H4 F4 _ R4 _ _ e5 _ fun bv H5 F5 O5 R5 E5 rb => ?_
            subst rb
            refine iteF ?_
            exact ⟨F5, O5, _, _, Rel.back R3 R5 (E4.f.trans E5.f) (w4.trans (hww σ)) hok, (EE.trans E4).trans E5, sS.trans (E4.f.trans E5.f), E5.t _ _ (E4.t _ _ gD), hm⟩
          · cases e3
        · cases e3
      · cases e3
    · cases hm
  · have ei : i = ds.length := by omega
    subst ei
    rw [List.drop_length] at hm
    cases hm
    exact .inl ⟨k2, q2 _ ⟨F1, O1, R2, E2, gD⟩⟩
end
section
variable {τ : List SD}
theorem ev_lc2 {it it1 : M (List Dt)} {vs vs1 : List Nat} {g g1 : Dt → M Unit} {t t1 : M Bool} {e : M R} {P : R → List SD → Prop} (h : Ev it τ fun ds τ1 => Ev (lcG2 (lcT2 vs g t it1 (lcT vs1 g1 t1 e)) ds []) τ1 fun acc τ2 => P (.n (.L acc)) τ2) : Ev (eLc2 it vs g t it1 vs1 g1 t1 e) τ P :=
  ev_mb (h.imp fun _ _ h => ev_mb (h.imp fun _ _ h => ev_pure h))
theorem lcG_map {β : Type} {T : Dt → M (Option Dt)} (enc f : β → Dt) : ∀ (ys : List β) (acc : List Dt), acc.length + ys.length ≤ 1000000 → (∀ y ∈ ys, Ev (T (enc y)) τ fun r τ1 => r = some (f y) ∧ τ1 = τ) → lcG T (ys.map enc) acc τ = some (acc ++ ys.map f, τ)
  | [], acc, _, _ => by rw [List.map_nil, List.map_nil, List.append_nil]; rfl
  | y :: ys, acc, hl, h => by
    obtain ⟨r, τ1, e1, hr, ht⟩ := h y List.mem_cons_self
    rw [hr, ht] at e1
    rw [List.map_cons]
    unfold lcG
    simp only [e1]
    rw [if_pos (by rw [List.length_cons] at hl; omega), lcG_map enc f ys (acc ++ [f y]) (by rw [List.length_append, List.length_cons, List.length_nil]; rw [List.length_cons] at hl; omega) fun z hz => h z (List.mem_cons_of_mem _ hz)]
    simp
theorem lcG2_map {α : Type} {T : Dt → List Dt → M (List Dt)} (enc : α → Dt) (f : α → List Dt) : ∀ (xs : List α) (acc : List Dt), acc.length + ((xs.map f).flatten).length ≤ 1000000 → (∀ x ∈ xs, ∀ acc : List Dt, acc.length + (f x).length ≤ 1000000 → T (enc x) acc τ = some (acc ++ f x, τ)) → lcG2 T (xs.map enc) acc τ = some (acc ++ (xs.map f).flatten, τ)
  | [], acc, _, _ => by rw [List.map_nil, List.map_nil, List.flatten_nil, List.append_nil]; rfl
  | x :: xs, acc, hl, h => by
    rw [List.map_cons, List.flatten_cons, List.length_append] at hl
    rw [List.map_cons]
    unfold lcG2
    simp only [h x List.mem_cons_self acc (by omega)]
    rw [lcG2_map enc f xs _ (by rw [List.length_append]; omega) fun z hz => h z (List.mem_cons_of_mem _ hz), List.map_cons, List.flatten_cons, List.append_assoc]
def In2K (T1 : Dt → M (Option Dt)) (ds1 out : List Dt) (τ : List SD) (P : Prop) : Prop := ∃ (β : Type) (enc f : β → Dt) (ys : List β), ds1 = ys.map enc ∧ out = ys.map f ∧ (∀ y ∈ ys, Ev (T1 (enc y)) τ fun r τ4 => r = some (f y) ∧ τ4 = τ) ∧ P
theorem In2K.mk {T1 : Dt → M (Option Dt)} {ds1 out : List Dt} {P : Prop} {β : Type} (enc f : β → Dt) (ys : List β) (h1 : ds1 = ys.map enc) (h2 : out = ys.map f) (h3 : ∀ y ∈ ys, Ev (T1 (enc y)) τ fun r τ4 => r = some (f y) ∧ τ4 = τ) (p : P) : In2K T1 ds1 out τ P := ⟨β, enc, f, ys, h1, h2, h3, p⟩
theorem lc2_st {α : Type} {PA : List Dt → List SD → Prop} {it1 : M (List Dt)} {vs : List Nat} {g : Dt → M Unit} {t : M Bool} {T1 : Dt → M (Option Dt)} {τ0 : List SD} {ds : List Dt} [w : WipeC τ vs τ0] (enc : α → Dt) (f : α → List Dt) {xs : List α} (hd : ds = xs.map enc) (hw : okW τ vs = true) (hl : ((xs.map f).flatten).length ≤ 1000000) (hP : PA ((xs.map f).flatten) τ)
    (hs : ∀ x ∈ xs, Ev (g (enc x)) τ0 fun _ τ1 => Ev t τ1 fun k τ2 => TrueK k (Ev it1 τ2 fun ds1 τ3 => In2K T1 ds1 (f x) τ3 (backD τ τ3 vs = τ))) : Ev (lcG2 (lcT2 vs g t it1 T1) ds []) τ PA := by
  subst hd
  refine ⟨_, _, lcG2_map (τ := τ) enc f xs [] (by rw [List.length_nil]; omega) fun x hx acc ha => ?_, by rw [List.nil_append]; exact hP⟩
  obtain ⟨u, τ1, e1, k, τ2, e2, hk, ds1, τ3, e3, β, enc1, f1, ys, rfl, h2, h3, hb⟩ := hs x hx
  have hk : k = true := hk
  subst hk
  have e4 := lcG_map (τ := τ3) enc1 f1 ys acc (by rw [h2, List.length_map] at ha; exact ha) h3
  unfold lcT2
  rw [if_pos hw, w.eq]
  simp only [e1, e2, e3, e4, hb, h2]
instance St.lc2_ {it it1 : M (List Dt)} {vs vs1 : List Nat} {g g1 : Dt → M Unit} {t t1 : M Bool} {e : M R} {PR : R → List SD → Prop} : St (Ev (eLc2 it vs g t it1 vs1 g1 t1 e) τ PR) (Ev it τ fun ds τ1 => Ev (lcG2 (lcT2 vs g t it1 (lcT vs1 g1 t1 e)) ds []) τ1 fun acc τ2 => PR (.n (.L acc)) τ2) := ⟨ev_lc2⟩
end
end MR
end BW
--RAW
namespace BW
namespace MR
open PySem PySem.Spec PyProof.Rows L2
/-! ### zip of a list and a tuple -/
def iZmD (a : M (List R)) : M (List Dt) := mb a fun rs => fun τ => match rds rs with
  | some [.list ds, .list es] => some (zpD ds es, τ)
  | some [.tuple ds, .tuple es] => some (zpD ds es, τ)
  | some [.list ds, .tuple es] => some (zpD ds es, τ)
  | _ => none
section
variable {K : PySem.W.Frag} {C : Cl} {F : Hp}
theorem itzm_ok {a b : Addr} {xs ys : List V} {ds es : List Dt} (h : SqL K F a xs) (r : RpA K C F xs ds) (h' : SqT K F b ys) (r' : RpA K C F ys es) : ItOk K C (Itzm K a b xs ys) F (zpD ds es) := by
  intro F' H' s1 s2
  have hs := s2.seq (s1.seq h)
  have hs' := Same.tupS s2 (Same.tupS s1 h')
  refine ⟨fun i d hd => ?_, ⟨hs, hs', by rw [zpD_len, r.length, r'.length]⟩⟩
  obtain ⟨x, y, hd2, he, rfl⟩ := zpD_get _ _ _ _ hd
  obtain ⟨u, hu, ru⟩ := r.get hd2
  obtain ⟨w, hw, rw'⟩ := r'.get he
  refine ⟨⟨hs, hs', (List.getElem?_eq_some_iff.mp hu).1, (List.getElem?_eq_some_iff.mp hw).1⟩, ?_⟩
  rintro y H'' ⟨T, z, z', rfl, hT, rfl, hx, hy⟩
  rw [hu] at hx
  cases hx
  rw [hw] at hy
  cases hy
  exact ⟨_, .inr ⟨T, _, hT, rfl, rfl⟩, pair_ok (same_new (s2.free hT)) upd_same (ru.same s1) (rw'.same s1)⟩
theorem jiZmO {ta : TA} {ea : M (List R)} (ha : JA K C ta ea) : JI K C (fun σ H R => RZ.iZipA K ta σ H R ∨ iZm K ta σ H R) (iZmD ea) := by
  intro B O σ H F τ R ds τ' e Q q
  obtain ⟨x, τ1, e1, e⟩ := mb_some e
  split at e
  · rename_i d1 d2 hd
    cases e
    refine .inl (ha B O σ H F τ R _ _ e1 _ fun v1 H1 F1 O1 R1 E1 r1 => ?_)
    have rr := rds_ok r1 hd
    rcases rr with _ | ⟨a, _ | ⟨b, _ | _⟩⟩
    cases a with
    | lst h1 k1 => cases b with
      | lst h2 k2 => exact ⟨_, _, _, _, rfl, .inl ⟨R1.sub.seq h1, R1.sub.seq h2, q _ _ _ _ R1 E1 (itz_ok h1 k1 h2 k2)⟩⟩
  · rename_i d1 d2 hd
    cases e
    refine .inl (ha B O σ H F τ R _ _ e1 _ fun v1 H1 F1 O1 R1 E1 r1 => ?_)
    have rr := rds_ok r1 hd
    rcases rr with _ | ⟨a, _ | ⟨b, _ | _⟩⟩
    cases a with
    | tup h1 k1 => cases b with
      | tup h2 k2 => exact ⟨_, _, _, _, rfl, .inr ⟨Same.tupS R1.sub h1, Same.tupS R1.sub h2, q _ _ _ _ R1 E1 (itzt_ok h1 k1 h2 k2)⟩⟩
  · rename_i d1 d2 hd
    cases e
    refine .inr (ha B O σ H F τ R _ _ e1 _ fun v1 H1 F1 O1 R1 E1 r1 => ?_)
    have rr := rds_ok r1 hd
    rcases rr with _ | ⟨a, _ | ⟨b, _ | _⟩⟩
    cases a with
    | lst h1 k1 => cases b with
      | tup h2 k2 => exact ⟨_, _, _, _, rfl, R1.sub.seq h1, Same.tupS R1.sub h2, q _ _ _ _ R1 E1 (itzm_ok h1 k1 h2 k2)⟩
  · cases e
end
end MR
end BW
--RAW
namespace BW
namespace MR
open PySem PySem.Spec PyProof.Rows L2
/-! two keywords the other way round -/
@[simp, reducible] def sw2 {α : Type} : List α → List α
  | [a, b] => [b, a]
  | _ => []
section
variable {K : PySem.W.Frag} {C : Cl} {H0 F : Hp} {O : OO} {σ : L2.St}
theorem sw2_rvs : ∀ (vs : List V) (rs : List R), RVs K C H0 O F σ vs rs → RVs K C H0 O F σ (sw2 vs) (sw2 rs)
  | [], [], _ => True.intro
  | [_], [_], _ => True.intro
  | [_, _], [_, _], ⟨h1, h2, _⟩ => ⟨h2, h1, True.intro⟩
  | _ :: _ :: _ :: _, _ :: _ :: _ :: _, _ => True.intro
  | [], _ :: _, h => h.elim
  | _ :: _, [], h => h.elim
  | [_], _ :: _ :: _, h => h.2.elim
  | _ :: _ :: _, [_], h => h.2.elim
  | [_, _], _ :: _ :: _ :: _, h => h.2.2.elim
  | _ :: _ :: _ :: _, [_, _], h => h.2.2.elim
theorem sw2_len {ea : M (List R)} (h : ∀ (rs : List R) (τ τ' : List SD), ea τ = some (rs, τ') → rs.length = 2) : ∀ (rs : List R) (τ τ' : List SD), ea τ = some (rs, τ') → (sw2 rs).length = 2 := fun rs τ τ' e => by
  have := h rs τ τ' e
  rcases rs with _ | ⟨a, _ | ⟨b, _ | ⟨c, t⟩⟩⟩
  · cases this
  · cases this
  · rfl
  · simp at this
end
end MR
end BW
--RAW
namespace BW
namespace MXT
open PySem PySem.Spec PyProof.Rows L2 BW.MR
/-! ### max(xs), xs a list or a tuple of whole numbers -/
section
variable {X : Cx}
def rMaxA (K : PySem.W.Frag) : List V → Hp → VK → Prop := fun vs H Q => ∃ (a : Addr) (ns : List Int), vs = [V.ref a] ∧ (SqL K H a (ns.map V.int) ∨ SqT K H a (ns.map V.int)) ∧ 0 < ns.length ∧ ∀ m, m ∈ ns → (∀ y, y ∈ ns → y ≤ m) → Q (.int m) H
theorem cr_maxA (hc : X.calm = true) (hu : X.A.units + 64 < cLine) : CallR X (.builtin "max") (rMaxA X.K) := by
  intro pins s σ H vs us Q I r h
  obtain ⟨a, ns, rfl, hs, hne, q1⟩ := h
  obtain rfl := Vals.ref1 r
  cases ns with
  | nil => exact absurd hne (by decide)
  | cons n ns' =>
    have fin : ∀ (v : Value) (h' : Heap) (tk : _) (bs : List Addr), Reads h' v (PySem.W.maxD (.int n) (ns'.map .int)) bs → (∀ b o, s.heap.get? b = some o → h'.get? b = some o) → EP X pins σ Q v { s with heap := h', toks := tk } := by
      intro v h' tk bs hr hk
      rw [PySem.W.maxD_ints] at hr
      obtain ⟨h1, h2⟩ := MXD.fold_max ns' n
      cases hr
      exact ⟨.int _, H, I.kept hk, ⟨_, rfl⟩, q1 _ h1 h2⟩
    have hu' : X.A.units + 1 + PyData.depthAll ((n :: ns').map PyData.int) < cLine := by
      rw [MXD.deep0]
      omega
    rcases hs with hs | hs
    · obtain ⟨its, rv, hl, hz⟩ := I.list hs
      exact PySem.W.max_list_data (I.ok.hd hc) hl.isList (rv.ints.reads s.heap) (MXD.alike_ints (n :: ns')) hu' fun i v h' tk bs _ hr hk => fin v h' tk bs hr hk
    · obtain ⟨its, rv, hl, hz⟩ := I.tuple hs
      exact PySem.W.max_tuple_data (I.ok.hd hc) hl (rv.ints.reads s.heap) (MXD.alike_ints (n :: ns')) hu' fun i v h' tk bs _ hr hk => fin v h' tk bs hr hk
end
section
variable {K : PySem.W.Frag} {C : Cl}
def maxAD : List Dt → Option R
  | [.list ds] => (intsOf ds).bind fun ns => (maxI ns).map fun m => .v (.int m)
  | [.tuple ds] => (intsOf ds).bind fun ns => (maxI ns).map fun m => .v (.int m)
  | _ => none
theorem fj_maxA : FnJ K C (rMaxA K) maxAD := by
  intro B O σ H F τ xs ds res R h e Q q
  unfold maxAD at e
  split at e
  · obtain ⟨ns, e1, e2⟩ := Option.bind_eq_some_iff.mp e
    clear e
    obtain ⟨m, e4, e3⟩ := Option.map_eq_some_iff.mp e2
    clear e2
    cases e3
    obtain ⟨x, rfl, hv⟩ := paired1 h
    obtain ⟨p, rfl, h1⟩ := hv.ints R.sub e1
    obtain ⟨k1, k2⟩ := maxI_ok e4
    refine ⟨_, _, rfl, .inl h1, List.length_pos_of_mem k1, fun m' g1 g2 => ?_⟩
    have : m' = m := Int.le_antisymm (k2 _ g1) (g2 _ k1)
    subst this
    exact fin_v R (.int _) q
  · obtain ⟨ns, e1, e2⟩ := Option.bind_eq_some_iff.mp e
    clear e
    obtain ⟨m, e4, e3⟩ := Option.map_eq_some_iff.mp e2
    clear e2
    cases e3
    obtain ⟨x, rfl, hv⟩ := paired1 h
    obtain ⟨p, vs, rfl, h1, r1⟩ := hv.tupH R.sub
    rw [intsOf_ok e1] at r1
    rw [r1.ints] at h1
    obtain ⟨k1, k2⟩ := maxI_ok e4
    refine ⟨_, _, rfl, .inr h1, List.length_pos_of_mem k1, fun m' g1 g2 => ?_⟩
    have : m' = m := Int.le_antisymm (k2 _ g1) (g2 _ k1)
    subst this
    exact fin_v R (.int _) q
  · cases e
end
end MXT
end BW
--RAW
namespace BW
namespace MR
open PySem PySem.Spec PyProof.Rows L2
/-! ### what is raised: c is the number of the class, by relations -/
abbrev XM := List SD → Nat → List SD → Prop
section
variable (K : PySem.W.Frag) (C : Cl)
/-- the wish about what is raised is met -/
def WOk (W : WX) (B : Bs) (O : OO) (H F : Hp) (c : Nat) (τ' : List SD) : Prop := ∀ (σ' : L2.St) (H' F' : Hp) (O' : OO), Rel K C B O' σ' H' F' τ' → Ext O H F O' H' F' → W (.ref (C c)) none σ' H'
def JX {β : Type} (W : WX) (t : L2.St → Hp → (β → Hp → Prop) → Prop) (x : XM) : Prop :=
  ∀ (B : Bs) (O : OO) (σ : L2.St) (H F : Hp) (τ : List SD), Rel K C B O σ H F τ → ∀ (c : Nat) (τ' : List SD), x τ c τ' → WOk K C W B O H F c τ' → ∀ Q : β → Hp → Prop, t σ H Q
def JXS (W : WX) (t : TS) (x : XM) : Prop :=
  ∀ (B : Bs) (O : OO) (σ : L2.St) (H F : Hp) (τ : List SD), Rel K C B O σ H F τ → ∀ (c : Nat) (τ' : List SD), x τ c τ' → WOk K C W B O H F c τ' → ∀ D : Ends, t D σ H
end
def xNo : XM := fun _ _ _ => False
/-- the first part raises, or else the second one -/
def xThen {α : Type} (x : XM) (m : M α) (y : XM) : XM := fun τ c τ' => x τ c τ' ∨ ∃ a τ1, m τ = some (a, τ1) ∧ y τ1 c τ'
def xAnd (x : XM) (m : M Bool) (y : XM) : XM := fun τ c τ' => x τ c τ' ∨ ∃ τ1, m τ = some (true, τ1) ∧ y τ1 c τ'
def xOr (x : XM) (m : M Bool) (y : XM) : XM := fun τ c τ' => x τ c τ' ∨ ∃ τ1, m τ = some (false, τ1) ∧ y τ1 c τ'
def xSeq (x : XM) (m : M Fl) (y : XM) : XM := fun τ c τ' => x τ c τ' ∨ ∃ τ1, m τ = some (.nx, τ1) ∧ y τ1 c τ'
def xIf (x : XM) (m : M Bool) (y z : XM) : XM := fun τ c τ' => x τ c τ' ∨ ∃ k τ1, m τ = some (k, τ1) ∧ (if k = true then y else z) τ1 c τ'
def xRaise (k : Nat) : XM := fun τ c τ' => c = k ∧ τ' = τ
def xCall (x : XM) (m : M (List R)) (X : List SD → Nat → Prop) : XM := fun τ c τ' => x τ c τ' ∨ ∃ rs as, m τ = some (rs, τ') ∧ argsD τ' rs = some as ∧ ioOf 0 rs = [] ∧ X as c
/-- a body's run that raises -/
def runX (n : Nat) (x : XM) (as : List SD) (c : Nat) : Prop := ∃ τ', x (as ++ List.replicate n .un) c τ' ∧ τ'.take as.length = as
open Classical in
noncomputable def xF (X : List SD → Nat → Prop) (c : Nat) (as : List SD) : Option (R × List SD) := if X as c then some (.v (.int c), as) else none
/-- a def's promise: what it raises -/
def SpR (K : PySem.W.Frag) (C : Cl) (np : Nat) (X : List SD → Nat → Prop) : Sp := fun vs H _ E => ∃ c, SpD K C np (xF X c) vs H (fun _ H' => E (.ref (C c)) none H') E
def SpO (K : PySem.W.Frag) (C : Cl) (np : Nat) (f : List SD → Option (R × List SD)) (X : List SD → Nat → Prop) : Sp := fun vs H Q E => SpD K C np f vs H Q E ∨ SpR K C np X vs H Q E
section
variable {K : PySem.W.Frag} {C : Cl} {W : WX}
theorem WOk.after {B : Bs} {O O1 : OO} {H F H1 F1 : Hp} {c : Nat} {τ' : List SD} (w : WOk K C W B O H F c τ') (E : Ext O H F O1 H1 F1) : WOk K C W B O1 H1 F1 c τ' := fun σ' H' F' O' R' E' => w σ' H' F' O' R' (E.trans E')
theorem jxNo {β : Type} {t : L2.St → Hp → (β → Hp → Prop) → Prop} : JX K C W t xNo := fun _ _ _ _ _ _ _ _ _ h => h.elim
theorem jxsNo {t : TS} : JXS K C W t xNo := fun _ _ _ _ _ _ _ _ _ h => h.elim
theorem jxOp {r : R2} {ta tb : TE} {ea : M R} {xa xb : XM} (hxa : JX K C W ta xa) (ha : JE K C ta ea) (hxb : JX K C W tb xb) : JX K C W (tOp r ta tb) (xThen xa ea xb) := by
  intro B O σ H F τ R c τ' h w Q
  rcases h with h | ⟨a, τ1, e1, h⟩
  · exact hxa B O σ H F τ R c τ' h w _
  · exact ha B O σ H F τ R _ _ e1 _ fun v1 H1 F1 O1 R1 E1 r1 => hxb B O1 σ H1 F1 τ1 R1 c τ' h (w.after E1) _
theorem jxUn {r : V → Hp → VK → Prop} {ta : TE} {xa : XM} (hxa : JX K C W ta xa) : JX K C W (tUn r ta) xa := fun B O σ H F τ R c τ' h w _ => hxa B O σ H F τ R c τ' h w _
theorem jxCons {ta : TE} {t : TA} {ea : M R} {xa xr : XM} (hxa : JX K C W ta xa) (ha : JE K C ta ea) (hr : JX K C W t xr) : JX K C W (tCons ta t) (xThen xa ea xr) := by
  intro B O σ H F τ R c τ' h w Q
  rcases h with h | ⟨a, τ1, e1, h⟩
  · exact hxa B O σ H F τ R c τ' h w _
  · exact ha B O σ H F τ R _ _ e1 _ fun v1 H1 F1 O1 R1 E1 r1 => hr B O1 σ H1 F1 τ1 R1 c τ' h (w.after E1) _
theorem jxCall {np : Nat} {f : List SD → Option (R × List SD)} {X : List SD → Nat → Prop} {t : TA} {ea : M (List R)} {xa : XM} (hxa : JX K C W t xa) (ha : JA K C t ea) (hlen : ∀ rs τ τ', ea τ = some (rs, τ') → rs.length = np) :
    JX K C W (tCallS (SpO K C np f X) (WE W) t) (xCall xa ea X) := by
  intro B O σ H F τ R c τ' h w Q
  rcases h with h | ⟨rs, as, e1, e2, e3, h⟩
  · exact hxa B O σ H F τ R c τ' h w _
  · refine ha B O σ H F τ R _ _ e1 _ fun vs H1 F1 O1 R1 E1 r1 => .inr ⟨c, ?_⟩
    have e4 : callD (xF X c) [] rs τ' = some (.v (.int c), τ') := by
      have e5 : xF X c (as ++ ([] : List Dt).map .val) = some (.v (.int c), as) := by
        rw [List.map_nil, List.append_nil]
        exact if_pos h
      unfold callD
      simp only [e2, e5, e3]
    have k := call_core (np := np) (Q := fun _ H' => WE W σ (.ref (C c)) none H') (E := WE W σ) (dvs := []) (dfl := []) (fun _ => .nil) R1 r1 (by rw [List.length_nil, Nat.add_zero]; exact hlen _ _ _ e1) e4 fun v H' F' O' R' E' r' => w σ H' F' O' R' (E1.trans E')
    rwa [List.append_nil] at k
theorem jCallO {np : Nat} {f : List SD → Option (R × List SD)} {X : List SD → Nat → Prop} {t : TA} {ea : M (List R)} (ha : JA K C t ea) (hlen : ∀ rs τ τ', ea τ = some (rs, τ') → rs.length = np) :
    JE K C (tCallS (SpO K C np f X) (WE W) t) (mb ea (callD f [])) := by
  intro B O σ H F τ R a τ' e Q q
  obtain ⟨rs, τ1, e1, e2⟩ := mb_some e
  clear e
  refine ha B O σ H F τ R _ _ e1 _ fun vs H1 F1 O1 R1 E1 r1 => .inl ?_
  have k := call_core (np := np) (Q := Q) (E := WE W σ) (dvs := []) (dfl := []) (fun _ => .nil) R1 r1 (by rw [List.length_nil, Nat.add_zero]; exact hlen _ _ _ e1) e2 fun v H' F' O' R' E' r' => q v H' F' O' R' (E1.trans E') (r'.back fun p h => E1.d p h)
  rwa [List.append_nil] at k
theorem jxCallA {sp : Sp} {dvs : List V} {E : XK} {t : TA} {x : XM} (h : JX K C W t x) : JX K C W (tCall sp dvs E t) x := fun B O σ H F τ R c τ' k w _ => h B O σ H F τ R c τ' k w _
theorem jxCB {r : List V → Hp → VK → Prop} {t : TA} {x : XM} (h : JX K C W t x) : JX K C W (tCB r t) x := fun B O σ H F τ R c τ' k w _ => h B O σ H F τ R c τ' k w _
theorem jxNotV {ta : TE} {x : XM} (h : JX K C W ta x) : JX K C W (tNotT K ta) x := fun B O σ H F τ R c τ' k w _ => h B O σ H F τ R c τ' k w _
theorem jsNo {t : TS} : JS K C t sNever := fun B O σ H F τ R f τ' e => by cases e
theorem jxSeq1 {t u : TS} {x : XM} (h : JXS K C W t x) : JXS K C W (tSeq t u) x := fun B O σ H F τ R c τ' k w _ => h B O σ H F τ R c τ' k w _
theorem jxCut1 {t u : TS} {x : XM} (h : JXS K C W t x) : JXS K C W (C8.tCut t u) x := fun B O σ H F τ R c τ' k w D => ⟨fun σ1 H1 => u D σ1 H1, h B O σ H F τ R c τ' k w _, fun _ _ z => z⟩
theorem jxTest {ta : TE} {xa : XM} (hxa : JX K C W ta xa) : JX K C W (tTest ta) xa := fun B O σ H F τ R c τ' h w _ => hxa B O σ H F τ R c τ' h w _
theorem jxTru {ta : TE} {xa : XM} (hxa : JX K C W ta xa) : JX K C W (fun σ H (Q : Bool → Hp → Prop) => ta σ H fun x H' => ∃ k, TruV K x H' k ∧ Q k H') xa := fun B O σ H F τ R c τ' h w _ => hxa B O σ H F τ R c τ' h w _
theorem jxNotT {ta : TT} {xa : XM} (hxa : JX K C W ta xa) : JX K C W (tNot ta) xa := fun B O σ H F τ R c τ' h w _ => hxa B O σ H F τ R c τ' h w _
theorem jxAnd {ta tb : TT} {ea : M Bool} {xa xb : XM} (hxa : JX K C W ta xa) (ha : JT K C ta ea) (hxb : JX K C W tb xb) : JX K C W (tAnd ta tb) (xAnd xa ea xb) := by
  intro B O σ H F τ R c τ' h w Q
  rcases h with h | ⟨τ1, e1, h⟩
  · exact hxa B O σ H F τ R c τ' h w _
  · refine ha B O σ H F τ R _ _ e1 _ fun v1 H1 F1 O1 R1 E1 r1 => ?_
    subst r1
    exact iteT (hxb B O1 σ H1 F1 τ1 R1 c τ' h (w.after E1) _)
theorem jxOr {ta tb : TT} {ea : M Bool} {xa xb : XM} (hxa : JX K C W ta xa) (ha : JT K C ta ea) (hxb : JX K C W tb xb) : JX K C W (tOr ta tb) (xOr xa ea xb) := by
  intro B O σ H F τ R c τ' h w Q
  rcases h with h | ⟨τ1, e1, h⟩
  · exact hxa B O σ H F τ R c τ' h w _
  · refine ha B O σ H F τ R _ _ e1 _ fun v1 H1 F1 O1 R1 E1 r1 => ?_
    subst r1
    exact iteF (hxb B O1 σ H1 F1 τ1 R1 c τ' h (w.after E1) _)
theorem jxDrop {te : TE} {x : XM} (hx : JX K C W te x) : JXS K C W (tDrop te) x := fun B O σ H F τ R c τ' h w _ => hx B O σ H F τ R c τ' h w _
theorem jxRet {te : TE} {x : XM} (hx : JX K C W te x) : JXS K C W (tRet te) x := fun B O σ H F τ R c τ' h w _ => hx B O σ H F τ R c τ' h w _
theorem jxSet {te : TE} {g : TG} {x : XM} (hx : JX K C W te x) : JXS K C W (tAsg te g) x := fun B O σ H F τ R c τ' h w _ => hx B O σ H F τ R c τ' h w _
theorem jxSeq {t u : TS} {a : M Fl} {x y : XM} (hx : JXS K C W t x) (ha : JS K C t a) (hy : JXS K C W u y) : JXS K C W (tSeq t u) (xSeq x a y) := by
  intro B O σ H F τ R c τ' h w D
  rcases h with h | ⟨τ1, e1, h⟩
  · exact hx B O σ H F τ R c τ' h w _
  · exact ha B O σ H F τ R _ _ e1 _ fun σ1 H1 F1 O1 R1 E1 => hy B O1 σ1 H1 F1 τ1 R1 c τ' h (w.after E1) D
theorem jxCut {t u : TS} {a : M Fl} {x y : XM} (hx : JXS K C W t x) (ha : JS K C t a) (hy : JXS K C W u y) : JXS K C W (C8.tCut t u) (xSeq x a y) := by
  intro B O σ H F τ R c τ' h w D
  refine ⟨fun σ1 H1 => u D σ1 H1, ?_, fun _ _ h => h⟩
  exact jxSeq hx ha hy B O σ H F τ R c τ' h w D
theorem jxIf {ct : TT} {t u : TS} {ec : M Bool} {xc x y : XM} (hxc : JX K C W ct xc) (hc : JT K C ct ec) (hx : JXS K C W t x) (hy : JXS K C W u y) : JXS K C W (tIfS ct t u) (xIf xc ec x y) := by
  intro B O σ H F τ R c τ' h w D
  rcases h with h | ⟨k, τ1, e1, h⟩
  · exact hxc B O σ H F τ R c τ' h w _
  · refine hc B O σ H F τ R _ _ e1 _ fun v1 H1 F1 O1 R1 E1 r1 => ?_
    subst r1
    cases v1 with
    | true => exact iteT (hx B O1 σ H1 F1 τ1 R1 c τ' h (w.after E1) D)
    | false => exact iteF (hy B O1 σ H1 F1 τ1 R1 c τ' h (w.after E1) D)
/-- raise X('..') -/
def tRaise (W : WX) (C : Addr) : TS := fun _ σ H => W (.ref C) none σ H
theorem jxRaise {k : Nat} : JXS K C W (tRaise W (C k)) (xRaise k) := by
  intro B O σ H F τ R c τ' h w D
  obtain ⟨rfl, rfl⟩ := h
  exact w σ H F O R Ext.refl
/-- a body's reading keeps the promise of what it raises -/
theorem fn_spX {t : TS} {x : XM} {n np : Nat} {N : List Str} {E : XK} (h : JXS K C (fun cls d _ H => E cls d H) t x) (hN : N.length = np + n) {vs : List V} {H : Hp} {Q : VK} (hs : SpR K C np (runX n x) vs H Q E) (D : Ends) : t D (L2.start N vs) H := by
  obtain ⟨c, hl, F, as, A, r, as', s, ok, e, q⟩ := hs
  unfold xF at e
  split at e
  · rename_i hx
    cases e
    obtain ⟨τ', hx, ht⟩ := hx
    have hσ : L2.start N vs = vs.map some ++ List.replicate n none := by
      unfold L2.start
      rw [show N.length - vs.length = n by omega]
    have R := entry (n := n) s ok hσ
    refine h _ _ _ _ _ _ R c τ' hx (fun σ' H' F' O' R' E' => ?_) D
    refine q (.int c) H' F' R'.f0 R'.sub R'.fr R'.nf R'.dm ?_ (.int _)
    intro i y p h1 h2
    rw [← ht, List.getElem?_take] at h1
    split at h1
    · obtain ⟨p', k1, k2, k3, k4⟩ := R'.slot i _ h1
      have k4 : (L2.start N vs)[i]? = some (some (.ref p')) := k4
      rw [hσ, List.getElem?_append_left (by rw [List.length_map, ok.len]; assumption), List.getElem?_map, h2] at k4
      cases k4
      exact (R'.own _ _ _ k2).1
    · cases h1
  · cases e
/-! ### statements by relations: a try -/
abbrev SM := List SD → Fl → List SD → Prop
def JRS (K : PySem.W.Frag) (C : Cl) (t : TS) (S : SM) : Prop := ∀ (B : Bs) (O : OO) (σ : L2.St) (H F : Hp) (τ : List SD), Rel K C B O σ H F τ → ∀ (f : Fl) (τ' : List SD), S τ f τ' → ∀ D : Ends, EndsOk K C B O H F τ' D f → t D σ H
def rsOf (m : M Fl) : SM := fun τ f τ' => m τ = some (f, τ')
def rsSeq (S T : SM) : SM := fun τ f τ' => (S τ f τ' ∧ f ≠ .nx) ∨ ∃ τ1, S τ .nx τ1 ∧ T τ1 f τ'
def rsIf (m : M Bool) (S T : SM) : SM := fun τ f τ' => ∃ k τ1, m τ = some (k, τ1) ∧ (if k = true then S else T) τ1 f τ'
/-- the body runs through; or it raises, and a clause is taken -/
def rsTry (m : M Fl) (x : XM) (T : Nat → SM) : SM := fun τ f τ' => m τ = some (f, τ') ∨ ∃ c τ1, x τ c τ1 ∧ T c τ1 f τ'
theorem jrOf {t : TS} {m : M Fl} (h : JS K C t m) : JRS K C t (rsOf m) := fun B O σ H F τ R f τ' e D q => h B O σ H F τ R f τ' e D q
theorem jrSeq {t u : TS} {S T : SM} (ha : JRS K C t S) (hb : JRS K C u T) : JRS K C (tSeq t u) (rsSeq S T) := by
  intro B O σ H F τ R f τ' e D q
  rcases e with ⟨e, hf⟩ | ⟨τ1, e1, e2⟩
  · refine ha B O σ H F τ R _ _ e _ fun σ1 H1 F1 O1 R1 E1 => ?_
    have q1 := q σ1 H1 F1 O1 R1 E1
    cases f with
    | nx => exact (hf rfl).elim
    | bk => exact q1
    | ct => exact q1
    | rt r => exact q1
  · exact ha B O σ H F τ R _ _ e1 _ fun σ1 H1 F1 O1 R1 E1 => hb B O1 σ1 H1 F1 τ1 R1 _ _ e2 D (q.after E1)
theorem jrCut {t u : TS} {S T : SM} (ha : JRS K C t S) (hb : JRS K C u T) : JRS K C (C8.tCut t u) (rsSeq S T) := by
  intro B O σ H F τ R f τ' e D q
  exact ⟨fun σ1 H1 => u D σ1 H1, jrSeq ha hb B O σ H F τ R f τ' e D q, fun _ _ h => h⟩
theorem jrIf {c : TT} {t u : TS} {ec : M Bool} {S T : SM} (hc : JT K C c ec) (ha : JRS K C t S) (hb : JRS K C u T) : JRS K C (tIfS c t u) (rsIf ec S T) := by
  intro B O σ H F τ R f τ' e D q
  obtain ⟨k, τ1, e1, e⟩ := e
  refine hc B O σ H F τ R _ _ e1 _ fun v1 H1 F1 O1 R1 E1 r1 => ?_
  subst r1
  cases v1 with
  | true => exact iteT (ha _ _ _ _ _ _ R1 _ _ e D (q.after E1))
  | false => exact iteF (hb _ _ _ _ _ _ R1 _ _ e D (q.after E1))
/-- the slot of an exception's name: nothing is known of it -/
theorem Rel.poke {B : Bs} {O : OO} {σ : L2.St} {H F : Hp} {τ : List SD} {i : Nat} (R : Rel K C B O σ H F τ) (h : τ[i]? = some .un) (v : Option V) : Rel K C B O (σ.set i v) H F τ := by
  refine ⟨by rw [List.length_set]; exact R.len, R.sub, R.f0, R.fr, R.nf, R.dm, R.own, fun j s hj => ?_⟩
  by_cases e : j = i
  · subst e
    rw [h] at hj
    cases hj
    exact True.intro
  · have k := R.slot j s hj
    have g : (σ.set i v)[j]? = σ[j]? := List.getElem?_set_ne (Ne.symm e)
    cases s with
    | un => exact True.intro
    | val d => obtain ⟨u, h1, h2⟩ := k; exact ⟨u, g.trans h1, h2⟩
    | own x => obtain ⟨p, h1, h2⟩ := k; exact ⟨p, g.trans h1, h2⟩
    | io x => obtain ⟨p, h1, h2⟩ := k; exact ⟨p, g.trans h1, h2⟩
/-- a truth that an exception's class tells: the exception is a, at slot i -/
def JB (i : Nat) (a : Addr) (t : TE) (b : Bool) : Prop := ∀ (σ : L2.St) (H : Hp) (Q : VK), σ[i]? = some (some (.ref a)) → Q (.bl b) H → t σ H Q
theorem JB.isE {i : Nat} {a D k : Addr} {b : Bool} (e : PySem.W.kitOne K (.ref D) (.ref k) = some b) : JB i a (tCB (rIsE K D a) (tCons (tVar i) (tCons (tC (.ref k)) tNil))) b := fun σ H Q h q =>
  ⟨_, h, _, .ref k, b, rfl, fun _ r => r, e, q⟩
theorem JB.isTy {i : Nat} {a D : Addr} {y : String} {b : Bool} (e : PySem.W.kitOne K (.ref D) (.type y) = some b) : JB i a (tCB (rIsE K D a) (tCons (tVar i) (tCons (tC (.ty y)) tNil))) b := fun σ H Q h q =>
  ⟨_, h, _, .type y, b, rfl, fun _ r => r, e, q⟩
theorem JB.not {i : Nat} {a : Addr} {t : TE} {b : Bool} (h : JB i a t b) : JB i a (tNotT K t) (!b) := fun σ H Q hs q => h σ H _ hs ⟨b, rfl, q⟩
theorem JB.and {i : Nat} {a : Addr} {t u : TE} {b c : Bool} (h : JB i a t b) (k : JB i a u c) : JB i a (tAndT K t u) (b && c) := fun σ H Q hs q => h σ H _ hs ⟨b, rfl, by
  cases b with
  | true => exact iteT (k σ H Q hs q)
  | false => exact iteF q⟩
theorem JB.or {i : Nat} {a : Addr} {t u : TE} {b c : Bool} (h : JB i a t b) (k : JB i a u c) : JB i a (tOrT K t u) (b || c) := fun σ H Q hs q => h σ H _ hs ⟨b, rfl, by
  cases b with
  | true => exact iteT q
  | false => exact iteF (k σ H Q hs q)⟩
theorem JB.bl {i : Nat} {a : Addr} {b : Bool} : JB i a (tC (.bl b)) b := fun σ H Q _ q => q
/-- a suite: the exception a at slot i -/
def JC (K : PySem.W.Frag) (C : Cl) (i : Nat) (a : Addr) (t : TS) (S : SM) : Prop := ∀ (B : Bs) (O : OO) (σ : L2.St) (H F : Hp) (τ : List SD), Rel K C B O σ H F τ → σ[i]? = some (some (.ref a)) → ∀ (f : Fl) (τ' : List SD), S τ f τ' → ∀ D : Ends, EndsOk K C B O H F τ' D f → t D σ H
theorem jcRet {i : Nat} {a : Addr} {te : TE} {b : Bool} (h : JB i a te b) : JC K C i a (tRet te) (rsOf (sRet (eC (.bool b)))) := by
  intro B O σ H F τ R hs f τ' e D q
  cases e
  exact h σ H _ hs (q σ H F O R Ext.refl _ (.bl b))
theorem jcSet {i j : Nat} {a : Addr} {te : TE} {b : Bool} (h : JB i a te b) : JC K C i a (tAsg te (gName j)) (rsOf (sSet j (eC (.bool b)))) := by
  intro B O σ H F τ R hs f τ' e D q
  exact h σ H _ hs (jsSet (te := tC (.bl b)) (jC fun _ => .bl _) B O σ H F τ R f τ' e D q)
theorem jcAny {i : Nat} {a : Addr} {t : TS} {S : SM} (h : JRS K C t S) : JC K C i a t S := fun B O σ H F τ R _ f τ' e D q => h B O σ H F τ R f τ' e D q
/-- a clause for the classes from lo to n of which sub tells True; the exception's name at slot i -/
def clA (lo n : Nat) (sub : Nat → Bool) (i : Nat) (T : Nat → SM) : Nat → SM := fun c τ1 f τ' => (lo ≤ c ∧ c < n ∧ sub c = true) ∧ τ1[i]? = some .un ∧ τ'[i]? = some .un ∧ T c τ1 f τ'
def tCls (C : Cl) (lo n : Nat) (sub : Nat → Bool) (tS : Nat → TS) (cls : Value) (d : Option Addr) : TS := fun D σ H => ∃ c, (lo ≤ c ∧ c < n ∧ sub c = true) ∧ cls = .ref (C c) ∧ d = none ∧ tS c D σ H
theorem pss_cls {X : Cx} {b : List Stmt} {lo n : Nat} {sub : Nat → Bool} {cls : Value} {d : Option Addr} {tS : Nat → TS} (h : ∀ c, (lo ≤ c ∧ c < n ∧ sub c = true) → cls = .ref (C c) → d = none → PSs X b (tS c)) : PSs X b (tCls C lo n sub tS cls d) :=
  ⟨fun pins s σ H D I z => by
    obtain ⟨c, h1, h2, h3, h4⟩ := z
    exact (h c h1 h2 h3).run pins s σ H D I h4⟩
/-- try: body / except X as e: suite -/
theorem jrTryAs {ck : Addr} {i : Nat} {tb : WX → TS} {tS : Addr → Nat → TS} {m : M Fl} {x : XM} {T : Nat → SM} {lo n : Nat} {sub : Nat → Bool} (hk : ∀ c, lo ≤ c → c < n → PySem.W.exmOne K (.ref (C c)) (.ref ck) = some (sub c))
    (hb : ∀ W, JS K C (tb W) m) (hx : ∀ W, JXS K C W (tb W) x) (hs : ∀ c, (lo ≤ c ∧ c < n ∧ sub c = true) → ∀ a, JC K C i a (tS a c) (T c)) :
    JRS K C (fun D σ H => tb (wAs K (.ref ck) i (fun a cls d => tCls C lo n sub (tS a) cls d) (fun _ _ _ _ => False) D) D σ H) (rsTry m x (clA lo n sub i T)) := by
  intro B O σ H F τ R f τ' e D q
  rcases e with e | ⟨c, τ1, h, hc, hi, hi', hT⟩
  · exact hb _ B O σ H F τ R f τ' e D q
  · refine hx _ B O σ H F τ R c τ1 h (fun σ1 H1 F1 O1 R1 E1 => ⟨true, by rw [hk c hc.1 hc.2.1, hc.2.2], fun _ a ha => ⟨c, hc, rfl, rfl, ?_⟩, fun h => by cases h⟩) D
    have li : i < σ1.length := by
      rw [← R1.len]
      exact (List.getElem?_eq_some_iff.mp hi).1
    refine hs c hc a B O1 _ H1 F1 τ1 (R1.poke hi _) (by rw [List.getElem?_set_self li]) f τ' hT _ fun σ2 H2 F2 O2 R2 E2 => ?_
    cases f with
    | nx => exact q _ H2 F2 O2 (R2.poke hi' none) (E1.trans E2)
    | bk => exact q _ H2 F2 O2 (R2.poke hi' none) (E1.trans E2)
    | ct => exact q _ H2 F2 O2 (R2.poke hi' none) (E1.trans E2)
    | rt r => exact fun v rv => q σ2 H2 F2 O2 R2 (E1.trans E2) v (rv.back fun p h => E1.d p h)
def finD (f : Fl) (τ' : List SD) (k : Nat) : Option (R × List SD) := match f with
  | .nx => some (.v .none, τ'.take k)
  | .rt (.v d) => some (.v d, τ'.take k)
  | .rt (.n x) => some (.n x, τ'.take k)
  | .rt (.o i) => match τ'[i]? with
    | some (.val d) => some (.v d, τ'.take k)
    | some (.own x) => some (.n x, τ'.take k)
    | _ => none
  | _ => none
/-- a def read by relations -/
def runR (n : Nat) (S : SM) (as : List SD) (r : R) (as' : List SD) : Prop := ∃ f τ', S (as ++ List.replicate n .un) f τ' ∧ finD f τ' as.length = some (r, as')
open Classical in
/-- what a choice tells, where it is told rightly -/
noncomputable def pickD (G : List SD → R → List SD → Prop) (sel : List SD → Option (R × List SD)) (as : List SD) : Option (R × List SD) := match sel as with
  | some (r, as') => if G as r as' then some (r, as') else none
  | none => none
theorem pick_yes {G : List SD → R → List SD → Prop} {sel : List SD → Option (R × List SD)} {as as' : List SD} {r : R} (e : sel as = some (r, as')) (h : G as r as') : pickD G sel as = some (r, as') := by
  unfold pickD
  rw [e]
  exact if_pos h
theorem runD_fin {n : Nat} {m : M Fl} {as : List SD} {f : Fl} {τ' : List SD} (e : m (as ++ List.replicate n .un) = some (f, τ')) : runD n m as = finD f τ' as.length := by
  unfold runD finD
  rw [e]
  cases f with
  | nx => rfl
  | bk => rfl
  | ct => rfl
  | rt r => cases r <;> rfl
theorem fn_spR {t : TS} {S : SM} {n np : Nat} {N : List Str} {sel : List SD → Option (R × List SD)} (h : JRS K C t S) (hN : N.length = np + n) {vs : List V} {H : Hp} {Q : VK} {E : XK} (hs : SpD K C np (pickD (runR n S) sel) vs H Q E) : t { nx := fun _ H' => Q .non H', rt := Q } (L2.start N vs) H := by
  obtain ⟨hl, F, as, A, r, as', s, ok, e, q⟩ := hs
  unfold pickD at e
  split at e
  · rename_i r0 as0 e0
    split at e
    · rename_i hG
      cases e
      obtain ⟨f, τ', hS, hf⟩ := hG
      classical
      refine fn_sp (m := fun τ => if S τ f τ' then some (f, τ') else none) (n := n) (np := np) (E := E) ?_ hN ⟨hl, F, as, A, r, as', s, ok, ?_, q⟩
      · intro B O σ H F τ R f2 τ2 e2 D q2
        have e2 : (if S τ f τ' then some (f, τ') else none) = some (f2, τ2) := e2
        split at e2
        · rename_i h2
          cases e2
          exact h B O σ H F τ R f τ' h2 D q2
        · cases e2
      · rw [runD_fin (f := f) (τ' := τ') (if_pos hS)]
        exact hf
    · cases e
  · cases e
end
section
variable {P : Program} {w : World} {K : PySem.W.Frag} {mg : Str → Option Value} {base : Heap}
/-- what raises nothing, among what may raise -/
theorem FnOk.cx {k : Nat} {f : Addr} {fd : FuncData} {ps : List Str} {sp : Sp} (F : FnOk P w K mg base L2.CX0 k f fd ps sp) : FnOk P w K mg base (L2.CX P w) k f fd ps sp :=
  ⟨F.len, fun A outer s H args us vs Q E hr he hb hv hs => codeAny_mono (F.run A outer s H args us vs Q E hr he hb hv hs) fun r s' h => by
    cases r with
    | ok f => cases f <;> exact h
    | error e => exact (show False from h).elim⟩
theorem Cal.cx {k : Nat} {x : Str} {st : Stmt} {ps : List Str} {sp : Sp} (a : BW.Cal P w K mg base L2.CX0 k x st ps sp) : BW.Cal P w K mg base (L2.CX P w) k x st ps sp := by
  obtain ⟨f, fd, g, F, b, G⟩ := a.ex
  exact ⟨f, fd, g, F, b, FnOk.cx G⟩
/-- two promises of one def -/
theorem Cal.or {CX : CXT} {k : Nat} {x : Str} {st : Stmt} {ps : List Str} {sp sp' : Sp} (a : BW.Cal P w K mg base CX k x st ps sp) (b : BW.Cal P w K mg base CX k x st ps sp') : BW.Cal P w K mg base CX k x st ps (fun vs H Q E => sp vs H Q E ∨ sp' vs H Q E) := by
  obtain ⟨f, fd, g, F, bd, G⟩ := a.ex
  obtain ⟨f', fd', g', F', _, G'⟩ := b.ex
  have e := g.symm.trans g'
  cases e
  obtain ⟨_, _, _, _, _, _, _, _, _, rfl, lk, _⟩ := F.ex
  obtain ⟨_, _, _, _, _, _, _, _, _, rfl, lk', _⟩ := F'.ex
  have e2 := lk.symm.trans lk'
  cases e2
  exact ⟨f, _, g, F, bd, ⟨fun vs H Q E h => h.elim (G.len vs H Q E) (G'.len vs H Q E), fun A outer s H args us vs Q E hr he hb hv hs => hs.elim (G.run A outer s H args us vs Q E hr he hb hv) (G'.run A outer s H args us vs Q E hr he hb hv)⟩⟩
end
section
variable {X : Cx} {k : Nat} {st : Stmt} {ps : List Str} {sp : Sp} {W : WX} {x : Str} {p pos : Pos} {e : Expr} {es : List Expr} {t : TA}
/-- f(e, ..) that may raise -/
theorem pe_ownS (C : BW.Cal X.prog X.w X.K X.mg X.base (L2.CX X.prog X.w) k x st ps sp) (hr : Room k X.A) (hg : Gl X x) (tk : Takes X W)
    (ha : PA X (e :: es) t) (hdb : (x == ("__debug__" : Str)) = false := by decide) (he : starEach (e :: es) X.env = (false, eval e X.env) :: starEach es X.env := by rfl) (hpl : (backTo pos (starEach es X.env)).any (·.1) = false := by rfl) :
    PE X (.Call (.Name x p) (e :: es) [] pos) (tCallS sp (WE W) t) := by
  obtain ⟨f, fd, g, F, b, G⟩ := C.ex
  exact pe_callS G hr hg g F.kp b (fun σ => passAt tk σ) ha hdb he hpl
end
/-- what is asked of a class whose exceptions are raised and caught -/
structure ExC (K : PySem.W.Frag) (mg : Str → Option Value) (x : Str) (C : Addr) : Prop where
  gl : mg x = some (.ref C)
  kp : PySem.W.keepIn K (.ref C) = true
  ex : PySem.W.excIn K C [.type "ValueError", .type "Exception", .type "BaseException", .type "object"] "ValueError.__new__" = true
  sb : PySem.W.subIn K (.ref C) (.type "BaseException") = some true
  ty : PySem.W.typeIn K (.ref C) = some (.type "type")
  dc : PySem.W.hasDictIn K C = true
  hg : PySem.W.findIn K (.ref C) "__getattribute__" = some (some (.builtin "BaseException.__getattribute__"))
  hk : PySem.W.findIn K (.ref C) "__getattr__" = some none
  ha : PySem.W.findIn K (.ref C) "__class__" = some (some (.builtin "object.__class__"))
  hm : PySem.W.mroIn K C (.type "object") = some true
  rf : PySem.W.subIn K (.ref C) (.ref C) = some true
  sv : PySem.W.subIn K (.ref C) (.type "ValueError") = some true
/-- the classes from lo to n, their names, and which stands under which -/
structure ExTab (K : PySem.W.Frag) (mg : Str → Option Value) (C : Cl) (lo n : Nat) (nm : Nat → Str) (sub : Nat → Nat → Bool) : Prop where
  cl : ∀ c, lo ≤ c ∧ c < n → ExC K mg (nm c) (C c)
  sb : ∀ c k, lo ≤ c ∧ c < n → lo ≤ k ∧ k < n → PySem.W.subIn K (.ref (C c)) (.ref (C k)) = some (sub c k)
  hn : PySem.W.specialIn K (.builtin "object.__class__") "__get__" = some (some (.builtin "getset_descriptor.__get__"))
  ht : PySem.W.takesIn K (.builtin "object.__class__") = some true
section
variable {K : PySem.W.Frag} {mg : Str → Option Value} {C : Cl} {lo n : Nat} {nm : Nat → Str} {sub : Nat → Nat → Bool}
theorem ExTab.isI (T : ExTab K mg C lo n nm sub) {c : Nat} (h : lo ≤ c ∧ c < n) : L2.ExcC K (C c) :=
  let t := T.cl c h
  ⟨t.hg, t.hk, t.sb, t.dc, t.ha, T.hn, T.ht, t.hm⟩
theorem ExTab.kit (T : ExTab K mg C lo n nm sub) {c k : Nat} (h : lo ≤ c ∧ c < n) (h2 : lo ≤ k ∧ k < n) : PySem.W.kitOne K (.ref (C c)) (.ref (C k)) = some (sub c k) := by
  have e := T.sb c k h h2
  have t := T.cl k h2
  unfold PySem.W.kitOne
  by_cases q : C c = C k
  · rw [q, t.rf] at e
    rw [q, if_pos (by simp)]
    exact e
  · rw [if_neg (by simpa using q)]
    show (if ((PySem.W.clsIn K (C k)).isSome && PySem.W.typeIn K (.ref (C k)) == some (.type "type")) = true then PySem.W.subIn K (.ref (C c)) (.ref (C k)) else none) = _
    obtain ⟨cd, hc, _⟩ := PySem.W.any_some t.dc
    rw [if_pos (by rw [t.ty, hc]; simp)]
    exact e
theorem ExTab.kitV (T : ExTab K mg C lo n nm sub) {c : Nat} (h : lo ≤ c ∧ c < n) : PySem.W.kitOne K (.ref (C c)) (.type "ValueError") = some true := by
  unfold PySem.W.kitOne
  rw [if_neg (by simp)]
  show (if PySem.W.kitMeta "ValueError" = true then PySem.W.subIn K (.ref (C c)) (.type "ValueError") else none) = _
  rw [if_pos (by first | rfl | decide +kernel)]
  exact (T.cl c h).sv
theorem ExTab.exm (T : ExTab K mg C lo n nm sub) {k : Nat} (h2 : lo ≤ k ∧ k < n) (c : Nat) (h : lo ≤ c) (h1 : c < n) : PySem.W.exmOne K (.ref (C c)) (.ref (C k)) = some (sub c k) :=
  let t := T.cl k h2
  PySem.W.exm_ref t.sb t.dc t.ty (T.sb c k ⟨h, h1⟩ h2)
end
theorem CalM.cx {P : Program} {w : World} {K : PySem.W.Frag} {mg : Str → Option Value} {base : Heap} {k : Nat} {C : Addr} {m q : Str} {st : Stmt} {ps : List Str} {sp : Sp} (a : CalM P w K mg base L2.CX0 k C m q st ps sp) : CalM P w K mg base (L2.CX P w) k C m q st ps sp := by
  obtain ⟨f, fd, g, F, b, G⟩ := a.ex
  exact ⟨f, fd, g, F, b, FnOk.cx G⟩
theorem ps_raiseX {X : Cx} {W : WX} {x m : Str} {C : Addr} {j : Nat} {p p2 pos pos' : Pos} (hc : X.calm = true) (tk : Takes X W) (T : ExC X.K X.mg x C) (hg : Gl X x) (hdb : (x == ("__debug__" : Str)) = false := by decide) :
    PS X (.Raise (some (.Call (.Name x p) [.Constant (.str m) j p2] [] pos)) none pos') (tRaise W C) :=
  ps_raise hc tk (pmk_own (PySem.F.excBase_ValueError) T.ex T.gl T.kp (raises_own T.sb T.ty) hg hdb)
end MR
end BW
--RAW
namespace BW
namespace MR
open PySem PySem.Spec PyProof.Rows L2
/-! ### what is raised is read -/
/-- x raises the class c from τ -/
def XW (x : XM) (τ : List SD) (c : Nat) (P : List SD → Prop) : Prop := ∃ τ', x τ c τ' ∧ P τ'
def RW (S : SM) (τ : List SD) (P : Fl → List SD → Prop) : Prop := ∃ f τ', S τ f τ' ∧ P f τ'
def NxK (f : Fl) (Q : Prop) : Prop := f = .nx ∧ Q
def XArgK (X : List SD → Nat → Prop) (rs : List R) (c : Nat) (τ : List SD) (Q : Prop) : Prop := ∃ as, argsD τ rs = some as ∧ ioOf 0 rs = [] ∧ X as c ∧ Q
def XCalK (X : List SD → Nat → Prop) (as : List SD) (c : Nat) (Q : Prop) : Prop := X as c ∧ Q
def SeqRK (T : SM) (P : Fl → List SD → Prop) : Fl → List SD → Prop
  | .nx, τ => RW T τ P
  | f, τ => P f τ
section
variable {x y z : XM} {τ τ' : List SD} {c : Nat} {P : List SD → Prop} {a : M Fl} {S T : SM} {PF : Fl → List SD → Prop}
instance St.nxk_ {Q : Prop} : St (NxK .nx Q) Q := ⟨fun h => ⟨rfl, h⟩⟩
theorem XW.s1 (h : XW x τ c P) : XW (xSeq x a y) τ c P := by
  obtain ⟨τ', h, p⟩ := h
  exact ⟨τ', .inl h, p⟩
theorem XW.s2 (h : Ev a τ fun f τ1 => NxK f (XW y τ1 c P)) : XW (xSeq x a y) τ c P := by
  obtain ⟨f, τ1, e, rfl, τ', h, p⟩ := h
  exact ⟨τ', .inr ⟨τ1, e, h⟩, p⟩
theorem XW.t1 {α : Type} {m : M α} (h : XW x τ c P) : XW (xThen x m y) τ c P := by
  obtain ⟨τ', h, p⟩ := h
  exact ⟨τ', .inl h, p⟩
theorem XW.t2 {α : Type} {m : M α} (h : Ev m τ fun _ τ1 => XW y τ1 c P) : XW (xThen x m y) τ c P := by
  obtain ⟨f, τ1, e, τ', h, p⟩ := h
  exact ⟨τ', .inr ⟨f, τ1, e, h⟩, p⟩
theorem XW.i1 {m : M Bool} (h : XW x τ c P) : XW (xIf x m y z) τ c P := by
  obtain ⟨τ', h, p⟩ := h
  exact ⟨τ', .inl h, p⟩
theorem XW.i2 {m : M Bool} (h : Ev m τ fun k τ1 => IfK k (XW y τ1 c P) (XW z τ1 c P)) : XW (xIf x m y z) τ c P := by
  obtain ⟨k, τ1, e, h⟩ := h
  unfold IfK at h
  cases k with
  | true =>
    obtain ⟨τ', h, p⟩ := (show XW y τ1 c P from h)
    exact ⟨τ', .inr ⟨true, τ1, e, h⟩, p⟩
  | false =>
    obtain ⟨τ', h, p⟩ := (show XW z τ1 c P from h)
    exact ⟨τ', .inr ⟨false, τ1, e, h⟩, p⟩
theorem XW.a1 {m : M Bool} (h : XW x τ c P) : XW (xAnd x m y) τ c P := by
  obtain ⟨τ', h, p⟩ := h
  exact ⟨τ', .inl h, p⟩
theorem XW.o1 {m : M Bool} (h : XW x τ c P) : XW (xOr x m y) τ c P := by
  obtain ⟨τ', h, p⟩ := h
  exact ⟨τ', .inl h, p⟩
theorem XW.a2 {m : M Bool} (h : Ev m τ fun k τ1 => IfK k (XW y τ1 c P) False) : XW (xAnd x m y) τ c P := by
  obtain ⟨k, τ1, e, h⟩ := h
  unfold IfK at h
  cases k with
  | true =>
    obtain ⟨τ', h, p⟩ := (show XW y τ1 c P from h)
    exact ⟨τ', .inr ⟨τ1, e, h⟩, p⟩
  | false => exact (show False from h).elim
theorem XW.o2 {m : M Bool} (h : Ev m τ fun k τ1 => IfK k False (XW y τ1 c P)) : XW (xOr x m y) τ c P := by
  obtain ⟨k, τ1, e, h⟩ := h
  unfold IfK at h
  cases k with
  | false =>
    obtain ⟨τ', h, p⟩ := (show XW y τ1 c P from h)
    exact ⟨τ', .inr ⟨τ1, e, h⟩, p⟩
  | true => exact (show False from h).elim
instance St.xraise_ : St (XW (xRaise c) τ c P) (P τ) := ⟨fun h => ⟨τ, ⟨rfl, rfl⟩, h⟩⟩
theorem XW.c1 {m : M (List R)} {X : List SD → Nat → Prop} (h : XW x τ c P) : XW (xCall x m X) τ c P := by
  obtain ⟨τ', h, p⟩ := h
  exact ⟨τ', .inl h, p⟩
theorem XW.c2 {m : M (List R)} {X : List SD → Nat → Prop} (h : Ev m τ fun rs τ1 => XArgK X rs c τ1 (P τ1)) : XW (xCall x m X) τ c P := by
  obtain ⟨rs, τ1, e, as, h1, h2, h3, p⟩ := h
  exact ⟨τ1, .inr ⟨rs, as, e, h1, h2, h3⟩, p⟩
instance St.xargk_ {X : List SD → Nat → Prop} {rs : List R} {as : List SD} {Q : Prop} [h : ArgsC τ rs as] : St (XArgK X rs c τ Q) (SideK (ioOf 0 rs = []) (XCalK X as c Q)) := ⟨fun ⟨h0, h1, q⟩ => ⟨as, h.eq, h0, h1, q⟩⟩
theorem XCalK.mk {X : List SD → Nat → Prop} {as : List SD} {Q : Prop} (h : X as c) (q : Q) : XCalK X as c Q := ⟨h, q⟩
theorem runx_st {n : Nat} {as us τ0 : List SD} [h1 : Uns n us] [h2 : CatC as us τ0] (h : XW x τ0 c fun τ' => τ'.take as.length = as) : runX n x as c := by
  obtain ⟨τ', h, p⟩ := h
  exact ⟨τ', by rw [h1.eq, h2.eq]; exact h, p⟩
instance St.rwof_ {m : M Fl} : St (RW (rsOf m) τ PF) (Ev m τ PF) := ⟨fun ⟨f, τ', e, p⟩ => ⟨f, τ', e, p⟩⟩
instance St.rwseq_ : St (RW (rsSeq S T) τ PF) (RW S τ (SeqRK T PF)) := ⟨fun ⟨f, τ1, e, p⟩ => by
  cases f with
  | nx =>
    obtain ⟨g, τ2, e2, p2⟩ := (show RW T τ1 PF from p)
    exact ⟨g, τ2, .inr ⟨τ1, e, e2⟩, p2⟩
  | rt r => exact ⟨_, _, .inl ⟨e, by simp⟩, p⟩
  | bk => exact ⟨_, _, .inl ⟨e, by simp⟩, p⟩
  | ct => exact ⟨_, _, .inl ⟨e, by simp⟩, p⟩⟩
instance St.seqrn_ : St (SeqRK T PF .nx τ) (RW T τ PF) := ⟨id⟩
instance St.seqrr_ {r : R} : St (SeqRK T PF (.rt r) τ) (PF (.rt r) τ) := ⟨id⟩
instance St.rwif_ {m : M Bool} : St (RW (rsIf m S T) τ PF) (Ev m τ fun k τ1 => IfK k (RW S τ1 PF) (RW T τ1 PF)) := ⟨fun ⟨k, τ1, e, h⟩ => by
  unfold IfK at h
  cases k with
  | true =>
    obtain ⟨f, τ', e2, p⟩ := (show RW S τ1 PF from h)
    exact ⟨f, τ', ⟨true, τ1, e, e2⟩, p⟩
  | false =>
    obtain ⟨f, τ', e2, p⟩ := (show RW T τ1 PF from h)
    exact ⟨f, τ', ⟨false, τ1, e, e2⟩, p⟩⟩
/-- a try's body runs through -/
theorem RW.thru {m : M Fl} {TT : Nat → SM} (h : Ev m τ PF) : RW (rsTry m x TT) τ PF := by
  obtain ⟨f, τ', e, p⟩ := h
  exact ⟨f, τ', .inl e, p⟩
def UnsK (i : Nat) (τ : List SD) (Q : Prop) : Prop := τ[i]? = some .un ∧ Q
instance St.unsk_ {i : Nat} {Q : Prop} [h : At τ i .un] : St (UnsK i τ Q) Q := ⟨fun q => ⟨h.eq, q⟩⟩
/-- a try's body raises the class c, of which the clause is -/
theorem RW.exc {m : M Fl} {lo n i : Nat} {sub : Nat → Bool} {TT : Nat → SM} (c : Nat) (h : XW x τ c fun τ1 => UnsK i τ1 (RW (TT c) τ1 fun f τ' => UnsK i τ' (PF f τ'))) (hc : (lo ≤ c ∧ c < n ∧ sub c = true) := by exact ⟨by decide, by decide, rfl⟩) : RW (rsTry m x (clA lo n sub i TT)) τ PF := by
  obtain ⟨τ1, h, h1, f, τ', h2, h3, p⟩ := h
  exact ⟨f, τ', .inr ⟨c, τ1, h, hc, h1, h3, h2⟩, p⟩
theorem fin_ok {f : Fl} {τ' : List SD} {k : Nat} {r : R} {as : List SD} (h : FinOk k (fun r' τ2 => r' = r ∧ τ2 = as) f τ') : finD f τ' k = some (r, as) := by
  cases f with
  | nx =>
    obtain ⟨rfl, rfl⟩ := (show R.v .none = r ∧ τ'.take k = as from h)
    rfl
  | bk => exact (show False from h).elim
  | ct => exact (show False from h).elim
  | rt q =>
    cases q with
    | v d =>
      obtain ⟨rfl, rfl⟩ := (show R.v d = r ∧ τ'.take k = as from h)
      rfl
    | n d =>
      obtain ⟨rfl, rfl⟩ := (show R.n d = r ∧ τ'.take k = as from h)
      rfl
    | o i =>
      rcases h with ⟨d, e, rfl, rfl⟩ | ⟨d, e, rfl, rfl⟩
      · unfold finD
        simp only [e]
      · unfold finD
        simp only [e]
/-- a def read by relations tells what was chosen -/
theorem pick_st {n : Nat} {as us τ0 : List SD} {r : R} {sel : List SD → Option (R × List SD)} [h1 : Uns n us] [h2 : CatC as us τ0] (e : sel as = some (r, as)) (h : RW S τ0 (FinOk as.length fun r' τ2 => r' = r ∧ τ2 = as)) : Ret (pickD (runR n S) sel) as r := by
  obtain ⟨f, τ', h, p⟩ := h
  exact ⟨as, pick_yes e ⟨f, τ', by rw [h1.eq, h2.eq]; exact h, fin_ok p⟩⟩
end
end MR
end BW

--RAW
/-! suites of several statements: expressions, tests and statements that may read the exception's class -/
namespace BW
namespace MR
open PySem PySem.Spec PyProof.Rows L2
/-- as J, in a state whose slot i holds the exception -/
def JZ {α β : Type} (K : PySem.W.Frag) (C : Cl) (i : Nat) (ad : Addr) (RR : Hp → OO → Hp → L2.St → β → α → Prop) (t : L2.St → Hp → (β → Hp → Prop) → Prop) (m : M α) : Prop :=
  ∀ (B : Bs) (O : OO) (σ : L2.St) (H F : Hp) (τ : List SD), Rel K C B O σ H F τ → σ[i]? = some (some (.ref ad)) → ∀ (a : α) (τ' : List SD), m τ = some (a, τ') → ∀ Q : β → Hp → Prop,
    (∀ b H' F' O', Rel K C B O' σ H' F' τ' → Ext O H F O' H' F' → RR H O' F' σ b a → Q b H') → t σ H Q
abbrev ZE (K : PySem.W.Frag) (C : Cl) (i : Nat) (ad : Addr) (t : TE) (m : M R) : Prop := JZ K C i ad (RV K C) t m
abbrev ZT (K : PySem.W.Frag) (C : Cl) (i : Nat) (ad : Addr) (t : TT) (m : M Bool) : Prop := JZ K C i ad (fun _ _ _ _ b a => b = a) t m
abbrev ZA (K : PySem.W.Frag) (C : Cl) (i : Nat) (ad : Addr) (t : TA) (m : M (List R)) : Prop := JZ K C i ad (RVs K C) t m
section
variable {K : PySem.W.Frag} {C : Cl} {i : Nat} {ad : Addr}
theorem zOf {α β : Type} {RR : Hp → OO → Hp → L2.St → β → α → Prop} {t : L2.St → Hp → (β → Hp → Prop) → Prop} {m : M α} (h : J K C RR t m) : JZ K C i ad RR t m := fun B O σ H F τ R _ a τ' e Q q => h B O σ H F τ R a τ' e Q q
theorem zB {t : TE} {b : Bool} (h : JB i ad t b) : ZE K C i ad t (eC (.bool b)) := by
  intro B O σ H F τ R hs a τ' e Q q
  cases e
  exact h σ H Q hs (q _ _ _ _ R Ext.refl (.bl b))
theorem zaNil : ZA K C i ad tNil aNil := zOf jaNil
theorem zaCons {ta : TE} {t : TA} {ea : M R} {er : M (List R)} (ha : ZE K C i ad ta ea) (hr : ZA K C i ad t er) : ZA K C i ad (tCons ta t) (aCons ea er) := by
  intro B O σ H F τ R hs a τ' e Q q
  obtain ⟨x, τ1, e1, e⟩ := mb_some e
  obtain ⟨y, τ2, e2, e⟩ := mb_some e
  cases e
  refine ha B O σ H F τ R hs _ _ e1 _ fun v1 H1 F1 O1 R1 E1 r1 => ?_
  refine hr B O1 σ H1 F1 _ R1 hs _ _ e2 _ fun v2 H2 F2 O2 R2 E2 r2 => ?_
  exact q _ _ _ _ R2 (E1.trans E2) ⟨r1.ext E2, RVs.back r2 fun p h => E1.d p h⟩
theorem zF {ta : TE} {ea : M R} (ha : ZE K C i ad ta ea) : ZE K C i ad ta (eF ea) := by
  intro B O σ H F τ R hs a τ' e Q q
  obtain ⟨x, τ1, e1, e⟩ := mb_some e
  obtain ⟨d, τ2, e2, e⟩ := mb_some e
  cases e
  refine ha B O σ H F τ R hs _ _ e1 _ fun v1 H1 F1 O1 R1 E1 r1 => ?_
  obtain ⟨O2, F2, R2, E2, _, r2⟩ := fz_ok R R1 E1 r1 e2
  exact q _ _ _ _ R2 E2 r2
theorem zTup {ta : TA} {ea : M (List R)} (ha : ZA K C i ad ta ea) : ZE K C i ad (nTup ta) (eTup ea) := by
  intro B O σ H F τ R hs a τ' e Q q
  obtain ⟨x, τ1, e1, e⟩ := mb_some e
  refine ha B O σ H F τ R hs _ _ e1 _ fun v1 H1 F1 O1 R1 E1 r1 => ?_
  split at e
  · rename_i ds g1
    split at e
    · rename_i hl
      cases e
      have r := rds_ok r1 g1
      exact ⟨by rw [r.length]; exact Nat.le_trans hl million, fin_tup R1 r fun v H' F' O' R' E' r' => q v H' F' O' R' (E1.trans E') (r'.back fun p h => E1.d p h)⟩
    · cases e
  · cases e
theorem zLst {ta : TA} {ea : M (List R)} (ha : ZA K C i ad ta ea) : ZE K C i ad (nLst ta) (eLst ea) := by
  intro B O σ H F τ R hs a τ' e Q q
  obtain ⟨x, τ1, e1, e⟩ := mb_some e
  refine ha B O σ H F τ R hs _ _ e1 _ fun v1 H1 F1 O1 R1 E1 r1 => ?_
  split at e
  · rename_i ds g1
    split at e
    · rename_i hl
      cases e
      have r := rds_ok r1 g1
      exact ⟨by rw [r.length]; exact Nat.le_trans hl million, fin_lst R1 r fun v H' F' O' R' E' r' => q v H' F' O' R' (E1.trans E') (r'.back fun p h => E1.d p h)⟩
    · cases e
  · cases e
theorem zFn {r : List V → Hp → VK → Prop} {f : List Dt → Option R} {ta : TA} {ea : M (List R)} (ho : FnJ K C r f) (ha : ZA K C i ad ta ea) : ZE K C i ad (tCB r ta) (eFn f ea) := by
  intro B O σ H F τ R hs a τ' e Q q
  obtain ⟨x, τ1, e1, e⟩ := mb_some e
  refine ha B O σ H F τ R hs _ _ e1 _ fun v1 H1 F1 O1 R1 E1 r1 => ?_
  split at e
  · rename_i ds g1
    obtain ⟨res, g3, g4⟩ := Option.map_eq_some_iff.mp e
    cases g4
    exact ho B O1 σ H1 F1 _ v1 ds _ R1 (vws_ok R1 r1 g1) g3 Q fun v H' F' O' R' E' r' => q v H' F' O' R' (E1.trans E') (r'.back fun p h => E1.d p h)
  · cases e
theorem zOp {r : R2} {f : Dt → Dt → Option R} {ta tb : TE} {ea eb : M R} (ho : OpJ K C r f) (ha : ZE K C i ad ta ea) (hb : ZE K C i ad tb eb) : ZE K C i ad (tOp r ta tb) (eOp f ea eb) := by
  intro B O σ H F τ R hs a τ' e Q q
  obtain ⟨x, τ1, e1, e⟩ := mb_some e
  obtain ⟨y, τ2, e2, e⟩ := mb_some e
  refine ha B O σ H F τ R hs _ _ e1 _ fun v1 H1 F1 O1 R1 E1 r1 => ?_
  refine hb B O1 σ H1 F1 _ R1 hs _ _ e2 _ fun v2 H2 F2 O2 R2 E2 r2 => ?_
  split at e
  · rename_i dx dy g1 g2
    obtain ⟨res, g3, g4⟩ := Option.map_eq_some_iff.mp e
    cases g4
    exact ho B O2 σ H2 F2 _ v1 v2 dx dy _ R2 (vw_ok R2 (r1.ext E2) g1) (vw_ok R2 r2 g2) g3 Q fun v H' F' O' R' E' r' => q v H' F' O' R' ((E1.trans E2).trans E') (r'.back fun p h => (E1.trans E2).d p h)
  · cases e
theorem ztVal {ta : TE} {ea : M R} (ha : ZE K C i ad ta ea) : ZT K C i ad (tTest ta) (tVal ea) := by
  intro B O σ H F τ R hs a τ' e Q q
  obtain ⟨x, τ1, e1, e⟩ := mb_some e
  refine ha B O σ H F τ R hs _ _ e1 _ fun v1 H1 F1 O1 R1 E1 r1 => ?_
  split at e
  · cases e
    cases (show Rp K C F1 v1 _ from r1)
    exact ⟨_, rfl, q _ _ _ _ R1 E1 rfl⟩
  · cases e
theorem ztTru {ta : TE} {ea : M R} (ha : ZE K C i ad ta ea) : ZT K C i ad (fun σ H Q => ta σ H fun x H' => ∃ k, TruV K x H' k ∧ Q k H') (tTru ea) := by
  intro B O σ H F τ R hs a τ' e Q q
  obtain ⟨x, τ1, e1, e⟩ := mb_some e
  refine ha B O σ H F τ R hs _ _ e1 _ fun v1 H1 F1 O1 R1 E1 r1 => ?_
  obtain ⟨e3, t⟩ := truR_ok R1 r1 e
  subst e3
  exact ⟨_, t, q _ _ _ _ R1 E1 rfl⟩
theorem ztNot {ta : TT} {ea : M Bool} (ha : ZT K C i ad ta ea) : ZT K C i ad (tNot ta) (tstNot ea) := by
  intro B O σ H F τ R hs a τ' e Q q
  obtain ⟨x, τ1, e1, e⟩ := mb_some e
  refine ha B O σ H F τ R hs _ _ e1 _ fun v1 H1 F1 O1 R1 E1 r1 => ?_
  cases e
  exact q _ _ _ _ R1 E1 (by rw [r1])
theorem ztAnd {ta tb : TT} {ea eb : M Bool} (ha : ZT K C i ad ta ea) (hb : ZT K C i ad tb eb) : ZT K C i ad (tAnd ta tb) (tstAnd ea eb) := by
  intro B O σ H F τ R hs a τ' e Q q
  obtain ⟨x, τ1, e1, e⟩ := mb_some e
  refine ha B O σ H F τ R hs _ _ e1 _ fun v1 H1 F1 O1 R1 E1 r1 => ?_
  subst r1
  cases v1 with
  | true => exact iteT (hb _ _ _ _ _ _ R1 hs _ _ e _ fun v H' F' O' R' E' r' => q v H' F' O' R' (E1.trans E') r')
  | false =>
    cases e
    exact iteF (q _ _ _ _ R1 E1 rfl)
theorem ztOr {ta tb : TT} {ea eb : M Bool} (ha : ZT K C i ad ta ea) (hb : ZT K C i ad tb eb) : ZT K C i ad (tOr ta tb) (tstOr ea eb) := by
  intro B O σ H F τ R hs a τ' e Q q
  obtain ⟨x, τ1, e1, e⟩ := mb_some e
  refine ha B O σ H F τ R hs _ _ e1 _ fun v1 H1 F1 O1 R1 E1 r1 => ?_
  subst r1
  cases v1 with
  | false => exact iteF (hb _ _ _ _ _ _ R1 hs _ _ e _ fun v H' F' O' R' E' r' => q v H' F' O' R' (E1.trans E') r')
  | true =>
    cases e
    exact iteT (q _ _ _ _ R1 E1 rfl)
/-- a suite's ends: where it goes on, the exception stands where it stood -/
def EndsF (K : PySem.W.Frag) (C : Cl) (i : Nat) (ad : Addr) (B : Bs) (O : OO) (H F : Hp) (τ' : List SD) (D : Ends) (f : Fl) : Prop := ∀ (σ' : L2.St) (H' F' : Hp) (O' : OO), Rel K C B O' σ' H' F' τ' → Ext O H F O' H' F' → (f = .nx → σ'[i]? = some (some (.ref ad))) → match f with
  | .nx => D.nx σ' H'
  | .bk => D.bk σ' H'
  | .ct => D.ct σ' H'
  | .rt r => ∀ v, RV K C H O' F' σ' v r → D.rt v H'
theorem EndsF.after {B : Bs} {O O1 : OO} {H F H1 F1 : Hp} {τ' : List SD} {D : Ends} {f : Fl} (h : EndsF K C i ad B O H F τ' D f) (E : Ext O H F O1 H1 F1) : EndsF K C i ad B O1 H1 F1 τ' D f := by
  intro σ' H' F' O' R' E' hz
  have q := h σ' H' F' O' R' (E.trans E') hz
  cases f with
  | nx => exact q
  | bk => exact q
  | ct => exact q
  | rt r => exact fun v rv => q v (rv.back fun p h => E.d p h)
def ZS (K : PySem.W.Frag) (C : Cl) (i : Nat) (ad : Addr) (t : TS) (m : M Fl) : Prop := ∀ (B : Bs) (O : OO) (σ : L2.St) (H F : Hp) (τ : List SD), Rel K C B O σ H F τ → σ[i]? = some (some (.ref ad)) → ∀ (f : Fl) (τ' : List SD), m τ = some (f, τ') → ∀ D : Ends, EndsF K C i ad B O H F τ' D f → t D σ H
theorem zsC {t : TS} {m : M Fl} (h : ZS K C i ad t m) : JC K C i ad t (rsOf m) := fun B O σ H F τ R hs f τ' e D q => h B O σ H F τ R hs f τ' e D fun σ' H' F' O' R' E' _ => q σ' H' F' O' R' E'
theorem zsNext : ZS K C i ad tNext sNext := by
  intro B O σ H F τ R hs f τ' e D q
  cases e
  exact q _ _ _ _ R Ext.refl fun _ => hs
theorem zsRet {te : TE} {ea : M R} (ha : ZE K C i ad te ea) : ZS K C i ad (tRet te) (sRet ea) := by
  intro B O σ H F τ R hs f τ' e D q
  obtain ⟨x, τ1, e1, e⟩ := mb_some e
  cases e
  exact ha B O σ H F τ R hs _ _ e1 _ fun v1 H1 F1 O1 R1 E1 r1 => q _ _ _ _ R1 E1 (fun h => by cases h) v1 r1
theorem zsSet {j : Nat} {te : TE} {ea : M R} (hj : j ≠ i) (ha : ZE K C i ad te ea) : ZS K C i ad (tAsg te (gName j)) (sSet j ea) := by
  intro B O σ H F τ R hs f τ' e D q
  obtain ⟨x, τ1, e1, e⟩ := mb_some e
  obtain ⟨τ2, e2, e3⟩ := Option.map_eq_some_iff.mp e
  clear e
  cases e3
  refine ha B O σ H F τ R hs _ _ e1 _ fun v1 H1 F1 O1 R1 E1 r1 => ?_
  obtain ⟨O2, F2, R2, E2⟩ := set_ok R R1 E1 r1 e2
  exact q _ _ _ _ R2 E2 fun _ => by rw [List.getElem?_set_ne hj]; exact hs
theorem zsIf {c : TT} {t u : TS} {ec : M Bool} {a b : M Fl} (hc : ZT K C i ad c ec) (ha : ZS K C i ad t a) (hb : ZS K C i ad u b) : ZS K C i ad (tIfS c t u) (sIf ec a b) := by
  intro B O σ H F τ R hs f τ' e D q
  obtain ⟨x, τ1, e1, e⟩ := mb_some e
  refine hc B O σ H F τ R hs _ _ e1 _ fun v1 H1 F1 O1 R1 E1 r1 => ?_
  subst r1
  cases v1 with
  | true => exact iteT (ha _ _ _ _ _ _ R1 hs _ _ e D (q.after E1))
  | false => exact iteF (hb _ _ _ _ _ _ R1 hs _ _ e D (q.after E1))
theorem zsSeq {t u : TS} {a b : M Fl} (ha : ZS K C i ad t a) (hb : ZS K C i ad u b) : ZS K C i ad (tSeq t u) (sSeq a b) := by
  intro B O σ H F τ R hs f τ' e D q
  unfold sSeq at e
  split at e
  · rename_i τ1 e1
    refine ha B O σ H F τ R hs _ _ e1 _ fun σ1 H1 F1 O1 R1 E1 h1 => ?_
    exact hb B O1 σ1 H1 F1 τ1 R1 (h1 rfl) _ _ e D (q.after E1)
  · rename_i hne
    refine ha B O σ H F τ R hs _ _ e _ fun σ1 H1 F1 O1 R1 E1 h1 => ?_
    have q1 := q σ1 H1 F1 O1 R1 E1 h1
    cases f with
    | nx => exact (hne _ e).elim
    | bk => exact q1
    | ct => exact q1
    | rt r => exact q1
/-- whatever text is read so -/
def tSem (K : PySem.W.Frag) (C : Cl) (i : Nat) (ad : Addr) (S : SM) : TS := fun D σ H => ∃ (B : Bs) (O : OO) (F : Hp) (τ : List SD) (f : Fl) (τ' : List SD), Rel K C B O σ H F τ ∧ σ[i]? = some (some (.ref ad)) ∧ S τ f τ' ∧ EndsOk K C B O H F τ' D f
theorem jcSem {S : SM} : JC K C i ad (tSem K C i ad S) S := fun B O σ H F τ R hs f τ' e D q => ⟨B, O, F, τ, f, τ', R, hs, e, q⟩
end
theorem pss_sem {X : Cx} {C : Cl} {i : Nat} {ad : Addr} {b : List Stmt} {t : TS} {S : SM} (h : PSs X b t) (k : JC X.K C i ad t S) : PSs X b (tSem X.K C i ad S) :=
  ⟨fun pins s σ H D I z => by
    obtain ⟨B, O, F, τ, f, τ', R, hs, e, q⟩ := z
    exact h.run pins s σ H D I (k B O σ H F τ R hs f τ' e D q)⟩
end MR
end BW
--RAW
/-! (x,) * k, k up to a hundred thousand -/
namespace BW.MLG
open PySem PySem.Spec PyProof.Rows L2
def rRep1 (K : PySem.W.Frag) : R2 := fun x y H Q => ∃ (l : Addr) (k : Int) (z : V), x = .ref l ∧ y = .int k ∧ SqT K H l [z] ∧ 2 ≤ k ∧ k ≤ 100000 ∧ New H (.tup (List.replicate k.toNat z)) Q
theorem flat1 {α : Type} (z : α) (n : Nat) : (List.replicate n [z]).flatten = List.replicate n z := by induction n with
  | zero => rfl
  | succ m ih => rw [List.replicate_succ, List.flatten_cons, ih]; rfl
theorem op_rep1 {X : Cx} : OpR X (binaryOp .Mult) (rRep1 X.K) := by
  intro pins s0 σ0 H0 x0 y0 v0 u0 Q0 inv rx0 ry0 asked
  obtain ⟨l, k, z, rfl, rfl, hT, hk2, hk5, q⟩ := asked
  cases rx0
  obtain ⟨tk, rfl⟩ := ry0
  obtain ⟨its, rv, ⟨⟨c0, dx0, data0, sl0⟩, hob, hcl, n0, hdt⟩, _⟩ := inv.tuple hT
  simp only at hcl hdt
  subst hcl hdt
  have h1 : its.length = 1 := rv.length.symm
  obtain ⟨a, rfl⟩ : ∃ a, its = [a] := by
    match its, h1 with
    | [a], _ => exact ⟨a, rfl⟩
  have e4 : Builtin.Tuple.tupleTooMany (((([a] : List Value).toArray.size : Nat) : Int) * k) = false := by unfold Builtin.Tuple.tupleTooMany; rw [sizeLine_eq]; exact decide_eq_false (by show ¬ _; simp; omega)
  have len1 : (List.replicate k.toNat a).length ≤ sizeLine := by rw [List.length_replicate, sizeLine_eq]; omega
  have e1 : (([a] : List Value).toArray.isEmpty || k == 1) = false := (Bool.false_or _).trans (beq_eq_false_iff_ne.mpr (by omega))
  refine wpAny_binaryOp_repeat_ref (T := "tuple") (U := "int") (by decide) ⟨_, hob, rfl⟩ (fun s1 => typeIs_int s1 k tk) noFill_tuple_mul F.fills_int_mul F.slot_int_rmul repeat_tuple F.slot_int_index.lookup (call_meets F.slot_int_rmul (typeIs_int s0 k tk) F.entry_int_rmul (F.args_int_rmul_2 _ _) (int_rmul_tuple k tk l _ n0 dx0 sl0) ⟨hob, rfl, ⟨_, hob, rfl⟩, ?_⟩)
  refine call_meets F.slot_tuple_mul ⟨_, hob, rfl⟩ F.entry_tuple_mul (F.args_tuple_mul_2 _ _) (tuple_mulW l _ n0 dx0 sl0 k tk (by rw [decide_eq_false (by omega), decide_eq_false (by omega)]; rfl) e1 (by rw [decide_eq_false (by omega)]; rfl) (by simp; omega) e4 (by rw [size_rep, flat1, List.size_toArray]; exact len1)) ⟨hob, ?_⟩
  rw [size_rep, flat1]
  refine ⟨.ref s0.heap.objs.size, _, inv.laid (t' := s0.toks) (o := .tup (List.replicate k.toNat z)) (fun b ob g => Heap.get?_push_of_some _ g) (Nat.le_refl _) ⟨by rw [List.length_replicate, sizeLine_eq]; omega, List.replicate k.toNat a, ?_, IsTup.new _ _⟩, rfl, ?_⟩
  · have r2 := rv.rep k.toNat
    rw [flat1, flat1] at r2
    exact r2
  · exact q _ _ (inv.hok.fresh (Nat.le_refl _)) (same_new (inv.hok.fresh (Nat.le_refl _))) upd_same
end BW.MLG
namespace BW
namespace MR
open PySem PySem.Spec PyProof.Rows L2
def mul1D : Dt → Dt → Option R
  | .tuple [d], .int k => if 2 ≤ k ∧ k ≤ 100000 then some (.v (.tuple (List.replicate k.toNat d))) else none
  | _, _ => none
section
variable {K : PySem.W.Frag} {C : Cl}
theorem RpA.rep1 {F : Hp} {v : V} {d : Dt} (h : Rp K C F v d) : ∀ n : Nat, RpA K C F (List.replicate n v) (List.replicate n d)
  | 0 => .nil
  | n + 1 => by rw [List.replicate_succ, List.replicate_succ]; exact .cons h (RpA.rep1 h n)
theorem oj_mul1 : OpJ K C (MLG.rRep1 K) mul1D := by
  intro B O σ H F τ x y dx dy res R hx hy e Q q
  unfold mul1D at e
  split at e
  · split at e
    · rename_i hk
      cases e
      cases hy.int
      obtain ⟨p, vs, rfl, h1, r1⟩ := hx.tup
      cases r1 with
      | cons rv rn =>
        cases rn
        exact ⟨_, _, _, rfl, rfl, Same.tupS R.sub h1, hk.1, hk.2, fin_tup R (RpA.rep1 rv _) q⟩
    · cases e
  · cases e
end
theorem OpK.mul1 {x y : R} {τ : List SD} {PR : R → List SD → Prop} {e d : Dt} {k : Int} [hx : VwC τ x e] [ha : AsT e [d]] [hy : VwC τ y (.int k)] (h1 : 2 ≤ k) (h2 : k ≤ 100000) (h : PR (.v (.tuple (List.replicate k.toNat d))) τ) : OpK mul1D x y τ PR :=
  ⟨.tuple [d], _, .v (.tuple (List.replicate k.toNat d)), by rw [hx.eq, ha.eq], hy.eq, if_pos ⟨h1, h2⟩, h⟩
end MR
end BW
--RAW
/-! bs.count(True) -/
namespace BW.CTB
open PySem PySem.Spec PyProof.Rows L2
def rCntB (K : PySem.W.Frag) : V → List V → Hp → VK → Prop := fun x xs H Q => ∃ (p : Addr) (bs : List Bool) (k : Bool), x = .ref p ∧ xs = [.bl k] ∧ SqL K H p (bs.map V.bl) ∧ Q (.int (bs.count k : Nat)) H
theorem flB (bs : List Bool) : (bs.map V.bl).all flatV = true := List.all_eq_true.mpr fun x hx => by obtain ⟨i, _, rfl⟩ := List.mem_map.mp hx; rfl
theorem count_b (k : Bool) : ∀ {bs : List Bool} {us : List Value}, Vals (bs.map V.bl) us → us.countP (eqU (.bl k)) = bs.count k
  | [], _, h => by cases h; rfl
  | b :: bs, _, h => by
    cases h with
    | cons r t =>
      rw [List.countP_cons, List.count_cons, count_b k t, eqU_of r rfl]
      have e : eqV (.bl b) (.bl k) = (b == k) := by cases b <;> cases k <;> rfl
      rw [e]
theorem mt_countB {X : Cx} : MtR X "list.count" (rCntB X.K) := by
  intro pins s0 σ0 H0 x0 xs0 v0 us0 Q0 inv rx0 rs0 asked
  obtain ⟨p, bs, k, rfl, rfl, hs, q⟩ := asked
  cases rx0
  obtain ⟨u, rfl, ru⟩ := rs0.one
  obtain ⟨its, rv, ⟨⟨c0, dx0, data0, sl0⟩, n0, hob, hcl, hdn, hdt⟩, _⟩ := inv.list hs
  simp only at hcl hdt
  subst hcl hdt
  refine call_meets PySem.F.slot_list_count ⟨_, hob, rfl⟩ PySem.F.entry_list_count (PySem.F.args_list_count_2 _ _) (SeqAt.list_countAt p its.toArray n0 dx0 sl0 u (eqU (.bl k))) ⟨hob, fun y hy => mem_eqAt ru rfl rv (flB bs) y (by simpa using hy), ⟨.int (bs.count k : Nat), H0, inv.tok _, ⟨s0.toks, ?_⟩, q⟩⟩
  show Value.int ((its.toArray.toList.countP (eqU (.bl k)) : Nat) : Int) s0.toks = _
  rw [show its.toArray.toList = its from rfl, count_b k rv]
end BW.CTB
namespace BW
namespace MR
open PySem PySem.Spec PyProof.Rows L2
def eCntB (a : M R) (k : Bool) : M R := mb a fun r => mb (fzR r) fun d => fun τ => match d with
  | .list ds => match boolsI ds with
    | some bs => some (.v (.int (bs.count k : Nat)), τ)
    | none => none
  | _ => none
section
variable {K : PySem.W.Frag} {C : Cl}
theorem jCntB {te : TE} {ea : M R} {k : Bool} (ha : JE K C te ea) : JE K C (tBM K "list" (CTB.rCntB K) te (tCons (tC (.bl k)) tNil)) (eCntB ea k) := by
  intro B O σ H F τ R a τ' e Q q
  obtain ⟨x, τ1, e1, e2⟩ := mb_some e
  clear e
  obtain ⟨d, τ2, e3, e4⟩ := mb_some e2
  clear e2
  refine ha B O σ H F τ R _ _ e1 _ fun v1 H1 F1 O1 R1 E1 r1 => ?_
  obtain ⟨O2, F2, R2, E2, _, r2⟩ := fz_ok R R1 E1 r1 e3
  split at e4
  · rename_i ds
    split at e4
    · rename_i bs hb
      cases e4
      rw [boolsI_ok hb] at r2
      cases r2 with
      | lst h1 rr =>
        rw [rr.bools] at h1
        exact ⟨.inl ⟨rfl, _, R2.sub.seq h1⟩, _, bs, k, rfl, rfl, R2.sub.seq h1, q _ _ _ _ R2 E2 (.int _)⟩
    · cases e4
  · cases e4
end
section
variable {τ : List SD} {a : M R} {PR : R → List SD → Prop}
def CntBK (d : Dt) (k : Bool) (P : R → Prop) : Prop := ∃ bs : List Bool, d = .list (bs.map .bool) ∧ P (.v (.int (bs.count k : Nat)))
instance St.cntb_ {k : Bool} : St (Ev (eCntB a k) τ PR) (Ev a τ fun r τ1 => FzK r τ1 fun d τ2 => CntBK d k fun r => PR r τ2) := ⟨fun h => ev_mb (h.imp fun r τ1 h => ev_mb (Ev.imp h fun d τ2 ⟨bs, e1, p⟩ => ⟨_, τ2, by
  subst e1
  show (match boolsI (bs.map PyData.bool) with | some bs => some (R.v (.int (bs.count k : Nat)), τ2) | none => none) = _
  rw [boolsI_map], p⟩))⟩
theorem CntBK.mk {bs : List Bool} {d : Dt} {k : Bool} {P : R → Prop} (h : d = .list (bs.map .bool)) (p : P (.v (.int (bs.count k : Nat)))) : CntBK d k P := ⟨bs, h, p⟩
end
end MR
end BW
--RAW
/-! f(x) of a new thing that no name holds -/
namespace BW
namespace MR
open PySem PySem.Spec PyProof.Rows L2
def eCallT (f : List SD → Option (R × List SD)) (a : M R) : M R := mb a fun r => fun τ => match r with
  | .n x => match f [.io x] with
    | some (.v d, [.io _]) => some (.v d, τ)
    | some (.n y, [.io _]) => some (.n y, τ)
    | _ => none
  | _ => none
section
variable {K : PySem.W.Frag} {C : Cl}
theorem jCallT {f : List SD → Option (R × List SD)} {E : XK} {ta : TE} {ea : M R} (ha : JE K C ta ea) : JE K C (tCall (SpD K C 1 f) [] E (tCons ta tNil)) (eCallT f ea) := by
  intro B O σ H F τ R a τ' e Q q
  obtain ⟨x, τ1, e1, e2⟩ := mb_some e
  clear e
  refine ha B O σ H F τ R _ _ e1 _ fun v1 H1 F1 O1 R1 E1 r1 => ?_
  cases x with
  | v d => cases e2
  | o i => cases e2
  | n x =>
    obtain ⟨p, rfl, hO, hp⟩ := r1
    obtain ⟨r, x', hf, hr0, ha0⟩ : ∃ r x', f [.io x] = some (r, [.io x']) ∧ (∀ i, r ≠ .o i) ∧ (a, τ') = (r, τ1) := by
      have e2 : (match f [.io x] with
        | some (.v d, [.io _]) => some (BW.MR.R.v d, τ1)
        | some (.n y, [.io _]) => some (BW.MR.R.n y, τ1)
        | _ => none) = some (a, τ') := e2
      split at e2
      · rename_i d x' hf
        cases e2
        exact ⟨_, _, hf, (fun i h => by cases h), rfl⟩
      · rename_i d x' hf
        cases e2
        exact ⟨_, _, hf, (fun i h => by cases h), rfl⟩
      · cases e2
    cases ha0
    have l1 := (R1.own _ _ _ hO).1.get
    refine ⟨rfl, F1, [.io x], fun w => w = p, _, [.io x'], R1.sub, ⟨rfl, ?_, ?_, ?_, ?_, ?_⟩, hf, fun v H' F' s1 s2 fr nf dm hio hr => ?_⟩
    · intro i d hi
      cases i with
      | zero => cases hi
      | succ i => simp at hi
    · intro i y hi
      cases i with
      | zero => cases hi; exact ⟨p, rfl, rfl, (R1.own _ _ _ hO).1, (R1.own _ _ _ hO).2.1⟩
      | succ i => simp at hi
    · intro i y hi
      cases i with
      | zero => cases hi
      | succ i => simp at hi
    · intro i j y z w hi hj _ _
      cases i with
      | zero =>
        cases j with
        | zero => rfl
        | succ j => simp at hj
      | succ i => simp at hi
    · rintro w rfl
      exact ⟨0, _, rfl, rfl⟩
    · have R3 := R1.afterT hO s1 s2 fr nf dm (hio 0 _ p rfl rfl)
      have np : ∀ w t y, O w = some (t, y) → w ≠ p := fun w t y hw h => by
        obtain ⟨o, ho⟩ := (R.own _ _ _ hw).1.get
        rw [h, hp] at ho
        cases ho
      have E3 : Ext O H F (putO O1 p .tmp x') H' F' := ⟨E1.f.trans s1, fun w y hw => (if_neg (np w _ _ hw)).trans (E1.t w y hw), fun w h => E1.d w (dm w h)⟩
      cases a with
      | v d => exact q v H' F' _ R3 E3 hr
      | o i => exact (hr0 i rfl).elim
      | n y =>
        obtain ⟨p2, rfl, g1, g2, g3⟩ := hr
        have n2 : p2 ≠ p := fun h => by
          obtain ⟨o, ho⟩ := l1
          rw [← h, g1] at ho
          cases ho
        have R4 := R3.addO (p := p2) (fun t z h => by
          have h := (if_neg n2).symm.trans h
          obtain ⟨o, ho⟩ := (R1.own _ _ _ h).1.get
          rw [g1] at ho
          cases ho) (R1.dm p2 g1) g2 g3
        refine q _ H' F' _ R4 ⟨E3.f, fun w z hw => ?_, E3.d⟩ ⟨p2, rfl, if_pos rfl, E1.d _ g1⟩
        have nw : w ≠ p2 := fun h => by
          obtain ⟨o, ho⟩ := (R1.own _ _ _ (E1.t w z hw)).1.get
          rw [h, g1] at ho
          cases ho
        exact (if_neg nw).trans (E3.t w z hw)
end
section
variable {τ : List SD} {a : M R} {PR : R → List SD → Prop}
def CallTK (f : List SD → Option (R × List SD)) (r : R) (τ : List SD) (PR : R → List SD → Prop) : Prop := ∃ x r' x', r = .n x ∧ f [.io x] = some (r', [.io x']) ∧ (∀ i, r' ≠ .o i) ∧ PR r' τ
instance St.callt_ {f : List SD → Option (R × List SD)} : St (Ev (eCallT f a) τ PR) (Ev a τ fun r τ1 => CallTK f r τ1 PR) := ⟨fun h => ev_mb (h.imp fun r τ1 ⟨x, r', x', e1, e2, e3, p⟩ => ⟨r', τ1, by
  subst e1
  simp only [e2]
  cases r' with
  | v d => rfl
  | o i => exact (e3 i rfl).elim
  | n y => rfl, p⟩)⟩
theorem CallTK.mk {f : List SD → Option (R × List SD)} {x x' : Own} {y : Own} (e : f [.io x] = some (.n y, [.io x'])) (p : PR (.n y) τ) : CallTK f (.n x) τ PR := ⟨x, _, x', rfl, e, (fun i h => by cases h), p⟩
end
end MR
end BW
--RAW
/-! t.index(k): the first place in a tuple of whole numbers -/
namespace BW.TIX
open PySem PySem.Spec PyProof.Rows L2
def rIxT (K : PySem.W.Frag) : V → List V → Hp → VK → Prop := fun x xs H Q => ∃ (p : Addr) (ns : List Int) (k : Int) (j : Nat), x = .ref p ∧ xs = [.int k] ∧ SqT K H p (ns.map V.int) ∧ ns[j]? = some k ∧ (∀ m y, m < j → ns[m]? = some y → y ≠ k) ∧ Q (.int (j : Int)) H
theorem flI (ns : List Int) : (ns.map V.int).all flatV = true := List.all_eq_true.mpr fun x hx => by obtain ⟨i, _, rfl⟩ := List.mem_map.mp hx; rfl
theorem mt_ixT {X : Cx} : MtR X "tuple.index" (rIxT X.K) := by
  intro pins s0 σ0 H0 x0 xs0 v0 us0 Q0 inv rx0 rs0 asked
  obtain ⟨p, ns, k, j, rfl, rfl, hq, hj, hno, q⟩ := asked
  cases rx0
  cases rs0 with
  | cons rk rt0 =>
    rename_i kv kt0
    cases rt0
    obtain ⟨its, rv, pl, hz⟩ := inv.tuple hq
    obtain ⟨⟨c0, dx0, data0, sl0⟩, hob, hcl, n0, hdt⟩ := pl
    simp only at hcl hdt
    subst hcl hdt
    have hjy : (ns.map V.int)[j]? = some (V.int k) := by rw [List.getElem?_map, hj]; rfl
    obtain ⟨u, hu, ru⟩ := rv.get hjy
    obtain ⟨hjl, hje⟩ := List.getElem?_eq_some_iff.mp hu
    have hl0 := rv.length
    have hjs : j < its.toArray.size := by simpa using hjl
    refine call_meets PySem.F.slot_tuple_index ⟨_, hob, rfl⟩ PySem.F.entry_tuple_index (PySem.F.args_tuple_index_2 _ _) (TI.tuple_indexAt p its.toArray n0 dx0 sl0 kv (eqU (.int k)) j hjs ?_ ?_) ⟨hob, fun w hw => mem_eqAt rk rfl rv (flI ns) w (by simpa using hw), ⟨.int (j : Nat), H0, inv.tok _, ⟨_, rfl⟩, q⟩⟩
    · have e1 : its.toArray[j] = u := by simpa using hje
      rw [e1, eqU_of ru (flat_at (flI ns) hjy), BW.MR.eqV_ii]
      exact decide_eq_true rfl
    · intro m hm hmj
      have hm1 : m < its.length := by simpa using hm
      have hm2 : m < ns.length := by rw [List.length_map] at hl0; omega
      have hy1 : (ns.map V.int)[m]? = some (V.int ns[m]) := by rw [List.getElem?_map, List.getElem?_eq_getElem hm2]; rfl
      obtain ⟨u2, hu2, ru2⟩ := rv.get hy1
      obtain ⟨_, he2⟩ := List.getElem?_eq_some_iff.mp hu2
      have e1 : its.toArray[m] = u2 := by simpa using he2
      rw [e1, eqU_of ru2 (flat_at (flI ns) hy1), BW.MR.eqV_ii]
      exact decide_eq_false (hno m _ hmj (List.getElem?_eq_getElem hm2))
end BW.TIX
--RAW
/-! orders: ("order", tuple(..)), whose second item is known to the object -/
namespace BW.ORD
open PySem PySem.Spec PyProof.Rows L2
/-- tuple(xs), xs a list: the new object is known -/
def rTupO (K : PySem.W.Frag) : List V → Hp → VK → Prop := fun xs H Q => ∃ (p : Addr) (ys : List V), xs = [.ref p] ∧ SqL K H p ys ∧ ∀ (l : Addr) (o : Obj), H l = none → o.dict = none → Q (.ref l) (upd H l (.frz o (.tup ys)))
theorem cr_tupO {X : Cx} : CallR X (.type "tuple") (rTupO X.K) := by
  intro pins s0 σ0 H0 xs0 us0 Q0 inv rs0 asked
  obtain ⟨p, ys, rfl, hq, q⟩ := asked
  obtain ⟨u0, rfl, rx0⟩ := vals1 rs0
  cases rx0
  obtain ⟨its, rv, pl, hz⟩ := inv.list hq
  have hl0 := rv.length
  refine call_tuple_list pl.isList (fun h1 kept => ?_) (by rw [List.size_toArray]; omega)
  have I1 : Inv X pins σ0 H0 { s0 with heap := h1 } := inv.kept (t' := s0.toks) kept
  exact ⟨.ref h1.objs.size, _, I1.laid (t' := s0.toks) (o := .frz { cls := .type "tuple", data := .seq its.toArray } (.tup ys)) (fun b o g => Heap.get?_push_of_some _ g) (Nat.le_refl _) ⟨Heap.get?_push_size _ rfl, hz, its, rv, IsTup.new _ _⟩, rfl, q _ _ (I1.hok.fresh (Nat.le_refl _)) rfl⟩
/-- a tuple whose object is known and has no dict -/
def PlT (x : V) (H : Hp) : Prop := ∃ (p : Addr) (o : Obj) (xs : List V), x = .ref p ∧ H p = some (.frz o (.tup xs)) ∧ o.dict = none
def tBP (r : V → List V → Hp → VK → Prop) (to : TE) (t : TA) : TE := fun σ H Q => to σ H fun x H1 => PlT x H1 ∧ t σ H1 fun xs H2 => r x xs H2 Q
theorem pe_bmP {X : Cx} {ob e0 : Expr} {es : List Expr} {to : TE} {t : TA} {nm : Str} {ap cp : Pos} {id : String} {r : V → List V → Hp → VK → Prop} (slot : Slot "tuple" nm id) (hty : typeOf (.builtin id) = pure (.type "method_descriptor")) (hm : MtR X id r) (ho : PE X ob to) (ha : PA X (e0 :: es) t)
    (h1 : attributeBase ob nm X.env (eval ob X.env) = eval ob X.env := by rfl) (h3 : (ap.endLine == cp.line) = true := by rfl) (h4 : starEach (e0 :: es) X.env = (false, eval e0 X.env) :: starEach es X.env := by rfl) (h5 : (backTo cp (starEach es X.env)).any (·.1) = false := by rfl)
    (h2 : ((backTo cp (starEach (e0 :: es) X.env)).all (fun x => !x.1) && (backToKw cp (keywordEach [] X.env)).all (fun x => x.1.isSome) && decide ((e0 :: es).length + ([] : List Keyword).length + (if ([] : List Keyword).isEmpty then 0 else 1) < 30)) = true := by rfl) :
    PE X (.Call (.Attribute ob nm ap) (e0 :: es) [] cp) (tBP r to t) := by
  refine ⟨fun pins s0 σ0 H0 Q0 inv asked => wpAny_Call_method_late h1 h2 h3 rfl (thn (ho.run pins s0 σ0 H0 _ inv asked) fun v s1 ⟨x, H1, I1, r1, pt, q1⟩ => ?_)⟩
  obtain ⟨p, o, xs, rfl, hp, hd⟩ := pt
  have hk : ObjOk X.prog X.w H1 s1.heap p (.frz o (.tup xs)) := I1.hok p _ hp
  obtain ⟨hg, _, its, rv, o2, hg2, hc, _⟩ := hk
  obtain rfl : v = Value.ref p := r1
  refine ⟨"tuple", id, PySem.F.plainAttrs_tuple, slot, hty, ⟨o2, hg2, hc⟩, fun a e => ?_, ?_⟩
  · cases e
    exact ⟨o, hg, hd⟩
  · have hA := ha.run cp pins s1 σ0 H1 _ I1 q1
    rw [h4] at hA ⊢
    refine Calls.callWith_builtin (by show (false || (backTo cp (starEach es X.env)).any (·.1)) = false; rw [h5] <;> rfl) (Calls.evalArgs_plain (thn hA fun us s2 ⟨vs, H2, I2, r2, q2⟩ => ?_))
    exact hm pins s2 σ0 H2 (.ref p) vs (.ref p) us Q0 I2 rfl r2 q2
end BW.ORD
namespace BW
namespace MR
open PySem PySem.Spec PyProof.Rows L2
/-- ("order", places), as a datum -/
def ordD (ns : List Int) : Dt := .dict [(.str (Str.ofString "order"), .list (ns.map .int))]
/-- as the tuple that it is -/
def unoD : Dt → Dt
  | .dict [(.str z, .list ds)] => .tuple [.str z, .tuple ds]
  | d => d
def eUno (a : M R) : M R := mb a fun r => fun τ => some (match r with | .v d => .v (unoD d) | r => r, τ)
def eOrd (a : M R) : M R := mb a fun r => mb (fzR r) fun d => fun τ => match d with
  | .list ds => match intsOf ds with
    | some ns => some (.v (ordD ns), τ)
    | none => none
  | _ => none
def eOix (a : M R) (b : M (List R)) : M R := mb a fun r => mb b fun rs => fun τ => match r, vws τ rs with
  | .v (.dict [(.str _, .list ds)]), some [.int k] => match intsOf ds with
    | some ns => (ixI ns k).map fun (j : Nat) => (.v (.int (j : Int)), τ)
    | none => none
  | _, _ => none
section
variable {K : PySem.W.Frag} {C : Cl}
theorem SqT.frz {H : Hp} {b : Addr} {o : Obj} {xs : List V} (h : H b = some (.frz o (.tup xs))) : SqT K H b xs := .inl (.inr ⟨o, h⟩)
theorem Rp.uno {F : Hp} {v : V} {d : Dt} (h : Rp K C F v d) : Rp K C F v (unoD d) := by
  cases h with
  | ord h1 h2 h3 => exact .tup h1 (.cons (.str _) (.cons (.tup (SqT.frz h2) (RpA.ofInts _)) .nil))
  | ed h1 => exact .ed h1
  | obj h1 h2 => exact .obj h1 h2
  | non => exact .non
  | bl b => exact .bl b
  | int b => exact .int b
  | str b => exact .str b
  | lst h1 h2 => exact .lst h1 h2
  | tup h1 h2 => exact .tup h1 h2
theorem jUno {t : TE} {m : M R} (h : JE K C t m) : JE K C t (eUno m) := by
  intro B O σ H F τ R a τ' e Q q
  obtain ⟨x, τ1, e1, e2⟩ := mb_some e
  cases e2
  refine h B O σ H F τ R _ _ e1 _ fun v1 H1 F1 O1 R1 E1 r1 => q _ _ _ _ R1 E1 ?_
  cases x with
  | v d => exact Rp.uno r1
  | o i => exact r1
  | n y => exact r1
theorem jOrd {te : TE} {ea : M R} (ha : JE K C te ea) : JE K C (nTup (tCons (tC (.str (Str.ofString "order"))) (tCons (tCB (ORD.rTupO K) (tCons te tNil)) tNil))) (eOrd ea) := by
  intro B O σ H F τ R a τ' e Q q
  obtain ⟨x, τ1, e1, e2⟩ := mb_some e
  clear e
  obtain ⟨d, τ2, e3, e4⟩ := mb_some e2
  clear e2
  split at e4
  · rename_i ds
    split at e4
    · rename_i ns hn
      cases e4
      refine ha B O σ H F τ R _ _ e1 _ fun v1 H1 F1 O1 R1 E1 r1 => ?_
      obtain ⟨O2, F2, R2, E2, _, r2⟩ := fz_ok R R1 E1 r1 e3
      rw [intsOf_ok hn] at r2
      cases r2 with
      | lst h1 rr =>
        rename_i p xs
        rw [rr.ints] at h1
        refine ⟨p, _, rfl, R2.sub.seq h1, fun l o hl hd => ⟨by show 2 ≤ sizeLine; decide, fun p2 G hp2 sG gG => ?_⟩⟩
        obtain ⟨R3, E3, g3⟩ := R2.new (u := .frz o (.tup (ns.map V.int))) hl (same_new hl) upd_same
        obtain ⟨R4, E4, g4⟩ := R3.new hp2 sG gG
        exact q _ _ _ _ R4 ((E2.trans E3).trans E4) (.ord (SqT.of g4) (E4.f _ _ g3) hd)
    · cases e4
  · cases e4
theorem jOix {ts : TE} {t : TA} {ea : M R} {eb : M (List R)} (ha : JE K C ts ea) (hb : JA K C t eb) : JE K C (ORD.tBP (TIX.rIxT K) (tOp (rIx K) ts (tC (.int 1))) t) (eOix ea eb) := by
  intro B O σ H F τ R a τ' e Q q
  obtain ⟨x, τ1, e1, e2⟩ := mb_some e
  clear e
  obtain ⟨rs, τ2, e3, e4⟩ := mb_some e2
  clear e2
  split at e4
  · rename_i z ds k hk
    split at e4
    · rename_i ns hn
      obtain ⟨j, e5, e6⟩ := Option.map_eq_some_iff.mp e4
      clear e4
      cases e6
      refine ha B O σ H F τ R _ _ e1 _ fun v1 H1 F1 O1 R1 E1 r1 => ?_
      have r1 : Rp K C F1 v1 (.dict [(.str z, .list ds)]) := r1
      cases r1 with
      | ord h1 h2 h3 =>
        rename_i pa pb o ms
        rw [intsOf_map] at hn
        cases hn
        refine .inr (.inl ⟨_, _, _, _, rfl, rfl, Same.tupS R1.sub h1, rfl, ⟨_, _, _, rfl, R1.sub _ _ h2, h3⟩, ?_⟩)
        refine hb B O1 σ H1 F1 τ1 R1 _ _ e3 _ fun vs H3 F3 O3 R3 E3 r3 => ?_
        have pv := vws_ok R3 r3 hk
        obtain ⟨y, rfl, hy⟩ := paired1 pv
        rw [hy.int]
        obtain ⟨g1, g2⟩ := ixI_ok e5
        exact ⟨_, _, k, j, rfl, rfl, SqT.frz (R3.sub _ _ (E3.f _ _ h2)), g1, g2, q _ _ _ _ R3 (E1.trans E3) (.int _)⟩
    · cases e4
  · cases e4
end
section
variable {τ : List SD} {a : M R} {as : M (List R)} {PR : R → List SD → Prop}
def UnoK (r : R) (PR : R → Prop) : Prop := PR (match r with | .v d => .v (unoD d) | r => r)
instance St.uno_ : St (Ev (eUno a) τ PR) (Ev a τ fun r τ1 => UnoK r fun r => PR r τ1) := ⟨fun h => ev_mb (h.imp fun r τ1 p => ⟨_, τ1, rfl, p⟩)⟩
instance St.unoo_ {ns : List Int} {P : R → Prop} : St (UnoK (.v (ordD ns)) P) (P (.v (.tuple [.str (Str.ofString "order"), .tuple (ns.map .int)]))) := ⟨id⟩
instance St.unot_ {ds : List Dt} {P : R → Prop} : St (UnoK (.v (.tuple ds)) P) (P (.v (.tuple ds))) := ⟨id⟩
instance St.unol_ {ds : List Dt} {P : R → Prop} : St (UnoK (.v (.list ds)) P) (P (.v (.list ds))) := ⟨id⟩
instance St.unon_ {P : R → Prop} : St (UnoK (.v .none) P) (P (.v .none)) := ⟨id⟩
instance St.unoi_ {i : Int} {P : R → Prop} : St (UnoK (.v (.int i)) P) (P (.v (.int i))) := ⟨id⟩
instance St.unos_ {z : Str} {P : R → Prop} : St (UnoK (.v (.str z)) P) (P (.v (.str z))) := ⟨id⟩
instance St.unob_ {b : Bool} {P : R → Prop} : St (UnoK (.v (.bool b)) P) (P (.v (.bool b))) := ⟨id⟩
instance St.unon2_ {x : Own} {P : R → Prop} : St (UnoK (.n x) P) (P (.n x)) := ⟨id⟩
instance St.unov_ {i : Nat} {P : R → Prop} : St (UnoK (.o i) P) (P (.o i)) := ⟨id⟩
def OrdK (d : Dt) (PR : R → Prop) : Prop := ∃ ns : List Int, d = .list (ns.map .int) ∧ PR (.v (ordD ns))
instance St.ord_ : St (Ev (eOrd a) τ PR) (Ev a τ fun r τ1 => FzK r τ1 fun d τ2 => OrdK d fun r => PR r τ2) := ⟨fun h => ev_mb (h.imp fun r τ1 h => ev_mb (Ev.imp h fun d τ2 ⟨ns, e, p⟩ => ⟨_, τ2, by subst e; simp only [intsOf_map], p⟩))⟩
instance St.ordk_ {ns : List Int} {P : R → Prop} : St (OrdK (.list (ns.map .int)) P) (P (.v (ordD ns))) := ⟨fun p => ⟨ns, rfl, p⟩⟩
def OixK (r : R) (rs : List R) (τ : List SD) (PR : R → Prop) : Prop := ∃ (ns : List Int) (k : Int) (j : Nat), r = .v (ordD ns) ∧ vws τ rs = some [.int k] ∧ ixI ns k = some j ∧ PR (.v (.int (j : Int)))
instance St.oix_ : St (Ev (eOix a as) τ PR) (Ev a τ fun r τ1 => Ev as τ1 fun rs τ2 => OixK r rs τ2 fun r => PR r τ2) := ⟨fun h => ev_mb (h.imp fun r τ1 h => ev_mb (Ev.imp h fun rs τ2 ⟨ns, k, j, e1, e2, e3, p⟩ => ⟨_, τ2, by subst e1; simp only [ordD, e2, intsOf_map, e3]; rfl, p⟩))⟩
theorem OixK.mk {ns : List Int} {rs : List R} {k : Int} {j : Nat} {P : R → Prop} [h : VwsC τ rs [.int k]] (e : ixI ns k = some j) (p : P (.v (.int (j : Int)))) : OixK (.v (ordD ns)) rs τ P := ⟨ns, k, j, rfl, h.eq, e, p⟩
end
end MR
end BW
--RAW
/-! {k: v, ..}[z], written out; {} -/
theorem L2.Room.u1 {k : Nat} {A : PySem.Around} (h : L2.Room k A) : A.units + 1 < PySem.cLine := by have := h.un; omega
namespace BW
namespace MR
open PySem PySem.Spec PyProof.Rows L2
def eDpk (k1 v1 k2 v2 : Str) (a : M R) : M R := mb a fun r => fun τ => match vw τ r with
  | some (.str z) => if z = k1 then some (.v (.str v1), τ) else if z = k2 then some (.v (.str v2), τ) else none
  | _ => none
section
variable {K : PySem.W.Frag} {C : Cl}
theorem jDpk {k1 v1 k2 v2 : Str} (hne : k1 ≠ k2) {te : TE} {ea : M R} (ha : JE K C te ea) : JE K C (tDGet (tDisp [(tC (.str k1), tC (.str v1)), (tC (.str k2), tC (.str v2))]) te) (eDpk k1 v1 k2 v2 ea) := by
  intro B O σ H F τ R a τ' e Q q
  obtain ⟨x, τ1, e1, e2⟩ := mb_some e
  clear e
  intro p hp
  refine ⟨upd_same, [(.inr k1, .str v1), (.inr k2, .str v2)], rfl, by show 2 ≤ 15; decide, ?_⟩
  rw [upd_upd]
  have em : mergeK [] [((.inr k1 : Key), V.str v1), (.inr k2, .str v2)] = [(.inr k1, .str v1), (.inr k2, .str v2)] := by
    simp [mergeK, L2.putK, hne]
  rw [em]
  obtain ⟨R1, E1, g1⟩ := R.new (u := .dK [((.inr k1 : Key), V.str v1), (.inr k2, .str v2)]) hp (same_new hp) upd_same
  refine ha B O σ _ _ τ R1 _ _ e1 _ fun v2' H2 F2 O2 R2 E2 r2 => ?_
  split at e2
  · rename_i z hz
    have hv : v2' = .str z := by
      have := vw_ok R2 r2 hz
      exact this.str
    subst hv
    have hd := R2.sub _ _ (E2.f _ _ g1)
    split at e2
    · rename_i h1
      cases e2
      subst h1
      exact ⟨p, .str v1, rfl, .inl ⟨_, .inr z, .inl hd, rfl, (by simp [L2.valV])⟩, q _ _ _ _ R2 (E1.trans E2) (.str _)⟩
    · rename_i h1
      split at e2
      · rename_i h2
        cases e2
        subst h2
        exact ⟨p, .str v2, rfl, .inl ⟨_, .inr z, .inl hd, rfl, (by simp [L2.valV, List.find?_cons, Ne.symm h1])⟩, q _ _ _ _ R2 (E1.trans E2) (.str _)⟩
      · cases e2
  · cases e2
end
def eEd : M R := fun τ => some (.v (.dict []), τ)
theorem jEd {K : PySem.W.Frag} {C : Cl} : JE K C nDict eEd := by
  intro B O σ H F τ R a τ' e Q q
  cases e
  intro p G hp sG gG
  obtain ⟨R1, E1, g1⟩ := R.new hp sG gG
  exact q _ _ _ _ R1 E1 (.ed g1)
section
variable {τ : List SD} {a : M R} {PR : R → List SD → Prop}
instance St.ed_ : St (Ev eEd τ PR) (PR (.v (.dict [])) τ) := ⟨fun p => ⟨_, _, rfl, p⟩⟩
def DpkK (k1 v1 k2 v2 : Str) (r : R) (τ : List SD) (PR : R → Prop) : Prop := ∃ z, vw τ r = some (.str z) ∧ ((z = k1 ∧ PR (.v (.str v1))) ∨ (z ≠ k1 ∧ z = k2 ∧ PR (.v (.str v2))))
instance St.dpk_ {k1 v1 k2 v2 : Str} : St (Ev (eDpk k1 v1 k2 v2 a) τ PR) (Ev a τ fun r τ1 => DpkK k1 v1 k2 v2 r τ1 fun r => PR r τ1) := ⟨fun h => ev_mb (h.imp fun r τ1 ⟨z, e, h⟩ => by
  rcases h with ⟨h, p⟩ | ⟨h0, h, p⟩
  · exact ⟨_, τ1, by simp only [e]; exact if_pos h, p⟩
  · exact ⟨_, τ1, by simp only [e]; exact (if_neg h0).trans (if_pos h), p⟩)⟩
theorem DpkK.one {k1 v1 k2 v2 : Str} {r : R} {P : R → Prop} [h : VwC τ r (.str k1)] (p : P (.v (.str v1))) : DpkK k1 v1 k2 v2 r τ P := ⟨k1, h.eq, .inl ⟨rfl, p⟩⟩
theorem DpkK.two {k1 v1 k2 v2 : Str} {r : R} {P : R → Prop} [h : VwC τ r (.str k2)] (hne : k2 ≠ k1) (p : P (.v (.str v2))) : DpkK k1 v1 k2 v2 r τ P := ⟨k2, h.eq, .inr ⟨hne, rfl, p⟩⟩
end
end MR
end BW
--RAW
/-! list(range(i, j)) -/
namespace BW
namespace MR
open PySem PySem.Spec PyProof.Rows L2
def ztr (i j : Int) : List Int := (List.range (j - i).toNat).map fun k : Nat => i + (k : Int)
def eLrg2 (a b : M R) : M R := mb a fun r => mb b fun s => fun τ => match vw τ r, vw τ s with
  | some (.int i), some (.int j) => if 0 ≤ i ∧ i ≤ 16777216 ∧ 0 ≤ j ∧ j ≤ 16777216 then some (.n (.L ((ztr i j).map .int)), τ) else none
  | _, _ => none
section
variable {K : PySem.W.Frag} {C : Cl}
theorem jLrg2 {ta tb : TE} {ea eb : M R} (ha : JE K C ta ea) (hb : JE K C tb eb) : JE K C (tLstRg (tRg2 ta tb)) (eLrg2 ea eb) := by
  intro B O σ H F τ R a τ' e Q q
  obtain ⟨x, τ1, e1, e⟩ := mb_some e
  obtain ⟨y, τ2, e2, e⟩ := mb_some e
  refine ha B O σ H F τ R _ _ e1 _ fun v1 H1 F1 O1 R1 E1 r1 => ?_
  refine hb B O1 σ H1 F1 τ1 R1 _ _ e2 _ fun v2 H2 F2 O2 R2 E2 r2 => ?_
  split at e
  · rename_i i j hi hj
    split at e
    · rename_i hl
      cases e
      refine ⟨i, j, (vw_ok R2 (r1.ext E2) hi).int, (vw_ok R2 r2 hj).int, RgOk.of_le hl.1 hl.2.2.2 hl.2.1 hl.2.2.1, fun p hp => ?_⟩
      have rr : RpA K C F2 (rgV i j) ((ztr i j).map .int) := by
        have e0 : rgV i j = (ztr i j).map V.int := by unfold rgV ztr; rw [List.map_map]; rfl
        rw [e0]
        exact RpA.ofInts _
      exact fin_lst R2 rr (fun v H' F' O' R' E' r' => q v H' F' O' R' ((E1.trans E2).trans E') (r'.back fun p h => (E1.trans E2).d p h)) p _ hp (same_new hp) upd_same
    · cases e
  · cases e
end
section
variable {τ : List SD} {a b : M R} {PR : R → List SD → Prop} {x y : R} {i j : Int}
def Lrg2K (x y : R) (τ : List SD) (PR : R → List SD → Prop) : Prop := ∃ i j, vw τ x = some (.int i) ∧ vw τ y = some (.int j) ∧ (0 ≤ i ∧ i ≤ 16777216 ∧ 0 ≤ j ∧ j ≤ 16777216) ∧ PR (.n (.L ((ztr i j).map .int))) τ
instance St.lrg2_ : St (Ev (eLrg2 a b) τ PR) (Ev a τ fun x τ1 => Ev b τ1 fun y τ2 => Lrg2K x y τ2 PR) := ⟨fun h => ev_mb (h.imp fun r τ1 h => ev_mb (h.imp fun s τ2 ⟨i, j, e1, e2, e3, p⟩ => ⟨_, τ2, by simp only [e1, e2]; exact if_pos e3, p⟩))⟩
instance St.lrg2k_ [hx : VwC τ x (.int i)] [hy : VwC τ y (.int j)] : St (Lrg2K x y τ PR) (SideK (0 ≤ i ∧ i ≤ 16777216 ∧ 0 ≤ j ∧ j ≤ 16777216) (PR (.n (.L ((ztr i j).map .int))) τ)) := ⟨fun ⟨h, p⟩ => ⟨i, j, hx.eq, hy.eq, h, p⟩⟩
instance St.revl_ {ds : List Dt} [hx : VwC τ x (.list ds)] : St (UnK revD x τ PR) (PR (.n (.L ds.reverse)) τ) := ⟨fun h => ⟨.list ds, _, hx.eq, rfl, h⟩⟩
theorem mem_ztr {i j m : Int} : m ∈ ztr i j ↔ i ≤ m ∧ m < j := by
  unfold ztr
  rw [List.mem_map]
  constructor
  · rintro ⟨k, hk, rfl⟩
    have := List.mem_range.mp hk
    omega
  · intro h
    exact ⟨(m - i).toNat, List.mem_range.mpr (by omega), by omega⟩
end
end MR
end BW
namespace boughswap_k20_steps_on_long_racks
open PySem PySem.Spec PyProof.Rows L2 BW MR
open BW BW.MR
def topS (i : Nat) : Stmt := PySem.Challenge.pw_boughswap_k20_steps_on_long_racks.main.body.getD i (.Pass ⟨0, 0, 0, 0⟩)
abbrev s_p_wall : Stmt := topS 0
abbrev N_p_wall : List Str := ["k"]
theorem sc_p_wall : FnScope N_p_wall ["k"] (defScope s_p_wall) := ⟨rfl, rfl, rfl, by decide +kernel, rfl, by decide +kernel, by decide +kernel⟩
abbrev s_p_is_whole : Stmt := topS 10
abbrev N_p_is_whole : List Str := ["thing", "low", "high"]
theorem sc_p_is_whole : FnScope N_p_is_whole ["thing", "low", "high"] (defScope s_p_is_whole) := ⟨rfl, rfl, rfl, by decide +kernel, rfl, by decide +kernel, by decide +kernel⟩
abbrev s_p_parts_in : Stmt := topS 12
abbrev N_p_parts_in : List Str := ["kind", "low", "row"]
theorem sc_p_parts_in : FnScope N_p_parts_in ["kind", "low", "row"] (defScope s_p_parts_in) := ⟨rfl, rfl, rfl, by decide +kernel, rfl, by decide +kernel, by decide +kernel⟩
abbrev s_p_parts_of : Stmt := topS 13
abbrev N_p_parts_of : List Str := ["kind", "row", "withins", "trees", "start", "wanted", "at", "maker"]
theorem sc_p_parts_of : FnScope N_p_parts_of ["kind", "row"] (defScope s_p_parts_of) := ⟨rfl, rfl, rfl, by decide +kernel, rfl, by decide +kernel, by decide +kernel⟩
abbrev s_p_row_of : Stmt := topS 14
abbrev N_p_row_of : List Str := ["trees", "tree", "maker"]
theorem sc_p_row_of : FnScope N_p_row_of ["trees"] (defScope s_p_row_of) := ⟨rfl, rfl, rfl, by decide +kernel, rfl, by decide +kernel, by decide +kernel⟩
abbrev s_p_are_numbers : Stmt := topS 15
abbrev N_p_are_numbers : List Str := ["kind", "low", "things", "last", "thing"]
theorem sc_p_are_numbers : FnScope N_p_are_numbers ["kind", "low", "things"] (defScope s_p_are_numbers) := ⟨rfl, rfl, rfl, by decide +kernel, rfl, by decide +kernel, by decide +kernel⟩
abbrev s_p_is_rack : Stmt := topS 19
abbrev N_p_is_rack : List Str := ["thing", "form"]
theorem sc_p_is_rack : FnScope N_p_is_rack ["thing"] (defScope s_p_is_rack) := ⟨rfl, rfl, rfl, by decide +kernel, rfl, by decide +kernel, by decide +kernel⟩
abbrev s_p_is_thing : Stmt := topS 20
abbrev N_p_is_thing : List Str := ["kind", "rack", "thing"]
theorem sc_p_is_thing : FnScope N_p_is_thing ["kind", "rack", "thing"] (defScope s_p_is_thing) := ⟨rfl, rfl, rfl, by decide +kernel, rfl, by decide +kernel, by decide +kernel⟩
abbrev s_p_is_row_at : Stmt := topS 21
abbrev N_p_is_row_at : List Str := ["kind", "rack", "low", "thing", "place", "row", "parts"]
theorem sc_p_is_row_at : FnScope N_p_is_row_at ["kind", "rack", "low", "thing"] (defScope s_p_is_row_at) := ⟨rfl, rfl, rfl, by decide +kernel, rfl, by decide +kernel, by decide +kernel⟩
abbrev s_p_forms_fit : Stmt := topS 22
abbrev N_p_forms_fit : List Str := ["forms"]
theorem sc_p_forms_fit : FnScope N_p_forms_fit ["forms"] (defScope s_p_forms_fit) := ⟨rfl, rfl, rfl, by decide +kernel, rfl, by decide +kernel, by decide +kernel⟩
abbrev s_p_need_rack : Stmt := topS 23
abbrev N_p_need_rack : List Str := ["thing"]
theorem sc_p_need_rack : FnScope N_p_need_rack ["thing"] (defScope s_p_need_rack) := ⟨rfl, rfl, rfl, by decide +kernel, rfl, by decide +kernel, by decide +kernel⟩
abbrev s_p_need_thing : Stmt := topS 24
abbrev N_p_need_thing : List Str := ["kind", "rack", "thing"]
theorem sc_p_need_thing : FnScope N_p_need_thing ["kind", "rack", "thing"] (defScope s_p_need_thing) := ⟨rfl, rfl, rfl, by decide +kernel, rfl, by decide +kernel, by decide +kernel⟩
abbrev s_p_can_do : Stmt := topS 26
abbrev N_p_can_do : List Str := ["kind", "rack", "step"]
theorem sc_p_can_do : FnScope N_p_can_do ["kind", "rack", "step"] (defScope s_p_can_do) := ⟨rfl, rfl, rfl, by decide +kernel, rfl, by decide +kernel, by decide +kernel⟩
abbrev s_p_rack_after : Stmt := topS 27
abbrev N_p_rack_after : List Str := ["kind", "rack", "step", "forms"]
theorem sc_p_rack_after : FnScope N_p_rack_after ["kind", "rack", "step"] (defScope s_p_rack_after) := ⟨rfl, rfl, rfl, by decide +kernel, rfl, by decide +kernel, by decide +kernel⟩
abbrev s_p_led_to : Stmt := topS 28
abbrev N_p_led_to : List Str := ["kind", "rack", "step", "thing"]
theorem sc_p_led_to : FnScope N_p_led_to ["kind", "rack", "step", "thing"] (defScope s_p_led_to) := ⟨rfl, rfl, rfl, by decide +kernel, rfl, by decide +kernel, by decide +kernel⟩
abbrev s_p_led_back : Stmt := topS 29
abbrev N_p_led_back : List Str := ["kind", "rack", "step", "thing"]
theorem sc_p_led_back : FnScope N_p_led_back ["kind", "rack", "step", "thing"] (defScope s_p_led_back) := ⟨rfl, rfl, rfl, by decide +kernel, rfl, by decide +kernel, by decide +kernel⟩
abbrev s_p_undone : Stmt := topS 30
abbrev N_p_undone : List Str := ["kind", "rack", "step"]
theorem sc_p_undone : FnScope N_p_undone ["kind", "rack", "step"] (defScope s_p_undone) := ⟨rfl, rfl, rfl, by decide +kernel, rfl, by decide +kernel, by decide +kernel⟩
abbrev s_p_is_step_on : Stmt := topS 31
abbrev N_p_is_step_on : List Str := ["kind", "rack", "thing", "word", "place", "slot", "form"]
theorem sc_p_is_step_on : FnScope N_p_is_step_on ["kind", "rack", "thing"] (defScope s_p_is_step_on) := ⟨rfl, rfl, rfl, by decide +kernel, rfl, by decide +kernel, by decide +kernel⟩
abbrev s_p_forms_after : Stmt := topS 32
abbrev N_p_forms_after : List Str := ["kind", "rack", "step", "word", "place", "_", "form"]
theorem sc_p_forms_after : FnScope N_p_forms_after ["kind", "rack", "step"] (defScope s_p_forms_after) := ⟨rfl, rfl, rfl, by decide +kernel, rfl, by decide +kernel, by decide +kernel⟩
abbrev s_p_way_back : Stmt := topS 33
abbrev N_p_way_back : List Str := ["step", "places", "new", "old", "word", "place", "slot"]
theorem sc_p_way_back : FnScope N_p_way_back ["step"] (defScope s_p_way_back) := ⟨rfl, rfl, rfl, by decide +kernel, rfl, by decide +kernel, by decide +kernel⟩
abbrev s_p_led_along : Stmt := topS 34
abbrev N_p_led_along : List Str := ["kind", "steps", "thing", "place", "row", "trees", "step"]
theorem sc_p_led_along : FnScope N_p_led_along ["kind", "steps", "thing"] (defScope s_p_led_along) := ⟨rfl, rfl, rfl, by decide +kernel, rfl, by decide +kernel, by decide +kernel⟩
abbrev s_p_led_by : Stmt := topS 35
abbrev N_p_led_by : List Str := ["kind", "step", "place", "trees"]
theorem sc_p_led_by : FnScope N_p_led_by ["kind", "step", "place", "trees"] (defScope s_p_led_by) := ⟨rfl, rfl, rfl, by decide +kernel, rfl, by decide +kernel, by decide +kernel⟩
abbrev s_p_led_open : Stmt := topS 36
abbrev N_p_led_open : List Str := ["kind", "step", "place", "trees", "_", "at", "slot", "tree"]
theorem sc_p_led_open : FnScope N_p_led_open ["kind", "step", "place", "trees"] (defScope s_p_led_open) := ⟨rfl, rfl, rfl, by decide +kernel, rfl, by decide +kernel, by decide +kernel⟩
abbrev s_p_led_close : Stmt := topS 37
abbrev N_p_led_close : List Str := ["kind", "step", "place", "trees", "_", "at", "slot", "maker", "behind", "tree"]
theorem sc_p_led_close : FnScope N_p_led_close ["kind", "step", "place", "trees"] (defScope s_p_led_close) := ⟨rfl, rfl, rfl, by decide +kernel, rfl, by decide +kernel, by decide +kernel⟩
abbrev s_p_forms_opened : Stmt := topS 38
abbrev N_p_forms_opened : List Str := ["kind", "form", "many"]
theorem sc_p_forms_opened : FnScope N_p_forms_opened ["kind", "form"] (defScope s_p_forms_opened) := ⟨rfl, rfl, rfl, by decide +kernel, rfl, by decide +kernel, by decide +kernel⟩
abbrev s_p_form_closed : Stmt := topS 39
abbrev N_p_form_closed : List Str := ["kind", "rack", "place", "form"]
theorem sc_p_form_closed : FnScope N_p_form_closed ["kind", "rack", "place"] (defScope s_p_form_closed) := ⟨rfl, rfl, rfl, by decide +kernel, rfl, by decide +kernel, by decide +kernel⟩
abbrev s_p_are_places : Stmt := topS 40
abbrev N_p_are_places : List Str := ["rack", "things", "thing"]
theorem sc_p_are_places : FnScope N_p_are_places ["rack", "things"] (defScope s_p_are_places) := ⟨rfl, rfl, rfl, by decide +kernel, rfl, by decide +kernel, by decide +kernel⟩
abbrev s_p_is_name : Stmt := topS 48
abbrev N_p_is_name : List Str := ["thing", "letter"]
theorem sc_p_is_name : FnScope N_p_is_name ["thing"] (defScope s_p_is_name) := ⟨rfl, rfl, rfl, by decide +kernel, rfl, by decide +kernel, by decide +kernel⟩
abbrev s_p_are_makers : Stmt := topS 49
abbrev N_p_are_makers : List Str := ["things", "names", "withins", "thing", "name", "many"]
theorem sc_p_are_makers : FnScope N_p_are_makers ["things"] (defScope s_p_are_makers) := ⟨rfl, rfl, rfl, by decide +kernel, rfl, by decide +kernel, by decide +kernel⟩
abbrev s_p_is_maker : Stmt := topS 50
abbrev N_p_is_maker : List Str := ["thing", "name", "many"]
theorem sc_p_is_maker : FnScope N_p_is_maker ["thing"] (defScope s_p_is_maker) := ⟨rfl, rfl, rfl, by decide +kernel, rfl, by decide +kernel, by decide +kernel⟩
abbrev s_digit : Stmt := topS 53
abbrev N_digit : List Str := ["_law_state", "_law_base", "_law_found", "_law_number"]
theorem sc_digit : FnScope N_digit ["_law_state", "_law_base"] (defScope s_digit) := ⟨rfl, rfl, rfl, by decide +kernel, rfl, by decide +kernel, by decide +kernel⟩
abbrev s_makers : Stmt := topS 54
abbrev N_makers : List Str := ["_law_state", "_law_within_here", "_law_k", "_law_found", "_law_names", "_law_many"]
theorem sc_makers : FnScope N_makers ["_law_state"] (defScope s_makers) := ⟨rfl, rfl, rfl, by decide +kernel, rfl, by decide +kernel, by decide +kernel⟩
abbrev s_within : Stmt := topS 55
abbrev N_within : List Str := ["_law_makers_here", "_law_name", "_law_many"]
theorem sc_within : FnScope N_within ["_law_makers_here"] (defScope s_within) := ⟨rfl, rfl, rfl, by decide +kernel, rfl, by decide +kernel, by decide +kernel⟩
abbrev s_tree : Stmt := topS 56
abbrev N_tree : List Str := ["_law_state", "_law_within_here", "_law_size", "_law_row", "_law_wanted", "_law_maker"]
theorem sc_tree : FnScope N_tree ["_law_state", "_law_within_here", "_law_size"] (defScope s_tree) := ⟨rfl, rfl, rfl, by decide +kernel, rfl, by decide +kernel, by decide +kernel⟩
abbrev s_end_ : Stmt := topS 58
abbrev N_end_ : List Str := ["_law_within_here", "_law_row", "_law_at", "_law_wanted"]
theorem sc_end_ : FnScope N_end_ ["_law_within_here", "_law_row", "_law_at"] (defScope s_end_) := ⟨rfl, rfl, rfl, by decide +kernel, rfl, by decide +kernel, by decide +kernel⟩
abbrev s_spot : Stmt := topS 59
abbrev N_spot : List Str := ["_law_within_here", "_law_row", "_law_slot", "_law_at", "_law_k"]
theorem sc_spot : FnScope N_spot ["_law_within_here", "_law_row", "_law_slot"] (defScope s_spot) := ⟨rfl, rfl, rfl, by decide +kernel, rfl, by decide +kernel, by decide +kernel⟩
abbrev s_closed : Stmt := topS 60
abbrev N_closed : List Str := ["_law_within_here", "_law_rack", "_law_place", "_law_some", "_law_many", "_law_one"]
theorem sc_closed : FnScope N_closed ["_law_within_here", "_law_rack", "_law_place"] (defScope s_closed) := ⟨rfl, rfl, rfl, by decide +kernel, rfl, by decide +kernel, by decide +kernel⟩
abbrev s_after : Stmt := topS 61
abbrev N_after : List Str := ["_law_within_here", "_law_rack", "_law_step_here", "_law_place", "_law_more", "_law_closed_here", "_law_one"]
theorem sc_after : FnScope N_after ["_law_within_here", "_law_rack", "_law_step_here"] (defScope s_after) := ⟨rfl, rfl, rfl, by decide +kernel, rfl, by decide +kernel, by decide +kernel⟩
abbrev s_led : Stmt := topS 62
abbrev N_led : List Str := ["_law_within_here", "_law_step_here", "_law_thing_here", "_law_at", "_law_row", "_law_word", "_law_place", "_law_slot", "_law_more", "_law_spot_here"]
theorem sc_led : FnScope N_led ["_law_within_here", "_law_step_here", "_law_thing_here"] (defScope s_led) := ⟨rfl, rfl, rfl, by decide +kernel, rfl, by decide +kernel, by decide +kernel⟩
abbrev s_step : Stmt := topS 63
abbrev N_step : List Str := ["_law_state", "_law_within_here", "_law_rack", "_law_way", "_law_many", "_law_at", "_law_closes", "_law_place", "_law_opens", "_law_places"]
theorem sc_step : FnScope N_step ["_law_state", "_law_within_here", "_law_rack"] (defScope s_step) := ⟨rfl, rfl, rfl, by decide +kernel, rfl, by decide +kernel, by decide +kernel⟩
abbrev s_things_right : Stmt := topS 64
abbrev N_things_right : List Str := ["_law_state", "_law_kind", "_law_within_here", "_law_rack", "_law_step_here", "_law_places", "_law_place", "_law_row", "_law_k", "_law_thing_here", "_law_due"]
theorem sc_things_right : FnScope N_things_right ["_law_state", "_law_kind", "_law_within_here", "_law_rack", "_law_step_here"] (defScope s_things_right) := ⟨rfl, rfl, rfl, by decide +kernel, rfl, by decide +kernel, by decide +kernel⟩
abbrev s_law : Stmt := topS 65
abbrev N_law : List Str := ["_law_script", "_law_cell", "_law_state", "_law_makers_here", "_law_within_here", "_law_kind", "_law_first", "_law_rack", "_law_backs", "_law_k", "_law_step_here", "_law_after_here"]
theorem sc_law : FnScope N_law ["_law_script"] (defScope s_law) := ⟨rfl, rfl, rfl, by decide +kernel, rfl, by decide +kernel, by decide +kernel⟩
abbrev s_m_Kind_init : Stmt := inClass (topS 47) 0
abbrev N_m_Kind_init : List Str := ["self", "makers"]
theorem sc_m_Kind_init : FnScope N_m_Kind_init ["self", "makers"] (defScope s_m_Kind_init) := ⟨rfl, rfl, rfl, by decide +kernel, rfl, by decide +kernel, by decide +kernel⟩
abbrev s_m_Kind_within : Stmt := inClass (topS 47) 5
abbrev N_m_Kind_within : List Str := ["self", "maker"]
theorem sc_m_Kind_within : FnScope N_m_Kind_within ["self", "maker"] (defScope s_m_Kind_within) := ⟨rfl, rfl, rfl, by decide +kernel, rfl, by decide +kernel, by decide +kernel⟩
abbrev s_m_Kind_maker : Stmt := inClass (topS 47) 12
abbrev N_m_Kind_maker : List Str := ["self", "maker"]
theorem sc_m_Kind_maker : FnScope N_m_Kind_maker ["self", "maker"] (defScope s_m_Kind_maker) := ⟨rfl, rfl, rfl, by decide +kernel, rfl, by decide +kernel, by decide +kernel⟩
abbrev s_m_Kind_withins : Stmt := inClass (topS 47) 6
abbrev N_m_Kind_withins : List Str := ["self", "name", "many"]
theorem sc_m_Kind_withins : FnScope N_m_Kind_withins ["self"] (defScope s_m_Kind_withins) := ⟨rfl, rfl, rfl, by decide +kernel, rfl, by decide +kernel, by decide +kernel⟩
abbrev s_m_Kind_len : Stmt := inClass (topS 47) 2
abbrev N_m_Kind_len : List Str := ["self"]
theorem sc_m_Kind_len : FnScope N_m_Kind_len ["self"] (defScope s_m_Kind_len) := ⟨rfl, rfl, rfl, by decide +kernel, rfl, by decide +kernel, by decide +kernel⟩
def tTrK (K : PySem.W.Frag) (ta : TE) : TT := fun σ H Q => ta σ H fun x H1 => ∃ k, TruV K x H1 k ∧ Q k H1
theorem pe_globS {X : Cx} {x z : Str} {pos : Pos} (hg : Gl X x) (hm : ∃ t, X.mg x = some (.str z t)) (hd : (x == ("__debug__" : Str)) = false := by decide) : PE X (.Name x pos) (tC (.str z)) := by
  obtain ⟨t, h⟩ := hm
  exact pe_glob hg h ⟨t, rfl⟩ hd
theorem pe_globI {X : Cx} {x : Str} {i : Int} {pos : Pos} (hg : Gl X x) (hm : ∃ t, X.mg x = some (.int i t)) (hd : (x == ("__debug__" : Str)) = false := by decide) : PE X (.Name x pos) (tC (.int i)) := by
  obtain ⟨t, h⟩ := hm
  exact pe_glob hg h ⟨t, rfl⟩ hd
/-- the names of built-ins that no def of the text takes -/
structure Bi (K : PySem.W.Frag) (mg : Str → Option Value) : Prop where
  b_all : mg "all" = none
  b_bool : mg "bool" = none
  b_enumerate : mg "enumerate" = none
  b_int : mg "int" = none
  b_isinstance : mg "isinstance" = none
  b_len : mg "len" = none
  b_list : mg "list" = none
  b_max : mg "max" = none
  b_range : mg "range" = none
  b_set : mg "set" = none
  b_sorted : mg "sorted" = none
  b_str : mg "str" = none
  b_tuple : mg "tuple" = none
  c_MOST_FORMS : ∃ t, mg "MOST_FORMS" = some (.int 4000 t)
  c_MOST_TREES : ∃ t, mg "MOST_TREES" = some (.int 200 t)
  c_MOST_LETTERS : ∃ t, mg "MOST_LETTERS" = some (.int 8 t)
  c_FEWEST_MAKERS : ∃ t, mg "FEWEST_MAKERS" = some (.int 2 t)
  c_MOST_MAKERS : ∃ t, mg "MOST_MAKERS" = some (.int 5 t)
  c_MOST_WITHIN : ∃ t, mg "MOST_WITHIN" = some (.int 4 t)
  c_SMALL_LETTERS : ∃ t, mg "SMALL_LETTERS" = some (.str (Str.ofString "abcdefghijklmnopqrstuvwxyz") t)
/-- the defs of the text as they stand behind its top -/
structure Df (K : PySem.W.Frag) (mg : Str → Option Value) (Cc : BW.MR.Cl) : Prop where
  p_wall : At K mg "_wall" s_p_wall
  p_is_whole : At K mg "is_whole" s_p_is_whole
  p_parts_in : At K mg "parts_in" s_p_parts_in
  p_parts_of : At K mg "parts_of" s_p_parts_of
  p_row_of : At K mg "row_of" s_p_row_of
  p_are_numbers : At K mg "_are_numbers" s_p_are_numbers
  p_is_rack : At K mg "is_rack" s_p_is_rack
  p_is_thing : At K mg "is_thing" s_p_is_thing
  p_is_row_at : At K mg "is_row_at" s_p_is_row_at
  p_forms_fit : At K mg "forms_fit" s_p_forms_fit
  p_need_rack : At K mg "need_rack" s_p_need_rack
  p_need_thing : At K mg "need_thing" s_p_need_thing
  p_can_do : At K mg "can_do" s_p_can_do
  p_rack_after : At K mg "rack_after" s_p_rack_after
  p_led_to : At K mg "led_to" s_p_led_to
  p_led_back : At K mg "led_back" s_p_led_back
  p_undone : At K mg "undone" s_p_undone
  p_is_step_on : At K mg "is_step_on" s_p_is_step_on
  p_forms_after : At K mg "forms_after" s_p_forms_after
  p_way_back : At K mg "way_back" s_p_way_back
  p_led_along : At K mg "led_along" s_p_led_along
  p_led_by : At K mg "led_by" s_p_led_by
  p_led_open : At K mg "_led_open" s_p_led_open
  p_led_close : At K mg "_led_close" s_p_led_close
  p_forms_opened : At K mg "_forms_opened" s_p_forms_opened
  p_form_closed : At K mg "_form_closed" s_p_form_closed
  p_are_places : At K mg "_are_places" s_p_are_places
  p_is_name : At K mg "is_name" s_p_is_name
  p_are_makers : At K mg "_are_makers" s_p_are_makers
  p_is_maker : At K mg "_is_maker" s_p_is_maker
  digit : At K mg "_law_digit" s_digit
  makers : At K mg "_law_makers" s_makers
  within : At K mg "_law_within" s_within
  tree : At K mg "_law_tree" s_tree
  end_ : At K mg "_law_end" s_end_
  spot : At K mg "_law_spot" s_spot
  closed : At K mg "_law_closed" s_closed
  after : At K mg "_law_after" s_after
  led : At K mg "_law_led" s_led
  step : At K mg "_law_step" s_step
  things_right : At K mg "_law_things_right" s_things_right
  law : At K mg "law" s_law
  m_Kind_init : AtM K (Cc 0) "__init__" "Kind.__init__" s_m_Kind_init
  m_Kind_within : AtM K (Cc 0) "within" "Kind.within" s_m_Kind_within
  m_Kind_maker : AtM K (Cc 0) "_maker" "Kind._maker" s_m_Kind_maker
  m_Kind_withins : AtM K (Cc 0) "withins" "Kind.withins" s_m_Kind_withins
  m_Kind_len : AtM K (Cc 0) "__len__" "Kind.__len__" s_m_Kind_len
  k_Kind : ClsOk K mg "Kind" (Cc 0)
  n_Kind__makers : NoAttr K (Cc 0) "_makers"
section
variable {P : Program} {w : World} {K : PySem.W.Frag} {mg : Str → Option Value} {base : Heap}
variable {Cc : BW.MR.Cl}
open BW BW.MR
noncomputable def d_digit : M Fl := (sSeq (sIf (tVal (eOp eqD (eFn lenD (aCons (eV 0) aNil)) (eC (.int 1)))) (sDrop (eExt 0 (eLst (aCons (eF (eOp modD (eOp ixD (eV 0) (eC (.int 0))) (eC (.int 2147483647)))) (aCons (eF (eC (.int 0))) aNil))))) sNext)
      (sSeq (sIf (tVal (eOp geD (eOp ixD (eV 0) (eC (.int 0))) (eV 1))) (sSeq (sSet 2 (eOp modD (eOp ixD (eV 0) (eC (.int 0))) (eV 1)))
      (sSeq (sAsg (gIx 0 (eC (.int 0))) (eOp fdvD (eOp ixD (eV 0) (eC (.int 0))) (eV 1)))
      (sRet (eV 2)))) sNext)
      (sSeq (sAsg (gIx 0 (eC (.int 2))) (eOp addD (eOp ixD (eV 0) (eC (.int 2))) (eC (.int 1))))
      (sSeq (sSet 3 (eOp modD (eOp mulD (eOp addD (eOp addD (eOp ixD (eV 0) (eC (.int 1))) (eOp mulD (eC (.int 7919)) (eOp ixD (eV 0) (eC (.int 2))))) (eC (.int 1))) (eC (.int 48271))) (eC (.int 2147483647))))
      (sSeq (sSet 3 (eOp modD (eOp mulD (eV 3) (eOp addD (eOp fdvD (eV 3) (eC (.int 1009))) (eC (.int 69621)))) (eC (.int 2147483647))))
      (sRet (eOp modD (eOp modD (eOp mulD (eV 3) (eOp addD (eOp fdvD (eV 3) (eC (.int 2003))) (eC (.int 40692)))) (eC (.int 2147483399))) (eV 1))))))))
noncomputable def r_digit : List SD → Option (R × List SD) := runD 2 d_digit
def sp_digit (K : PySem.W.Frag) (Cc : BW.MR.Cl) : Sp := SpD K Cc 2 r_digit
theorem ok_digit (T : Bi K mg) (D : Df K mg Cc) : Cal P w K mg base CX0 1 "_law_digit" s_digit ["_law_state", "_law_base"] (sp_digit K Cc) := by
  refine Cal.mk' D.digit (fun _ _ _ _ _ _ us hl => match us, hl with | [_, _], _ => rfl) fun f fd F => F.ok sc_digit (fun vs H Q E h => h.1) (fun cdv A outer s H vs Q E hr h => ?_)
  refine ⟨_, (pss_cons (ps_if (pt_cmpR (o_eq hr.units) (pe_callB call_len (by rfl) T.b_len (by decide +kernel) (pa_cons (pv 0) pa_nil)) pe_int (nomark _)) (pss_one (ps_expr (pe_bm PySem.F.plainAttrs_list PySem.F.slot_list_extend PySem.F.type_list_extend mt_extend (pv 0) (pa_cons (n_lst (pa_cons (pe_op o_mod (pe_ix ix_seq (pv 0) pe_int (fun _ _ => rfl)) pe_int) (pa_cons pe_int pa_nil))) pa_nil)))) pss_nil)
      (pss_cons (ps_if (pt_cmpR op_ge (pe_ix ix_seq (pv 0) pe_int (fun _ _ => rfl)) (pv 1) (nomark _)) (pss_cons (ps_set (i := 2) sc_digit.nd rfl (by first | exact Or.inl rfl | exact Or.inr rfl) (pe_op o_mod (pe_ix ix_seq (pv 0) pe_int (fun _ _ => rfl)) (pv 1)))
      (pss_cons (ps_asg (pe_op o_fdv (pe_ix ix_seq (pv 0) pe_int (fun _ _ => rfl)) (pv 1)) (pg_sub (pv 0) pe_int set_list))
      (pss_one (ps_ret (pv 2))))) pss_nil)
      (pss_cons (ps_asg (pe_op o_add (pe_ix ix_seq (pv 0) pe_int (fun _ _ => rfl)) pe_int) (pg_sub (pv 0) pe_int set_list))
      (pss_cons (ps_set (i := 3) sc_digit.nd rfl (by first | exact Or.inl rfl | exact Or.inr rfl) (pe_op o_mod (pe_op o_mul (pe_op o_add (pe_op o_add (pe_ix ix_seq (pv 0) pe_int (fun _ _ => rfl)) (pe_op o_mul pe_int (pe_ix ix_seq (pv 0) pe_int (fun _ _ => rfl)))) pe_int) pe_int) pe_int))
      (pss_cons (ps_set (i := 3) sc_digit.nd rfl (by first | exact Or.inl rfl | exact Or.inr rfl) (pe_op o_mod (pe_op o_mul (pv 3) (pe_op o_add (pe_op o_fdv (pv 3) pe_int) pe_int)) pe_int))
      (pss_one (ps_ret (pe_op o_mod (pe_op o_mod (pe_op o_mul (pv 3) (pe_op o_add (pe_op o_fdv (pv 3) pe_int) pe_int)) pe_int) (pv 1))))))))), ?_⟩
  exact fn_sp (m := d_digit) (n := 2) (jsSeq (jsIf (jtVal (jOp oj_eq (jFn fj_len (jaCons (jV 0) jaNil)) jcInt)) (jsDrop (jExt (jLst (jaCons (jF (jOp oj_mod (jOp oj_ix (jV 0) jcInt) jcInt)) (jaCons (jF jcInt) jaNil))))) jsNext)
      (jsSeq (jsIf (jtVal (jOp oj_ge (jOp oj_ix (jV 0) jcInt) (jV 1))) (jsSeq (jsSet (jOp oj_mod (jOp oj_ix (jV 0) jcInt) (jV 1)))
      (jsSeq (jsAsg (jOp oj_fdv (jOp oj_ix (jV 0) jcInt) (jV 1)) (jgIx jcInt))
      (jsRet (jV 2)))) jsNext)
      (jsSeq (jsAsg (jOp oj_add (jOp oj_ix (jV 0) jcInt) jcInt) (jgIx jcInt))
      (jsSeq (jsSet (jOp oj_mod (jOp oj_mul (jOp oj_add (jOp oj_add (jOp oj_ix (jV 0) jcInt) (jOp oj_mul jcInt (jOp oj_ix (jV 0) jcInt))) jcInt) jcInt) jcInt))
      (jsSeq (jsSet (jOp oj_mod (jOp oj_mul (jV 3) (jOp oj_add (jOp oj_fdv (jV 3) jcInt) jcInt)) jcInt))
      (jsRet (jOp oj_mod (jOp oj_mod (jOp oj_mul (jV 3) (jOp oj_add (jOp oj_fdv (jV 3) jcInt) jcInt)) jcInt) (jV 1)))))))) rfl h
noncomputable def d_makers : M Fl := (sSeq (sSet 1 (eLst (aCons (eF (eC (.int 0))) (aCons (eF (eOp addD (eC (.int 2)) (mb (aCons (eV 0) (aCons (eF (eC (.int 3))) aNil)) (callD r_digit [])))) aNil))))
      (sSeq (sFor (iRng1D (aCons (mb (aCons (eV 0) (aCons (eF (eC (.int 4))) aNil)) (callD r_digit [])) aNil)) (gN 2) (sDrop (eApp 1 (aCons (eF (eOp ixD (eLst (aCons (eF (eC (.int 0))) (aCons (eF (eC (.int 0))) (aCons (eF (eC (.int 1))) (aCons (eF (eC (.int 2))) (aCons (eF (eC (.int 3))) aNil)))))) (mb (aCons (eV 0) (aCons (eF (eC (.int 5))) aNil)) (callD r_digit [])))) aNil))))
      (sSeq (sIf (tVal (eOp eqD (mb (aCons (eV 0) (aCons (eF (eC (.int 6))) aNil)) (callD r_digit [])) (eC (.int 0)))) (sSet 1 (eLst (aCons (eF (eC (.int 0))) (aCons (eF (eC (.int 0))) (aCons (eF (eC (.int 1))) (aCons (eF (eC (.int 2))) (aCons (eF (eC (.int 2))) aNil))))))) sNext)
      (sSeq (sSet 3 (eLst aNil))
      (sSeq (sSet 4 (eLst (aCons (eF (eC (.str (Str.ofString "tip")))) (aCons (eF (eC (.str (Str.ofString "fork")))) (aCons (eF (eC (.str (Str.ofString "a")))) (aCons (eF (eC (.str (Str.ofString "stem")))) (aCons (eF (eC (.str (Str.ofString "bud")))) aNil)))))))
      (sSeq (sWhile (tVal (eOp neD (eV 1) (eLst aNil))) (sSeq (sSet 5 (ePopAt 1 (aCons (eF (mb (aCons (eV 0) (aCons (eF (eFn lenD (aCons (eV 1) aNil))) aNil)) (callD r_digit []))) aNil)))
      (sDrop (eApp 3 (aCons (eF (eTup (aCons (eF (eOp ixD (eV 4) (eFn lenD (aCons (eV 3) aNil)))) (aCons (eF (eV 5)) aNil)))) aNil)))))
      (sRet (eV 3))))))))
noncomputable def r_makers : List SD → Option (R × List SD) := runD 5 d_makers
def sp_makers (K : PySem.W.Frag) (Cc : BW.MR.Cl) : Sp := SpD K Cc 1 r_makers
theorem ok_makers (T : Bi K mg) (D : Df K mg Cc) : Cal P w K mg base CX0 2 "_law_makers" s_makers ["_law_state"] (sp_makers K Cc) := by
  refine Cal.mk' D.makers (fun _ _ _ _ _ _ us hl => match us, hl with | [_], _ => rfl) fun f fd F => F.ok sc_makers (fun vs H Q E h => h.1) (fun cdv A outer s H vs Q E hr h => ?_)
  refine ⟨_, (pss_cons (ps_set (i := 1) sc_makers.nd rfl (by first | exact Or.inl rfl | exact Or.inr rfl) (n_lst (pa_cons pe_int (pa_cons (pe_op o_add pe_int (pe_own (ok_digit (Cc := Cc) T D) (hr.mono (by decide)) (by rfl) pass0 (pa_cons (pv 0) (pa_cons pe_int pa_nil)))) pa_nil))))
      (pss_cons (ps_for PassesOwn.never rfl (pi_range1 (by rfl) T.b_range (pa_cons (pe_own (ok_digit (Cc := Cc) T D) (hr.mono (by decide)) (by rfl) pass0 (pa_cons (pv 0) (pa_cons pe_int pa_nil))) pa_nil)) (pg_name (i := 2) sc_makers.nd rfl (by first | exact Or.inl rfl | exact Or.inr rfl)) (pss_one (ps_expr (pe_bm PySem.F.plainAttrs_list PySem.F.slot_list_append PySem.F.type_list_append mt_append (pv 1) (pa_cons (pe_ix ix_seq (n_lst (pa_cons pe_int (pa_cons pe_int (pa_cons pe_int (pa_cons pe_int (pa_cons pe_int pa_nil)))))) (pe_own (ok_digit (Cc := Cc) T D) (hr.mono (by decide)) (by rfl) pass0 (pa_cons (pv 0) (pa_cons pe_int pa_nil))) (fun _ _ => rfl)) pa_nil)))))
      (pss_cons (ps_if (pt_cmpR (o_eq hr.units) (pe_own (ok_digit (Cc := Cc) T D) (hr.mono (by decide)) (by rfl) pass0 (pa_cons (pv 0) (pa_cons pe_int pa_nil))) pe_int (nomark _)) (pss_one (ps_set (i := 1) sc_makers.nd rfl (by first | exact Or.inl rfl | exact Or.inr rfl) (n_lst (pa_cons pe_int (pa_cons pe_int (pa_cons pe_int (pa_cons pe_int (pa_cons pe_int pa_nil)))))))) pss_nil)
      (pss_cons (ps_set (i := 3) sc_makers.nd rfl (by first | exact Or.inl rfl | exact Or.inr rfl) (n_lst pa_nil))
      (pss_cons (ps_set (i := 4) sc_makers.nd rfl (by first | exact Or.inl rfl | exact Or.inr rfl) (n_lst (pa_cons pe_str (pa_cons pe_str (pa_cons pe_str (pa_cons pe_str (pa_cons pe_str pa_nil)))))))
      (pss_cons (ps_while PassesOwn.never (pt_cmpR (o_ne hr.units) (pv 1) (n_lst pa_nil) (nomark _)) (pss_cons (ps_set (i := 5) sc_makers.nd rfl (by first | exact Or.inl rfl | exact Or.inr rfl) (pe_bm PySem.F.plainAttrs_list PySem.F.slot_list_pop PySem.F.type_list_pop mt_popAt (pv 1) (pa_cons (pe_own (ok_digit (Cc := Cc) T D) (hr.mono (by decide)) (by rfl) pass0 (pa_cons (pv 0) (pa_cons (pe_callB call_len (by rfl) T.b_len (by decide +kernel) (pa_cons (pv 1) pa_nil)) pa_nil))) pa_nil)))
      (pss_one (ps_expr (pe_bm PySem.F.plainAttrs_list PySem.F.slot_list_append PySem.F.type_list_append mt_append (pv 3) (pa_cons (n_tup (pa_cons (pe_ix ix_seq (pv 4) (pe_callB call_len (by rfl) T.b_len (by decide +kernel) (pa_cons (pv 3) pa_nil)) (fun _ _ => rfl)) (pa_cons (pv 5) pa_nil))) pa_nil))))))
      (pss_one (ps_ret (pv 3))))))))), ?_⟩
  exact fn_sp (m := d_makers) (n := 5) (jsSeq (jsSet (jLst (jaCons (jF jcInt) (jaCons (jF (jOp oj_add jcInt (jCall (fun _ => .nil) (jaCons (jV 0) (jaCons (jF jcInt) jaNil)) (alD (alCons (alCons alNil)) rfl)))) jaNil))))
      (jsSeq (jsFor (jiRng1 (jaCons (jCall (fun _ => .nil) (jaCons (jV 0) (jaCons (jF jcInt) jaNil)) (alD (alCons (alCons alNil)) rfl)) jaNil)) jgN (jsDrop (jApp (jaCons (jF (jOp oj_ix (jLst (jaCons (jF jcInt) (jaCons (jF jcInt) (jaCons (jF jcInt) (jaCons (jF jcInt) (jaCons (jF jcInt) jaNil)))))) (jCall (fun _ => .nil) (jaCons (jV 0) (jaCons (jF jcInt) jaNil)) (alD (alCons (alCons alNil)) rfl)))) jaNil))))
      (jsSeq (jsIf (jtVal (jOp oj_eq (jCall (fun _ => .nil) (jaCons (jV 0) (jaCons (jF jcInt) jaNil)) (alD (alCons (alCons alNil)) rfl)) jcInt)) (jsSet (jLst (jaCons (jF jcInt) (jaCons (jF jcInt) (jaCons (jF jcInt) (jaCons (jF jcInt) (jaCons (jF jcInt) jaNil))))))) jsNext)
      (jsSeq (jsSet (jLst jaNil))
      (jsSeq (jsSet (jLst (jaCons (jF jcStr) (jaCons (jF jcStr) (jaCons (jF jcStr) (jaCons (jF jcStr) (jaCons (jF jcStr) jaNil)))))))
      (jsSeq (jsWhile (jtVal (jOp oj_ne (jV 1) (jLst jaNil))) (jsSeq (jsSet (jPopAt (jaCons (jF (jCall (fun _ => .nil) (jaCons (jV 0) (jaCons (jF (jFn fj_len (jaCons (jV 1) jaNil))) jaNil)) (alD (alCons (alCons alNil)) rfl))) jaNil)))
      (jsDrop (jApp (jaCons (jF (jTup (jaCons (jF (jOp oj_ix (jV 4) (jFn fj_len (jaCons (jV 3) jaNil)))) (jaCons (jF (jV 5)) jaNil)))) jaNil)))))
      (jsRet (jV 3)))))))) rfl h
noncomputable def d_within : M Fl := (sRet (eLc (iSeqD (eV 0)) [1, 2] (gT 2 (gsC (gN 1) (gsC (gN 2) gsN))) (fun τ => some (true, τ)) (eV 2)))
noncomputable def r_within : List SD → Option (R × List SD) := runD 2 d_within
def sp_within (K : PySem.W.Frag) (Cc : BW.MR.Cl) : Sp := SpD K Cc 1 r_within
theorem ok_within (T : Bi K mg) (D : Df K mg Cc) : Cal P w K mg base CX0 1 "_law_within" s_within ["_law_makers_here"] (sp_within K Cc) := by
  refine Cal.mk' D.within (fun _ _ _ _ _ _ us hl => match us, hl with | [_], _ => rfl) fun f fd F => F.ok sc_within (fun vs H Q E h => h.1) (fun cdv A outer s H vs Q E hr h => ?_)
  refine ⟨_, (pss_one (ps_ret (pe_lc (own := [("_law_name", 1), ("_law_many", 2)]) (by rfl) sc_within.nd (pi_seq (pv 0)) (blkOk_by (own := [("_law_name", 1), ("_law_many", 2)]) (N := N_within) (sc := defScope s_within) (by decide +kernel)) (fun _ _ _ _ _ => (show PG _ _ (gSeq K 2 _) from (pg_any rfl (pgs_cons (pg_name (i := 1) sc_within.nd rfl (by first | exact Or.inl rfl | exact Or.inr rfl)) (pgs_cons (pg_name (i := 2) sc_within.nd rfl (by first | exact Or.inl rfl | exact Or.inr rfl)) pgs_nil))))) (fun _ _ _ _ _ => pts_nil) (fun _ _ _ _ _ => (pv 2))))), ?_⟩
  exact fn_sp (m := d_within) (n := 2) (jsRet (jLc (vs := [1, 2]) (jiSeq (jV 0)) (jwT (jwsC (jwN (by decide)) (jwsC (jwN (by decide)) jwsN))) jtYes (jV 2) (wipe_wipe _))) rfl h
open BW BW.MR
noncomputable def d_p_is_whole : M Fl := (sSeq (sIf (tstOr (tTru (eIs .bool (eV 0))) (tstNot (tTru (eIs .int (eV 0))))) (sRet (eC (.bool false))) sNext)
      (sSeq (sIf (tstAnd (tVal (eOp isnD (eV 1) (eC .none))) (tVal (eOp ltD (eV 0) (eV 1)))) (sRet (eC (.bool false))) sNext)
      (sRet (eOr (eOp isD (eV 2) (eC .none)) (eOp leD (eV 0) (eV 2))))))
noncomputable def r_p_is_whole : List SD → Option (R × List SD) := runD 0 d_p_is_whole
def sp_p_is_whole (K : PySem.W.Frag) (Cc : BW.MR.Cl) : Sp := SpD K Cc 3 r_p_is_whole
theorem ok_p_is_whole (T : Bi K mg) (D : Df K mg Cc) : Cal P w K mg base CX0 1 "is_whole" s_p_is_whole ["thing", "low", "high"] (sp_p_is_whole K Cc) := by
  refine Cal.mk' D.p_is_whole (fun _ _ _ _ _ _ us hl => match us, hl with | [_, _, _], _ => rfl) fun f fd F => F.ok sc_p_is_whole (fun vs H Q E h => h.1) (fun cdv A outer s H vs Q E hr h => ?_)
  refine ⟨_, (pss_cons (ps_if (PW.pt (pw_or (pt_truth (pe_callB c_isinst (by rfl) T.b_isinstance (by decide +kernel) (pa_cons (pv 0) (pa_cons (pe_bltn (v := .ty "bool") (by rfl) T.b_bool (by decide +kernel) rfl) pa_nil))) (by intro _; rfl)) (pw_or1 (pt_not (pt_truth (pe_callB c_isinst (by rfl) T.b_isinstance (by decide +kernel) (pa_cons (pv 0) (pa_cons (pe_bltn (v := .ty "int") (by rfl) T.b_int (by decide +kernel) rfl) pa_nil))) (by intro _; rfl)))))) (pss_one (ps_ret pe_bl)) pss_nil)
      (pss_cons (ps_if (PW.pt (pw_and (pt_cmpR o_isn (pv 1) pe_non (nomark _)) (pw_and1 (pt_cmpR op_lt (pv 0) (pv 1) (nomark _))))) (pss_one (ps_ret pe_bl)) pss_nil)
      (pss_one (ps_ret (pe_orT (pe_cmpR o_is (pv 2) pe_non (nomark _)) (pe_one (pe_cmpR op_le (pv 0) (pv 2) (nomark _)))))))), ?_⟩
  exact fn_sp (m := d_p_is_whole) (n := 0) (jsSeq (jsIf (jtOr (jtTru (jIs (T := .bool) (jV 0))) (jtNot (jtTru (jIs (T := .int) (jV 0))))) (jsRet jcBool) jsNext)
      (jsSeq (jsIf (jtAnd (jtVal (jOp oj_isn (jV 1) jcNone)) (jtVal (jOp oj_lt (jV 0) (jV 1)))) (jsRet jcBool) jsNext)
      (jsRet (jOr (jOp oj_is (jV 2) jcNone) (jOp oj_le (jV 0) (jV 2)))))) rfl h
noncomputable def d_p_is_name : M Fl := (sSeq (sIf (tstOr (tstNot (tTru (eIs .str (eV 0)))) (tstNot (tVal (eChain leD leD (eC (.int 1)) (eFn lenD (aCons (eV 0) aNil)) (eC (.int 8)))))) (sRet (eC (.bool false))) sNext)
      (sRet (eFn allD (aCons (eLc (iStrD (eV 0)) [1] (gN 1) (fun τ => some (true, τ)) (eOp inSD (eV 1) (eC (.str (Str.ofString "abcdefghijklmnopqrstuvwxyz"))))) aNil))))
noncomputable def r_p_is_name : List SD → Option (R × List SD) := runD 1 d_p_is_name
def sp_p_is_name (K : PySem.W.Frag) (Cc : BW.MR.Cl) : Sp := SpD K Cc 1 r_p_is_name
theorem ok_p_is_name (T : Bi K mg) (D : Df K mg Cc) : Cal P w K mg base CX0 1 "is_name" s_p_is_name ["thing"] (sp_p_is_name K Cc) := by
  refine Cal.mk' D.p_is_name (fun _ _ _ _ _ _ us hl => match us, hl with | [_], _ => rfl) fun f fd F => F.ok sc_p_is_name (fun vs H Q E h => h.1) (fun cdv A outer s H vs Q E hr h => ?_)
  refine ⟨_, (pss_cons (ps_if (PW.pt (pw_or (pt_not (pt_truth (pe_callB c_isinst (by rfl) T.b_isinstance (by decide +kernel) (pa_cons (pv 0) (pa_cons (pe_bltn (v := .ty "str") (by rfl) T.b_str (by decide +kernel) rfl) pa_nil))) (by intro _; rfl))) (pw_or1 (pt_not (pt_chain op_le op_le pe_int (pe_callB call_len (by rfl) T.b_len (by decide +kernel) (pa_cons (pv 0) pa_nil)) (pe_globI (by rfl) T.c_MOST_LETTERS)))))) (pss_one (ps_ret pe_bl)) pss_nil)
      (pss_one (ps_ret (pe_callB (cr_all rfl) (by rfl) T.b_all (by decide +kernel) (pa_cons (pe_lc (own := [("letter", 1)]) (by rfl) sc_p_is_name.nd (pi_str (pv 0)) (blkOk_by (own := [("letter", 1)]) (N := N_p_is_name) (sc := defScope s_p_is_name) (by decide +kernel)) (fun _ _ _ _ _ => (pg_name (i := 1) sc_p_is_name.nd rfl (by first | exact Or.inl rfl | exact Or.inr rfl))) (fun _ _ _ _ _ => pts_nil) (fun _ _ _ _ _ => (pe_cmpR op_in_str (pv 1) (pe_globS (by rfl) T.c_SMALL_LETTERS) (by rfl)))) pa_nil))))), ?_⟩
  exact fn_sp (m := d_p_is_name) (n := 1) (jsSeq (jsIf (jtOr (jtNot (jtTru (jIs (T := .str) (jV 0)))) (jtNot (jtVal (jChain oj_le oj_le jcInt (jFn fj_len (jaCons (jV 0) jaNil)) jcInt)))) (jsRet jcBool) jsNext)
      (jsRet (jFn fj_all (jaCons (jLc (vs := [1]) (jiStr (jV 0)) (jwN (by decide)) jtYes (jOp oj_inS (jV 1) jcStr) (wipe_wipe _)) jaNil)))) rfl h
noncomputable def d_p_is_maker : M Fl := (sSeq (sIf (tstOr (tstNot (tTru (eIs .tuple (eV 0)))) (tVal (eOp neD (eFn lenD (aCons (eV 0) aNil)) (eC (.int 2))))) (sRet (eC (.bool false))) sNext)
      (sSeq (sAsg (gT 2 (gsC (gN 1) (gsC (gN 2) gsN))) (eV 0))
      (sRet (eAnd (mb (aCons (eF (eV 1)) aNil) (callD r_p_is_name [])) (mb (aCons (eF (eV 2)) (aCons (eF (eC (.int 0))) (aCons (eF (eC (.int 4))) aNil))) (callD r_p_is_whole []))))))
noncomputable def r_p_is_maker : List SD → Option (R × List SD) := runD 2 d_p_is_maker
def sp_p_is_maker (K : PySem.W.Frag) (Cc : BW.MR.Cl) : Sp := SpD K Cc 1 r_p_is_maker
theorem ok_p_is_maker (T : Bi K mg) (D : Df K mg Cc) : Cal P w K mg base CX0 2 "_is_maker" s_p_is_maker ["thing"] (sp_p_is_maker K Cc) := by
  refine Cal.mk' D.p_is_maker (fun _ _ _ _ _ _ us hl => match us, hl with | [_], _ => rfl) fun f fd F => F.ok sc_p_is_maker (fun vs H Q E h => h.1) (fun cdv A outer s H vs Q E hr h => ?_)
  refine ⟨_, (pss_cons (ps_if (PW.pt (pw_or (pt_not (pt_truth (pe_callB c_isinst (by rfl) T.b_isinstance (by decide +kernel) (pa_cons (pv 0) (pa_cons (pe_bltn (v := .ty "tuple") (by rfl) T.b_tuple (by decide +kernel) rfl) pa_nil))) (by intro _; rfl))) (pw_or1 (pt_cmpR (o_ne hr.units) (pe_callB call_len (by rfl) T.b_len (by decide +kernel) (pa_cons (pv 0) pa_nil)) pe_int (nomark _))))) (pss_one (ps_ret pe_bl)) pss_nil)
      (pss_cons (ps_asg (pv 0) (pg_any rfl (pgs_cons (pg_name (i := 1) sc_p_is_maker.nd rfl (by first | exact Or.inl rfl | exact Or.inr rfl)) (pgs_cons (pg_name (i := 2) sc_p_is_maker.nd rfl (by first | exact Or.inl rfl | exact Or.inr rfl)) pgs_nil))))
      (pss_one (ps_ret (pe_andT (pe_own (ok_p_is_name (Cc := Cc) T D) (hr.mono (by decide)) (by rfl) pass0 (pa_cons (pv 1) pa_nil)) (pe_one (pe_own (ok_p_is_whole (Cc := Cc) T D) (hr.mono (by decide)) (by rfl) pass0 (pa_cons (pv 2) (pa_cons pe_int (pa_cons (pe_globI (by rfl) T.c_MOST_WITHIN) pa_nil)))))))))), ?_⟩
  exact fn_sp (m := d_p_is_maker) (n := 2) (jsSeq (jsIf (jtOr (jtNot (jtTru (jIs (T := .tuple) (jV 0)))) (jtVal (jOp oj_ne (jFn fj_len (jaCons (jV 0) jaNil)) jcInt))) (jsRet jcBool) jsNext)
      (jsSeq (jsAsg (jV 0) (jgT (jgsC jgN (jgsC jgN jgsN))))
      (jsRet (jAnd (jCall (fun _ => .nil) (jaCons (jF (jV 1)) jaNil) (alD (alCons alNil) rfl)) (jCall (fun _ => .nil) (jaCons (jF (jV 2)) (jaCons (jF jcInt) (jaCons (jF jcInt) jaNil))) (alD (alCons (alCons (alCons alNil))) rfl)))))) rfl h
noncomputable def d_p_are_makers : M Fl := (sSeq (sIf (tstOr (tstNot (tTru (eIs .list (eV 0)))) (tstNot (tVal (eChain leD leD (eC (.int 2)) (eFn lenD (aCons (eV 0) aNil)) (eC (.int 5)))))) (sRet (eC (.bool false))) sNext)
      (sSeq (sIf (tstNot (tTru (eFn allD (aCons (eLc (iSeqD (eV 0)) [3] (gN 3) (fun τ => some (true, τ)) (mb (aCons (eF (eV 3)) aNil) (callD r_p_is_maker []))) aNil)))) (sRet (eC (.bool false))) sNext)
      (sSeq (sSet 1 (eLc (iSeqD (eV 0)) [4, 5] (gT 2 (gsC (gN 4) (gsC (gN 5) gsN))) (fun τ => some (true, τ)) (eV 4)))
      (sSeq (sSet 2 (eLc (iSeqD (eV 0)) [4, 5] (gT 2 (gsC (gN 4) (gsC (gN 5) gsN))) (fun τ => some (true, τ)) (eV 5)))
      (sRet (eAnd (eOp eqD (eLenSet (eV 1)) (eFn lenD (aCons (eV 1) aNil))) (eAnd (eOp (inD false) (eC (.int 0)) (eV 2)) (eOp geD (eFn maxD (aCons (eV 2) aNil)) (eC (.int 2))))))))))
noncomputable def r_p_are_makers : List SD → Option (R × List SD) := runD 5 d_p_are_makers
def sp_p_are_makers (K : PySem.W.Frag) (Cc : BW.MR.Cl) : Sp := SpD K Cc 1 r_p_are_makers
theorem ok_p_are_makers (T : Bi K mg) (D : Df K mg Cc) : Cal P w K mg base CX0 3 "_are_makers" s_p_are_makers ["things"] (sp_p_are_makers K Cc) := by
  refine Cal.mk' D.p_are_makers (fun _ _ _ _ _ _ us hl => match us, hl with | [_], _ => rfl) fun f fd F => F.ok sc_p_are_makers (fun vs H Q E h => h.1) (fun cdv A outer s H vs Q E hr h => ?_)
  refine ⟨_, (pss_cons (ps_if (PW.pt (pw_or (pt_not (pt_truth (pe_callB c_isinst (by rfl) T.b_isinstance (by decide +kernel) (pa_cons (pv 0) (pa_cons (pe_bltn (v := .ty "list") (by rfl) T.b_list (by decide +kernel) rfl) pa_nil))) (by intro _; rfl))) (pw_or1 (pt_not (pt_chain op_le op_le (pe_globI (by rfl) T.c_FEWEST_MAKERS) (pe_callB call_len (by rfl) T.b_len (by decide +kernel) (pa_cons (pv 0) pa_nil)) (pe_globI (by rfl) T.c_MOST_MAKERS)))))) (pss_one (ps_ret pe_bl)) pss_nil)
      (pss_cons (ps_if (pt_not (pt_truth (pe_callB (cr_all rfl) (by rfl) T.b_all (by decide +kernel) (pa_cons (pe_lc (own := [("thing", 3)]) (by rfl) sc_p_are_makers.nd (pi_seq (pv 0)) (blkOk_by (own := [("thing", 3)]) (N := N_p_are_makers) (sc := defScope s_p_are_makers) (by decide +kernel)) (fun _ _ _ _ _ => (pg_name (i := 3) sc_p_are_makers.nd rfl (by first | exact Or.inl rfl | exact Or.inr rfl))) (fun _ _ _ _ _ => pts_nil) (fun _ _ _ _ _ => (pe_own (ok_p_is_maker (Cc := Cc) T D) (hr.mono (by decide)) (by rfl) pass0 (pa_cons (pv 3) pa_nil)))) pa_nil)) (by intro _; rfl))) (pss_one (ps_ret pe_bl)) pss_nil)
      (pss_cons (ps_setLc (i := 1) (own := [("name", 4), ("many", 5)]) (by rfl) sc_p_are_makers.nd rfl rfl (sw_true rfl rfl rfl (by decide +kernel)) (pi_seq (pv 0)) (blkOk_by (own := [("name", 4), ("many", 5)]) (N := N_p_are_makers) (sc := defScope s_p_are_makers) (by decide +kernel)) (fun _ _ _ _ _ => (show PG _ _ (gSeq K 2 _) from (pg_any rfl (pgs_cons (pg_name (i := 4) sc_p_are_makers.nd rfl (by first | exact Or.inl rfl | exact Or.inr rfl)) (pgs_cons (pg_name (i := 5) sc_p_are_makers.nd rfl (by first | exact Or.inl rfl | exact Or.inr rfl)) pgs_nil))))) (fun _ _ _ _ _ => pts_nil) (fun _ _ _ _ _ => (pv 4)))
      (pss_cons (ps_setLc (i := 2) (own := [("name", 4), ("many", 5)]) (by rfl) sc_p_are_makers.nd rfl rfl (sw_true rfl rfl rfl (by decide +kernel)) (pi_seq (pv 0)) (blkOk_by (own := [("name", 4), ("many", 5)]) (N := N_p_are_makers) (sc := defScope s_p_are_makers) (by decide +kernel)) (fun _ _ _ _ _ => (show PG _ _ (gSeq K 2 _) from (pg_any rfl (pgs_cons (pg_name (i := 4) sc_p_are_makers.nd rfl (by first | exact Or.inl rfl | exact Or.inr rfl)) (pgs_cons (pg_name (i := 5) sc_p_are_makers.nd rfl (by first | exact Or.inl rfl | exact Or.inr rfl)) pgs_nil))))) (fun _ _ _ _ _ => pts_nil) (fun _ _ _ _ _ => (pv 5)))
      (pss_one (ps_ret (pe_andT (pe_cmpR (o_eq hr.units) (SST.pe_lenT (by rfl) T.b_len (by rfl) T.b_set (pv 1)) (pe_callB call_len (by rfl) T.b_len (by decide +kernel) (pa_cons (pv 1) pa_nil)) (nomark _)) (pe_andT (pe_cmpR op_in_seq pe_int (pv 2) (by rfl)) (pe_one (pe_cmpR op_ge (pe_callB (cr_max rfl) (by rfl) T.b_max (by decide +kernel) (pa_cons (pv 2) pa_nil)) pe_int (nomark _))))))))))), ?_⟩
  exact fn_sp (m := d_p_are_makers) (n := 5) (jsSeq (jsIf (jtOr (jtNot (jtTru (jIs (T := .list) (jV 0)))) (jtNot (jtVal (jChain oj_le oj_le jcInt (jFn fj_len (jaCons (jV 0) jaNil)) jcInt)))) (jsRet jcBool) jsNext)
      (jsSeq (jsIf (jtNot (jtTru (jFn fj_all (jaCons (jLc (vs := [3]) (jiSeq (jV 0)) (jwN (by decide)) jtYes (jCall (fun _ => .nil) (jaCons (jF (jV 3)) jaNil) (alD (alCons alNil) rfl)) (wipe_wipe _)) jaNil)))) (jsRet jcBool) jsNext)
      (jsSeq (jsSet (jLc (vs := [4, 5]) (jiSeq (jV 0)) (jwT (jwsC (jwN (by decide)) (jwsC (jwN (by decide)) jwsN))) jtYes (jV 4) (wipe_wipe _)))
      (jsSeq (jsSet (jLc (vs := [4, 5]) (jiSeq (jV 0)) (jwT (jwsC (jwN (by decide)) (jwsC (jwN (by decide)) jwsN))) jtYes (jV 5) (wipe_wipe _)))
      (jsRet (jAnd (jOp oj_eq (jLenSet (jV 1)) (jFn fj_len (jaCons (jV 1) jaNil))) (jAnd (jOp oj_in jcInt (jV 2)) (jOp oj_ge (jFn fj_max (jaCons (jV 2) jaNil)) jcInt)))))))) rfl h
noncomputable def d_m_Kind_init : M Fl := (sSeq (sIf (tstNot (tTru (mb (aCons (eF (eV 1)) aNil) (callD r_p_are_makers [])))) sNever sNext)
      (sFldD 0 0 "_makers" (eFn lstD (aCons (eV 1) aNil))))
noncomputable def r_m_Kind_init : List SD → Option (R × List SD) := runD 0 d_m_Kind_init
def sp_m_Kind_init (K : PySem.W.Frag) (Cc : BW.MR.Cl) : Sp := SpD K Cc 2 r_m_Kind_init
theorem ok_m_Kind_init (T : Bi K mg) (D : Df K mg Cc) : CalM P w K mg base CX0 4 (Cc 0) "__init__" "Kind.__init__" s_m_Kind_init ["self", "makers"] (sp_m_Kind_init K Cc) := by
  refine CalM.mk' D.m_Kind_init (fun _ _ _ _ _ _ us hl => match us, hl with | [_, _], _ => rfl) fun f fd F => F.ok sc_m_Kind_init (fun vs H Q E h => h.1) (fun cdv A outer s H vs Q E hr h => ?_)
  refine ⟨_, (pss_cons (ps_if (pt_not (pt_truth (pe_own (ok_p_are_makers (Cc := Cc) T D) (hr.mono (by decide)) (by rfl) pass0 (pa_cons (pv 1) pa_nil)) (by intro _; rfl))) (pss_one ps_never) pss_nil)
      (pss_one (ps_fld (pv 0) (pe_callTy c_list (by rfl) T.b_list (by decide +kernel) (pa_cons (pv 1) pa_nil)) rfl))), ?_⟩
  exact fn_sp (m := d_m_Kind_init) (n := 0) (jsSeq (jsIf (jtNot (jtTru (jCall (fun _ => .nil) (jaCons (jF (jV 1)) jaNil) (alD (alCons alNil) rfl)))) jsNever jsNext)
      (jsFld D.k_Kind.cl D.n_Kind__makers (jFn fj_lst (jaCons (jV 1) jaNil)))) rfl h
noncomputable def d_m_Kind_len : M Fl := (sRet (eFn lenD (aCons (eFld 0 "_makers" (eV 0)) aNil)))
noncomputable def r_m_Kind_len : List SD → Option (R × List SD) := runD 0 d_m_Kind_len
def sp_m_Kind_len (K : PySem.W.Frag) (Cc : BW.MR.Cl) : Sp := SpD K Cc 1 r_m_Kind_len
theorem ok_m_Kind_len (T : Bi K mg) (D : Df K mg Cc) : CalM P w K mg base CX0 1 (Cc 0) "__len__" "Kind.__len__" s_m_Kind_len ["self"] (sp_m_Kind_len K Cc) := by
  refine CalM.mk' D.m_Kind_len (fun _ _ _ _ _ _ us hl => match us, hl with | [_], _ => rfl) fun f fd F => F.ok sc_m_Kind_len (fun vs H Q E h => h.1) (fun cdv A outer s H vs Q E hr h => ?_)
  refine ⟨_, (pss_one (ps_ret (pe_callB call_len (by rfl) T.b_len (by decide +kernel) (pa_cons (pe_fld (pv 0) rfl) pa_nil)))), ?_⟩
  exact fn_sp (m := d_m_Kind_len) (n := 0) (jsRet (jFn fj_len (jaCons (jFld D.k_Kind.cl D.n_Kind__makers (jV 0)) jaNil))) rfl h
noncomputable def d_m_Kind_maker : M Fl := (sSeq (sIf (tstNot (tTru (mb (aCons (eF (eV 1)) (aCons (eF (eC (.int 0))) (aCons (eF (eOp subD (eFn lenD (aCons (eFld 0 "_makers" (eV 0)) aNil)) (eC (.int 1)))) aNil))) (callD r_p_is_whole [])))) sNever sNext)
      (sRet (eOp ixD (eFld 0 "_makers" (eV 0)) (eV 1))))
noncomputable def r_m_Kind_maker : List SD → Option (R × List SD) := runD 0 d_m_Kind_maker
def sp_m_Kind_maker (K : PySem.W.Frag) (Cc : BW.MR.Cl) : Sp := SpD K Cc 2 r_m_Kind_maker
theorem ok_m_Kind_maker (T : Bi K mg) (D : Df K mg Cc) : CalM P w K mg base CX0 2 (Cc 0) "_maker" "Kind._maker" s_m_Kind_maker ["self", "maker"] (sp_m_Kind_maker K Cc) := by
  refine CalM.mk' D.m_Kind_maker (fun _ _ _ _ _ _ us hl => match us, hl with | [_, _], _ => rfl) fun f fd F => F.ok sc_m_Kind_maker (fun vs H Q E h => h.1) (fun cdv A outer s H vs Q E hr h => ?_)
  refine ⟨_, (pss_cons (ps_if (pt_not (pt_truth (pe_own (ok_p_is_whole (Cc := Cc) T D) (hr.mono (by decide)) (by rfl) pass0 (pa_cons (pv 1) (pa_cons pe_int (pa_cons (pe_op o_sub (pe_callB call_len (by rfl) T.b_len (by decide +kernel) (pa_cons (pe_fld (pv 0) rfl) pa_nil)) pe_int) pa_nil)))) (by intro _; rfl))) (pss_one ps_never) pss_nil)
      (pss_one (ps_ret (pe_ix ix_seq (pe_fld (pv 0) rfl) (pv 1) (fun _ _ => rfl))))), ?_⟩
  exact fn_sp (m := d_m_Kind_maker) (n := 0) (jsSeq (jsIf (jtNot (jtTru (jCall (fun _ => .nil) (jaCons (jF (jV 1)) (jaCons (jF jcInt) (jaCons (jF (jOp oj_sub (jFn fj_len (jaCons (jFld D.k_Kind.cl D.n_Kind__makers (jV 0)) jaNil)) jcInt)) jaNil))) (alD (alCons (alCons (alCons alNil))) rfl)))) jsNever jsNext)
      (jsRet (jOp oj_ix (jFld D.k_Kind.cl D.n_Kind__makers (jV 0)) (jV 1)))) rfl h
noncomputable def d_m_Kind_within : M Fl := (sRet (eOp ixD (eMeth 0 "_maker" r_m_Kind_maker [] (eV 0) (aCons (eF (eV 1)) aNil)) (eC (.int 1))))
noncomputable def r_m_Kind_within : List SD → Option (R × List SD) := runD 0 d_m_Kind_within
def sp_m_Kind_within (K : PySem.W.Frag) (Cc : BW.MR.Cl) : Sp := SpD K Cc 2 r_m_Kind_within
theorem ok_m_Kind_within (T : Bi K mg) (D : Df K mg Cc) : CalM P w K mg base CX0 3 (Cc 0) "within" "Kind.within" s_m_Kind_within ["self", "maker"] (sp_m_Kind_within K Cc) := by
  refine CalM.mk' D.m_Kind_within (fun _ _ _ _ _ _ us hl => match us, hl with | [_, _], _ => rfl) fun f fd F => F.ok sc_m_Kind_within (fun vs H Q E h => h.1) (fun cdv A outer s H vs Q E hr h => ?_)
  refine ⟨_, (pss_one (ps_ret (pe_ix ix_seq (pe_methM (ok_m_Kind_maker (Cc := Cc) T D) D.k_Kind (hr.mono (by decide)) pass0 (pv 0) (pa_cons (pv 1) pa_nil)) pe_int (fun _ _ => rfl)))), ?_⟩
  exact fn_sp (m := d_m_Kind_within) (n := 0) (jsRet (jOp oj_ix (jMeth (fun _ => .nil) (jV 0) (jaCons (jF (jV 1)) jaNil) (alM (alCons alNil) rfl)) jcInt)) rfl h
noncomputable def d_m_Kind_withins : M Fl := (sRet (eLc (iSeqD (eFld 0 "_makers" (eV 0))) [1, 2] (gT 2 (gsC (gN 1) (gsC (gN 2) gsN))) (fun τ => some (true, τ)) (eV 2)))
noncomputable def r_m_Kind_withins : List SD → Option (R × List SD) := runD 2 d_m_Kind_withins
def sp_m_Kind_withins (K : PySem.W.Frag) (Cc : BW.MR.Cl) : Sp := SpD K Cc 1 r_m_Kind_withins
theorem ok_m_Kind_withins (T : Bi K mg) (D : Df K mg Cc) : CalM P w K mg base CX0 1 (Cc 0) "withins" "Kind.withins" s_m_Kind_withins ["self"] (sp_m_Kind_withins K Cc) := by
  refine CalM.mk' D.m_Kind_withins (fun _ _ _ _ _ _ us hl => match us, hl with | [_], _ => rfl) fun f fd F => F.ok sc_m_Kind_withins (fun vs H Q E h => h.1) (fun cdv A outer s H vs Q E hr h => ?_)
  refine ⟨_, (pss_one (ps_ret (pe_lc (own := [("name", 1), ("many", 2)]) (by rfl) sc_m_Kind_withins.nd (pi_seq (pe_fld (pv 0) rfl)) (blkOk_by (own := [("name", 1), ("many", 2)]) (N := N_m_Kind_withins) (sc := defScope s_m_Kind_withins) (by decide +kernel)) (fun _ _ _ _ _ => (show PG _ _ (gSeq K 2 _) from (pg_any rfl (pgs_cons (pg_name (i := 1) sc_m_Kind_withins.nd rfl (by first | exact Or.inl rfl | exact Or.inr rfl)) (pgs_cons (pg_name (i := 2) sc_m_Kind_withins.nd rfl (by first | exact Or.inl rfl | exact Or.inr rfl)) pgs_nil))))) (fun _ _ _ _ _ => pts_nil) (fun _ _ _ _ _ => (pv 2))))), ?_⟩
  exact fn_sp (m := d_m_Kind_withins) (n := 2) (jsRet (jLc (vs := [1, 2]) (jiSeq (jFld D.k_Kind.cl D.n_Kind__makers (jV 0))) (jwT (jwsC (jwN (by decide)) (jwsC (jwN (by decide)) jwsN))) jtYes (jV 2) (wipe_wipe _))) rfl h
open BW BW.MR
noncomputable def d_p_is_rack : M Fl := (sSeq (sIf (tstOr (tstNot (tTru (eIs .tuple (eV 0)))) (tVal (eOp gtD (eFn lenD (aCons (eV 0) aNil)) (eC (.int 4000))))) (sRet (eC (.bool false))) sNext)
      (sRet (eFn allD (aCons (eLc (iSeqD (eV 0)) [1] (gN 1) (fun τ => some (true, τ)) (mb (aCons (eF (eV 1)) (aCons (eF (eC (.int 0))) (aCons (eF (eC (.int 200))) aNil))) (callD r_p_is_whole []))) aNil))))
noncomputable def r_p_is_rack : List SD → Option (R × List SD) := runD 1 d_p_is_rack
def sp_p_is_rack (K : PySem.W.Frag) (Cc : BW.MR.Cl) : Sp := SpD K Cc 1 r_p_is_rack
theorem ok_p_is_rack (T : Bi K mg) (D : Df K mg Cc) : Cal P w K mg base CX0 2 "is_rack" s_p_is_rack ["thing"] (sp_p_is_rack K Cc) := by
  refine Cal.mk' D.p_is_rack (fun _ _ _ _ _ _ us hl => match us, hl with | [_], _ => rfl) fun f fd F => F.ok sc_p_is_rack (fun vs H Q E h => h.1) (fun cdv A outer s H vs Q E hr h => ?_)
  refine ⟨_, (pss_cons (ps_if (PW.pt (pw_or (pt_not (pt_truth (pe_callB c_isinst (by rfl) T.b_isinstance (by decide +kernel) (pa_cons (pv 0) (pa_cons (pe_bltn (v := .ty "tuple") (by rfl) T.b_tuple (by decide +kernel) rfl) pa_nil))) (by intro _; rfl))) (pw_or1 (pt_cmpR op_gt (pe_callB call_len (by rfl) T.b_len (by decide +kernel) (pa_cons (pv 0) pa_nil)) (pe_globI (by rfl) T.c_MOST_FORMS) (nomark _))))) (pss_one (ps_ret pe_bl)) pss_nil)
      (pss_one (ps_ret (pe_callB (cr_all rfl) (by rfl) T.b_all (by decide +kernel) (pa_cons (pe_lc (own := [("form", 1)]) (by rfl) sc_p_is_rack.nd (pi_seq (pv 0)) (blkOk_by (own := [("form", 1)]) (N := N_p_is_rack) (sc := defScope s_p_is_rack) (by decide +kernel)) (fun _ _ _ _ _ => (pg_name (i := 1) sc_p_is_rack.nd rfl (by first | exact Or.inl rfl | exact Or.inr rfl))) (fun _ _ _ _ _ => pts_nil) (fun _ _ _ _ _ => (pe_own (ok_p_is_whole (Cc := Cc) T D) (hr.mono (by decide)) (by rfl) pass0 (pa_cons (pv 1) (pa_cons pe_int (pa_cons (pe_globI (by rfl) T.c_MOST_TREES) pa_nil)))))) pa_nil))))), ?_⟩
  exact fn_sp (m := d_p_is_rack) (n := 1) (jsSeq (jsIf (jtOr (jtNot (jtTru (jIs (T := .tuple) (jV 0)))) (jtVal (jOp oj_gt (jFn fj_len (jaCons (jV 0) jaNil)) jcInt))) (jsRet jcBool) jsNext)
      (jsRet (jFn fj_all (jaCons (jLc (vs := [1]) (jiSeq (jV 0)) (jwN (by decide)) jtYes (jCall (fun _ => .nil) (jaCons (jF (jV 1)) (jaCons (jF jcInt) (jaCons (jF jcInt) jaNil))) (alD (alCons (alCons (alCons alNil))) rfl)) (wipe_wipe _)) jaNil)))) rfl h
noncomputable def d_p_need_rack : M Fl := (sIf (tstNot (tTru (mb (aCons (eF (eV 0)) aNil) (callD r_p_is_rack [])))) sNever sNext)
noncomputable def r_p_need_rack : List SD → Option (R × List SD) := runD 0 d_p_need_rack
def sp_p_need_rack (K : PySem.W.Frag) (Cc : BW.MR.Cl) : Sp := SpD K Cc 1 r_p_need_rack
theorem ok_p_need_rack (T : Bi K mg) (D : Df K mg Cc) : Cal P w K mg base CX0 3 "need_rack" s_p_need_rack ["thing"] (sp_p_need_rack K Cc) := by
  refine Cal.mk' D.p_need_rack (fun _ _ _ _ _ _ us hl => match us, hl with | [_], _ => rfl) fun f fd F => F.ok sc_p_need_rack (fun vs H Q E h => h.1) (fun cdv A outer s H vs Q E hr h => ?_)
  refine ⟨_, (pss_one (ps_if (pt_not (pt_truth (pe_own (ok_p_is_rack (Cc := Cc) T D) (hr.mono (by decide)) (by rfl) pass0 (pa_cons (pv 0) pa_nil)) (by intro _; rfl))) (pss_one ps_never) pss_nil)), ?_⟩
  exact fn_sp (m := d_p_need_rack) (n := 0) (jsIf (jtNot (jtTru (jCall (fun _ => .nil) (jaCons (jF (jV 0)) jaNil) (alD (alCons alNil) rfl)))) jsNever jsNext) rfl h
noncomputable def d_p_forms_fit : M Fl := (sRet (eAnd (eOp leD (eFn lenD (aCons (eV 0) aNil)) (eC (.int 4000))) (eOp leD (eMaxDf (eV 0) (eC (.int 0))) (eC (.int 200)))))
noncomputable def r_p_forms_fit : List SD → Option (R × List SD) := runD 0 d_p_forms_fit
def sp_p_forms_fit (K : PySem.W.Frag) (Cc : BW.MR.Cl) : Sp := SpD K Cc 1 r_p_forms_fit
theorem ok_p_forms_fit (T : Bi K mg) (D : Df K mg Cc) : Cal P w K mg base CX0 1 "forms_fit" s_p_forms_fit ["forms"] (sp_p_forms_fit K Cc) := by
  refine Cal.mk' D.p_forms_fit (fun _ _ _ _ _ _ us hl => match us, hl with | [_], _ => rfl) fun f fd F => F.ok sc_p_forms_fit (fun vs H Q E h => h.1) (fun cdv A outer s H vs Q E hr h => ?_)
  refine ⟨_, (pss_one (ps_ret (pe_andT (pe_cmpR op_le (pe_callB call_len (by rfl) T.b_len (by decide +kernel) (pa_cons (pv 0) pa_nil)) (pe_globI (by rfl) T.c_MOST_FORMS) (nomark _)) (pe_one (pe_cmpR op_le (pe_callBK (MXD.cr_maxDf rfl hr.units) (by rfl) T.b_max (by decide +kernel) (pa_cons (pv 0) pa_nil) (pk_cons pe_int pk_nil)) (pe_globI (by rfl) T.c_MOST_TREES) (nomark _)))))), ?_⟩
  exact fn_sp (m := d_p_forms_fit) (n := 0) (jsRet (jAnd (jOp oj_le (jFn fj_len (jaCons (jV 0) jaNil)) jcInt) (jOp oj_le (jMaxDf (jV 0) jcInt) jcInt))) rfl h
open BW BW.MR
noncomputable def d_p_forms_opened : M Fl := (sRet (eFn tupD (aCons (eLc (iSeqD (eMeth 0 "withins" r_m_Kind_withins [] (eV 0) aNil)) [2] (gN 2) (fun τ => some (true, τ)) (eOp addD (eOp subD (eV 1) (eC (.int 1))) (eV 2))) aNil)))
noncomputable def r_p_forms_opened : List SD → Option (R × List SD) := runD 1 d_p_forms_opened
def sp_p_forms_opened (K : PySem.W.Frag) (Cc : BW.MR.Cl) : Sp := SpD K Cc 2 r_p_forms_opened
theorem ok_p_forms_opened (T : Bi K mg) (D : Df K mg Cc) : Cal P w K mg base CX0 2 "_forms_opened" s_p_forms_opened ["kind", "form"] (sp_p_forms_opened K Cc) := by
  refine Cal.mk' D.p_forms_opened (fun _ _ _ _ _ _ us hl => match us, hl with | [_, _], _ => rfl) fun f fd F => F.ok sc_p_forms_opened (fun vs H Q E h => h.1) (fun cdv A outer s H vs Q E hr h => ?_)
  refine ⟨_, (pss_one (ps_ret (pe_callTy c_tuple (by rfl) T.b_tuple (by decide +kernel) (pa_cons (pe_lc (own := [("many", 2)]) (by rfl) sc_p_forms_opened.nd (pi_seq (pe_methM0 (ok_m_Kind_withins (Cc := Cc) T D) D.k_Kind (hr.mono (by decide)) pass0 (pv 0))) (blkOk_by (own := [("many", 2)]) (N := N_p_forms_opened) (sc := defScope s_p_forms_opened) (by decide +kernel)) (fun _ _ _ _ _ => (pg_name (i := 2) sc_p_forms_opened.nd rfl (by first | exact Or.inl rfl | exact Or.inr rfl))) (fun _ _ _ _ _ => pts_nil) (fun _ _ _ _ _ => (pe_op (show OpR _ _ (rPlus K) from o_add) (pe_op o_sub (pv 1) pe_int) (pv 2)))) pa_nil)))), ?_⟩
  exact fn_sp (m := d_p_forms_opened) (n := 1) (jsRet (jFn fj_tup (jaCons (jLc (vs := [2]) (jiSeq (jMeth (fun _ => .nil) (jV 0) jaNil (alM alNil rfl))) (jwN (by decide)) jtYes (jOp oj_add (jOp oj_sub (jV 1) jcInt) (jV 2)) (wipe_wipe _)) jaNil))) rfl h
noncomputable def d_p_form_closed : M Fl := (sSeq (sSet 3 (eOp addD (eOp subD (eOp ixD (eV 1) (eV 2)) (eMeth 0 "within" r_m_Kind_within [] (eV 0) (aCons (eF (eC (.int 0))) aNil))) (eC (.int 1))))
      (sSeq (sIf (tstOr (tVal (eOp ltD (eV 3) (eC (.int 1)))) (tVal (eOp neD (eSl (eV 1) (oSome (eV 2)) (oSome (eOp addD (eV 2) (eLenO 0 r_m_Kind_len (eV 0))))) (mb (aCons (eF (eV 0)) (aCons (eF (eV 3)) aNil)) (callD r_p_forms_opened []))))) (sRet (eC (.int 0))) sNext)
      (sRet (eV 3))))
noncomputable def r_p_form_closed : List SD → Option (R × List SD) := runD 1 d_p_form_closed
def sp_p_form_closed (K : PySem.W.Frag) (Cc : BW.MR.Cl) : Sp := SpD K Cc 3 r_p_form_closed
theorem ok_p_form_closed (T : Bi K mg) (D : Df K mg Cc) : Cal P w K mg base CX0 4 "_form_closed" s_p_form_closed ["kind", "rack", "place"] (sp_p_form_closed K Cc) := by
  refine Cal.mk' D.p_form_closed (fun _ _ _ _ _ _ us hl => match us, hl with | [_, _, _], _ => rfl) fun f fd F => F.ok sc_p_form_closed (fun vs H Q E h => h.1) (fun cdv A outer s H vs Q E hr h => ?_)
  refine ⟨_, (pss_cons (ps_set (i := 3) sc_p_form_closed.nd rfl (by first | exact Or.inl rfl | exact Or.inr rfl) (pe_op o_add (pe_op o_sub (pe_ix ix_seq (pv 1) (pv 2) (fun _ _ => rfl)) (pe_methM (ok_m_Kind_within (Cc := Cc) T D) D.k_Kind (hr.mono (by decide)) pass0 (pv 0) (pa_cons pe_int pa_nil))) pe_int))
      (pss_cons (ps_if (PW.pt (pw_or (pt_cmpR op_lt (pv 3) pe_int (nomark _)) (pw_or1 (pt_cmpR (o_ne hr.units) (pe_slice s_any (pv 1) (po_some (pv 2)) (po_some (pe_op o_add (pv 2) (pe_lenM (ok_m_Kind_len (Cc := Cc) T D) (hr.mono (by decide)) pass0 (by rfl) T.b_len (pv 0))))) (pe_own (ok_p_forms_opened (Cc := Cc) T D) (hr.mono (by decide)) (by rfl) pass0 (pa_cons (pv 0) (pa_cons (pv 3) pa_nil))) (nomark _))))) (pss_one (ps_ret pe_int)) pss_nil)
      (pss_one (ps_ret (pv 3))))), ?_⟩
  exact fn_sp (m := d_p_form_closed) (n := 1) (jsSeq (jsSet (jOp oj_add (jOp oj_sub (jOp oj_ix (jV 1) (jV 2)) (jMeth (fun _ => .nil) (jV 0) (jaCons (jF jcInt) jaNil) (alM (alCons alNil) rfl))) jcInt))
      (jsSeq (jsIf (jtOr (jtVal (jOp oj_lt (jV 3) jcInt)) (jtVal (jOp oj_ne (jSl (jV 1) (joSome (jV 2)) (joSome (jOp oj_add (jV 2) (jLenO (jV 0))))) (jCall (fun _ => .nil) (jaCons (jF (jV 0)) (jaCons (jF (jV 3)) jaNil)) (alD (alCons (alCons alNil)) rfl))))) (jsRet jcInt) jsNext)
      (jsRet (jV 3)))) rfl h
noncomputable def d_p_forms_after : M Fl := (sSeq (sIf (tVal (eOp eqD (eOp ixD (eUno (eV 2)) (eC (.int 0))) (eC (.str (Str.ofString "order"))))) (sRet (eFn tupD (aCons (eLc (iSeqD (eOp ixD (eUno (eV 2)) (eC (.int 1)))) [4] (gN 4) (fun τ => some (true, τ)) (eOp ixD (eV 1) (eV 4))) aNil))) sNext)
      (sSeq (sAsg (gT 3 (gsC (gN 3) (gsC (gN 4) (gsC (gN 5) gsN)))) (eV 2))
      (sSeq (sIf (tVal (eOp eqD (eV 3) (eC (.str (Str.ofString "close"))))) (sSeq (sSet 6 (mb (aCons (eF (eV 0)) (aCons (eF (eV 1)) (aCons (eF (eV 4)) aNil))) (callD r_p_form_closed [])))
      (sRet (eOp addD (eOp addD (eSl (eV 1) oNone (oSome (eV 4))) (eTup (aCons (eF (eV 6)) aNil))) (eSl (eV 1) (oSome (eOp addD (eV 4) (eLenO 0 r_m_Kind_len (eV 0)))) oNone)))) sNext)
      (sRet (eOp addD (eOp addD (eSl (eV 1) oNone (oSome (eV 4))) (mb (aCons (eF (eV 0)) (aCons (eF (eOp ixD (eV 1) (eV 4))) aNil)) (callD r_p_forms_opened []))) (eSl (eV 1) (oSome (eOp addD (eV 4) (eC (.int 1)))) oNone))))))
noncomputable def r_p_forms_after : List SD → Option (R × List SD) := runD 4 d_p_forms_after
def sp_p_forms_after (K : PySem.W.Frag) (Cc : BW.MR.Cl) : Sp := SpD K Cc 3 r_p_forms_after
theorem ok_p_forms_after (T : Bi K mg) (D : Df K mg Cc) : Cal P w K mg base CX0 5 "forms_after" s_p_forms_after ["kind", "rack", "step"] (sp_p_forms_after K Cc) := by
  refine Cal.mk' D.p_forms_after (fun _ _ _ _ _ _ us hl => match us, hl with | [_, _, _], _ => rfl) fun f fd F => F.ok sc_p_forms_after (fun vs H Q E h => h.1) (fun cdv A outer s H vs Q E hr h => ?_)
  refine ⟨_, (pss_cons (ps_if (pt_cmpR (o_eq hr.units) (pe_ix ix_seq (pv 2) pe_int (fun _ _ => rfl)) pe_str (nomark _)) (pss_one (ps_ret (pe_callTy c_tuple (by rfl) T.b_tuple (by decide +kernel) (pa_cons (pe_lc (own := [("place", 4)]) (by rfl) sc_p_forms_after.nd (pi_seq (pe_ix ix_seq (pv 2) pe_int (fun _ _ => rfl))) (blkOk_by (own := [("place", 4)]) (N := N_p_forms_after) (sc := defScope s_p_forms_after) (by decide +kernel)) (fun _ _ _ _ _ => (pg_name (i := 4) sc_p_forms_after.nd rfl (by first | exact Or.inl rfl | exact Or.inr rfl))) (fun _ _ _ _ _ => pts_nil) (fun _ _ _ _ _ => (pe_ix (show IxR _ (rIx K) from ix_seq) (pv 1) (pv 4) (fun _ _ => rfl)))) pa_nil)))) pss_nil)
      (pss_cons (ps_asg (pv 2) (pg_any rfl (pgs_cons (pg_name (i := 3) sc_p_forms_after.nd rfl (by first | exact Or.inl rfl | exact Or.inr rfl)) (pgs_cons (pg_name (i := 4) sc_p_forms_after.nd rfl (by first | exact Or.inl rfl | exact Or.inr rfl)) (pgs_cons (pg_name (i := 5) sc_p_forms_after.nd rfl (by first | exact Or.inl rfl | exact Or.inr rfl)) pgs_nil)))))
      (pss_cons (ps_if (pt_cmpR (o_eq hr.units) (pv 3) pe_str (nomark _)) (pss_cons (ps_set (i := 6) sc_p_forms_after.nd rfl (by first | exact Or.inl rfl | exact Or.inr rfl) (pe_own (ok_p_form_closed (Cc := Cc) T D) (hr.mono (by decide)) (by rfl) pass0 (pa_cons (pv 0) (pa_cons (pv 1) (pa_cons (pv 4) pa_nil)))))
      (pss_one (ps_ret (pe_op o_add (pe_op o_add (pe_slice s_any (pv 1) po_none (po_some (pv 4))) (n_tup (pa_cons (pv 6) pa_nil))) (pe_slice s_any (pv 1) (po_some (pe_op o_add (pv 4) (pe_lenM (ok_m_Kind_len (Cc := Cc) T D) (hr.mono (by decide)) pass0 (by rfl) T.b_len (pv 0)))) po_none))))) pss_nil)
      (pss_one (ps_ret (pe_op o_add (pe_op o_add (pe_slice s_any (pv 1) po_none (po_some (pv 4))) (pe_own (ok_p_forms_opened (Cc := Cc) T D) (hr.mono (by decide)) (by rfl) pass0 (pa_cons (pv 0) (pa_cons (pe_ix ix_seq (pv 1) (pv 4) (fun _ _ => rfl)) pa_nil)))) (pe_slice s_any (pv 1) (po_some (pe_op o_add (pv 4) pe_int)) po_none))))))), ?_⟩
  exact fn_sp (m := d_p_forms_after) (n := 4) (jsSeq (jsIf (jtVal (jOp oj_eq (jOp oj_ix (jUno (jV 2)) jcInt) jcStr)) (jsRet (jFn fj_tup (jaCons (jLc (vs := [4]) (jiSeq (jOp oj_ix (jUno (jV 2)) jcInt)) (jwN (by decide)) jtYes (jOp oj_ix (jV 1) (jV 4)) (wipe_wipe _)) jaNil))) jsNext)
      (jsSeq (jsAsg (jV 2) (jgT (jgsC jgN (jgsC jgN (jgsC jgN jgsN)))))
      (jsSeq (jsIf (jtVal (jOp oj_eq (jV 3) jcStr)) (jsSeq (jsSet (jCall (fun _ => .nil) (jaCons (jF (jV 0)) (jaCons (jF (jV 1)) (jaCons (jF (jV 4)) jaNil))) (alD (alCons (alCons (alCons alNil))) rfl)))
      (jsRet (jOp oj_add (jOp oj_add (jSl (jV 1) joNone (joSome (jV 4))) (jTup (jaCons (jF (jV 6)) jaNil))) (jSl (jV 1) (joSome (jOp oj_add (jV 4) (jLenO (jV 0)))) joNone)))) jsNext)
      (jsRet (jOp oj_add (jOp oj_add (jSl (jV 1) joNone (joSome (jV 4))) (jCall (fun _ => .nil) (jaCons (jF (jV 0)) (jaCons (jF (jOp oj_ix (jV 1) (jV 4))) jaNil)) (alD (alCons (alCons alNil)) rfl))) (jSl (jV 1) (joSome (jOp oj_add (jV 4) jcInt)) joNone)))))) rfl h
noncomputable def d_p_are_places : M Fl := (sSeq (sIf (tstOr (tstNot (tTru (eIs .tuple (eV 1)))) (tstNot (tTru (eFn allD (aCons (eLc (iSeqD (eV 1)) [2] (gN 2) (fun τ => some (true, τ)) (mb (aCons (eF (eV 2)) (aCons (eF (eC (.int 0))) (aCons (eF (eC .none)) aNil))) (callD r_p_is_whole []))) aNil))))) (sRet (eC (.bool false))) sNext)
      (sRet (eOp eqD (eFn sortD (aCons (eV 1) aNil)) (eLstRg (eFn lenD (aCons (eV 0) aNil))))))
noncomputable def r_p_are_places : List SD → Option (R × List SD) := runD 1 d_p_are_places
def sp_p_are_places (K : PySem.W.Frag) (Cc : BW.MR.Cl) : Sp := SpD K Cc 2 r_p_are_places
theorem ok_p_are_places (T : Bi K mg) (D : Df K mg Cc) : Cal P w K mg base CX0 2 "_are_places" s_p_are_places ["rack", "things"] (sp_p_are_places K Cc) := by
  refine Cal.mk' D.p_are_places (fun _ _ _ _ _ _ us hl => match us, hl with | [_, _], _ => rfl) fun f fd F => F.ok sc_p_are_places (fun vs H Q E h => h.1) (fun cdv A outer s H vs Q E hr h => ?_)
  refine ⟨_, (pss_cons (ps_if (PW.pt (pw_or (pt_not (pt_truth (pe_callB c_isinst (by rfl) T.b_isinstance (by decide +kernel) (pa_cons (pv 1) (pa_cons (pe_bltn (v := .ty "tuple") (by rfl) T.b_tuple (by decide +kernel) rfl) pa_nil))) (by intro _; rfl))) (pw_or1 (pt_not (pt_truth (pe_callB (cr_all rfl) (by rfl) T.b_all (by decide +kernel) (pa_cons (pe_lc (own := [("thing", 2)]) (by rfl) sc_p_are_places.nd (pi_seq (pv 1)) (blkOk_by (own := [("thing", 2)]) (N := N_p_are_places) (sc := defScope s_p_are_places) (by decide +kernel)) (fun _ _ _ _ _ => (pg_name (i := 2) sc_p_are_places.nd rfl (by first | exact Or.inl rfl | exact Or.inr rfl))) (fun _ _ _ _ _ => pts_nil) (fun _ _ _ _ _ => (pe_own (ok_p_is_whole (Cc := Cc) T D) (hr.mono (by decide)) (by rfl) pass0 (pa_cons (pv 2) (pa_cons pe_int (pa_cons pe_non pa_nil)))))) pa_nil)) (by intro _; rfl)))))) (pss_one (ps_ret pe_bl)) pss_nil)
      (pss_one (ps_ret (pe_cmpR (o_eq hr.units) (pe_callB SRT.cr_sortA (by rfl) T.b_sorted (by decide +kernel) (pa_cons (pv 1) pa_nil)) (pe_listRg (by rfl) (by rfl) T.b_list (prg_1 (by rfl) T.b_range (pe_callB call_len (by rfl) T.b_len (by decide +kernel) (pa_cons (pv 0) pa_nil)))) (nomark _))))), ?_⟩
  exact fn_sp (m := d_p_are_places) (n := 1) (jsSeq (jsIf (jtOr (jtNot (jtTru (jIs (T := .tuple) (jV 1)))) (jtNot (jtTru (jFn fj_all (jaCons (jLc (vs := [2]) (jiSeq (jV 1)) (jwN (by decide)) jtYes (jCall (fun _ => .nil) (jaCons (jF (jV 2)) (jaCons (jF jcInt) (jaCons (jF jcNone) jaNil))) (alD (alCons (alCons (alCons alNil))) rfl)) (wipe_wipe _)) jaNil))))) (jsRet jcBool) jsNext)
      (jsRet (jOp oj_eq (jFn fj_sort (jaCons (jV 1) jaNil)) (jLstRg (jFn fj_len (jaCons (jV 0) jaNil)))))) rfl h
noncomputable def d_p_is_step_on : M Fl := (sSeq (sIf (tstOr (tstNot (tTru (eIs .tuple (eUno (eV 2))))) (tstOr (tstNot (tTru (eUno (eV 2)))) (tstNot (tTru (eIs .str (eOp ixD (eUno (eV 2)) (eC (.int 0)))))))) (sRet (eC (.bool false))) sNext)
      (sSeq (sIf (tVal (eOp eqD (eOp ixD (eUno (eV 2)) (eC (.int 0))) (eC (.str (Str.ofString "order"))))) (sRet (eAnd (eOp eqD (eFn lenD (aCons (eUno (eV 2)) aNil)) (eC (.int 2))) (mb (aCons (eF (eV 1)) (aCons (eF (eOp ixD (eUno (eV 2)) (eC (.int 1)))) aNil)) (callD r_p_are_places [])))) sNext)
      (sSeq (sIf (tstOr (tVal (eOp (inD true) (eOp ixD (eUno (eV 2)) (eC (.int 0))) (eTup (aCons (eF (eC (.str (Str.ofString "open")))) (aCons (eF (eC (.str (Str.ofString "close")))) aNil))))) (tVal (eOp neD (eFn lenD (aCons (eUno (eV 2)) aNil)) (eC (.int 3))))) (sRet (eC (.bool false))) sNext)
      (sSeq (sAsg (gT 3 (gsC (gN 3) (gsC (gN 4) (gsC (gN 5) gsN)))) (eV 2))
      (sSeq (sIf (tstNot (tTru (mb (aCons (eF (eV 4)) (aCons (eF (eC (.int 0))) (aCons (eF (eOp subD (eFn lenD (aCons (eV 1) aNil)) (eC (.int 1)))) aNil))) (callD r_p_is_whole [])))) (sRet (eC (.bool false))) sNext)
      (sSeq (sSet 6 (eIf (tVal (eOp eqD (eV 3) (eC (.str (Str.ofString "open"))))) (eOp ixD (eV 1) (eV 4)) (mb (aCons (eF (eV 0)) (aCons (eF (eV 1)) (aCons (eF (eV 4)) aNil))) (callD r_p_form_closed []))))
      (sRet (mb (aCons (eF (eV 5)) (aCons (eF (eC (.int 0))) (aCons (eF (eOp subD (eV 6) (eC (.int 1)))) aNil))) (callD r_p_is_whole [])))))))))
noncomputable def r_p_is_step_on : List SD → Option (R × List SD) := runD 4 d_p_is_step_on
def sp_p_is_step_on (K : PySem.W.Frag) (Cc : BW.MR.Cl) : Sp := SpD K Cc 3 r_p_is_step_on
theorem ok_p_is_step_on (T : Bi K mg) (D : Df K mg Cc) : Cal P w K mg base CX0 5 "is_step_on" s_p_is_step_on ["kind", "rack", "thing"] (sp_p_is_step_on K Cc) := by
  refine Cal.mk' D.p_is_step_on (fun _ _ _ _ _ _ us hl => match us, hl with | [_, _, _], _ => rfl) fun f fd F => F.ok sc_p_is_step_on (fun vs H Q E h => h.1) (fun cdv A outer s H vs Q E hr h => ?_)
  refine ⟨_, (pss_cons (ps_if (PW.pt (pw_or (pt_not (pt_truth (pe_callB c_isinst (by rfl) T.b_isinstance (by decide +kernel) (pa_cons (pv 2) (pa_cons (pe_bltn (v := .ty "tuple") (by rfl) T.b_tuple (by decide +kernel) rfl) pa_nil))) (by intro _; rfl))) (pw_or (pt_not (pt_truth (pv 2) (by intro _; rfl))) (pw_or1 (pt_not (pt_truth (pe_callB c_isinst (by rfl) T.b_isinstance (by decide +kernel) (pa_cons (pe_ix ix_seq (pv 2) pe_int (fun _ _ => rfl)) (pa_cons (pe_bltn (v := .ty "str") (by rfl) T.b_str (by decide +kernel) rfl) pa_nil))) (by intro _; rfl))))))) (pss_one (ps_ret pe_bl)) pss_nil)
      (pss_cons (ps_if (pt_cmpR (o_eq hr.units) (pe_ix ix_seq (pv 2) pe_int (fun _ _ => rfl)) pe_str (nomark _)) (pss_one (ps_ret (pe_andT (pe_cmpR (o_eq hr.units) (pe_callB call_len (by rfl) T.b_len (by decide +kernel) (pa_cons (pv 2) pa_nil)) pe_int (nomark _)) (pe_one (pe_own (ok_p_are_places (Cc := Cc) T D) (hr.mono (by decide)) (by rfl) pass0 (pa_cons (pv 1) (pa_cons (pe_ix ix_seq (pv 2) pe_int (fun _ _ => rfl)) pa_nil))))))) pss_nil)
      (pss_cons (ps_if (PW.pt (pw_or (pt_cmpR op_notIn_seq (pe_ix ix_seq (pv 2) pe_int (fun _ _ => rfl)) (n_tup (pa_cons pe_str (pa_cons pe_str pa_nil))) (by rfl)) (pw_or1 (pt_cmpR (o_ne hr.units) (pe_callB call_len (by rfl) T.b_len (by decide +kernel) (pa_cons (pv 2) pa_nil)) pe_int (nomark _))))) (pss_one (ps_ret pe_bl)) pss_nil)
      (pss_cons (ps_asg (pv 2) (pg_any rfl (pgs_cons (pg_name (i := 3) sc_p_is_step_on.nd rfl (by first | exact Or.inl rfl | exact Or.inr rfl)) (pgs_cons (pg_name (i := 4) sc_p_is_step_on.nd rfl (by first | exact Or.inl rfl | exact Or.inr rfl)) (pgs_cons (pg_name (i := 5) sc_p_is_step_on.nd rfl (by first | exact Or.inl rfl | exact Or.inr rfl)) pgs_nil)))))
      (pss_cons (ps_if (pt_not (pt_truth (pe_own (ok_p_is_whole (Cc := Cc) T D) (hr.mono (by decide)) (by rfl) pass0 (pa_cons (pv 4) (pa_cons pe_int (pa_cons (pe_op o_sub (pe_callB call_len (by rfl) T.b_len (by decide +kernel) (pa_cons (pv 1) pa_nil)) pe_int) pa_nil)))) (by intro _; rfl))) (pss_one (ps_ret pe_bl)) pss_nil)
      (pss_cons (ps_set (i := 6) sc_p_is_step_on.nd rfl (by first | exact Or.inl rfl | exact Or.inr rfl) (pe_ifExp (pt_cmpR (o_eq hr.units) (pv 3) pe_str (nomark _)) (pe_ix ix_seq (pv 1) (pv 4) (fun _ _ => rfl)) (pe_own (ok_p_form_closed (Cc := Cc) T D) (hr.mono (by decide)) (by rfl) pass0 (pa_cons (pv 0) (pa_cons (pv 1) (pa_cons (pv 4) pa_nil))))))
      (pss_one (ps_ret (pe_own (ok_p_is_whole (Cc := Cc) T D) (hr.mono (by decide)) (by rfl) pass0 (pa_cons (pv 5) (pa_cons pe_int (pa_cons (pe_op o_sub (pv 6) pe_int) pa_nil)))))))))))), ?_⟩
  exact fn_sp (m := d_p_is_step_on) (n := 4) (jsSeq (jsIf (jtOr (jtNot (jtTru (jIs (T := .tuple) (jUno (jV 2))))) (jtOr (jtNot (jtTru (jUno (jV 2)))) (jtNot (jtTru (jIs (T := .str) (jOp oj_ix (jUno (jV 2)) jcInt)))))) (jsRet jcBool) jsNext)
      (jsSeq (jsIf (jtVal (jOp oj_eq (jOp oj_ix (jUno (jV 2)) jcInt) jcStr)) (jsRet (jAnd (jOp oj_eq (jFn fj_len (jaCons (jUno (jV 2)) jaNil)) jcInt) (jCall (fun _ => .nil) (jaCons (jF (jV 1)) (jaCons (jF (jOp oj_ix (jUno (jV 2)) jcInt)) jaNil)) (alD (alCons (alCons alNil)) rfl)))) jsNext)
      (jsSeq (jsIf (jtOr (jtVal (jOp oj_in (jOp oj_ix (jUno (jV 2)) jcInt) (jTup (jaCons (jF jcStr) (jaCons (jF jcStr) jaNil))))) (jtVal (jOp oj_ne (jFn fj_len (jaCons (jUno (jV 2)) jaNil)) jcInt))) (jsRet jcBool) jsNext)
      (jsSeq (jsAsg (jV 2) (jgT (jgsC jgN (jgsC jgN (jgsC jgN jgsN)))))
      (jsSeq (jsIf (jtNot (jtTru (jCall (fun _ => .nil) (jaCons (jF (jV 4)) (jaCons (jF jcInt) (jaCons (jF (jOp oj_sub (jFn fj_len (jaCons (jV 1) jaNil)) jcInt)) jaNil))) (alD (alCons (alCons (alCons alNil))) rfl)))) (jsRet jcBool) jsNext)
      (jsSeq (jsSet (jIf (jtVal (jOp oj_eq (jV 3) jcStr)) (jOp oj_ix (jV 1) (jV 4)) (jCall (fun _ => .nil) (jaCons (jF (jV 0)) (jaCons (jF (jV 1)) (jaCons (jF (jV 4)) jaNil))) (alD (alCons (alCons (alCons alNil))) rfl))))
      (jsRet (jCall (fun _ => .nil) (jaCons (jF (jV 5)) (jaCons (jF jcInt) (jaCons (jF (jOp oj_sub (jV 6) jcInt)) jaNil))) (alD (alCons (alCons (alCons alNil))) rfl))))))))) rfl h
noncomputable def d_p_can_do : M Fl := (sSeq (sDrop (mb (aCons (eF (eV 1)) aNil) (callD r_p_need_rack [])))
      (sRet (mb (aCons (eF (eV 0)) (aCons (eF (eV 1)) (aCons (eF (eV 2)) aNil))) (callD r_p_is_step_on []))))
noncomputable def r_p_can_do : List SD → Option (R × List SD) := runD 0 d_p_can_do
def sp_p_can_do (K : PySem.W.Frag) (Cc : BW.MR.Cl) : Sp := SpD K Cc 3 r_p_can_do
theorem ok_p_can_do (T : Bi K mg) (D : Df K mg Cc) : Cal P w K mg base CX0 6 "can_do" s_p_can_do ["kind", "rack", "step"] (sp_p_can_do K Cc) := by
  refine Cal.mk' D.p_can_do (fun _ _ _ _ _ _ us hl => match us, hl with | [_, _, _], _ => rfl) fun f fd F => F.ok sc_p_can_do (fun vs H Q E h => h.1) (fun cdv A outer s H vs Q E hr h => ?_)
  refine ⟨_, (pss_cons (ps_expr (pe_own (ok_p_need_rack (Cc := Cc) T D) (hr.mono (by decide)) (by rfl) pass0 (pa_cons (pv 1) pa_nil)))
      (pss_one (ps_ret (pe_own (ok_p_is_step_on (Cc := Cc) T D) (hr.mono (by decide)) (by rfl) pass0 (pa_cons (pv 0) (pa_cons (pv 1) (pa_cons (pv 2) pa_nil))))))), ?_⟩
  exact fn_sp (m := d_p_can_do) (n := 0) (jsSeq (jsDrop (jCall (fun _ => .nil) (jaCons (jF (jV 1)) jaNil) (alD (alCons alNil) rfl)))
      (jsRet (jCall (fun _ => .nil) (jaCons (jF (jV 0)) (jaCons (jF (jV 1)) (jaCons (jF (jV 2)) jaNil))) (alD (alCons (alCons (alCons alNil))) rfl)))) rfl h
noncomputable def d_p_rack_after : M Fl := (sSeq (sIf (tstNot (tTru (mb (aCons (eF (eV 0)) (aCons (eF (eV 1)) (aCons (eF (eV 2)) aNil))) (callD r_p_can_do [])))) sNever sNext)
      (sSeq (sSet 3 (mb (aCons (eF (eV 0)) (aCons (eF (eV 1)) (aCons (eF (eV 2)) aNil))) (callD r_p_forms_after [])))
      (sSeq (sIf (tstNot (tTru (mb (aCons (eF (eV 3)) aNil) (callD r_p_forms_fit [])))) sNever sNext)
      (sRet (eV 3)))))
noncomputable def r_p_rack_after : List SD → Option (R × List SD) := runD 1 d_p_rack_after
def sp_p_rack_after (K : PySem.W.Frag) (Cc : BW.MR.Cl) : Sp := SpD K Cc 3 r_p_rack_after
theorem ok_p_rack_after (T : Bi K mg) (D : Df K mg Cc) : Cal P w K mg base CX0 7 "rack_after" s_p_rack_after ["kind", "rack", "step"] (sp_p_rack_after K Cc) := by
  refine Cal.mk' D.p_rack_after (fun _ _ _ _ _ _ us hl => match us, hl with | [_, _, _], _ => rfl) fun f fd F => F.ok sc_p_rack_after (fun vs H Q E h => h.1) (fun cdv A outer s H vs Q E hr h => ?_)
  refine ⟨_, (pss_cons (ps_if (pt_not (pt_truth (pe_own (ok_p_can_do (Cc := Cc) T D) (hr.mono (by decide)) (by rfl) pass0 (pa_cons (pv 0) (pa_cons (pv 1) (pa_cons (pv 2) pa_nil)))) (by intro _; rfl))) (pss_one ps_never) pss_nil)
      (pss_cons (ps_set (i := 3) sc_p_rack_after.nd rfl (by first | exact Or.inl rfl | exact Or.inr rfl) (pe_own (ok_p_forms_after (Cc := Cc) T D) (hr.mono (by decide)) (by rfl) pass0 (pa_cons (pv 0) (pa_cons (pv 1) (pa_cons (pv 2) pa_nil)))))
      (pss_cons (ps_if (pt_not (pt_truth (pe_own (ok_p_forms_fit (Cc := Cc) T D) (hr.mono (by decide)) (by rfl) pass0 (pa_cons (pv 3) pa_nil)) (by intro _; rfl))) (pss_one ps_never) pss_nil)
      (pss_one (ps_ret (pv 3)))))), ?_⟩
  exact fn_sp (m := d_p_rack_after) (n := 1) (jsSeq (jsIf (jtNot (jtTru (jCall (fun _ => .nil) (jaCons (jF (jV 0)) (jaCons (jF (jV 1)) (jaCons (jF (jV 2)) jaNil))) (alD (alCons (alCons (alCons alNil))) rfl)))) jsNever jsNext)
      (jsSeq (jsSet (jCall (fun _ => .nil) (jaCons (jF (jV 0)) (jaCons (jF (jV 1)) (jaCons (jF (jV 2)) jaNil))) (alD (alCons (alCons (alCons alNil))) rfl)))
      (jsSeq (jsIf (jtNot (jtTru (jCall (fun _ => .nil) (jaCons (jF (jV 3)) jaNil) (alD (alCons alNil) rfl)))) jsNever jsNext)
      (jsRet (jV 3))))) rfl h
open BW BW.MR
noncomputable def d_p_way_back : M Fl := (sSeq (sIf (tVal (eOp eqD (eOp ixD (eUno (eV 0)) (eC (.int 0))) (eC (.str (Str.ofString "order"))))) (sSeq (sSet 1 (eRep (eLst (aCons (eF (eC (.int 0))) aNil)) (eFn lenD (aCons (eOp ixD (eUno (eV 0)) (eC (.int 1))) aNil))))
      (sSeq (sFor (iEnD (aCons (eF (eOp ixD (eUno (eV 0)) (eC (.int 1)))) aNil)) (gT 2 (gsC (gN 2) (gsC (gN 3) gsN))) (sAsg (gIx 1 (eV 3)) (eV 2)))
      (sRet (eOrd (eV 1))))) sNext)
      (sSeq (sAsg (gT 3 (gsC (gN 4) (gsC (gN 5) (gsC (gN 6) gsN)))) (eV 0))
      (sRet (eTup (aCons (eF (eIf (tVal (eOp eqD (eV 4) (eC (.str (Str.ofString "open"))))) (eC (.str (Str.ofString "close"))) (eC (.str (Str.ofString "open"))))) (aCons (eF (eV 5)) (aCons (eF (eV 6)) aNil)))))))
noncomputable def r_p_way_back : List SD → Option (R × List SD) := runD 6 d_p_way_back
def sp_p_way_back (K : PySem.W.Frag) (Cc : BW.MR.Cl) : Sp := SpD K Cc 1 r_p_way_back
theorem ok_p_way_back (T : Bi K mg) (D : Df K mg Cc) : Cal P w K mg base CX0 1 "way_back" s_p_way_back ["step"] (sp_p_way_back K Cc) := by
  refine Cal.mk' D.p_way_back (fun _ _ _ _ _ _ us hl => match us, hl with | [_], _ => rfl) fun f fd F => F.ok sc_p_way_back (fun vs H Q E h => h.1) (fun cdv A outer s H vs Q E hr h => ?_)
  refine ⟨_, (pss_cons (ps_if (pt_cmpR (o_eq hr.units) (pe_ix ix_seq (pv 0) pe_int (fun _ _ => rfl)) pe_str (nomark _)) (pss_cons (ps_set (i := 1) sc_p_way_back.nd rfl (by first | exact Or.inl rfl | exact Or.inr rfl) (pe_op o_mul (n_lst (pa_cons pe_int pa_nil)) (pe_callB call_len (by rfl) T.b_len (by decide +kernel) (pa_cons (pe_ix ix_seq (pv 0) pe_int (fun _ _ => rfl)) pa_nil))))
      (pss_cons (ps_for PassesOwn.never rfl (pi_enumA (by rfl) T.b_enumerate (pa_cons (pe_ix ix_seq (pv 0) pe_int (fun _ _ => rfl)) pa_nil)) (pg_any rfl (pgs_cons (pg_name (i := 2) sc_p_way_back.nd rfl (by first | exact Or.inl rfl | exact Or.inr rfl)) (pgs_cons (pg_name (i := 3) sc_p_way_back.nd rfl (by first | exact Or.inl rfl | exact Or.inr rfl)) pgs_nil))) (pss_one (ps_asg (pv 2) (pg_sub (pv 1) (pv 3) set_list))))
      (pss_one (ps_ret (n_tup (pa_cons pe_str (pa_cons (pe_callTy ORD.cr_tupO (by rfl) T.b_tuple (by decide +kernel) (pa_cons (pv 1) pa_nil)) pa_nil))))))) pss_nil)
      (pss_cons (ps_asg (pv 0) (pg_any rfl (pgs_cons (pg_name (i := 4) sc_p_way_back.nd rfl (by first | exact Or.inl rfl | exact Or.inr rfl)) (pgs_cons (pg_name (i := 5) sc_p_way_back.nd rfl (by first | exact Or.inl rfl | exact Or.inr rfl)) (pgs_cons (pg_name (i := 6) sc_p_way_back.nd rfl (by first | exact Or.inl rfl | exact Or.inr rfl)) pgs_nil)))))
      (pss_one (ps_ret (n_tup (pa_cons (pe_ifExp (pt_cmpR (o_eq hr.units) (pv 4) pe_str (nomark _)) pe_str pe_str) (pa_cons (pv 5) (pa_cons (pv 6) pa_nil)))))))), ?_⟩
  exact fn_sp (m := d_p_way_back) (n := 6) (jsSeq (jsIf (jtVal (jOp oj_eq (jOp oj_ix (jUno (jV 0)) jcInt) jcStr)) (jsSeq (jsSet (jRep (jLst (jaCons (jF jcInt) jaNil)) (jFn fj_len (jaCons (jOp oj_ix (jUno (jV 0)) jcInt) jaNil)) (fun _ _ _ _ h => .inr (.inr (.inl h)))))
      (jsSeq (jsFor (jiEn (jaCons (jF (jOp oj_ix (jUno (jV 0)) jcInt)) jaNil)) (jgT (jgsC jgN (jgsC jgN jgsN))) (jsAsg (jV 2) (jgIx (jV 3))))
      (jsRet (jOrd (jV 1))))) jsNext)
      (jsSeq (jsAsg (jV 0) (jgT (jgsC jgN (jgsC jgN (jgsC jgN jgsN)))))
      (jsRet (jTup (jaCons (jF (jIf (jtVal (jOp oj_eq (jV 4) jcStr)) jcStr jcStr)) (jaCons (jF (jV 5)) (jaCons (jF (jV 6)) jaNil))))))) rfl h
noncomputable def d_p_undone : M Fl := (sSeq (sDrop (mb (aCons (eF (eV 0)) (aCons (eF (eV 1)) (aCons (eF (eV 2)) aNil))) (callD r_p_rack_after [])))
      (sRet (mb (aCons (eF (eV 2)) aNil) (callD r_p_way_back []))))
noncomputable def r_p_undone : List SD → Option (R × List SD) := runD 0 d_p_undone
def sp_p_undone (K : PySem.W.Frag) (Cc : BW.MR.Cl) : Sp := SpD K Cc 3 r_p_undone
theorem ok_p_undone (T : Bi K mg) (D : Df K mg Cc) : Cal P w K mg base CX0 8 "undone" s_p_undone ["kind", "rack", "step"] (sp_p_undone K Cc) := by
  refine Cal.mk' D.p_undone (fun _ _ _ _ _ _ us hl => match us, hl with | [_, _, _], _ => rfl) fun f fd F => F.ok sc_p_undone (fun vs H Q E h => h.1) (fun cdv A outer s H vs Q E hr h => ?_)
  refine ⟨_, (pss_cons (ps_expr (pe_own (ok_p_rack_after (Cc := Cc) T D) (hr.mono (by decide)) (by rfl) pass0 (pa_cons (pv 0) (pa_cons (pv 1) (pa_cons (pv 2) pa_nil)))))
      (pss_one (ps_ret (pe_own (ok_p_way_back (Cc := Cc) T D) (hr.mono (by decide)) (by rfl) pass0 (pa_cons (pv 2) pa_nil))))), ?_⟩
  exact fn_sp (m := d_p_undone) (n := 0) (jsSeq (jsDrop (jCall (fun _ => .nil) (jaCons (jF (jV 0)) (jaCons (jF (jV 1)) (jaCons (jF (jV 2)) jaNil))) (alD (alCons (alCons (alCons alNil))) rfl)))
      (jsRet (jCall (fun _ => .nil) (jaCons (jF (jV 2)) jaNil) (alD (alCons alNil) rfl)))) rfl h
open BW BW.MR
noncomputable def d_p_parts_of : M Fl := (sSeq (sSet 2 (eOp addD (eMeth 0 "withins" r_m_Kind_withins [] (eV 0) aNil) (eLst (aCons (eF (eC (.int 0))) aNil))))
      (sSeq (sSet 3 (eLst aNil))
      (sSeq (sSet 4 (eC (.int 0)))
      (sSeq (sSet 5 (eC (.int 1)))
      (sSeq (sFor (iEnD (aCons (eF (eV 1)) aNil)) (gT 2 (gsC (gN 6) (gsC (gN 7) gsN))) (sSeq (sAug 5 addI (eOp subD (eOp ixD (eV 2) (eV 7)) (eC (.int 1))))
      (sIf (tVal (eOp eqD (eV 5) (eC (.int 0)))) (sSeq (sDrop (eApp 3 (aCons (eF (eSl (eV 1) (oSome (eV 4)) (oSome (eOp addD (eV 6) (eC (.int 1)))))) aNil)))
      (sSeq (sSet 4 (eOp addD (eV 6) (eC (.int 1))))
      (sSet 5 (eC (.int 1))))) sNext)))
      (sSeq (sIf (tVal (eOp ltD (eV 4) (eFn lenD (aCons (eV 1) aNil)))) (sRet (eC .none)) sNext)
      (sRet (eV 3))))))))
noncomputable def r_p_parts_of : List SD → Option (R × List SD) := runD 6 d_p_parts_of
def sp_p_parts_of (K : PySem.W.Frag) (Cc : BW.MR.Cl) : Sp := SpD K Cc 2 r_p_parts_of
theorem ok_p_parts_of (T : Bi K mg) (D : Df K mg Cc) : Cal P w K mg base CX0 2 "parts_of" s_p_parts_of ["kind", "row"] (sp_p_parts_of K Cc) := by
  refine Cal.mk' D.p_parts_of (fun _ _ _ _ _ _ us hl => match us, hl with | [_, _], _ => rfl) fun f fd F => F.ok sc_p_parts_of (fun vs H Q E h => h.1) (fun cdv A outer s H vs Q E hr h => ?_)
  refine ⟨_, (pss_cons (ps_set (i := 2) sc_p_parts_of.nd rfl (by first | exact Or.inl rfl | exact Or.inr rfl) (pe_op o_add (pe_methM0 (ok_m_Kind_withins (Cc := Cc) T D) D.k_Kind (hr.mono (by decide)) pass0 (pv 0)) (n_lst (pa_cons pe_int pa_nil))))
      (pss_cons (ps_set (i := 3) sc_p_parts_of.nd rfl (by first | exact Or.inl rfl | exact Or.inr rfl) (n_lst pa_nil))
      (pss_cons (ps_set (i := 4) sc_p_parts_of.nd rfl (by first | exact Or.inl rfl | exact Or.inr rfl) pe_int)
      (pss_cons (ps_set (i := 5) sc_p_parts_of.nd rfl (by first | exact Or.inl rfl | exact Or.inr rfl) pe_int)
      (pss_cons (ps_for PassesOwn.never rfl (pi_enumA (by rfl) T.b_enumerate (pa_cons (pv 1) pa_nil)) (pg_any rfl (pgs_cons (pg_name (i := 6) sc_p_parts_of.nd rfl (by first | exact Or.inl rfl | exact Or.inr rfl)) (pgs_cons (pg_name (i := 7) sc_p_parts_of.nd rfl (by first | exact Or.inl rfl | exact Or.inr rfl)) pgs_nil))) (pss_cons (ps_aug (i := 5) sc_p_parts_of.nd rfl (by first | exact Or.inl rfl | exact Or.inr rfl) (pe_op o_sub (pe_ix ix_seq (pv 2) (pv 7) (fun _ _ => rfl)) pe_int) ip_add)
      (pss_one (ps_if (pt_cmpR (o_eq hr.units) (pv 5) pe_int (nomark _)) (pss_cons (ps_expr (pe_bm PySem.F.plainAttrs_list PySem.F.slot_list_append PySem.F.type_list_append mt_append (pv 3) (pa_cons (pe_slice s_any (pv 1) (po_some (pv 4)) (po_some (pe_op o_add (pv 6) pe_int))) pa_nil)))
      (pss_cons (ps_set (i := 4) sc_p_parts_of.nd rfl (by first | exact Or.inl rfl | exact Or.inr rfl) (pe_op o_add (pv 6) pe_int))
      (pss_one (ps_set (i := 5) sc_p_parts_of.nd rfl (by first | exact Or.inl rfl | exact Or.inr rfl) pe_int)))) pss_nil))))
      (pss_cons (ps_if (pt_cmpR op_lt (pv 4) (pe_callB call_len (by rfl) T.b_len (by decide +kernel) (pa_cons (pv 1) pa_nil)) (nomark _)) (pss_one (ps_ret pe_non)) pss_nil)
      (pss_one (ps_ret (pv 3))))))))), ?_⟩
  exact fn_sp (m := d_p_parts_of) (n := 6) (jsSeq (jsSet (jOp oj_add (jMeth (fun _ => .nil) (jV 0) jaNil (alM alNil rfl)) (jLst (jaCons (jF jcInt) jaNil))))
      (jsSeq (jsSet (jLst jaNil))
      (jsSeq (jsSet jcInt)
      (jsSeq (jsSet jcInt)
      (jsSeq (jsFor (jiEn (jaCons (jF (jV 1)) jaNil)) (jgT (jgsC jgN (jgsC jgN jgsN))) (jsSeq (jsAug ij_add (jOp oj_sub (jOp oj_ix (jV 2) (jV 7)) jcInt))
      (jsIf (jtVal (jOp oj_eq (jV 5) jcInt)) (jsSeq (jsDrop (jApp (jaCons (jF (jSl (jV 1) (joSome (jV 4)) (joSome (jOp oj_add (jV 6) jcInt)))) jaNil)))
      (jsSeq (jsSet (jOp oj_add (jV 6) jcInt))
      (jsSet jcInt))) jsNext)))
      (jsSeq (jsIf (jtVal (jOp oj_lt (jV 4) (jFn fj_len (jaCons (jV 1) jaNil)))) (jsRet jcNone) jsNext)
      (jsRet (jV 3)))))))) rfl h
noncomputable def d_p_are_numbers : M Fl := (sSeq (sSet 3 (eOp subD (eLenO 0 r_m_Kind_len (eV 0)) (eC (.int 1))))
      (sRet (eAnd (eIs .tuple (eV 2)) (eFn allD (aCons (eLc (iSeqD (eV 2)) [4] (gN 4) (fun τ => some (true, τ)) (mb (aCons (eF (eV 4)) (aCons (eF (eV 1)) (aCons (eF (eV 3)) aNil))) (callD r_p_is_whole []))) aNil)))))
noncomputable def r_p_are_numbers : List SD → Option (R × List SD) := runD 2 d_p_are_numbers
def sp_p_are_numbers (K : PySem.W.Frag) (Cc : BW.MR.Cl) : Sp := SpD K Cc 3 r_p_are_numbers
theorem ok_p_are_numbers (T : Bi K mg) (D : Df K mg Cc) : Cal P w K mg base CX0 3 "_are_numbers" s_p_are_numbers ["kind", "low", "things"] (sp_p_are_numbers K Cc) := by
  refine Cal.mk' D.p_are_numbers (fun _ _ _ _ _ _ us hl => match us, hl with | [_, _, _], _ => rfl) fun f fd F => F.ok sc_p_are_numbers (fun vs H Q E h => h.1) (fun cdv A outer s H vs Q E hr h => ?_)
  refine ⟨_, (pss_cons (ps_set (i := 3) sc_p_are_numbers.nd rfl (by first | exact Or.inl rfl | exact Or.inr rfl) (pe_op o_sub (pe_lenM (ok_m_Kind_len (Cc := Cc) T D) (hr.mono (by decide)) pass0 (by rfl) T.b_len (pv 0)) pe_int))
      (pss_one (ps_ret (pe_andT (pe_callB c_isinst (by rfl) T.b_isinstance (by decide +kernel) (pa_cons (pv 2) (pa_cons (pe_bltn (v := .ty "tuple") (by rfl) T.b_tuple (by decide +kernel) rfl) pa_nil))) (pe_one (pe_callB (cr_all rfl) (by rfl) T.b_all (by decide +kernel) (pa_cons (pe_lc (own := [("thing", 4)]) (by rfl) sc_p_are_numbers.nd (pi_seq (pv 2)) (blkOk_by (own := [("thing", 4)]) (N := N_p_are_numbers) (sc := defScope s_p_are_numbers) (by decide +kernel)) (fun _ _ _ _ _ => (pg_name (i := 4) sc_p_are_numbers.nd rfl (by first | exact Or.inl rfl | exact Or.inr rfl))) (fun _ _ _ _ _ => pts_nil) (fun _ _ _ _ _ => (pe_own (ok_p_is_whole (Cc := Cc) T D) (hr.mono (by decide)) (by rfl) pass0 (pa_cons (pv 4) (pa_cons (pv 1) (pa_cons (pv 3) pa_nil)))))) pa_nil))))))), ?_⟩
  exact fn_sp (m := d_p_are_numbers) (n := 2) (jsSeq (jsSet (jOp oj_sub (jLenO (jV 0)) jcInt))
      (jsRet (jAnd (jIs (T := .tuple) (jV 2)) (jFn fj_all (jaCons (jLc (vs := [4]) (jiSeq (jV 2)) (jwN (by decide)) jtYes (jCall (fun _ => .nil) (jaCons (jF (jV 4)) (jaCons (jF (jV 1)) (jaCons (jF (jV 3)) jaNil))) (alD (alCons (alCons (alCons alNil))) rfl)) (wipe_wipe _)) jaNil))))) rfl h
noncomputable def d_p_parts_in : M Fl := (sSeq (sIf (tstNot (tTru (mb (aCons (eF (eV 0)) (aCons (eF (eV 1)) (aCons (eF (eV 2)) aNil))) (callD r_p_are_numbers [])))) (sRet (eC .none)) sNext)
      (sRet (mb (aCons (eF (eV 0)) (aCons (eF (eV 2)) aNil)) (callD r_p_parts_of []))))
noncomputable def r_p_parts_in : List SD → Option (R × List SD) := runD 0 d_p_parts_in
def sp_p_parts_in (K : PySem.W.Frag) (Cc : BW.MR.Cl) : Sp := SpD K Cc 3 r_p_parts_in
theorem ok_p_parts_in (T : Bi K mg) (D : Df K mg Cc) : Cal P w K mg base CX0 4 "parts_in" s_p_parts_in ["kind", "low", "row"] (sp_p_parts_in K Cc) := by
  refine Cal.mk' D.p_parts_in (fun _ _ _ _ _ _ us hl => match us, hl with | [_, _, _], _ => rfl) fun f fd F => F.ok sc_p_parts_in (fun vs H Q E h => h.1) (fun cdv A outer s H vs Q E hr h => ?_)
  refine ⟨_, (pss_cons (ps_if (pt_not (pt_truth (pe_own (ok_p_are_numbers (Cc := Cc) T D) (hr.mono (by decide)) (by rfl) pass0 (pa_cons (pv 0) (pa_cons (pv 1) (pa_cons (pv 2) pa_nil)))) (by intro _; rfl))) (pss_one (ps_ret pe_non)) pss_nil)
      (pss_one (ps_ret (pe_own (ok_p_parts_of (Cc := Cc) T D) (hr.mono (by decide)) (by rfl) pass0 (pa_cons (pv 0) (pa_cons (pv 2) pa_nil)))))), ?_⟩
  exact fn_sp (m := d_p_parts_in) (n := 0) (jsSeq (jsIf (jtNot (jtTru (jCall (fun _ => .nil) (jaCons (jF (jV 0)) (jaCons (jF (jV 1)) (jaCons (jF (jV 2)) jaNil))) (alD (alCons (alCons (alCons alNil))) rfl)))) (jsRet jcNone) jsNext)
      (jsRet (jCall (fun _ => .nil) (jaCons (jF (jV 0)) (jaCons (jF (jV 2)) jaNil)) (alD (alCons (alCons alNil)) rfl)))) rfl h
noncomputable def d_p_row_of : M Fl := (sRet (eFn tupD (aCons (eLc2 (iSeqD (eV 0)) [1, 2] (gN 1) (fun τ => some (true, τ)) (iSeqD (eV 1)) [2] (gN 2) (fun τ => some (true, τ)) (eV 2)) aNil)))
noncomputable def r_p_row_of : List SD → Option (R × List SD) := runD 2 d_p_row_of
def sp_p_row_of (K : PySem.W.Frag) (Cc : BW.MR.Cl) : Sp := SpD K Cc 1 r_p_row_of
theorem ok_p_row_of (T : Bi K mg) (D : Df K mg Cc) : Cal P w K mg base CX0 1 "row_of" s_p_row_of ["trees"] (sp_p_row_of K Cc) := by
  refine Cal.mk' D.p_row_of (fun _ _ _ _ _ _ us hl => match us, hl with | [_], _ => rfl) fun f fd F => F.ok sc_p_row_of (fun vs H Q E h => h.1) (fun cdv A outer s H vs Q E hr h => ?_)
  refine ⟨_, (pss_one (ps_ret (pe_callTy c_tuple (by rfl) T.b_tuple (by decide +kernel) (pa_cons (pe_lc2 (own := [("tree", 1), ("maker", 2)]) (by rfl) sc_p_row_of.nd (pi_seq (pv 0)) (blkOk_by (own := [("tree", 1), ("maker", 2)]) (N := N_p_row_of) (sc := defScope s_p_row_of) (by decide +kernel)) (by decide : ∀ i ∈ [2], i ∈ List.map (·.2) [("tree", 1), ("maker", 2)]) (fun _ _ _ _ _ => (pg_name (i := 1) sc_p_row_of.nd rfl (by first | exact Or.inl rfl | exact Or.inr rfl))) (fun _ _ _ _ _ => pts_nil) (fun _ _ _ _ _ => (show PI _ _ _ (iSeq K _) from pi_seq (pv 1))) (fun _ _ _ _ _ => (pg_name (i := 2) sc_p_row_of.nd rfl (by first | exact Or.inl rfl | exact Or.inr rfl))) (fun _ _ _ _ _ => pts_nil) (fun _ _ _ _ _ => (pv 2))) pa_nil)))), ?_⟩
  exact fn_sp (m := d_p_row_of) (n := 2) (jsRet (jFn fj_tup (jaCons (jLc2 (vs := [1, 2]) (vs1 := [2]) (jiSeq (jV 0)) (jwN (by decide)) jtYes (jiSeq (jV 1)) (jwN (by decide)) jtYes (jV 2)) jaNil))) rfl h
noncomputable def d_p_is_row_at : M Fl := (sSeq (sIf (tstOr (tstNot (tTru (eIs .tuple (eV 3)))) (tVal (eOp neD (eFn lenD (aCons (eV 3) aNil)) (eC (.int 2))))) (sRet (eC (.bool false))) sNext)
      (sSeq (sAsg (gT 2 (gsC (gN 4) (gsC (gN 5) gsN))) (eV 3))
      (sSeq (sIf (tstNot (tTru (mb (aCons (eF (eV 4)) (aCons (eF (eC (.int 0))) (aCons (eF (eOp subD (eFn lenD (aCons (eV 1) aNil)) (eC (.int 1)))) aNil))) (callD r_p_is_whole [])))) (sRet (eC (.bool false))) sNext)
      (sSeq (sSet 6 (mb (aCons (eF (eV 0)) (aCons (eF (eV 2)) (aCons (eF (eV 5)) aNil))) (callD r_p_parts_in [])))
      (sRet (eAnd (eOp isnD (eV 6) (eC .none)) (eOp eqD (eFn lenD (aCons (eV 6) aNil)) (eOp ixD (eV 1) (eV 4)))))))))
noncomputable def r_p_is_row_at : List SD → Option (R × List SD) := runD 3 d_p_is_row_at
def sp_p_is_row_at (K : PySem.W.Frag) (Cc : BW.MR.Cl) : Sp := SpD K Cc 4 r_p_is_row_at
theorem ok_p_is_row_at (T : Bi K mg) (D : Df K mg Cc) : Cal P w K mg base CX0 5 "is_row_at" s_p_is_row_at ["kind", "rack", "low", "thing"] (sp_p_is_row_at K Cc) := by
  refine Cal.mk' D.p_is_row_at (fun _ _ _ _ _ _ us hl => match us, hl with | [_, _, _, _], _ => rfl) fun f fd F => F.ok sc_p_is_row_at (fun vs H Q E h => h.1) (fun cdv A outer s H vs Q E hr h => ?_)
  refine ⟨_, (pss_cons (ps_if (PW.pt (pw_or (pt_not (pt_truth (pe_callB c_isinst (by rfl) T.b_isinstance (by decide +kernel) (pa_cons (pv 3) (pa_cons (pe_bltn (v := .ty "tuple") (by rfl) T.b_tuple (by decide +kernel) rfl) pa_nil))) (by intro _; rfl))) (pw_or1 (pt_cmpR (o_ne hr.units) (pe_callB call_len (by rfl) T.b_len (by decide +kernel) (pa_cons (pv 3) pa_nil)) pe_int (nomark _))))) (pss_one (ps_ret pe_bl)) pss_nil)
      (pss_cons (ps_asg (pv 3) (pg_any rfl (pgs_cons (pg_name (i := 4) sc_p_is_row_at.nd rfl (by first | exact Or.inl rfl | exact Or.inr rfl)) (pgs_cons (pg_name (i := 5) sc_p_is_row_at.nd rfl (by first | exact Or.inl rfl | exact Or.inr rfl)) pgs_nil))))
      (pss_cons (ps_if (pt_not (pt_truth (pe_own (ok_p_is_whole (Cc := Cc) T D) (hr.mono (by decide)) (by rfl) pass0 (pa_cons (pv 4) (pa_cons pe_int (pa_cons (pe_op o_sub (pe_callB call_len (by rfl) T.b_len (by decide +kernel) (pa_cons (pv 1) pa_nil)) pe_int) pa_nil)))) (by intro _; rfl))) (pss_one (ps_ret pe_bl)) pss_nil)
      (pss_cons (ps_set (i := 6) sc_p_is_row_at.nd rfl (by first | exact Or.inl rfl | exact Or.inr rfl) (pe_own (ok_p_parts_in (Cc := Cc) T D) (hr.mono (by decide)) (by rfl) pass0 (pa_cons (pv 0) (pa_cons (pv 2) (pa_cons (pv 5) pa_nil)))))
      (pss_one (ps_ret (pe_andT (pe_cmpR o_isn (pv 6) pe_non (nomark _)) (pe_one (pe_cmpR (o_eq hr.units) (pe_callB call_len (by rfl) T.b_len (by decide +kernel) (pa_cons (pv 6) pa_nil)) (pe_ix ix_seq (pv 1) (pv 4) (fun _ _ => rfl)) (nomark _)))))))))), ?_⟩
  exact fn_sp (m := d_p_is_row_at) (n := 3) (jsSeq (jsIf (jtOr (jtNot (jtTru (jIs (T := .tuple) (jV 3)))) (jtVal (jOp oj_ne (jFn fj_len (jaCons (jV 3) jaNil)) jcInt))) (jsRet jcBool) jsNext)
      (jsSeq (jsAsg (jV 3) (jgT (jgsC jgN (jgsC jgN jgsN))))
      (jsSeq (jsIf (jtNot (jtTru (jCall (fun _ => .nil) (jaCons (jF (jV 4)) (jaCons (jF jcInt) (jaCons (jF (jOp oj_sub (jFn fj_len (jaCons (jV 1) jaNil)) jcInt)) jaNil))) (alD (alCons (alCons (alCons alNil))) rfl)))) (jsRet jcBool) jsNext)
      (jsSeq (jsSet (jCall (fun _ => .nil) (jaCons (jF (jV 0)) (jaCons (jF (jV 2)) (jaCons (jF (jV 5)) jaNil))) (alD (alCons (alCons (alCons alNil))) rfl)))
      (jsRet (jAnd (jOp oj_isn (jV 6) jcNone) (jOp oj_eq (jFn fj_len (jaCons (jV 6) jaNil)) (jOp oj_ix (jV 1) (jV 4))))))))) rfl h
noncomputable def d_p_is_thing : M Fl := (sSeq (sDrop (mb (aCons (eF (eV 1)) aNil) (callD r_p_need_rack [])))
      (sRet (mb (aCons (eF (eV 0)) (aCons (eF (eV 1)) (aCons (eF (eC (.int 0))) (aCons (eF (eV 2)) aNil)))) (callD r_p_is_row_at []))))
noncomputable def r_p_is_thing : List SD → Option (R × List SD) := runD 0 d_p_is_thing
def sp_p_is_thing (K : PySem.W.Frag) (Cc : BW.MR.Cl) : Sp := SpD K Cc 3 r_p_is_thing
theorem ok_p_is_thing (T : Bi K mg) (D : Df K mg Cc) : Cal P w K mg base CX0 6 "is_thing" s_p_is_thing ["kind", "rack", "thing"] (sp_p_is_thing K Cc) := by
  refine Cal.mk' D.p_is_thing (fun _ _ _ _ _ _ us hl => match us, hl with | [_, _, _], _ => rfl) fun f fd F => F.ok sc_p_is_thing (fun vs H Q E h => h.1) (fun cdv A outer s H vs Q E hr h => ?_)
  refine ⟨_, (pss_cons (ps_expr (pe_own (ok_p_need_rack (Cc := Cc) T D) (hr.mono (by decide)) (by rfl) pass0 (pa_cons (pv 1) pa_nil)))
      (pss_one (ps_ret (pe_own (ok_p_is_row_at (Cc := Cc) T D) (hr.mono (by decide)) (by rfl) pass0 (pa_cons (pv 0) (pa_cons (pv 1) (pa_cons pe_int (pa_cons (pv 2) pa_nil)))))))), ?_⟩
  exact fn_sp (m := d_p_is_thing) (n := 0) (jsSeq (jsDrop (jCall (fun _ => .nil) (jaCons (jF (jV 1)) jaNil) (alD (alCons alNil) rfl)))
      (jsRet (jCall (fun _ => .nil) (jaCons (jF (jV 0)) (jaCons (jF (jV 1)) (jaCons (jF jcInt) (jaCons (jF (jV 2)) jaNil)))) (alD (alCons (alCons (alCons (alCons alNil)))) rfl)))) rfl h
noncomputable def d_p_need_thing : M Fl := (sIf (tstNot (tTru (mb (aCons (eF (eV 0)) (aCons (eF (eV 1)) (aCons (eF (eV 2)) aNil))) (callD r_p_is_thing [])))) sNever sNext)
noncomputable def r_p_need_thing : List SD → Option (R × List SD) := runD 0 d_p_need_thing
def sp_p_need_thing (K : PySem.W.Frag) (Cc : BW.MR.Cl) : Sp := SpD K Cc 3 r_p_need_thing
theorem ok_p_need_thing (T : Bi K mg) (D : Df K mg Cc) : Cal P w K mg base CX0 7 "need_thing" s_p_need_thing ["kind", "rack", "thing"] (sp_p_need_thing K Cc) := by
  refine Cal.mk' D.p_need_thing (fun _ _ _ _ _ _ us hl => match us, hl with | [_, _, _], _ => rfl) fun f fd F => F.ok sc_p_need_thing (fun vs H Q E h => h.1) (fun cdv A outer s H vs Q E hr h => ?_)
  refine ⟨_, (pss_one (ps_if (pt_not (pt_truth (pe_own (ok_p_is_thing (Cc := Cc) T D) (hr.mono (by decide)) (by rfl) pass0 (pa_cons (pv 0) (pa_cons (pv 1) (pa_cons (pv 2) pa_nil)))) (by intro _; rfl))) (pss_one ps_never) pss_nil)), ?_⟩
  exact fn_sp (m := d_p_need_thing) (n := 0) (jsIf (jtNot (jtTru (jCall (fun _ => .nil) (jaCons (jF (jV 0)) (jaCons (jF (jV 1)) (jaCons (jF (jV 2)) jaNil))) (alD (alCons (alCons (alCons alNil))) rfl)))) jsNever jsNext) rfl h
open BW BW.MR
noncomputable def d_p_led_open : M Fl := (sSeq (sAsg (gT 3 (gsC (gN 4) (gsC (gN 5) (gsC (gN 6) gsN)))) (eV 1))
      (sSeq (sIf (tVal (eOp ltD (eV 2) (eV 5))) (sRet (eTup (aCons (eF (eV 2)) (aCons (eF (eV 3)) aNil)))) sNext)
      (sSeq (sIf (tVal (eOp gtD (eV 2) (eV 5))) (sRet (eTup (aCons (eF (eOp subD (eOp addD (eV 2) (eLenO 0 r_m_Kind_len (eV 0))) (eC (.int 1)))) (aCons (eF (eV 3)) aNil)))) sNext)
      (sSeq (sSet 7 (eOp ixD (eV 3) (eV 6)))
      (sRet (eTup (aCons (eF (eOp addD (eV 5) (eOp ixD (eV 7) (eC (.int 0))))) (aCons (eF (eOp addD (eOp addD (eSl (eV 3) oNone (oSome (eV 6))) (mb (aCons (eF (eV 0)) (aCons (eF (eSl (eV 7) (oSome (eC (.int 1))) oNone)) aNil)) (callD r_p_parts_of []))) (eSl (eV 3) (oSome (eOp addD (eV 6) (eC (.int 1)))) oNone))) aNil))))))))
noncomputable def r_p_led_open : List SD → Option (R × List SD) := runD 4 d_p_led_open
def sp_p_led_open (K : PySem.W.Frag) (Cc : BW.MR.Cl) : Sp := SpD K Cc 4 r_p_led_open
theorem ok_p_led_open (T : Bi K mg) (D : Df K mg Cc) : Cal P w K mg base CX0 3 "_led_open" s_p_led_open ["kind", "step", "place", "trees"] (sp_p_led_open K Cc) := by
  refine Cal.mk' D.p_led_open (fun _ _ _ _ _ _ us hl => match us, hl with | [_, _, _, _], _ => rfl) fun f fd F => F.ok sc_p_led_open (fun vs H Q E h => h.1) (fun cdv A outer s H vs Q E hr h => ?_)
  refine ⟨_, (pss_cons (ps_asg (pv 1) (pg_any rfl (pgs_cons (pg_name (i := 4) sc_p_led_open.nd rfl (by first | exact Or.inl rfl | exact Or.inr rfl)) (pgs_cons (pg_name (i := 5) sc_p_led_open.nd rfl (by first | exact Or.inl rfl | exact Or.inr rfl)) (pgs_cons (pg_name (i := 6) sc_p_led_open.nd rfl (by first | exact Or.inl rfl | exact Or.inr rfl)) pgs_nil)))))
      (pss_cons (ps_if (pt_cmpR op_lt (pv 2) (pv 5) (nomark _)) (pss_one (ps_ret (n_tup (pa_cons (pv 2) (pa_cons (pv 3) pa_nil))))) pss_nil)
      (pss_cons (ps_if (pt_cmpR op_gt (pv 2) (pv 5) (nomark _)) (pss_one (ps_ret (n_tup (pa_cons (pe_op o_sub (pe_op o_add (pv 2) (pe_lenM (ok_m_Kind_len (Cc := Cc) T D) (hr.mono (by decide)) pass0 (by rfl) T.b_len (pv 0))) pe_int) (pa_cons (pv 3) pa_nil))))) pss_nil)
      (pss_cons (ps_set (i := 7) sc_p_led_open.nd rfl (by first | exact Or.inl rfl | exact Or.inr rfl) (pe_ix ix_seq (pv 3) (pv 6) (fun _ _ => rfl)))
      (pss_one (ps_ret (n_tup (pa_cons (pe_op o_add (pv 5) (pe_ix ix_seq (pv 7) pe_int (fun _ _ => rfl))) (pa_cons (pe_op o_add (pe_op o_add (pe_slice s_any (pv 3) po_none (po_some (pv 6))) (pe_own (ok_p_parts_of (Cc := Cc) T D) (hr.mono (by decide)) (by rfl) pass0 (pa_cons (pv 0) (pa_cons (pe_slice s_any (pv 7) (po_some pe_int) po_none) pa_nil)))) (pe_slice s_any (pv 3) (po_some (pe_op o_add (pv 6) pe_int)) po_none)) pa_nil))))))))), ?_⟩
  exact fn_sp (m := d_p_led_open) (n := 4) (jsSeq (jsAsg (jV 1) (jgT (jgsC jgN (jgsC jgN (jgsC jgN jgsN)))))
      (jsSeq (jsIf (jtVal (jOp oj_lt (jV 2) (jV 5))) (jsRet (jTup (jaCons (jF (jV 2)) (jaCons (jF (jV 3)) jaNil)))) jsNext)
      (jsSeq (jsIf (jtVal (jOp oj_gt (jV 2) (jV 5))) (jsRet (jTup (jaCons (jF (jOp oj_sub (jOp oj_add (jV 2) (jLenO (jV 0))) jcInt)) (jaCons (jF (jV 3)) jaNil)))) jsNext)
      (jsSeq (jsSet (jOp oj_ix (jV 3) (jV 6)))
      (jsRet (jTup (jaCons (jF (jOp oj_add (jV 5) (jOp oj_ix (jV 7) jcInt))) (jaCons (jF (jOp oj_add (jOp oj_add (jSl (jV 3) joNone (joSome (jV 6))) (jCall (fun _ => .nil) (jaCons (jF (jV 0)) (jaCons (jF (jSl (jV 7) (joSome jcInt) joNone)) jaNil)) (alD (alCons (alCons alNil)) rfl))) (jSl (jV 3) (joSome (jOp oj_add (jV 6) jcInt)) joNone))) jaNil)))))))) rfl h
noncomputable def d_p_led_close : M Fl := (sSeq (sAsg (gT 3 (gsC (gN 4) (gsC (gN 5) (gsC (gN 6) gsN)))) (eV 1))
      (sSeq (sIf (tVal (eOp ltD (eV 2) (eV 5))) (sRet (eTup (aCons (eF (eV 2)) (aCons (eF (eV 3)) aNil)))) sNext)
      (sSeq (sIf (tVal (eOp geD (eV 2) (eOp addD (eV 5) (eLenO 0 r_m_Kind_len (eV 0))))) (sRet (eTup (aCons (eF (eOp addD (eOp subD (eV 2) (eLenO 0 r_m_Kind_len (eV 0))) (eC (.int 1)))) (aCons (eF (eV 3)) aNil)))) sNext)
      (sSeq (sSet 7 (eOp subD (eV 2) (eV 5)))
      (sSeq (sSet 8 (eOp addD (eV 6) (eMeth 0 "within" r_m_Kind_within [] (eV 0) (aCons (eF (eV 7)) aNil))))
      (sSeq (sSet 9 (eOp addD (eTup (aCons (eF (eV 7)) aNil)) (mb (aCons (eF (eSl (eV 3) (oSome (eV 6)) (oSome (eV 8)))) aNil) (callD r_p_row_of []))))
      (sRet (eTup (aCons (eF (eV 5)) (aCons (eF (eOp addD (eOp addD (eSl (eV 3) oNone (oSome (eV 6))) (eLst (aCons (eF (eV 9)) aNil))) (eSl (eV 3) (oSome (eV 8)) oNone))) aNil))))))))))
noncomputable def r_p_led_close : List SD → Option (R × List SD) := runD 6 d_p_led_close
def sp_p_led_close (K : PySem.W.Frag) (Cc : BW.MR.Cl) : Sp := SpD K Cc 4 r_p_led_close
theorem ok_p_led_close (T : Bi K mg) (D : Df K mg Cc) : Cal P w K mg base CX0 4 "_led_close" s_p_led_close ["kind", "step", "place", "trees"] (sp_p_led_close K Cc) := by
  refine Cal.mk' D.p_led_close (fun _ _ _ _ _ _ us hl => match us, hl with | [_, _, _, _], _ => rfl) fun f fd F => F.ok sc_p_led_close (fun vs H Q E h => h.1) (fun cdv A outer s H vs Q E hr h => ?_)
  refine ⟨_, (pss_cons (ps_asg (pv 1) (pg_any rfl (pgs_cons (pg_name (i := 4) sc_p_led_close.nd rfl (by first | exact Or.inl rfl | exact Or.inr rfl)) (pgs_cons (pg_name (i := 5) sc_p_led_close.nd rfl (by first | exact Or.inl rfl | exact Or.inr rfl)) (pgs_cons (pg_name (i := 6) sc_p_led_close.nd rfl (by first | exact Or.inl rfl | exact Or.inr rfl)) pgs_nil)))))
      (pss_cons (ps_if (pt_cmpR op_lt (pv 2) (pv 5) (nomark _)) (pss_one (ps_ret (n_tup (pa_cons (pv 2) (pa_cons (pv 3) pa_nil))))) pss_nil)
      (pss_cons (ps_if (pt_cmpR op_ge (pv 2) (pe_op o_add (pv 5) (pe_lenM (ok_m_Kind_len (Cc := Cc) T D) (hr.mono (by decide)) pass0 (by rfl) T.b_len (pv 0))) (nomark _)) (pss_one (ps_ret (n_tup (pa_cons (pe_op o_add (pe_op o_sub (pv 2) (pe_lenM (ok_m_Kind_len (Cc := Cc) T D) (hr.mono (by decide)) pass0 (by rfl) T.b_len (pv 0))) pe_int) (pa_cons (pv 3) pa_nil))))) pss_nil)
      (pss_cons (ps_set (i := 7) sc_p_led_close.nd rfl (by first | exact Or.inl rfl | exact Or.inr rfl) (pe_op o_sub (pv 2) (pv 5)))
      (pss_cons (ps_set (i := 8) sc_p_led_close.nd rfl (by first | exact Or.inl rfl | exact Or.inr rfl) (pe_op o_add (pv 6) (pe_methM (ok_m_Kind_within (Cc := Cc) T D) D.k_Kind (hr.mono (by decide)) pass0 (pv 0) (pa_cons (pv 7) pa_nil))))
      (pss_cons (ps_set (i := 9) sc_p_led_close.nd rfl (by first | exact Or.inl rfl | exact Or.inr rfl) (pe_op o_add (n_tup (pa_cons (pv 7) pa_nil)) (pe_own (ok_p_row_of (Cc := Cc) T D) (hr.mono (by decide)) (by rfl) pass0 (pa_cons (pe_slice s_any (pv 3) (po_some (pv 6)) (po_some (pv 8))) pa_nil))))
      (pss_one (ps_ret (n_tup (pa_cons (pv 5) (pa_cons (pe_op o_add (pe_op o_add (pe_slice s_any (pv 3) po_none (po_some (pv 6))) (n_lst (pa_cons (pv 9) pa_nil))) (pe_slice s_any (pv 3) (po_some (pv 8)) po_none)) pa_nil))))))))))), ?_⟩
  exact fn_sp (m := d_p_led_close) (n := 6) (jsSeq (jsAsg (jV 1) (jgT (jgsC jgN (jgsC jgN (jgsC jgN jgsN)))))
      (jsSeq (jsIf (jtVal (jOp oj_lt (jV 2) (jV 5))) (jsRet (jTup (jaCons (jF (jV 2)) (jaCons (jF (jV 3)) jaNil)))) jsNext)
      (jsSeq (jsIf (jtVal (jOp oj_ge (jV 2) (jOp oj_add (jV 5) (jLenO (jV 0))))) (jsRet (jTup (jaCons (jF (jOp oj_add (jOp oj_sub (jV 2) (jLenO (jV 0))) jcInt)) (jaCons (jF (jV 3)) jaNil)))) jsNext)
      (jsSeq (jsSet (jOp oj_sub (jV 2) (jV 5)))
      (jsSeq (jsSet (jOp oj_add (jV 6) (jMeth (fun _ => .nil) (jV 0) (jaCons (jF (jV 7)) jaNil) (alM (alCons alNil) rfl))))
      (jsSeq (jsSet (jOp oj_add (jTup (jaCons (jF (jV 7)) jaNil)) (jCall (fun _ => .nil) (jaCons (jF (jSl (jV 3) (joSome (jV 6)) (joSome (jV 8)))) jaNil) (alD (alCons alNil) rfl))))
      (jsRet (jTup (jaCons (jF (jV 5)) (jaCons (jF (jOp oj_add (jOp oj_add (jSl (jV 3) joNone (joSome (jV 6))) (jLst (jaCons (jF (jV 9)) jaNil))) (jSl (jV 3) (joSome (jV 8)) joNone))) jaNil)))))))))) rfl h
noncomputable def d_p_led_by : M Fl := (sSeq (sIf (tVal (eOp eqD (eOp ixD (eUno (eV 1)) (eC (.int 0))) (eC (.str (Str.ofString "order"))))) (sRet (eTup (aCons (eF (eOix (eV 1) (aCons (eF (eV 2)) aNil))) (aCons (eF (eV 3)) aNil)))) sNext)
      (sSeq (sIf (tVal (eOp eqD (eOp ixD (eUno (eV 1)) (eC (.int 0))) (eC (.str (Str.ofString "open"))))) (sRet (mb (aCons (eF (eV 0)) (aCons (eF (eV 1)) (aCons (eF (eV 2)) (aCons (eF (eV 3)) aNil)))) (callD r_p_led_open []))) sNext)
      (sRet (mb (aCons (eF (eV 0)) (aCons (eF (eV 1)) (aCons (eF (eV 2)) (aCons (eF (eV 3)) aNil)))) (callD r_p_led_close [])))))
noncomputable def r_p_led_by : List SD → Option (R × List SD) := runD 0 d_p_led_by
def sp_p_led_by (K : PySem.W.Frag) (Cc : BW.MR.Cl) : Sp := SpD K Cc 4 r_p_led_by
theorem ok_p_led_by (T : Bi K mg) (D : Df K mg Cc) : Cal P w K mg base CX0 5 "led_by" s_p_led_by ["kind", "step", "place", "trees"] (sp_p_led_by K Cc) := by
  refine Cal.mk' D.p_led_by (fun _ _ _ _ _ _ us hl => match us, hl with | [_, _, _, _], _ => rfl) fun f fd F => F.ok sc_p_led_by (fun vs H Q E h => h.1) (fun cdv A outer s H vs Q E hr h => ?_)
  refine ⟨_, (pss_cons (ps_if (pt_cmpR (o_eq hr.units) (pe_ix ix_seq (pv 1) pe_int (fun _ _ => rfl)) pe_str (nomark _)) (pss_one (ps_ret (n_tup (pa_cons (ORD.pe_bmP PySem.F.slot_tuple_index PySem.F.type_tuple_index TIX.mt_ixT (pe_ix ix_seq (pv 1) pe_int (fun _ _ => rfl)) (pa_cons (pv 2) pa_nil)) (pa_cons (pv 3) pa_nil))))) pss_nil)
      (pss_cons (ps_if (pt_cmpR (o_eq hr.units) (pe_ix ix_seq (pv 1) pe_int (fun _ _ => rfl)) pe_str (nomark _)) (pss_one (ps_ret (pe_own (ok_p_led_open (Cc := Cc) T D) (hr.mono (by decide)) (by rfl) pass0 (pa_cons (pv 0) (pa_cons (pv 1) (pa_cons (pv 2) (pa_cons (pv 3) pa_nil))))))) pss_nil)
      (pss_one (ps_ret (pe_own (ok_p_led_close (Cc := Cc) T D) (hr.mono (by decide)) (by rfl) pass0 (pa_cons (pv 0) (pa_cons (pv 1) (pa_cons (pv 2) (pa_cons (pv 3) pa_nil))))))))), ?_⟩
  exact fn_sp (m := d_p_led_by) (n := 0) (jsSeq (jsIf (jtVal (jOp oj_eq (jOp oj_ix (jUno (jV 1)) jcInt) jcStr)) (jsRet (jTup (jaCons (jF (jOix (jV 1) (jaCons (jF (jV 2)) jaNil))) (jaCons (jF (jV 3)) jaNil)))) jsNext)
      (jsSeq (jsIf (jtVal (jOp oj_eq (jOp oj_ix (jUno (jV 1)) jcInt) jcStr)) (jsRet (jCall (fun _ => .nil) (jaCons (jF (jV 0)) (jaCons (jF (jV 1)) (jaCons (jF (jV 2)) (jaCons (jF (jV 3)) jaNil)))) (alD (alCons (alCons (alCons (alCons alNil)))) rfl))) jsNext)
      (jsRet (jCall (fun _ => .nil) (jaCons (jF (jV 0)) (jaCons (jF (jV 1)) (jaCons (jF (jV 2)) (jaCons (jF (jV 3)) jaNil)))) (alD (alCons (alCons (alCons (alCons alNil)))) rfl))))) rfl h
noncomputable def d_p_led_along : M Fl := (sSeq (sAsg (gT 2 (gsC (gN 3) (gsC (gN 4) gsN))) (eV 2))
      (sSeq (sSet 5 (mb (aCons (eF (eV 0)) (aCons (eF (eV 4)) aNil)) (callD r_p_parts_of [])))
      (sSeq (sFor (iSeqD (eV 1)) (gN 6) (sAsg (gT 2 (gsC (gN 3) (gsC (gN 5) gsN))) (mb (aCons (eF (eV 0)) (aCons (eF (eV 6)) (aCons (eF (eV 3)) (aCons (eF (eV 5)) aNil)))) (callD r_p_led_by []))))
      (sRet (eTup (aCons (eF (eV 3)) (aCons (eF (mb (aCons (eF (eV 5)) aNil) (callD r_p_row_of []))) aNil)))))))
noncomputable def r_p_led_along : List SD → Option (R × List SD) := runD 4 d_p_led_along
def sp_p_led_along (K : PySem.W.Frag) (Cc : BW.MR.Cl) : Sp := SpD K Cc 3 r_p_led_along
theorem ok_p_led_along (T : Bi K mg) (D : Df K mg Cc) : Cal P w K mg base CX0 6 "led_along" s_p_led_along ["kind", "steps", "thing"] (sp_p_led_along K Cc) := by
  refine Cal.mk' D.p_led_along (fun _ _ _ _ _ _ us hl => match us, hl with | [_, _, _], _ => rfl) fun f fd F => F.ok sc_p_led_along (fun vs H Q E h => h.1) (fun cdv A outer s H vs Q E hr h => ?_)
  refine ⟨_, (pss_cons (ps_asg (pv 2) (pg_any rfl (pgs_cons (pg_name (i := 3) sc_p_led_along.nd rfl (by first | exact Or.inl rfl | exact Or.inr rfl)) (pgs_cons (pg_name (i := 4) sc_p_led_along.nd rfl (by first | exact Or.inl rfl | exact Or.inr rfl)) pgs_nil))))
      (pss_cons (ps_set (i := 5) sc_p_led_along.nd rfl (by first | exact Or.inl rfl | exact Or.inr rfl) (pe_own (ok_p_parts_of (Cc := Cc) T D) (hr.mono (by decide)) (by rfl) pass0 (pa_cons (pv 0) (pa_cons (pv 4) pa_nil))))
      (pss_cons (ps_for PassesOwn.never rfl (pi_seq (pv 1)) (pg_name (i := 6) sc_p_led_along.nd rfl (by first | exact Or.inl rfl | exact Or.inr rfl)) (pss_one (ps_asg (pe_own (ok_p_led_by (Cc := Cc) T D) (hr.mono (by decide)) (by rfl) pass0 (pa_cons (pv 0) (pa_cons (pv 6) (pa_cons (pv 3) (pa_cons (pv 5) pa_nil))))) (pg_any rfl (pgs_cons (pg_name (i := 3) sc_p_led_along.nd rfl (by first | exact Or.inl rfl | exact Or.inr rfl)) (pgs_cons (pg_name (i := 5) sc_p_led_along.nd rfl (by first | exact Or.inl rfl | exact Or.inr rfl)) pgs_nil))))))
      (pss_one (ps_ret (n_tup (pa_cons (pv 3) (pa_cons (pe_own (ok_p_row_of (Cc := Cc) T D) (hr.mono (by decide)) (by rfl) pass0 (pa_cons (pv 5) pa_nil)) pa_nil)))))))), ?_⟩
  exact fn_sp (m := d_p_led_along) (n := 4) (jsSeq (jsAsg (jV 2) (jgT (jgsC jgN (jgsC jgN jgsN))))
      (jsSeq (jsSet (jCall (fun _ => .nil) (jaCons (jF (jV 0)) (jaCons (jF (jV 4)) jaNil)) (alD (alCons (alCons alNil)) rfl)))
      (jsSeq (jsFor (jiSeq (jV 1)) jgN (jsAsg (jCall (fun _ => .nil) (jaCons (jF (jV 0)) (jaCons (jF (jV 6)) (jaCons (jF (jV 3)) (jaCons (jF (jV 5)) jaNil)))) (alD (alCons (alCons (alCons (alCons alNil)))) rfl)) (jgT (jgsC jgN (jgsC jgN jgsN)))))
      (jsRet (jTup (jaCons (jF (jV 3)) (jaCons (jF (jCall (fun _ => .nil) (jaCons (jF (jV 5)) jaNil) (alD (alCons alNil) rfl))) jaNil))))))) rfl h
noncomputable def d_p_led_to : M Fl := (sSeq (sDrop (mb (aCons (eF (eV 0)) (aCons (eF (eV 1)) (aCons (eF (eV 2)) aNil))) (callD r_p_rack_after [])))
      (sSeq (sDrop (mb (aCons (eF (eV 0)) (aCons (eF (eV 1)) (aCons (eF (eV 3)) aNil))) (callD r_p_need_thing [])))
      (sRet (mb (aCons (eF (eV 0)) (aCons (eF (eLst (aCons (eF (eV 2)) aNil))) (aCons (eF (eV 3)) aNil))) (callD r_p_led_along [])))))
noncomputable def r_p_led_to : List SD → Option (R × List SD) := runD 0 d_p_led_to
def sp_p_led_to (K : PySem.W.Frag) (Cc : BW.MR.Cl) : Sp := SpD K Cc 4 r_p_led_to
theorem ok_p_led_to (T : Bi K mg) (D : Df K mg Cc) : Cal P w K mg base CX0 8 "led_to" s_p_led_to ["kind", "rack", "step", "thing"] (sp_p_led_to K Cc) := by
  refine Cal.mk' D.p_led_to (fun _ _ _ _ _ _ us hl => match us, hl with | [_, _, _, _], _ => rfl) fun f fd F => F.ok sc_p_led_to (fun vs H Q E h => h.1) (fun cdv A outer s H vs Q E hr h => ?_)
  refine ⟨_, (pss_cons (ps_expr (pe_own (ok_p_rack_after (Cc := Cc) T D) (hr.mono (by decide)) (by rfl) pass0 (pa_cons (pv 0) (pa_cons (pv 1) (pa_cons (pv 2) pa_nil)))))
      (pss_cons (ps_expr (pe_own (ok_p_need_thing (Cc := Cc) T D) (hr.mono (by decide)) (by rfl) pass0 (pa_cons (pv 0) (pa_cons (pv 1) (pa_cons (pv 3) pa_nil)))))
      (pss_one (ps_ret (pe_own (ok_p_led_along (Cc := Cc) T D) (hr.mono (by decide)) (by rfl) pass0 (pa_cons (pv 0) (pa_cons (n_lst (pa_cons (pv 2) pa_nil)) (pa_cons (pv 3) pa_nil)))))))), ?_⟩
  exact fn_sp (m := d_p_led_to) (n := 0) (jsSeq (jsDrop (jCall (fun _ => .nil) (jaCons (jF (jV 0)) (jaCons (jF (jV 1)) (jaCons (jF (jV 2)) jaNil))) (alD (alCons (alCons (alCons alNil))) rfl)))
      (jsSeq (jsDrop (jCall (fun _ => .nil) (jaCons (jF (jV 0)) (jaCons (jF (jV 1)) (jaCons (jF (jV 3)) jaNil))) (alD (alCons (alCons (alCons alNil))) rfl)))
      (jsRet (jCall (fun _ => .nil) (jaCons (jF (jV 0)) (jaCons (jF (jLst (jaCons (jF (jV 2)) jaNil))) (jaCons (jF (jV 3)) jaNil))) (alD (alCons (alCons (alCons alNil))) rfl))))) rfl h
noncomputable def d_p_led_back : M Fl := (sSeq (sDrop (mb (aCons (eF (eV 0)) (aCons (eF (mb (aCons (eF (eV 0)) (aCons (eF (eV 1)) (aCons (eF (eV 2)) aNil))) (callD r_p_rack_after []))) (aCons (eF (eV 3)) aNil))) (callD r_p_need_thing [])))
      (sRet (mb (aCons (eF (eV 0)) (aCons (eF (eLst (aCons (eF (mb (aCons (eF (eV 2)) aNil) (callD r_p_way_back []))) aNil))) (aCons (eF (eV 3)) aNil))) (callD r_p_led_along []))))
noncomputable def r_p_led_back : List SD → Option (R × List SD) := runD 0 d_p_led_back
def sp_p_led_back (K : PySem.W.Frag) (Cc : BW.MR.Cl) : Sp := SpD K Cc 4 r_p_led_back
theorem ok_p_led_back (T : Bi K mg) (D : Df K mg Cc) : Cal P w K mg base CX0 8 "led_back" s_p_led_back ["kind", "rack", "step", "thing"] (sp_p_led_back K Cc) := by
  refine Cal.mk' D.p_led_back (fun _ _ _ _ _ _ us hl => match us, hl with | [_, _, _, _], _ => rfl) fun f fd F => F.ok sc_p_led_back (fun vs H Q E h => h.1) (fun cdv A outer s H vs Q E hr h => ?_)
  refine ⟨_, (pss_cons (ps_expr (pe_own (ok_p_need_thing (Cc := Cc) T D) (hr.mono (by decide)) (by rfl) pass0 (pa_cons (pv 0) (pa_cons (pe_own (ok_p_rack_after (Cc := Cc) T D) (hr.mono (by decide)) (by rfl) pass0 (pa_cons (pv 0) (pa_cons (pv 1) (pa_cons (pv 2) pa_nil)))) (pa_cons (pv 3) pa_nil)))))
      (pss_one (ps_ret (pe_own (ok_p_led_along (Cc := Cc) T D) (hr.mono (by decide)) (by rfl) pass0 (pa_cons (pv 0) (pa_cons (n_lst (pa_cons (pe_own (ok_p_way_back (Cc := Cc) T D) (hr.mono (by decide)) (by rfl) pass0 (pa_cons (pv 2) pa_nil)) pa_nil)) (pa_cons (pv 3) pa_nil))))))), ?_⟩
  exact fn_sp (m := d_p_led_back) (n := 0) (jsSeq (jsDrop (jCall (fun _ => .nil) (jaCons (jF (jV 0)) (jaCons (jF (jCall (fun _ => .nil) (jaCons (jF (jV 0)) (jaCons (jF (jV 1)) (jaCons (jF (jV 2)) jaNil))) (alD (alCons (alCons (alCons alNil))) rfl))) (jaCons (jF (jV 3)) jaNil))) (alD (alCons (alCons (alCons alNil))) rfl)))
      (jsRet (jCall (fun _ => .nil) (jaCons (jF (jV 0)) (jaCons (jF (jLst (jaCons (jF (jCall (fun _ => .nil) (jaCons (jF (jV 2)) jaNil) (alD (alCons alNil) rfl))) jaNil))) (jaCons (jF (jV 3)) jaNil))) (alD (alCons (alCons (alCons alNil))) rfl)))) rfl h
open BW BW.MR
noncomputable def d_closed : M Fl := (sSeq (sSet 3 (eFn lstD (aCons (eSl (eV 1) (oSome (eV 2)) (oSome (eOp addD (eV 2) (eFn lenD (aCons (eV 0) aNil))))) aNil)))
      (sSeq (sIf (tVal (eOp ltD (eFn lenD (aCons (eV 3) aNil)) (eFn lenD (aCons (eV 0) aNil)))) (sRet (eC (.int 0))) sNext)
      (sSeq (sSet 4 (eOp addD (eOp subD (eOp ixD (eV 3) (eC (.int 0))) (eOp ixD (eV 0) (eC (.int 0)))) (eC (.int 1))))
      (sSeq (sIf (tstOr (tVal (eOp ltD (eV 4) (eC (.int 1)))) (tVal (eOp neD (eV 3) (eLc (iSeqD (eV 0)) [5] (gN 5) (fun τ => some (true, τ)) (eOp addD (eOp subD (eV 4) (eC (.int 1))) (eV 5)))))) (sRet (eC (.int 0))) sNext)
      (sRet (eV 4))))))
noncomputable def r_closed : List SD → Option (R × List SD) := runD 3 d_closed
def sp_closed (K : PySem.W.Frag) (Cc : BW.MR.Cl) : Sp := SpD K Cc 3 r_closed
theorem ok_closed (T : Bi K mg) (D : Df K mg Cc) : Cal P w K mg base CX0 1 "_law_closed" s_closed ["_law_within_here", "_law_rack", "_law_place"] (sp_closed K Cc) := by
  refine Cal.mk' D.closed (fun _ _ _ _ _ _ us hl => match us, hl with | [_, _, _], _ => rfl) fun f fd F => F.ok sc_closed (fun vs H Q E h => h.1) (fun cdv A outer s H vs Q E hr h => ?_)
  refine ⟨_, (pss_cons (ps_set (i := 3) sc_closed.nd rfl (by first | exact Or.inl rfl | exact Or.inr rfl) (pe_callTy c_list (by rfl) T.b_list (by decide +kernel) (pa_cons (pe_slice s_any (pv 1) (po_some (pv 2)) (po_some (pe_op o_add (pv 2) (pe_callB call_len (by rfl) T.b_len (by decide +kernel) (pa_cons (pv 0) pa_nil))))) pa_nil)))
      (pss_cons (ps_if (pt_cmpR op_lt (pe_callB call_len (by rfl) T.b_len (by decide +kernel) (pa_cons (pv 3) pa_nil)) (pe_callB call_len (by rfl) T.b_len (by decide +kernel) (pa_cons (pv 0) pa_nil)) (nomark _)) (pss_one (ps_ret pe_int)) pss_nil)
      (pss_cons (ps_set (i := 4) sc_closed.nd rfl (by first | exact Or.inl rfl | exact Or.inr rfl) (pe_op o_add (pe_op o_sub (pe_ix ix_seq (pv 3) pe_int (fun _ _ => rfl)) (pe_ix ix_seq (pv 0) pe_int (fun _ _ => rfl))) pe_int))
      (pss_cons (ps_if (PW.pt (pw_or (pt_cmpR op_lt (pv 4) pe_int (nomark _)) (pw_or1 (pt_cmpR (o_ne hr.units) (pv 3) (pe_lc (own := [("_law_one", 5)]) (by rfl) sc_closed.nd (pi_seq (pv 0)) (blkOk_by (own := [("_law_one", 5)]) (N := N_closed) (sc := defScope s_closed) (by decide +kernel)) (fun _ _ _ _ _ => (pg_name (i := 5) sc_closed.nd rfl (by first | exact Or.inl rfl | exact Or.inr rfl))) (fun _ _ _ _ _ => pts_nil) (fun _ _ _ _ _ => (pe_op (show OpR _ _ (rPlus K) from o_add) (pe_op o_sub (pv 4) pe_int) (pv 5)))) (nomark _))))) (pss_one (ps_ret pe_int)) pss_nil)
      (pss_one (ps_ret (pv 4))))))), ?_⟩
  exact fn_sp (m := d_closed) (n := 3) (jsSeq (jsSet (jFn fj_lst (jaCons (jSl (jV 1) (joSome (jV 2)) (joSome (jOp oj_add (jV 2) (jFn fj_len (jaCons (jV 0) jaNil))))) jaNil)))
      (jsSeq (jsIf (jtVal (jOp oj_lt (jFn fj_len (jaCons (jV 3) jaNil)) (jFn fj_len (jaCons (jV 0) jaNil)))) (jsRet jcInt) jsNext)
      (jsSeq (jsSet (jOp oj_add (jOp oj_sub (jOp oj_ix (jV 3) jcInt) (jOp oj_ix (jV 0) jcInt)) jcInt))
      (jsSeq (jsIf (jtOr (jtVal (jOp oj_lt (jV 4) jcInt)) (jtVal (jOp oj_ne (jV 3) (jLc (vs := [5]) (jiSeq (jV 0)) (jwN (by decide)) jtYes (jOp oj_add (jOp oj_sub (jV 4) jcInt) (jV 5)) (wipe_wipe _))))) (jsRet jcInt) jsNext)
      (jsRet (jV 4)))))) rfl h
noncomputable def d_step : M Fl := (sSeq (sSet 3 (mb (aCons (eV 0) (aCons (eF (eC (.int 4))) aNil)) (callD r_digit [])))
      (sSeq (sSet 4 (eFn lenD (aCons (eV 2) aNil)))
      (sSeq (sSet 5 (eOp ixD (eLst (aCons (eF (mb (aCons (eV 0) (aCons (eF (eV 4)) aNil)) (callD r_digit []))) (aCons (eF (eOp subD (eV 4) (eC (.int 1)))) (aCons (eF (eC (.int 0))) (aCons (eF (eOp fdvD (eV 4) (eC (.int 2)))) aNil))))) (mb (aCons (eV 0) (aCons (eF (eC (.int 4))) aNil)) (callD r_digit []))))
      (sSeq (sSet 6 (eLc (iRng1D (aCons (eV 4) aNil)) [7] (gN 7) (tVal (eOp gtD (mb (aCons (eF (eV 1)) (aCons (eF (eV 2)) (aCons (eF (eV 7)) aNil))) (callD r_closed [])) (eC (.int 0)))) (eV 7)))
      (sSeq (sIf (tstAnd (tVal (eOp eqD (eV 3) (eC (.int 0)))) (tVal (eOp neD (eV 6) (eLst aNil)))) (sSeq (sSet 7 (eOp ixD (eV 6) (mb (aCons (eV 0) (aCons (eF (eFn lenD (aCons (eV 6) aNil))) aNil)) (callD r_digit []))))
      (sRet (eTup (aCons (eF (eC (.str (Str.ofString "close")))) (aCons (eF (eV 7)) (aCons (eF (mb (aCons (eV 0) (aCons (eF (mb (aCons (eF (eV 1)) (aCons (eF (eV 2)) (aCons (eF (eV 7)) aNil))) (callD r_closed []))) aNil)) (callD r_digit []))) aNil)))))) sNext)
      (sSeq (sSet 8 (eLc (iSeqD (eOp addD (eLrg2 (eV 5) (eV 4)) (eLstRg (eV 5)))) [7] (gN 7) (tVal (eOp gtD (eOp ixD (eV 2) (eV 7)) (eC (.int 0)))) (eV 7)))
      (sSeq (sIf (tstAnd (tVal (eOp ltD (eV 3) (eC (.int 3)))) (tstAnd (tVal (eOp neD (eV 8) (eLst aNil))) (tVal (eOp ltD (eV 4) (eC (.int 430)))))) (sRet (eTup (aCons (eF (eC (.str (Str.ofString "open")))) (aCons (eF (eOp ixD (eV 8) (eC (.int 0)))) (aCons (eF (mb (aCons (eV 0) (aCons (eF (eOp ixD (eV 2) (eOp ixD (eV 8) (eC (.int 0))))) aNil)) (callD r_digit []))) aNil))))) sNext)
      (sSeq (sSet 9 (eLstRg (eV 4)))
      (sRet (eOrd (eOp ixD (eLst (aCons (eF (eRevA (eV 9))) (aCons (eF (eOp addD (eSl (eV 9) (oSome (eV 5)) oNone) (eSl (eV 9) oNone (oSome (eV 5))))) aNil))) (eOp modD (eV 3) (eC (.int 2))))))))))))))
noncomputable def r_step : List SD → Option (R × List SD) := runD 7 d_step
def sp_step (K : PySem.W.Frag) (Cc : BW.MR.Cl) : Sp := SpD K Cc 3 r_step
theorem ok_step (T : Bi K mg) (D : Df K mg Cc) : Cal P w K mg base CX0 2 "_law_step" s_step ["_law_state", "_law_within_here", "_law_rack"] (sp_step K Cc) := by
  refine Cal.mk' D.step (fun _ _ _ _ _ _ us hl => match us, hl with | [_, _, _], _ => rfl) fun f fd F => F.ok sc_step (fun vs H Q E h => h.1) (fun cdv A outer s H vs Q E hr h => ?_)
  refine ⟨_, (pss_cons (ps_set (i := 3) sc_step.nd rfl (by first | exact Or.inl rfl | exact Or.inr rfl) (pe_own (ok_digit (Cc := Cc) T D) (hr.mono (by decide)) (by rfl) pass0 (pa_cons (pv 0) (pa_cons pe_int pa_nil))))
      (pss_cons (ps_set (i := 4) sc_step.nd rfl (by first | exact Or.inl rfl | exact Or.inr rfl) (pe_callB call_len (by rfl) T.b_len (by decide +kernel) (pa_cons (pv 2) pa_nil)))
      (pss_cons (ps_set (i := 5) sc_step.nd rfl (by first | exact Or.inl rfl | exact Or.inr rfl) (pe_ix ix_seq (n_lst (pa_cons (pe_own (ok_digit (Cc := Cc) T D) (hr.mono (by decide)) (by rfl) pass0 (pa_cons (pv 0) (pa_cons (pv 4) pa_nil))) (pa_cons (pe_op o_sub (pv 4) pe_int) (pa_cons pe_int (pa_cons (pe_op o_fdv (pv 4) pe_int) pa_nil))))) (pe_own (ok_digit (Cc := Cc) T D) (hr.mono (by decide)) (by rfl) pass0 (pa_cons (pv 0) (pa_cons pe_int pa_nil))) (fun _ _ => rfl)))
      (pss_cons (ps_setLc (i := 6) (own := [("_law_place", 7)]) (by rfl) sc_step.nd rfl rfl (sw_true rfl rfl rfl (by decide +kernel)) (pi_range1 (by rfl) T.b_range (pa_cons (pv 4) pa_nil)) (blkOk_by (own := [("_law_place", 7)]) (N := N_step) (sc := defScope s_step) (by decide +kernel)) (fun _ _ _ _ _ => (pg_name (i := 7) sc_step.nd rfl (by first | exact Or.inl rfl | exact Or.inr rfl))) (fun _ _ _ _ _ => (pts_one (pt_cmpR op_gt (pe_own (ok_closed (Cc := Cc) T D) (hr.mono (by decide)) (by rfl) pass0 (pa_cons (pv 1) (pa_cons (pv 2) (pa_cons (pv 7) pa_nil)))) pe_int (nomark _)))) (fun _ _ _ _ _ => (pv 7)))
      (pss_cons (ps_if (PW.pt (pw_and (pt_cmpR (o_eq hr.units) (pv 3) pe_int (nomark _)) (pw_and1 (pt_cmpR (o_ne hr.units) (pv 6) (n_lst pa_nil) (nomark _))))) (pss_cons (ps_set (i := 7) sc_step.nd rfl (by first | exact Or.inl rfl | exact Or.inr rfl) (pe_ix ix_seq (pv 6) (pe_own (ok_digit (Cc := Cc) T D) (hr.mono (by decide)) (by rfl) pass0 (pa_cons (pv 0) (pa_cons (pe_callB call_len (by rfl) T.b_len (by decide +kernel) (pa_cons (pv 6) pa_nil)) pa_nil))) (fun _ _ => rfl)))
      (pss_one (ps_ret (n_tup (pa_cons pe_str (pa_cons (pv 7) (pa_cons (pe_own (ok_digit (Cc := Cc) T D) (hr.mono (by decide)) (by rfl) pass0 (pa_cons (pv 0) (pa_cons (pe_own (ok_closed (Cc := Cc) T D) (hr.mono (by decide)) (by rfl) pass0 (pa_cons (pv 1) (pa_cons (pv 2) (pa_cons (pv 7) pa_nil)))) pa_nil))) pa_nil))))))) pss_nil)
      (pss_cons (ps_setLc (i := 8) (own := [("_law_place", 7)]) (by rfl) sc_step.nd rfl rfl (sw_true rfl rfl rfl (by decide +kernel)) (pi_seq (pe_op o_add (pe_listRg (by rfl) (by rfl) T.b_list (prg_2 (by rfl) T.b_range (pv 5) (pv 4))) (pe_listRg (by rfl) (by rfl) T.b_list (prg_1 (by rfl) T.b_range (pv 5))))) (blkOk_by (own := [("_law_place", 7)]) (N := N_step) (sc := defScope s_step) (by decide +kernel)) (fun _ _ _ _ _ => (pg_name (i := 7) sc_step.nd rfl (by first | exact Or.inl rfl | exact Or.inr rfl))) (fun _ _ _ _ _ => (pts_one (pt_cmpR op_gt (pe_ix (show IxR _ (rIx K) from ix_seq) (pv 2) (pv 7) (fun _ _ => rfl)) pe_int (nomark _)))) (fun _ _ _ _ _ => (pv 7)))
      (pss_cons (ps_if (PW.pt (pw_and (pt_cmpR op_lt (pv 3) pe_int (nomark _)) (pw_and (pt_cmpR (o_ne hr.units) (pv 8) (n_lst pa_nil) (nomark _)) (pw_and1 (pt_cmpR op_lt (pv 4) pe_int (nomark _)))))) (pss_one (ps_ret (n_tup (pa_cons pe_str (pa_cons (pe_ix ix_seq (pv 8) pe_int (fun _ _ => rfl)) (pa_cons (pe_own (ok_digit (Cc := Cc) T D) (hr.mono (by decide)) (by rfl) pass0 (pa_cons (pv 0) (pa_cons (pe_ix ix_seq (pv 2) (pe_ix ix_seq (pv 8) pe_int (fun _ _ => rfl)) (fun _ _ => rfl)) pa_nil))) pa_nil)))))) pss_nil)
      (pss_cons (ps_set (i := 9) sc_step.nd rfl (by first | exact Or.inl rfl | exact Or.inr rfl) (pe_listRg (by rfl) (by rfl) T.b_list (prg_1 (by rfl) T.b_range (pv 4))))
      (pss_one (ps_ret (n_tup (pa_cons pe_str (pa_cons (pe_callTy ORD.cr_tupO (by rfl) T.b_tuple (by decide +kernel) (pa_cons (pe_ix ix_seq (n_lst (pa_cons (RVT.pe_revA (pv 9)) (pa_cons (pe_op o_add (pe_slice s_any (pv 9) (po_some (pv 5)) po_none) (pe_slice s_any (pv 9) po_none (po_some (pv 5)))) pa_nil))) (pe_op o_mod (pv 3) pe_int) (fun _ _ => rfl)) pa_nil)) pa_nil))))))))))))), ?_⟩
  exact fn_sp (m := d_step) (n := 7) (jsSeq (jsSet (jCall (fun _ => .nil) (jaCons (jV 0) (jaCons (jF jcInt) jaNil)) (alD (alCons (alCons alNil)) rfl)))
      (jsSeq (jsSet (jFn fj_len (jaCons (jV 2) jaNil)))
      (jsSeq (jsSet (jOp oj_ix (jLst (jaCons (jF (jCall (fun _ => .nil) (jaCons (jV 0) (jaCons (jF (jV 4)) jaNil)) (alD (alCons (alCons alNil)) rfl))) (jaCons (jF (jOp oj_sub (jV 4) jcInt)) (jaCons (jF jcInt) (jaCons (jF (jOp oj_fdv (jV 4) jcInt)) jaNil))))) (jCall (fun _ => .nil) (jaCons (jV 0) (jaCons (jF jcInt) jaNil)) (alD (alCons (alCons alNil)) rfl))))
      (jsSeq (jsSet (jLc (vs := [7]) (jiRng1 (jaCons (jV 4) jaNil)) (jwN (by decide)) (jtVal (jOp oj_gt (jCall (fun _ => .nil) (jaCons (jF (jV 1)) (jaCons (jF (jV 2)) (jaCons (jF (jV 7)) jaNil))) (alD (alCons (alCons (alCons alNil))) rfl)) jcInt)) (jV 7) (wipe_wipe _)))
      (jsSeq (jsIf (jtAnd (jtVal (jOp oj_eq (jV 3) jcInt)) (jtVal (jOp oj_ne (jV 6) (jLst jaNil)))) (jsSeq (jsSet (jOp oj_ix (jV 6) (jCall (fun _ => .nil) (jaCons (jV 0) (jaCons (jF (jFn fj_len (jaCons (jV 6) jaNil))) jaNil)) (alD (alCons (alCons alNil)) rfl))))
      (jsRet (jTup (jaCons (jF jcStr) (jaCons (jF (jV 7)) (jaCons (jF (jCall (fun _ => .nil) (jaCons (jV 0) (jaCons (jF (jCall (fun _ => .nil) (jaCons (jF (jV 1)) (jaCons (jF (jV 2)) (jaCons (jF (jV 7)) jaNil))) (alD (alCons (alCons (alCons alNil))) rfl))) jaNil)) (alD (alCons (alCons alNil)) rfl))) jaNil)))))) jsNext)
      (jsSeq (jsSet (jLc (vs := [7]) (jiSeq (jOp oj_add (jLrg2 (jV 5) (jV 4)) (jLstRg (jV 5)))) (jwN (by decide)) (jtVal (jOp oj_gt (jOp oj_ix (jV 2) (jV 7)) jcInt)) (jV 7) (wipe_wipe _)))
      (jsSeq (jsIf (jtAnd (jtVal (jOp oj_lt (jV 3) jcInt)) (jtAnd (jtVal (jOp oj_ne (jV 8) (jLst jaNil))) (jtVal (jOp oj_lt (jV 4) jcInt)))) (jsRet (jTup (jaCons (jF jcStr) (jaCons (jF (jOp oj_ix (jV 8) jcInt)) (jaCons (jF (jCall (fun _ => .nil) (jaCons (jV 0) (jaCons (jF (jOp oj_ix (jV 2) (jOp oj_ix (jV 8) jcInt))) jaNil)) (alD (alCons (alCons alNil)) rfl))) jaNil))))) jsNext)
      (jsSeq (jsSet (jLstRg (jV 4)))
      (jsRet (jOrd (jOp oj_ix (jLst (jaCons (jF (jRevA (jV 9))) (jaCons (jF (jOp oj_add (jSl (jV 9) (joSome (jV 5)) joNone) (jSl (jV 9) joNone (joSome (jV 5))))) jaNil))) (jOp oj_mod (jV 3) jcInt)))))))))))) rfl h
noncomputable def d_after : M Fl := (sSeq (sIf (tVal (eOp eqD (eOp ixD (eUno (eV 2)) (eC (.int 0))) (eC (.str (Str.ofString "order"))))) (sRet (eFn tupD (aCons (eLc (iSeqD (eOp ixD (eUno (eV 2)) (eC (.int 1)))) [3] (gN 3) (fun τ => some (true, τ)) (eOp ixD (eV 1) (eV 3))) aNil))) sNext)
      (sSeq (sSet 3 (eOp ixD (eUno (eV 2)) (eC (.int 1))))
      (sSeq (sIf (tVal (eOp eqD (eOp ixD (eUno (eV 2)) (eC (.int 0))) (eC (.str (Str.ofString "open"))))) (sSeq (sSet 4 (eFn tupD (aCons (eLc (iSeqD (eV 0)) [6] (gN 6) (fun τ => some (true, τ)) (eOp addD (eOp subD (eOp ixD (eV 1) (eV 3)) (eC (.int 1))) (eV 6))) aNil)))
      (sRet (eOp addD (eOp addD (eSl (eV 1) oNone (oSome (eV 3))) (eV 4)) (eSl (eV 1) (oSome (eOp addD (eV 3) (eC (.int 1)))) oNone)))) sNext)
      (sSeq (sSet 5 (eTup (aCons (eF (mb (aCons (eF (eV 0)) (aCons (eF (eV 1)) (aCons (eF (eV 3)) aNil))) (callD r_closed []))) aNil)))
      (sRet (eOp addD (eOp addD (eSl (eV 1) oNone (oSome (eV 3))) (eV 5)) (eSl (eV 1) (oSome (eOp addD (eV 3) (eFn lenD (aCons (eV 0) aNil)))) oNone)))))))
noncomputable def r_after : List SD → Option (R × List SD) := runD 4 d_after
def sp_after (K : PySem.W.Frag) (Cc : BW.MR.Cl) : Sp := SpD K Cc 3 r_after
theorem ok_after (T : Bi K mg) (D : Df K mg Cc) : Cal P w K mg base CX0 2 "_law_after" s_after ["_law_within_here", "_law_rack", "_law_step_here"] (sp_after K Cc) := by
  refine Cal.mk' D.after (fun _ _ _ _ _ _ us hl => match us, hl with | [_, _, _], _ => rfl) fun f fd F => F.ok sc_after (fun vs H Q E h => h.1) (fun cdv A outer s H vs Q E hr h => ?_)
  refine ⟨_, (pss_cons (ps_if (pt_cmpR (o_eq hr.units) (pe_ix ix_seq (pv 2) pe_int (fun _ _ => rfl)) pe_str (nomark _)) (pss_one (ps_ret (pe_callTy c_tuple (by rfl) T.b_tuple (by decide +kernel) (pa_cons (pe_lc (own := [("_law_place", 3)]) (by rfl) sc_after.nd (pi_seq (pe_ix ix_seq (pv 2) pe_int (fun _ _ => rfl))) (blkOk_by (own := [("_law_place", 3)]) (N := N_after) (sc := defScope s_after) (by decide +kernel)) (fun _ _ _ _ _ => (pg_name (i := 3) sc_after.nd rfl (by first | exact Or.inl rfl | exact Or.inr rfl))) (fun _ _ _ _ _ => pts_nil) (fun _ _ _ _ _ => (pe_ix (show IxR _ (rIx K) from ix_seq) (pv 1) (pv 3) (fun _ _ => rfl)))) pa_nil)))) pss_nil)
      (pss_cons (ps_set (i := 3) sc_after.nd rfl (by first | exact Or.inl rfl | exact Or.inr rfl) (pe_ix ix_seq (pv 2) pe_int (fun _ _ => rfl)))
      (pss_cons (ps_if (pt_cmpR (o_eq hr.units) (pe_ix ix_seq (pv 2) pe_int (fun _ _ => rfl)) pe_str (nomark _)) (pss_cons (ps_set (i := 4) sc_after.nd rfl (by first | exact Or.inl rfl | exact Or.inr rfl) (pe_callTy c_tuple (by rfl) T.b_tuple (by decide +kernel) (pa_cons (pe_lc (own := [("_law_one", 6)]) (by rfl) sc_after.nd (pi_seq (pv 0)) (blkOk_by (own := [("_law_one", 6)]) (N := N_after) (sc := defScope s_after) (by decide +kernel)) (fun _ _ _ _ _ => (pg_name (i := 6) sc_after.nd rfl (by first | exact Or.inl rfl | exact Or.inr rfl))) (fun _ _ _ _ _ => pts_nil) (fun _ _ _ _ _ => (pe_op (show OpR _ _ (rPlus K) from o_add) (pe_op o_sub (pe_ix (show IxR _ (rIx K) from ix_seq) (pv 1) (pv 3) (fun _ _ => rfl)) pe_int) (pv 6)))) pa_nil)))
      (pss_one (ps_ret (pe_op o_add (pe_op o_add (pe_slice s_any (pv 1) po_none (po_some (pv 3))) (pv 4)) (pe_slice s_any (pv 1) (po_some (pe_op o_add (pv 3) pe_int)) po_none))))) pss_nil)
      (pss_cons (ps_set (i := 5) sc_after.nd rfl (by first | exact Or.inl rfl | exact Or.inr rfl) (n_tup (pa_cons (pe_own (ok_closed (Cc := Cc) T D) (hr.mono (by decide)) (by rfl) pass0 (pa_cons (pv 0) (pa_cons (pv 1) (pa_cons (pv 3) pa_nil)))) pa_nil)))
      (pss_one (ps_ret (pe_op o_add (pe_op o_add (pe_slice s_any (pv 1) po_none (po_some (pv 3))) (pv 5)) (pe_slice s_any (pv 1) (po_some (pe_op o_add (pv 3) (pe_callB call_len (by rfl) T.b_len (by decide +kernel) (pa_cons (pv 0) pa_nil)))) po_none)))))))), ?_⟩
  exact fn_sp (m := d_after) (n := 4) (jsSeq (jsIf (jtVal (jOp oj_eq (jOp oj_ix (jUno (jV 2)) jcInt) jcStr)) (jsRet (jFn fj_tup (jaCons (jLc (vs := [3]) (jiSeq (jOp oj_ix (jUno (jV 2)) jcInt)) (jwN (by decide)) jtYes (jOp oj_ix (jV 1) (jV 3)) (wipe_wipe _)) jaNil))) jsNext)
      (jsSeq (jsSet (jOp oj_ix (jUno (jV 2)) jcInt))
      (jsSeq (jsIf (jtVal (jOp oj_eq (jOp oj_ix (jUno (jV 2)) jcInt) jcStr)) (jsSeq (jsSet (jFn fj_tup (jaCons (jLc (vs := [6]) (jiSeq (jV 0)) (jwN (by decide)) jtYes (jOp oj_add (jOp oj_sub (jOp oj_ix (jV 1) (jV 3)) jcInt) (jV 6)) (wipe_wipe _)) jaNil)))
      (jsRet (jOp oj_add (jOp oj_add (jSl (jV 1) joNone (joSome (jV 3))) (jV 4)) (jSl (jV 1) (joSome (jOp oj_add (jV 3) jcInt)) joNone)))) jsNext)
      (jsSeq (jsSet (jTup (jaCons (jF (jCall (fun _ => .nil) (jaCons (jF (jV 0)) (jaCons (jF (jV 1)) (jaCons (jF (jV 3)) jaNil))) (alD (alCons (alCons (alCons alNil))) rfl))) jaNil)))
      (jsRet (jOp oj_add (jOp oj_add (jSl (jV 1) joNone (joSome (jV 3))) (jV 5)) (jSl (jV 1) (joSome (jOp oj_add (jV 3) (jFn fj_len (jaCons (jV 0) jaNil)))) joNone))))))) rfl h
noncomputable def d_end_ : M Fl := (sSeq (sSet 3 (eC (.int 1)))
      (sSeq (sWhile (tVal (eOp gtD (eV 3) (eC (.int 0)))) (sSeq (sSet 3 (eOp addD (eOp subD (eV 3) (eC (.int 1))) (eOp ixD (eV 0) (eOp ixD (eV 1) (eV 2)))))
      (sSet 2 (eOp addD (eV 2) (eC (.int 1))))))
      (sRet (eV 2))))
noncomputable def r_end_ : List SD → Option (R × List SD) := runD 1 d_end_
def sp_end_ (K : PySem.W.Frag) (Cc : BW.MR.Cl) : Sp := SpD K Cc 3 r_end_
theorem ok_end_ (T : Bi K mg) (D : Df K mg Cc) : Cal P w K mg base CX0 1 "_law_end" s_end_ ["_law_within_here", "_law_row", "_law_at"] (sp_end_ K Cc) := by
  refine Cal.mk' D.end_ (fun _ _ _ _ _ _ us hl => match us, hl with | [_, _, _], _ => rfl) fun f fd F => F.ok sc_end_ (fun vs H Q E h => h.1) (fun cdv A outer s H vs Q E hr h => ?_)
  refine ⟨_, (pss_cons (ps_set (i := 3) sc_end_.nd rfl (by first | exact Or.inl rfl | exact Or.inr rfl) pe_int)
      (pss_cons (ps_while PassesOwn.never (pt_cmpR op_gt (pv 3) pe_int (nomark _)) (pss_cons (ps_set (i := 3) sc_end_.nd rfl (by first | exact Or.inl rfl | exact Or.inr rfl) (pe_op o_add (pe_op o_sub (pv 3) pe_int) (pe_ix ix_seq (pv 0) (pe_ix ix_seq (pv 1) (pv 2) (fun _ _ => rfl)) (fun _ _ => rfl))))
      (pss_one (ps_set (i := 2) sc_end_.nd rfl (by first | exact Or.inl rfl | exact Or.inr rfl) (pe_op o_add (pv 2) pe_int)))))
      (pss_one (ps_ret (pv 2))))), ?_⟩
  exact fn_sp (m := d_end_) (n := 1) (jsSeq (jsSet jcInt)
      (jsSeq (jsWhile (jtVal (jOp oj_gt (jV 3) jcInt)) (jsSeq (jsSet (jOp oj_add (jOp oj_sub (jV 3) jcInt) (jOp oj_ix (jV 0) (jOp oj_ix (jV 1) (jV 2)))))
      (jsSet (jOp oj_add (jV 2) jcInt))))
      (jsRet (jV 2)))) rfl h
noncomputable def d_spot : M Fl := (sSeq (sSet 3 (eC (.int 0)))
      (sSeq (sFor (iRng1D (aCons (eV 2) aNil)) (gN 4) (sSet 3 (mb (aCons (eF (eV 0)) (aCons (eF (eV 1)) (aCons (eF (eV 3)) aNil))) (callD r_end_ []))))
      (sRet (eV 3))))
noncomputable def r_spot : List SD → Option (R × List SD) := runD 2 d_spot
def sp_spot (K : PySem.W.Frag) (Cc : BW.MR.Cl) : Sp := SpD K Cc 3 r_spot
theorem ok_spot (T : Bi K mg) (D : Df K mg Cc) : Cal P w K mg base CX0 2 "_law_spot" s_spot ["_law_within_here", "_law_row", "_law_slot"] (sp_spot K Cc) := by
  refine Cal.mk' D.spot (fun _ _ _ _ _ _ us hl => match us, hl with | [_, _, _], _ => rfl) fun f fd F => F.ok sc_spot (fun vs H Q E h => h.1) (fun cdv A outer s H vs Q E hr h => ?_)
  refine ⟨_, (pss_cons (ps_set (i := 3) sc_spot.nd rfl (by first | exact Or.inl rfl | exact Or.inr rfl) pe_int)
      (pss_cons (ps_for PassesOwn.never rfl (pi_range1 (by rfl) T.b_range (pa_cons (pv 2) pa_nil)) (pg_name (i := 4) sc_spot.nd rfl (by first | exact Or.inl rfl | exact Or.inr rfl)) (pss_one (ps_set (i := 3) sc_spot.nd rfl (by first | exact Or.inl rfl | exact Or.inr rfl) (pe_own (ok_end_ (Cc := Cc) T D) (hr.mono (by decide)) (by rfl) pass0 (pa_cons (pv 0) (pa_cons (pv 1) (pa_cons (pv 3) pa_nil)))))))
      (pss_one (ps_ret (pv 3))))), ?_⟩
  exact fn_sp (m := d_spot) (n := 2) (jsSeq (jsSet jcInt)
      (jsSeq (jsFor (jiRng1 (jaCons (jV 2) jaNil)) jgN (jsSet (jCall (fun _ => .nil) (jaCons (jF (jV 0)) (jaCons (jF (jV 1)) (jaCons (jF (jV 3)) jaNil))) (alD (alCons (alCons (alCons alNil))) rfl))))
      (jsRet (jV 3)))) rfl h
noncomputable def d_led : M Fl := (sSeq (sAsg (gT 2 (gsC (gN 3) (gsC (gN 4) gsN))) (eV 2))
      (sSeq (sIf (tVal (eOp eqD (eOp ixD (eUno (eV 1)) (eC (.int 0))) (eC (.str (Str.ofString "order"))))) (sRet (eTup (aCons (eF (eOix (eV 1) (aCons (eF (eV 3)) aNil))) (aCons (eF (eV 4)) aNil)))) sNext)
      (sSeq (sAsg (gT 3 (gsC (gN 5) (gsC (gN 6) (gsC (gN 7) gsN)))) (eV 1))
      (sSeq (sSet 8 (eOp subD (eFn lenD (aCons (eV 0) aNil)) (eC (.int 1))))
      (sSeq (sIf (tstAnd (tVal (eOp eqD (eV 5) (eC (.str (Str.ofString "open"))))) (tVal (eOp eqD (eV 3) (eV 6)))) (sSeq (sSet 9 (mb (aCons (eF (eV 0)) (aCons (eF (eV 4)) (aCons (eF (eV 7)) aNil))) (callD r_spot [])))
      (sRet (eTup (aCons (eF (eOp addD (eV 6) (eOp ixD (eV 4) (eV 9)))) (aCons (eF (eOp addD (eSl (eV 4) oNone (oSome (eV 9))) (eSl (eV 4) (oSome (eOp addD (eV 9) (eC (.int 1)))) oNone))) aNil))))) sNext)
      (sSeq (sIf (tVal (eOp eqD (eV 5) (eC (.str (Str.ofString "open"))))) (sRet (eTup (aCons (eF (eOp addD (eV 3) (eOp mulD (eV 8) (eFn intD (aCons (eOp gtD (eV 3) (eV 6)) aNil))))) (aCons (eF (eV 4)) aNil)))) sNext)
      (sSeq (sIf (tVal (eChain leD leD (eV 6) (eV 3) (eOp addD (eV 6) (eV 8)))) (sSeq (sSet 9 (mb (aCons (eF (eV 0)) (aCons (eF (eV 4)) (aCons (eF (eV 7)) aNil))) (callD r_spot [])))
      (sRet (eTup (aCons (eF (eV 6)) (aCons (eF (eOp addD (eOp addD (eSl (eV 4) oNone (oSome (eV 9))) (eTup (aCons (eF (eOp subD (eV 3) (eV 6))) aNil))) (eSl (eV 4) (oSome (eV 9)) oNone))) aNil))))) sNext)
      (sRet (eTup (aCons (eF (eOp subD (eV 3) (eOp mulD (eV 8) (eFn intD (aCons (eOp gtD (eV 3) (eV 6)) aNil))))) (aCons (eF (eV 4)) aNil)))))))))))
noncomputable def r_led : List SD → Option (R × List SD) := runD 7 d_led
def sp_led (K : PySem.W.Frag) (Cc : BW.MR.Cl) : Sp := SpD K Cc 3 r_led
theorem ok_led (T : Bi K mg) (D : Df K mg Cc) : Cal P w K mg base CX0 3 "_law_led" s_led ["_law_within_here", "_law_step_here", "_law_thing_here"] (sp_led K Cc) := by
  refine Cal.mk' D.led (fun _ _ _ _ _ _ us hl => match us, hl with | [_, _, _], _ => rfl) fun f fd F => F.ok sc_led (fun vs H Q E h => h.1) (fun cdv A outer s H vs Q E hr h => ?_)
  refine ⟨_, (pss_cons (ps_asg (pv 2) (pg_any rfl (pgs_cons (pg_name (i := 3) sc_led.nd rfl (by first | exact Or.inl rfl | exact Or.inr rfl)) (pgs_cons (pg_name (i := 4) sc_led.nd rfl (by first | exact Or.inl rfl | exact Or.inr rfl)) pgs_nil))))
      (pss_cons (ps_if (pt_cmpR (o_eq hr.units) (pe_ix ix_seq (pv 1) pe_int (fun _ _ => rfl)) pe_str (nomark _)) (pss_one (ps_ret (n_tup (pa_cons (ORD.pe_bmP PySem.F.slot_tuple_index PySem.F.type_tuple_index TIX.mt_ixT (pe_ix ix_seq (pv 1) pe_int (fun _ _ => rfl)) (pa_cons (pv 3) pa_nil)) (pa_cons (pv 4) pa_nil))))) pss_nil)
      (pss_cons (ps_asg (pv 1) (pg_any rfl (pgs_cons (pg_name (i := 5) sc_led.nd rfl (by first | exact Or.inl rfl | exact Or.inr rfl)) (pgs_cons (pg_name (i := 6) sc_led.nd rfl (by first | exact Or.inl rfl | exact Or.inr rfl)) (pgs_cons (pg_name (i := 7) sc_led.nd rfl (by first | exact Or.inl rfl | exact Or.inr rfl)) pgs_nil)))))
      (pss_cons (ps_set (i := 8) sc_led.nd rfl (by first | exact Or.inl rfl | exact Or.inr rfl) (pe_op o_sub (pe_callB call_len (by rfl) T.b_len (by decide +kernel) (pa_cons (pv 0) pa_nil)) pe_int))
      (pss_cons (ps_if (PW.pt (pw_and (pt_cmpR (o_eq hr.units) (pv 5) pe_str (nomark _)) (pw_and1 (pt_cmpR (o_eq hr.units) (pv 3) (pv 6) (nomark _))))) (pss_cons (ps_set (i := 9) sc_led.nd rfl (by first | exact Or.inl rfl | exact Or.inr rfl) (pe_own (ok_spot (Cc := Cc) T D) (hr.mono (by decide)) (by rfl) pass0 (pa_cons (pv 0) (pa_cons (pv 4) (pa_cons (pv 7) pa_nil)))))
      (pss_one (ps_ret (n_tup (pa_cons (pe_op o_add (pv 6) (pe_ix ix_seq (pv 4) (pv 9) (fun _ _ => rfl))) (pa_cons (pe_op o_add (pe_slice s_any (pv 4) po_none (po_some (pv 9))) (pe_slice s_any (pv 4) (po_some (pe_op o_add (pv 9) pe_int)) po_none)) pa_nil)))))) pss_nil)
      (pss_cons (ps_if (pt_cmpR (o_eq hr.units) (pv 5) pe_str (nomark _)) (pss_one (ps_ret (n_tup (pa_cons (pe_op o_add (pv 3) (pe_op o_mul (pv 8) (pe_callTy call_int1 (by rfl) T.b_int (by decide +kernel) (pa_cons (pe_cmpR op_gt (pv 3) (pv 6) (nomark _)) pa_nil)))) (pa_cons (pv 4) pa_nil))))) pss_nil)
      (pss_cons (ps_if (pt_chain op_le op_le (pv 6) (pv 3) (pe_op o_add (pv 6) (pv 8))) (pss_cons (ps_set (i := 9) sc_led.nd rfl (by first | exact Or.inl rfl | exact Or.inr rfl) (pe_own (ok_spot (Cc := Cc) T D) (hr.mono (by decide)) (by rfl) pass0 (pa_cons (pv 0) (pa_cons (pv 4) (pa_cons (pv 7) pa_nil)))))
      (pss_one (ps_ret (n_tup (pa_cons (pv 6) (pa_cons (pe_op o_add (pe_op o_add (pe_slice s_any (pv 4) po_none (po_some (pv 9))) (n_tup (pa_cons (pe_op o_sub (pv 3) (pv 6)) pa_nil))) (pe_slice s_any (pv 4) (po_some (pv 9)) po_none)) pa_nil)))))) pss_nil)
      (pss_one (ps_ret (n_tup (pa_cons (pe_op o_sub (pv 3) (pe_op o_mul (pv 8) (pe_callTy call_int1 (by rfl) T.b_int (by decide +kernel) (pa_cons (pe_cmpR op_gt (pv 3) (pv 6) (nomark _)) pa_nil)))) (pa_cons (pv 4) pa_nil)))))))))))), ?_⟩
  exact fn_sp (m := d_led) (n := 7) (jsSeq (jsAsg (jV 2) (jgT (jgsC jgN (jgsC jgN jgsN))))
      (jsSeq (jsIf (jtVal (jOp oj_eq (jOp oj_ix (jUno (jV 1)) jcInt) jcStr)) (jsRet (jTup (jaCons (jF (jOix (jV 1) (jaCons (jF (jV 3)) jaNil))) (jaCons (jF (jV 4)) jaNil)))) jsNext)
      (jsSeq (jsAsg (jV 1) (jgT (jgsC jgN (jgsC jgN (jgsC jgN jgsN)))))
      (jsSeq (jsSet (jOp oj_sub (jFn fj_len (jaCons (jV 0) jaNil)) jcInt))
      (jsSeq (jsIf (jtAnd (jtVal (jOp oj_eq (jV 5) jcStr)) (jtVal (jOp oj_eq (jV 3) (jV 6)))) (jsSeq (jsSet (jCall (fun _ => .nil) (jaCons (jF (jV 0)) (jaCons (jF (jV 4)) (jaCons (jF (jV 7)) jaNil))) (alD (alCons (alCons (alCons alNil))) rfl)))
      (jsRet (jTup (jaCons (jF (jOp oj_add (jV 6) (jOp oj_ix (jV 4) (jV 9)))) (jaCons (jF (jOp oj_add (jSl (jV 4) joNone (joSome (jV 9))) (jSl (jV 4) (joSome (jOp oj_add (jV 9) jcInt)) joNone))) jaNil))))) jsNext)
      (jsSeq (jsIf (jtVal (jOp oj_eq (jV 5) jcStr)) (jsRet (jTup (jaCons (jF (jOp oj_add (jV 3) (jOp oj_mul (jV 8) (jFn fj_int (jaCons (jOp oj_gt (jV 3) (jV 6)) jaNil))))) (jaCons (jF (jV 4)) jaNil)))) jsNext)
      (jsSeq (jsIf (jtVal (jChain oj_le oj_le (jV 6) (jV 3) (jOp oj_add (jV 6) (jV 8)))) (jsSeq (jsSet (jCall (fun _ => .nil) (jaCons (jF (jV 0)) (jaCons (jF (jV 4)) (jaCons (jF (jV 7)) jaNil))) (alD (alCons (alCons (alCons alNil))) rfl)))
      (jsRet (jTup (jaCons (jF (jV 6)) (jaCons (jF (jOp oj_add (jOp oj_add (jSl (jV 4) joNone (joSome (jV 9))) (jTup (jaCons (jF (jOp oj_sub (jV 3) (jV 6))) jaNil))) (jSl (jV 4) (joSome (jV 9)) joNone))) jaNil))))) jsNext)
      (jsRet (jTup (jaCons (jF (jOp oj_sub (jV 3) (jOp oj_mul (jV 8) (jFn fj_int (jaCons (jOp oj_gt (jV 3) (jV 6)) jaNil))))) (jaCons (jF (jV 4)) jaNil))))))))))) rfl h
noncomputable def d_tree : M Fl := (sSeq (sSet 3 (eLst aNil))
      (sSeq (sSet 4 (eC (.int 1)))
      (sSeq (sWhile (tVal (eOp gtD (eV 4) (eC (.int 0)))) (sSeq (sSet 5 (mb (aCons (eV 0) (aCons (eF (eFn lenD (aCons (eV 1) aNil))) aNil)) (callD r_digit [])))
      (sSeq (sIf (tVal (eOp gtD (eOp addD (eFn lenD (aCons (eV 3) aNil)) (eV 4)) (eV 2))) (sSet 5 (eBm idxF (eV 1) (aCons (eF (eC (.int 0))) aNil))) sNext)
      (sSeq (sDrop (eApp 3 (aCons (eF (eV 5)) aNil)))
      (sSet 4 (eOp addD (eOp subD (eV 4) (eC (.int 1))) (eOp ixD (eV 1) (eV 5))))))))
      (sRet (eV 3)))))
noncomputable def r_tree : List SD → Option (R × List SD) := runD 3 d_tree
def sp_tree (K : PySem.W.Frag) (Cc : BW.MR.Cl) : Sp := SpD K Cc 3 r_tree
theorem ok_tree (T : Bi K mg) (D : Df K mg Cc) : Cal P w K mg base CX0 2 "_law_tree" s_tree ["_law_state", "_law_within_here", "_law_size"] (sp_tree K Cc) := by
  refine Cal.mk' D.tree (fun _ _ _ _ _ _ us hl => match us, hl with | [_, _, _], _ => rfl) fun f fd F => F.ok sc_tree (fun vs H Q E h => h.1) (fun cdv A outer s H vs Q E hr h => ?_)
  refine ⟨_, (pss_cons (ps_set (i := 3) sc_tree.nd rfl (by first | exact Or.inl rfl | exact Or.inr rfl) (n_lst pa_nil))
      (pss_cons (ps_set (i := 4) sc_tree.nd rfl (by first | exact Or.inl rfl | exact Or.inr rfl) pe_int)
      (pss_cons (ps_while PassesOwn.never (pt_cmpR op_gt (pv 4) pe_int (nomark _)) (pss_cons (ps_set (i := 5) sc_tree.nd rfl (by first | exact Or.inl rfl | exact Or.inr rfl) (pe_own (ok_digit (Cc := Cc) T D) (hr.mono (by decide)) (by rfl) pass0 (pa_cons (pv 0) (pa_cons (pe_callB call_len (by rfl) T.b_len (by decide +kernel) (pa_cons (pv 1) pa_nil)) pa_nil))))
      (pss_cons (ps_if (pt_cmpR op_gt (pe_op o_add (pe_callB call_len (by rfl) T.b_len (by decide +kernel) (pa_cons (pv 3) pa_nil)) (pv 4)) (pv 2) (nomark _)) (pss_one (ps_set (i := 5) sc_tree.nd rfl (by first | exact Or.inl rfl | exact Or.inr rfl) (pe_bm PySem.F.plainAttrs_list PySem.F.slot_list_index PySem.F.type_list_index mt_index (pv 1) (pa_cons pe_int pa_nil)))) pss_nil)
      (pss_cons (ps_expr (pe_bm PySem.F.plainAttrs_list PySem.F.slot_list_append PySem.F.type_list_append mt_append (pv 3) (pa_cons (pv 5) pa_nil)))
      (pss_one (ps_set (i := 4) sc_tree.nd rfl (by first | exact Or.inl rfl | exact Or.inr rfl) (pe_op o_add (pe_op o_sub (pv 4) pe_int) (pe_ix ix_seq (pv 1) (pv 5) (fun _ _ => rfl)))))))))
      (pss_one (ps_ret (pv 3)))))), ?_⟩
  exact fn_sp (m := d_tree) (n := 3) (jsSeq (jsSet (jLst jaNil))
      (jsSeq (jsSet jcInt)
      (jsSeq (jsWhile (jtVal (jOp oj_gt (jV 4) jcInt)) (jsSeq (jsSet (jCall (fun _ => .nil) (jaCons (jV 0) (jaCons (jF (jFn fj_len (jaCons (jV 1) jaNil))) jaNil)) (alD (alCons (alCons alNil)) rfl)))
      (jsSeq (jsIf (jtVal (jOp oj_gt (jOp oj_add (jFn fj_len (jaCons (jV 3) jaNil)) (jV 4)) (jV 2))) (jsSet (jBm r_idx (jV 1) (jaCons (jF jcInt) jaNil))) jsNext)
      (jsSeq (jsDrop (jApp (jaCons (jF (jV 5)) jaNil)))
      (jsSet (jOp oj_add (jOp oj_sub (jV 4) jcInt) (jOp oj_ix (jV 1) (jV 5))))))))
      (jsRet (jV 3))))) rfl h
noncomputable def d_things_right : M Fl := (sSeq (sSet 5 (eLst (aCons (eF (eC (.int 0))) (aCons (eF (eOp subD (eFn lenD (aCons (eV 3) aNil)) (eC (.int 1)))) (aCons (eF (mb (aCons (eV 0) (aCons (eF (eFn lenD (aCons (eV 3) aNil))) aNil)) (callD r_digit []))) aNil)))))
      (sSeq (sIf (tVal (eOp neD (eOp ixD (eUno (eV 4)) (eC (.int 0))) (eC (.str (Str.ofString "order"))))) (sDrop (eApp 5 (aCons (eF (eOp ixD (eUno (eV 4)) (eC (.int 1)))) aNil))) sNext)
      (sSeq (sFor (iSeqD (eV 5)) (gN 6) (sSeq (sSet 7 (eLst aNil))
      (sSeq (sFor (iRng1D (aCons (eOp ixD (eV 3) (eV 6)) aNil)) (gN 8) (sSet 7 (eOp addD (eV 7) (mb (aCons (eV 0) (aCons (eF (eV 2)) (aCons (eF (eOp addD (eC (.int 1)) (mb (aCons (eV 0) (aCons (eF (eC (.int 6))) aNil)) (callD r_digit [])))) aNil))) (callD r_tree [])))))
      (sSeq (sSet 9 (eTup (aCons (eF (eV 6)) (aCons (eF (eFn tupD (aCons (eV 7) aNil))) aNil))))
      (sSeq (sSet 10 (mb (aCons (eF (eV 2)) (aCons (eF (eV 4)) (aCons (eF (eV 9)) aNil))) (callD r_led [])))
      (sIf (tstOr (tVal (eOp neD (mb (aCons (eF (eV 1)) (aCons (eF (eV 3)) (aCons (eF (eV 4)) (aCons (eF (eV 9)) aNil)))) (callD r_p_led_to [])) (eV 10))) (tVal (eOp neD (mb (aCons (eF (eV 1)) (aCons (eF (eV 3)) (aCons (eF (eV 4)) (aCons (eF (eV 10)) aNil)))) (callD r_p_led_back [])) (eV 9)))) (sRet (eC (.bool false))) sNext))))))
      (sRet (eC (.bool true))))))
noncomputable def r_things_right : List SD → Option (R × List SD) := runD 6 d_things_right
def sp_things_right (K : PySem.W.Frag) (Cc : BW.MR.Cl) : Sp := SpD K Cc 5 r_things_right
theorem ok_things_right (T : Bi K mg) (D : Df K mg Cc) : Cal P w K mg base CX0 9 "_law_things_right" s_things_right ["_law_state", "_law_kind", "_law_within_here", "_law_rack", "_law_step_here"] (sp_things_right K Cc) := by
  refine Cal.mk' D.things_right (fun _ _ _ _ _ _ us hl => match us, hl with | [_, _, _, _, _], _ => rfl) fun f fd F => F.ok sc_things_right (fun vs H Q E h => h.1) (fun cdv A outer s H vs Q E hr h => ?_)
  refine ⟨_, (pss_cons (ps_set (i := 5) sc_things_right.nd rfl (by first | exact Or.inl rfl | exact Or.inr rfl) (n_lst (pa_cons pe_int (pa_cons (pe_op o_sub (pe_callB call_len (by rfl) T.b_len (by decide +kernel) (pa_cons (pv 3) pa_nil)) pe_int) (pa_cons (pe_own (ok_digit (Cc := Cc) T D) (hr.mono (by decide)) (by rfl) pass0 (pa_cons (pv 0) (pa_cons (pe_callB call_len (by rfl) T.b_len (by decide +kernel) (pa_cons (pv 3) pa_nil)) pa_nil))) pa_nil)))))
      (pss_cons (ps_if (pt_cmpR (o_ne hr.units) (pe_ix ix_seq (pv 4) pe_int (fun _ _ => rfl)) pe_str (nomark _)) (pss_one (ps_expr (pe_bm PySem.F.plainAttrs_list PySem.F.slot_list_append PySem.F.type_list_append mt_append (pv 5) (pa_cons (pe_ix ix_seq (pv 4) pe_int (fun _ _ => rfl)) pa_nil)))) pss_nil)
      (pss_cons (ps_for PassesOwn.never rfl (pi_seq (pv 5)) (pg_name (i := 6) sc_things_right.nd rfl (by first | exact Or.inl rfl | exact Or.inr rfl)) (pss_cons (ps_set (i := 7) sc_things_right.nd rfl (by first | exact Or.inl rfl | exact Or.inr rfl) (n_lst pa_nil))
      (pss_cons (ps_for PassesOwn.never rfl (pi_range1 (by rfl) T.b_range (pa_cons (pe_ix ix_seq (pv 3) (pv 6) (fun _ _ => rfl)) pa_nil)) (pg_name (i := 8) sc_things_right.nd rfl (by first | exact Or.inl rfl | exact Or.inr rfl)) (pss_one (ps_set (i := 7) sc_things_right.nd rfl (by first | exact Or.inl rfl | exact Or.inr rfl) (pe_op o_add (pv 7) (pe_own (ok_tree (Cc := Cc) T D) (hr.mono (by decide)) (by rfl) pass0 (pa_cons (pv 0) (pa_cons (pv 2) (pa_cons (pe_op o_add pe_int (pe_own (ok_digit (Cc := Cc) T D) (hr.mono (by decide)) (by rfl) pass0 (pa_cons (pv 0) (pa_cons pe_int pa_nil)))) pa_nil))))))))
      (pss_cons (ps_set (i := 9) sc_things_right.nd rfl (by first | exact Or.inl rfl | exact Or.inr rfl) (n_tup (pa_cons (pv 6) (pa_cons (pe_callTy c_tuple (by rfl) T.b_tuple (by decide +kernel) (pa_cons (pv 7) pa_nil)) pa_nil))))
      (pss_cons (ps_set (i := 10) sc_things_right.nd rfl (by first | exact Or.inl rfl | exact Or.inr rfl) (pe_own (ok_led (Cc := Cc) T D) (hr.mono (by decide)) (by rfl) pass0 (pa_cons (pv 2) (pa_cons (pv 4) (pa_cons (pv 9) pa_nil)))))
      (pss_one (ps_if (PW.pt (pw_or (pt_cmpR (o_ne hr.units) (pe_own (ok_p_led_to (Cc := Cc) T D) (hr.mono (by decide)) (by rfl) pass0 (pa_cons (pv 1) (pa_cons (pv 3) (pa_cons (pv 4) (pa_cons (pv 9) pa_nil))))) (pv 10) (nomark _)) (pw_or1 (pt_cmpR (o_ne hr.units) (pe_own (ok_p_led_back (Cc := Cc) T D) (hr.mono (by decide)) (by rfl) pass0 (pa_cons (pv 1) (pa_cons (pv 3) (pa_cons (pv 4) (pa_cons (pv 10) pa_nil))))) (pv 9) (nomark _))))) (pss_one (ps_ret pe_bl)) pss_nil)))))))
      (pss_one (ps_ret pe_bl))))), ?_⟩
  exact fn_sp (m := d_things_right) (n := 6) (jsSeq (jsSet (jLst (jaCons (jF jcInt) (jaCons (jF (jOp oj_sub (jFn fj_len (jaCons (jV 3) jaNil)) jcInt)) (jaCons (jF (jCall (fun _ => .nil) (jaCons (jV 0) (jaCons (jF (jFn fj_len (jaCons (jV 3) jaNil))) jaNil)) (alD (alCons (alCons alNil)) rfl))) jaNil)))))
      (jsSeq (jsIf (jtVal (jOp oj_ne (jOp oj_ix (jUno (jV 4)) jcInt) jcStr)) (jsDrop (jApp (jaCons (jF (jOp oj_ix (jUno (jV 4)) jcInt)) jaNil))) jsNext)
      (jsSeq (jsFor (jiSeq (jV 5)) jgN (jsSeq (jsSet (jLst jaNil))
      (jsSeq (jsFor (jiRng1 (jaCons (jOp oj_ix (jV 3) (jV 6)) jaNil)) jgN (jsSet (jOp oj_add (jV 7) (jCall (fun _ => .nil) (jaCons (jV 0) (jaCons (jF (jV 2)) (jaCons (jF (jOp oj_add jcInt (jCall (fun _ => .nil) (jaCons (jV 0) (jaCons (jF jcInt) jaNil)) (alD (alCons (alCons alNil)) rfl)))) jaNil))) (alD (alCons (alCons (alCons alNil))) rfl)))))
      (jsSeq (jsSet (jTup (jaCons (jF (jV 6)) (jaCons (jF (jFn fj_tup (jaCons (jV 7) jaNil))) jaNil))))
      (jsSeq (jsSet (jCall (fun _ => .nil) (jaCons (jF (jV 2)) (jaCons (jF (jV 4)) (jaCons (jF (jV 9)) jaNil))) (alD (alCons (alCons (alCons alNil))) rfl)))
      (jsIf (jtOr (jtVal (jOp oj_ne (jCall (fun _ => .nil) (jaCons (jF (jV 1)) (jaCons (jF (jV 3)) (jaCons (jF (jV 4)) (jaCons (jF (jV 9)) jaNil)))) (alD (alCons (alCons (alCons (alCons alNil)))) rfl)) (jV 10))) (jtVal (jOp oj_ne (jCall (fun _ => .nil) (jaCons (jF (jV 1)) (jaCons (jF (jV 3)) (jaCons (jF (jV 4)) (jaCons (jF (jV 10)) jaNil)))) (alD (alCons (alCons (alCons (alCons alNil)))) rfl)) (jV 9)))) (jsRet jcBool) jsNext))))))
      (jsRet jcBool)))) rfl h
noncomputable def d_law : M Fl := (sSeq (sFor (iSeqD (eOp addD (eLst (aCons (eF (eC (.int 0))) aNil)) (eSl (eV 0) oNone (oSome (eC (.int 2)))))) (gN 1) (sSeq (sSet 2 (eLst (aCons (eF (eV 1)) aNil)))
      (sSeq (sSet 3 (mb (aCons (eV 2) aNil) (callD r_makers [])))
      (sSeq (sSet 4 (mb (aCons (eF (eV 3)) aNil) (callD r_within [])))
      (sSeq (sSet 5 (eMake 0 r_m_Kind_init (aCons (eF (eV 3)) aNil)))
      (sSeq (sSet 6 (eFn tupD (aCons (eLc (iRng1D (aCons (eOp addD (eC (.int 1)) (mb (aCons (eV 2) (aCons (eF (eOp ixD (eLst (aCons (eF (eC (.int 40))) (aCons (eF (eC (.int 400))) aNil))) (mb (aCons (eV 2) (aCons (eF (eC (.int 2))) aNil)) (callD r_digit [])))) aNil)) (callD r_digit []))) aNil)) [9] (gN 9) (fun τ => some (true, τ)) (mb (aCons (eV 2) (aCons (eF (eC (.int 4))) aNil)) (callD r_digit []))) aNil)))
      (sSeq (sSet 7 (eV 6))
      (sSeq (sSet 8 (eLst aNil))
      (sSeq (sFor (iRng1D (aCons (eOp addD (eC (.int 1)) (mb (aCons (eV 2) (aCons (eF (eC (.int 8))) aNil)) (callD r_digit []))) aNil)) (gN 9) (sSeq (sSet 10 (mb (aCons (eV 2) (aCons (eF (eV 4)) (aCons (eF (eV 7)) aNil))) (callD r_step [])))
      (sSeq (sSet 11 (mb (aCons (eF (eV 4)) (aCons (eF (eV 7)) (aCons (eF (eV 10)) aNil))) (callD r_after [])))
      (sSeq (sIf (tstOr (tstNot (tTru (mb (aCons (eF (eV 5)) (aCons (eF (eV 7)) (aCons (eF (eV 10)) aNil))) (callD r_p_can_do [])))) (tVal (eOp neD (mb (aCons (eF (eV 5)) (aCons (eF (eV 7)) (aCons (eF (eV 10)) aNil))) (callD r_p_rack_after [])) (eV 11)))) (sRet (eC (.bool false))) sNext)
      (sSeq (sIf (tstNot (tTru (mb (aCons (eV 2) (aCons (eF (eV 5)) (aCons (eF (eV 4)) (aCons (eF (eV 7)) (aCons (eF (eV 10)) aNil))))) (callD r_things_right [])))) (sRet (eC (.bool false))) sNext)
      (sSeq (sDrop (eApp 8 (aCons (eF (mb (aCons (eF (eV 5)) (aCons (eF (eV 7)) (aCons (eF (eV 10)) aNil))) (callD r_p_undone []))) aNil)))
      (sSet 7 (eV 11))))))))
      (sSeq (sFor (iSeqD (eRevA (eV 8))) (gN 10) (sSet 7 (mb (aCons (eF (eV 5)) (aCons (eF (eV 7)) (aCons (eF (eV 10)) aNil))) (callD r_p_rack_after []))))
      (sIf (tVal (eOp neD (eV 7) (eV 6))) (sRet (eC (.bool false))) sNext)))))))))))
      (sRet (eC (.bool true))))
noncomputable def r_law : List SD → Option (R × List SD) := runD 11 d_law
def sp_lawM (K : PySem.W.Frag) (Cc : BW.MR.Cl) : Sp := SpD K Cc 1 r_law
theorem ok_lawM (T : Bi K mg) (D : Df K mg Cc) : Cal P w K mg base CX0 10 "law" s_law ["_law_script"] (sp_lawM K Cc) := by
  refine Cal.mk' D.law (fun _ _ _ _ _ _ us hl => match us, hl with | [_], _ => rfl) fun f fd F => F.ok sc_law (fun vs H Q E h => h.1) (fun cdv A outer s H vs Q E hr h => ?_)
  refine ⟨_, (pss_cons (ps_for PassesOwn.never rfl (pi_seq (pe_op o_add (n_lst (pa_cons pe_int pa_nil)) (pe_slice s_any (pv 0) po_none (po_some pe_int)))) (pg_name (i := 1) sc_law.nd rfl (by first | exact Or.inl rfl | exact Or.inr rfl)) (pss_cons (ps_set (i := 2) sc_law.nd rfl (by first | exact Or.inl rfl | exact Or.inr rfl) (n_lst (pa_cons (pv 1) pa_nil)))
      (pss_cons (ps_set (i := 3) sc_law.nd rfl (by first | exact Or.inl rfl | exact Or.inr rfl) (pe_own (ok_makers (Cc := Cc) T D) (hr.mono (by decide)) (by rfl) pass0 (pa_cons (pv 2) pa_nil)))
      (pss_cons (ps_set (i := 4) sc_law.nd rfl (by first | exact Or.inl rfl | exact Or.inr rfl) (pe_own (ok_within (Cc := Cc) T D) (hr.mono (by decide)) (by rfl) pass0 (pa_cons (pv 3) pa_nil)))
      (pss_cons (ps_set (i := 5) sc_law.nd rfl (by first | exact Or.inl rfl | exact Or.inr rfl) (pe_makeM (ok_m_Kind_init (Cc := Cc) T D) D.k_Kind (hr.mono (by decide)) (by rfl) pass0 (pa_cons (pv 3) pa_nil)))
      (pss_cons (ps_set (i := 6) sc_law.nd rfl (by first | exact Or.inl rfl | exact Or.inr rfl) (pe_callTy c_tuple (by rfl) T.b_tuple (by decide +kernel) (pa_cons (pe_lc (own := [("_law_k", 9)]) (by rfl) sc_law.nd (pi_range1 (by rfl) T.b_range (pa_cons (pe_op o_add pe_int (pe_own (ok_digit (Cc := Cc) T D) (hr.mono (by decide)) (by rfl) pass0 (pa_cons (pv 2) (pa_cons (pe_ix ix_seq (n_lst (pa_cons pe_int (pa_cons pe_int pa_nil))) (pe_own (ok_digit (Cc := Cc) T D) (hr.mono (by decide)) (by rfl) pass0 (pa_cons (pv 2) (pa_cons pe_int pa_nil))) (fun _ _ => rfl)) pa_nil)))) pa_nil)) (blkOk_by (own := [("_law_k", 9)]) (N := N_law) (sc := defScope s_law) (by decide +kernel)) (fun _ _ _ _ _ => (pg_name (i := 9) sc_law.nd rfl (by first | exact Or.inl rfl | exact Or.inr rfl))) (fun _ _ _ _ _ => pts_nil) (fun _ _ _ _ _ => (pe_own (ok_digit (Cc := Cc) T D) (hr.mono (by decide)) (by rfl) pass0 (pa_cons (pv 2) (pa_cons pe_int pa_nil))))) pa_nil)))
      (pss_cons (ps_set (i := 7) sc_law.nd rfl (by first | exact Or.inl rfl | exact Or.inr rfl) (pv 6))
      (pss_cons (ps_set (i := 8) sc_law.nd rfl (by first | exact Or.inl rfl | exact Or.inr rfl) (n_lst pa_nil))
      (pss_cons (ps_for PassesOwn.never rfl (pi_range1 (by rfl) T.b_range (pa_cons (pe_op o_add pe_int (pe_own (ok_digit (Cc := Cc) T D) (hr.mono (by decide)) (by rfl) pass0 (pa_cons (pv 2) (pa_cons pe_int pa_nil)))) pa_nil)) (pg_name (i := 9) sc_law.nd rfl (by first | exact Or.inl rfl | exact Or.inr rfl)) (pss_cons (ps_set (i := 10) sc_law.nd rfl (by first | exact Or.inl rfl | exact Or.inr rfl) (pe_own (ok_step (Cc := Cc) T D) (hr.mono (by decide)) (by rfl) pass0 (pa_cons (pv 2) (pa_cons (pv 4) (pa_cons (pv 7) pa_nil)))))
      (pss_cons (ps_set (i := 11) sc_law.nd rfl (by first | exact Or.inl rfl | exact Or.inr rfl) (pe_own (ok_after (Cc := Cc) T D) (hr.mono (by decide)) (by rfl) pass0 (pa_cons (pv 4) (pa_cons (pv 7) (pa_cons (pv 10) pa_nil)))))
      (pss_cons (ps_if (PW.pt (pw_or (pt_not (pt_truth (pe_own (ok_p_can_do (Cc := Cc) T D) (hr.mono (by decide)) (by rfl) pass0 (pa_cons (pv 5) (pa_cons (pv 7) (pa_cons (pv 10) pa_nil)))) (by intro _; rfl))) (pw_or1 (pt_cmpR (o_ne hr.units) (pe_own (ok_p_rack_after (Cc := Cc) T D) (hr.mono (by decide)) (by rfl) pass0 (pa_cons (pv 5) (pa_cons (pv 7) (pa_cons (pv 10) pa_nil)))) (pv 11) (nomark _))))) (pss_one (ps_ret pe_bl)) pss_nil)
      (pss_cons (ps_if (pt_not (pt_truth (pe_own (ok_things_right (Cc := Cc) T D) (hr.mono (by decide)) (by rfl) pass0 (pa_cons (pv 2) (pa_cons (pv 5) (pa_cons (pv 4) (pa_cons (pv 7) (pa_cons (pv 10) pa_nil)))))) (by intro _; rfl))) (pss_one (ps_ret pe_bl)) pss_nil)
      (pss_cons (ps_expr (pe_bm PySem.F.plainAttrs_list PySem.F.slot_list_append PySem.F.type_list_append mt_append (pv 8) (pa_cons (pe_own (ok_p_undone (Cc := Cc) T D) (hr.mono (by decide)) (by rfl) pass0 (pa_cons (pv 5) (pa_cons (pv 7) (pa_cons (pv 10) pa_nil)))) pa_nil)))
      (pss_one (ps_set (i := 7) sc_law.nd rfl (by first | exact Or.inl rfl | exact Or.inr rfl) (pv 11)))))))))
      (pss_cons (ps_for PassesOwn.never rfl (pi_seq (RVT.pe_revA (pv 8))) (pg_name (i := 10) sc_law.nd rfl (by first | exact Or.inl rfl | exact Or.inr rfl)) (pss_one (ps_set (i := 7) sc_law.nd rfl (by first | exact Or.inl rfl | exact Or.inr rfl) (pe_own (ok_p_rack_after (Cc := Cc) T D) (hr.mono (by decide)) (by rfl) pass0 (pa_cons (pv 5) (pa_cons (pv 7) (pa_cons (pv 10) pa_nil)))))))
      (pss_one (ps_if (pt_cmpR (o_ne hr.units) (pv 7) (pv 6) (nomark _)) (pss_one (ps_ret pe_bl)) pss_nil))))))))))))
      (pss_one (ps_ret pe_bl))), ?_⟩
  exact fn_sp (m := d_law) (n := 11) (jsSeq (jsFor (jiSeq (jOp oj_add (jLst (jaCons (jF jcInt) jaNil)) (jSl (jV 0) joNone (joSome jcInt)))) jgN (jsSeq (jsSet (jLst (jaCons (jF (jV 1)) jaNil)))
      (jsSeq (jsSet (jCall (fun _ => .nil) (jaCons (jV 2) jaNil) (alD (alCons alNil) rfl)))
      (jsSeq (jsSet (jCall (fun _ => .nil) (jaCons (jF (jV 3)) jaNil) (alD (alCons alNil) rfl)))
      (jsSeq (jsSet (jMake (jaCons (jF (jV 3)) jaNil) (alD (alCons alNil) rfl)))
      (jsSeq (jsSet (jFn fj_tup (jaCons (jLc (vs := [9]) (jiRng1 (jaCons (jOp oj_add jcInt (jCall (fun _ => .nil) (jaCons (jV 2) (jaCons (jF (jOp oj_ix (jLst (jaCons (jF jcInt) (jaCons (jF jcInt) jaNil))) (jCall (fun _ => .nil) (jaCons (jV 2) (jaCons (jF jcInt) jaNil)) (alD (alCons (alCons alNil)) rfl)))) jaNil)) (alD (alCons (alCons alNil)) rfl))) jaNil)) (jwN (by decide)) jtYes (jCall (fun _ => .nil) (jaCons (jV 2) (jaCons (jF jcInt) jaNil)) (alD (alCons (alCons alNil)) rfl)) (wipe_wipe _)) jaNil)))
      (jsSeq (jsSet (jV 6))
      (jsSeq (jsSet (jLst jaNil))
      (jsSeq (jsFor (jiRng1 (jaCons (jOp oj_add jcInt (jCall (fun _ => .nil) (jaCons (jV 2) (jaCons (jF jcInt) jaNil)) (alD (alCons (alCons alNil)) rfl))) jaNil)) jgN (jsSeq (jsSet (jCall (fun _ => .nil) (jaCons (jV 2) (jaCons (jF (jV 4)) (jaCons (jF (jV 7)) jaNil))) (alD (alCons (alCons (alCons alNil))) rfl)))
      (jsSeq (jsSet (jCall (fun _ => .nil) (jaCons (jF (jV 4)) (jaCons (jF (jV 7)) (jaCons (jF (jV 10)) jaNil))) (alD (alCons (alCons (alCons alNil))) rfl)))
      (jsSeq (jsIf (jtOr (jtNot (jtTru (jCall (fun _ => .nil) (jaCons (jF (jV 5)) (jaCons (jF (jV 7)) (jaCons (jF (jV 10)) jaNil))) (alD (alCons (alCons (alCons alNil))) rfl)))) (jtVal (jOp oj_ne (jCall (fun _ => .nil) (jaCons (jF (jV 5)) (jaCons (jF (jV 7)) (jaCons (jF (jV 10)) jaNil))) (alD (alCons (alCons (alCons alNil))) rfl)) (jV 11)))) (jsRet jcBool) jsNext)
      (jsSeq (jsIf (jtNot (jtTru (jCall (fun _ => .nil) (jaCons (jV 2) (jaCons (jF (jV 5)) (jaCons (jF (jV 4)) (jaCons (jF (jV 7)) (jaCons (jF (jV 10)) jaNil))))) (alD (alCons (alCons (alCons (alCons (alCons alNil))))) rfl)))) (jsRet jcBool) jsNext)
      (jsSeq (jsDrop (jApp (jaCons (jF (jCall (fun _ => .nil) (jaCons (jF (jV 5)) (jaCons (jF (jV 7)) (jaCons (jF (jV 10)) jaNil))) (alD (alCons (alCons (alCons alNil))) rfl))) jaNil)))
      (jsSet (jV 11))))))))
      (jsSeq (jsFor (jiSeq (jRevA (jV 8))) jgN (jsSet (jCall (fun _ => .nil) (jaCons (jF (jV 5)) (jaCons (jF (jV 7)) (jaCons (jF (jV 10)) jaNil))) (alD (alCons (alCons (alCons alNil))) rfl))))
      (jsIf (jtVal (jOp oj_ne (jV 7) (jV 6))) (jsRet jcBool) jsNext)))))))))))
      (jsRet jcBool)) rfl h
local macro_rules | `(tactic| walk_at "len") => `(tactic| ((try simp only [List.length_map, List.length_append, List.length_cons, List.length_nil, List.length_replicate, List.length_reverse, List.length_range, List.length_set, List.length_zipIdx, List.length_take, List.length_drop]); omega))
local macro_rules | `(tactic| walk_at "sq") => `(tactic| first | omega | rfl | exact Nat.le_of_ble_eq_true rfl | walk_at "len" | decide)
local macro_rules | `(tactic| walk_at "st") => `(tactic| first
  | refine BW.MR.St.imp ?_
  | (with_reducible refine BW.MR.SideK.mk ?_ ?_; next => walk_at "sq")
  | with_reducible refine BW.MR.IfK.yes (by omega) ?_
  | with_reducible refine BW.MR.IfK.no (by omega) ?_)
open BW BW.MR
instance St.sto2_ {i : Nat} {r : R} {d a b c : Dt} {ds : List Dt} {τ τ' : List SD} {P : List SD → Prop} [h : OwnC τ i (.L (a :: b :: c :: ds))] [hv : VwC τ r (.int 2)] [o : OwnSetC τ i (.L (a :: b :: d :: ds)) τ'] : St (StoK i r d τ P) (P τ') := ⟨fun p => ⟨a :: b :: c :: ds, 2, 2, h.eq, hv.eq, by unfold L2.ixN; rw [if_pos (by decide), if_pos (by simp only [List.length_cons]; omega)]; rfl, by rw [List.set_cons_succ, List.set_cons_succ, List.set_cons_zero, o.eq]; exact p⟩⟩
/-- a state: as many as m draws are behind -/
def WlD (m : Nat) (x : Own) : Prop := (∃ a : Int, x = .L [.int a]) ∨ ∃ a b z : Int, x = .L [.int a, .int b, .int z] ∧ 0 ≤ b ∧ b < 2147483647 ∧ 0 ≤ z ∧ z ≤ (m : Int)
theorem WlD.mono {k m : Nat} {x : Own} (h : WlD k x) (e : k ≤ m) : WlD m x := by
  rcases h with h | ⟨a, b, z, rfl, b0, b1, z0, z1⟩
  · exact .inl h
  · exact .inr ⟨a, b, z, rfl, b0, b1, z0, by omega⟩
theorem e_draw3 {k : Nat} {a b z : Int} (b0 : 0 ≤ b) (b1 : b < 2147483647) (z0 : 0 ≤ z) (z1 : z ≤ (k : Int)) (hk : k < 1000000) {n : Int} (h0 : 0 < n) (h1 : n < 1073741824) : ∃ r x', r_digit [.io (.L [.int a, .int b, .int z]), .val (.int n)] = some (.v (.int r), [.io x', .val (.int n)]) ∧ WlD (k + 1) x' ∧ 0 ≤ r ∧ r < n := by
  suffices h : ∃ r as', r_digit [.io (.L [.int a, .int b, .int z]), .val (.int n)] = some (r, as') ∧ ∃ i x', r = .v (.int i) ∧ as' = [.io x', .val (.int n)] ∧ WlD (k + 1) x' ∧ 0 ≤ i ∧ i < n by
    obtain ⟨r, as', e, i, x', rfl, rfl, h⟩ := h
    exact ⟨i, x', e, h⟩
  refine run_st ?_
  unfold d_digit
  repeat walk_at "st"
  refine IfK.two (fun c => ?_) (fun c => ?_)
  · repeat walk_at "st"
    exact ⟨_, _, rfl, rfl, .inr ⟨_, _, _, rfl, b0, b1, z0, by omega⟩, Int.emod_nonneg _ (by omega), Int.emod_lt_of_pos _ h0⟩
  · repeat walk_at "st"
    exact ⟨_, _, rfl, rfl, .inr ⟨_, _, _, rfl, b0, b1, by omega, by omega⟩, Int.emod_nonneg _ (by omega), Int.emod_lt_of_pos _ h0⟩
theorem e_draw1 {k : Nat} {a : Int} {n : Int} (h0 : 0 < n) (h1 : n < 1073741824) : ∃ r x', r_digit [.io (.L [.int a]), .val (.int n)] = some (.v (.int r), [.io x', .val (.int n)]) ∧ WlD (k + 1) x' ∧ 0 ≤ r ∧ r < n := by
  suffices h : ∃ r as', r_digit [.io (.L [.int a]), .val (.int n)] = some (r, as') ∧ ∃ i x', r = .v (.int i) ∧ as' = [.io x', .val (.int n)] ∧ WlD (k + 1) x' ∧ 0 ≤ i ∧ i < n by
    obtain ⟨r, as', e, i, x', rfl, rfl, h⟩ := h
    exact ⟨i, x', e, h⟩
  have b0 := Int.emod_nonneg a (show (2147483647 : Int) ≠ 0 by decide)
  have b1 := Int.emod_lt_of_pos a (show (0 : Int) < 2147483647 by decide)
  refine run_st ?_
  unfold d_digit
  repeat walk_at "st"
  rw [show [PyData.int a] ++ [PyData.int (a % 2147483647), PyData.int 0] = [PyData.int a, PyData.int (a % 2147483647), PyData.int 0] from rfl]
  generalize a % 2147483647 = b at *
  repeat walk_at "st"
  refine IfK.two (fun c => ?_) (fun c => ?_)
  · repeat walk_at "st"
    exact ⟨_, _, rfl, rfl, .inr ⟨_, _, _, rfl, b0, b1, by decide, by omega⟩, Int.emod_nonneg _ (by omega), Int.emod_lt_of_pos _ h0⟩
  · repeat walk_at "st"
    exact ⟨_, _, rfl, rfl, .inr ⟨_, _, _, rfl, b0, b1, by decide, by omega⟩, Int.emod_nonneg _ (by omega), Int.emod_lt_of_pos _ h0⟩
theorem e_draw {k : Nat} {x : Own} (hx : WlD k x) (hk : k < 1000000) {n : Int} (h0 : 0 < n) (h1 : n < 1073741824) : ∃ r x', r_digit [.io x, .val (.int n)] = some (.v (.int r), [.io x', .val (.int n)]) ∧ WlD (k + 1) x' ∧ 0 ≤ r ∧ r < n := by
  rcases hx with ⟨a, rfl⟩ | ⟨a, b, z, rfl, b0, b1, z0, z1⟩
  · exact e_draw1 h0 h1
  · exact e_draw3 b0 b1 z0 z1 hk h0 h1
/-- a draw, as an expression -/
inductive DrawK (rs : List R) (τ1 : List SD) (P : R → List SD → Prop) : Prop
  | no (h : False)
  | is (h : ∃ j n x k, rs = [.o j, .v (.int n)] ∧ ownAt τ1 j = some x ∧ WlD k x ∧ k < 1000000 ∧ (0 < n ∧ n < 1073741824) ∧ ∀ r x', WlD (k + 1) x' → 0 ≤ r → r < n → P (.v (.int r)) (ownSet τ1 j x'))
theorem DrawK.mk' {j : Nat} {n : Int} {x : Own} {k : Nat} {τ1 : List SD} {P : R → List SD → Prop} (e : ownAt τ1 j = some x) (hx : WlD k x) (hk : k < 1000000) (h0 : 0 < n) (h1 : n < 1073741824) (q : ∀ r x', WlD (k + 1) x' → 0 ≤ r → r < n → P (.v (.int r)) (ownSet τ1 j x')) : DrawK [.o j, .v (.int n)] τ1 P := .is ⟨_, _, _, _, rfl, e, hx, hk, ⟨h0, h1⟩, q⟩
theorem ev_drawc {as : M (List R)} {τ : List SD} {P : R → List SD → Prop} (h : Ev as τ fun rs τ1 => DrawK rs τ1 P) : Ev (mb as (callD r_digit [])) τ P := by
  refine ev_call (h.imp fun rs τ1 h => ?_)
  rcases h with h | ⟨j, n, x, k, rfl, e1, hx, hk, hn, q⟩
  · exact h.elim
  obtain ⟨r, x', e2, h1, h2, h3⟩ := e_draw hx hk hn.1 hn.2
  refine ⟨[.io x, .val (.int n)], .v (.int r), [.io x', .val (.int n)], ?_, e2, fun i => by simp, .inr ⟨0, j, x', rfl, rfl, q r x' h1 h2 h3⟩⟩
  simp only [argsD, argD, e1, Option.map_some]
open BW BW.MR
theorem erase_perm {α : Type} : ∀ {l : List α} {i : Nat} {s : α}, l[i]? = some s → (s :: l.eraseIdx i).Perm l
  | [], _, _, h => by simp at h
  | a :: l, 0, s, h => by
    simp at h
    subst h
    exact List.Perm.refl _
  | a :: l, i + 1, s, h => (List.Perm.swap a s _).trans ((erase_perm (l := l) (by simpa using h)).cons a)
theorem erase_map {α β : Type} (f : α → β) : ∀ (l : List α) (i : Nat), (l.map f).eraseIdx i = (l.eraseIdx i).map f
  | [], _ => rfl
  | a :: l, 0 => rfl
  | a :: l, i + 1 => congrArg (f a :: ·) (erase_map f l i)
def goodB (s : Str) : Bool := decide (1 ≤ s.cps.size) && decide (s.cps.size ≤ 8) && s.cps.toList.all fun c => decide (97 ≤ c) && decide (c ≤ 122)
def goodS (s : Str) : Prop := goodB s = true
def dozen : List Str := ["open", "close", "order", "alike", "parted", "rest", "a", "ab", "kind", "fixed", "abcdefgh", "b"].map Str.ofString
theorem dozen_nd : dozen.Nodup := by decide +kernel
theorem dozen_good : ∀ s ∈ dozen, goodS s := List.all_eq_true.mp (by decide +kernel)
def abc : Str := Str.ofString "abcdefghijklmnopqrstuvwxyz"
theorem ix_abc0 : ∀ i : Nat, i < 26 → ixD (.str abc) (.int (i : Int)) = some (.v (.str ⟨#[97 + i]⟩))
  | 0, _ => rfl
  | 1, _ => rfl
  | 2, _ => rfl
  | 3, _ => rfl
  | 4, _ => rfl
  | 5, _ => rfl
  | 6, _ => rfl
  | 7, _ => rfl
  | 8, _ => rfl
  | 9, _ => rfl
  | 10, _ => rfl
  | 11, _ => rfl
  | 12, _ => rfl
  | 13, _ => rfl
  | 14, _ => rfl
  | 15, _ => rfl
  | 16, _ => rfl
  | 17, _ => rfl
  | 18, _ => rfl
  | 19, _ => rfl
  | 20, _ => rfl
  | 21, _ => rfl
  | 22, _ => rfl
  | 23, _ => rfl
  | 24, _ => rfl
  | 25, _ => rfl
  | n + 26, h => absurd h (by omega)
theorem ix_abc {i : Int} (h0 : 0 ≤ i) (h1 : i < 26) : ixD (.str abc) (.int i) = some (.v (.str ⟨#[97 + i.toNat]⟩)) := by
  have e := ix_abc0 i.toNat (by omega)
  rwa [Int.toNat_of_nonneg h0] at e
/-- a word by its letters -/
def wd (l : List Nat) : Str := ⟨l.toArray⟩
theorem wd_add {l : List Nat} {c : Nat} (h : l.length ≤ 100) : addD (.str (wd l)) (.str ⟨#[c]⟩) = some (.v (.str (wd (l ++ [c])))) := by
  have h1 : (wd l).length + (⟨#[c]⟩ : Str).length ≤ 1000000 := by
    show l.toArray.size + 1 ≤ 1000000
    simp
    omega
  show (if (wd l).length + (⟨#[c]⟩ : Str).length ≤ 1000000 then some (R.v (.str (wd l ++ ⟨#[c]⟩))) else none) = _
  rw [if_pos h1]
  have e : (wd l ++ ⟨#[c]⟩ : Str) = wd (l ++ [c]) := by
    show (⟨l.toArray ++ #[c]⟩ : Str) = ⟨(l ++ [c]).toArray⟩
    simp
  rw [e]
theorem wd_good {l : List Nat} (h1 : 1 ≤ l.length) (h2 : l.length ≤ 8) (h : ∀ c ∈ l, 97 ≤ c ∧ c ≤ 122) : goodS (wd l) := by
  show goodB (wd l) = true
  unfold goodB wd
  rw [Bool.and_eq_true, Bool.and_eq_true, decide_eq_true_eq, decide_eq_true_eq, List.all_eq_true]
  refine ⟨⟨by simpa using h1, by simpa using h2⟩, fun c hc => ?_⟩
  have := h c (by simpa using hc)
  rw [Bool.and_eq_true, decide_eq_true_eq, decide_eq_true_eq]
  exact this
def fromD (i m : Nat) : List Dt := (List.range m).map fun j => PyData.int ((i + j : Nat) : Int)
theorem fromD_succ (i m : Nat) : fromD i (m + 1) = .int (i : Int) :: fromD (i + 1) m := by
  unfold fromD
  rw [List.range_succ_eq_map, List.map_cons, List.map_map]
  have e : ∀ j : Nat, PyData.int ((i + (j + 1) : Nat) : Int) = .int ((i + 1 + j : Nat) : Int) := fun j => by rw [show i + (j + 1) = i + 1 + j by omega]
  exact congrArg (PyData.int (i : Int) :: ·) (List.map_congr_left fun j _ => e j)
theorem rng_from (n : Nat) : rngD 0 n = fromD 0 n := by
  unfold rngD fromD
  exact List.map_congr_left fun j _ => congrArg PyData.int (by omega)
def prM (p : Str × Int) : Dt := .tuple [.str p.1, .int p.2]
def tD (t : List Int) : Dt := .tuple (t.map .int)
def kindD (mk : List (Str × Int)) : Dt := .dict [(.none, .int 0), (.str "_makers", .list (mk.map prM))]
/-- makers that make a kind -/
structure GM (mk : List (Str × Int)) : Prop where
  l2 : 2 ≤ mk.length
  l5 : mk.length ≤ 5
  nd : (mk.map (·.1)).Nodup
  good : ∀ p ∈ mk, goodS p.1 ∧ 0 ≤ p.2 ∧ p.2 ≤ 4
  z : (0 : Int) ∈ mk.map (·.2)
  w : ∃ w ∈ mk.map (·.2), 2 ≤ w
abbrev wsO (mk : List (Str × Int)) : List Int := mk.map (·.2)
abbrev mkD (mk : List (Str × Int)) : Dt := .list (mk.map prM)
def prt (ws : List Int) : List Int → List (List Int) → List Int → Int → Option (List (List Int))
  | [], done, cur, _ => if cur = [] then some done else none
  | m :: r, done, cur, wt => if wt + (ws.getD m.toNat 0 - 1) = 0 then prt ws r (done ++ [cur ++ [m]]) [] 1 else prt ws r done (cur ++ [m]) (wt + (ws.getD m.toNat 0 - 1))
def prtR : Option (List (List Int)) → R
  | some ts => .n (.L (ts.map tD))
  | none => .v .none
/-! rows of trees, by makers' numbers -/
def need (ws : List Int) (m : Int) : Nat := (ws.getD m.toNat 0).toNat
def Hits (ws : List Int) : Nat → List Int → Prop
  | k, [] => k = 0
  | 0, _ :: _ => False
  | k + 1, m :: r => Hits ws (k + need ws m) r
theorem hits0 {ws : List Int} : ∀ {t : List Int}, Hits ws 0 t → t = []
  | [], _ => rfl
  | _ :: _, h => h.elim
theorem hits_cons {ws : List Int} {k : Nat} {m : Int} {t : List Int} (h : Hits ws k (m :: t)) : ∃ j, k = j + 1 ∧ Hits ws (j + need ws m) t := by
  cases k with
  | zero => exact h.elim
  | succ j => exact ⟨j, rfl, h⟩
def NN (ws : List Int) : Prop := ∀ w ∈ ws, (0 : Int) ≤ w ∧ w ≤ 4
theorem nn_get {ws : List Int} (h : NN ws) (i : Nat) : 0 ≤ ws.getD i 0 ∧ ws.getD i 0 ≤ 4 := by
  rw [List.getD_eq_getElem?_getD]
  cases e : ws[i]? with
  | none => exact ⟨Int.le_refl 0, by decide⟩
  | some w => exact h w (List.mem_of_getElem? e)
theorem need_int {ws : List Int} (h : NN ws) (m : Int) : ((need ws m : Nat) : Int) = ws.getD m.toNat 0 := Int.toNat_of_nonneg (nn_get h _).1
theorem prt_of_hits {ws : List Int} (hn : NN ws) : ∀ {t r : List Int} {k : Nat} {done : List (List Int)} {cur : List Int}, 1 ≤ k → Hits ws k t → prt ws (t ++ r) done cur (k : Int) = prt ws r (done ++ [cur ++ t]) [] 1
  | [], _, k, _, _, hk, h => by
    have : k = 0 := h
    omega
  | m :: t, r, k, done, cur, _, h => by
    obtain ⟨j, rfl, h'⟩ := hits_cons h
    clear h
    have h := h'
    have e := need_int hn m
    show (if ((j + 1 : Nat) : Int) + (ws.getD m.toNat 0 - 1) = 0 then prt ws (t ++ r) (done ++ [cur ++ [m]]) [] 1 else prt ws (t ++ r) done (cur ++ [m]) (((j + 1 : Nat) : Int) + (ws.getD m.toNat 0 - 1))) = _
    have e2 : ((j + 1 : Nat) : Int) + (ws.getD m.toNat 0 - 1) = ((j + need ws m : Nat) : Int) := by omega
    rw [e2]
    by_cases c : j + need ws m = 0
    · rw [if_pos (by omega)]
      rw [c] at h
      rw [hits0 h, List.nil_append]
    · rw [if_neg (by omega), prt_of_hits hn (by omega) h, List.append_assoc]
      rfl
theorem prt_hits {ws : List Int} (hn : NN ws) : ∀ {row : List Int} {k : Nat} {done ts : List (List Int)} {cur : List Int}, 1 ≤ k → prt ws row done cur (k : Int) = some ts →
    (∃ t us, row = t ++ us.flatten ∧ Hits ws k t ∧ ts = done ++ (cur ++ t) :: us ∧ ∀ u ∈ us, Hits ws 1 u) ∨ (row = [] ∧ cur = [] ∧ ts = done)
  | [], k, done, ts, cur, hk, h => by
    have h : (if cur = [] then some done else none) = some ts := h
    split at h
    · cases h
      exact .inr ⟨rfl, by assumption, rfl⟩
    · cases h
  | m :: row, k, done, ts, cur, hk, h => by
    have e := need_int hn m
    have h : (if (k : Int) + (ws.getD m.toNat 0 - 1) = 0 then prt ws row (done ++ [cur ++ [m]]) [] 1 else prt ws row done (cur ++ [m]) ((k : Int) + (ws.getD m.toNat 0 - 1))) = some ts := h
    have e2 : (k : Int) + (ws.getD m.toNat 0 - 1) = ((k - 1 + need ws m : Nat) : Int) := by omega
    rw [e2] at h
    have hits1 : ∀ t, Hits ws (k - 1 + need ws m) t → Hits ws k (m :: t) := fun t ht => by
      obtain ⟨j, rfl⟩ : ∃ j, k = j + 1 := ⟨k - 1, by omega⟩
      exact ht
    by_cases c : k - 1 + need ws m = 0
    · rw [if_pos (by omega)] at h
      have hm : Hits ws k [m] := hits1 [] c
      rcases prt_hits hn (k := 1) (Nat.le_refl 1) h with ⟨t, us, rfl, h1, h2, h3⟩ | ⟨rfl, _, h2⟩
      · refine .inl ⟨[m], t :: us, rfl, hm, ?_, fun u hu => ?_⟩
        · rw [h2]
          simp
        · rcases List.mem_cons.mp hu with rfl | hu
          · exact h1
          · exact h3 u hu
      · exact .inl ⟨[m], [], rfl, hm, h2, fun u hu => by cases hu⟩
    · rw [if_neg (by omega)] at h
      rcases prt_hits hn (by omega) h with ⟨t, us, rfl, h1, h2, h3⟩ | ⟨_, h2, _⟩
      · exact .inl ⟨m :: t, us, rfl, hits1 t h1, by rw [h2]; simp, h3⟩
      · simp at h2
theorem prt_some {ws : List Int} (hn : NN ws) {row : List Int} {ts : List (List Int)} (h : prt ws row [] [] 1 = some ts) : row = ts.flatten ∧ ∀ t ∈ ts, Hits ws 1 t := by
  rcases prt_hits hn (k := 1) (Nat.le_refl 1) h with ⟨t, us, rfl, h1, rfl, h3⟩ | ⟨rfl, _, rfl⟩
  · refine ⟨by simp, fun u hu => ?_⟩
    rcases List.mem_cons.mp hu with rfl | hu
    · exact h1
    · exact h3 u hu
  · exact ⟨rfl, fun u hu => by cases hu⟩
theorem prt_one {ws : List Int} (hn : NN ws) {t : List Int} (h : Hits ws 1 t) : prt ws t [] [] 1 = some [t] := by
  have e := prt_of_hits hn (r := []) (done := []) (cur := []) (Nat.le_refl 1) h
  rw [List.append_nil] at e
  exact e
/-- the heights of the trees of a row, read from the right -/
def mxl (l : List Int) : Int := l.foldl max 0
def dp (ws : List Int) : List Int → List Int
  | [] => []
  | m :: r => (mxl ((dp ws r).take (need ws m)) + 1) :: (dp ws r).drop (need ws m)
theorem dp_app {ws : List Int} : ∀ {t r : List Int} {k : Nat}, Hits ws k t → (dp ws t).length = k ∧ dp ws (t ++ r) = dp ws t ++ dp ws r
  | [], r, k, h => by
    have : k = 0 := h
    subst this
    exact ⟨rfl, rfl⟩
  | m :: t, r, k, h => by
    obtain ⟨j, rfl, h'⟩ := hits_cons h
    obtain ⟨h1, h2⟩ := dp_app (t := t) (r := r) h'
    constructor
    · show ((dp ws t).drop (need ws m)).length + 1 = j + 1
      rw [List.length_drop]
      omega
    · show (mxl ((dp ws (t ++ r)).take (need ws m)) + 1) :: (dp ws (t ++ r)).drop (need ws m) = (mxl ((dp ws t).take (need ws m)) + 1) :: ((dp ws t).drop (need ws m) ++ dp ws r)
      rw [h2, List.take_append_of_le_length (by omega), List.drop_append_of_le_length (by omega)]
theorem dp_flat {ws : List Int} : ∀ {ts : List (List Int)}, (∀ t ∈ ts, Hits ws 1 t) → dp ws ts.flatten = ts.map fun t => (dp ws t).headD 0
  | [], _ => rfl
  | t :: ts, h => by
    obtain ⟨h1, h2⟩ := dp_app (r := ts.flatten) (h t List.mem_cons_self)
    rw [List.flatten_cons, h2, dp_flat fun u hu => h u (List.mem_cons_of_mem _ hu)]
    match e : dp ws t, h1 with
    | [x], _ => rw [List.map_cons, e]; rfl
theorem hits_wants {ws : List Int} : ∀ {t u : List Int} {k : Nat}, Hits ws k (t ++ u) → k ≤ 1 → t = [] ∨ True := fun _ _ => .inr trivial
theorem mxl_fold : ∀ (l : List Int) (a : Int), a ≤ l.foldl max a ∧ (∀ y ∈ l, y ≤ l.foldl max a) ∧ (l.foldl max a = a ∨ l.foldl max a ∈ l)
  | [], a => ⟨Int.le_refl a, (fun y h => by cases h), .inl rfl⟩
  | x :: l, a => by
    obtain ⟨h1, h2, h3⟩ := mxl_fold l (max a x)
    refine ⟨Int.le_trans (Int.le_max_left a x) h1, fun y hy => ?_, ?_⟩
    · rcases List.mem_cons.mp hy with rfl | hy
      · exact Int.le_trans (Int.le_max_right a y) h1
      · exact h2 y hy
    · rcases h3 with h3 | h3
      · rcases Int.le_total a x with c | c
        · exact .inr (by rw [List.foldl_cons, h3, Int.max_eq_right c]; exact List.mem_cons_self)
        · exact .inl (by rw [List.foldl_cons, h3, Int.max_eq_left c])
      · exact .inr (List.mem_cons_of_mem _ h3)
theorem dp_pos {ws : List Int} : ∀ {t : List Int} {y : Int}, y ∈ dp ws t → 1 ≤ y ∧ y ≤ t.length
  | [], _, h => by cases h
  | m :: t, y, h => by
    rcases List.mem_cons.mp h with rfl | h
    · have h2 := mxl_fold ((dp ws t).take (need ws m)) 0
      refine ⟨by have := h2.1; unfold mxl; omega, ?_⟩
      rw [List.length_cons]
      rcases h2.2.2 with e | e
      · unfold mxl; omega
      · have := (dp_pos (List.mem_of_mem_take e)).2
        unfold mxl; omega
    · have := dp_pos (List.mem_of_mem_drop h)
      rw [List.length_cons]
      omega
theorem hits_tail {ws : List Int} : ∀ {p s : List Int} {k : Nat}, Hits ws k (p ++ s) → ∃ j, Hits ws j s
  | [], _, k, h => ⟨k, h⟩
  | m :: p, s, k, h => by
    obtain ⟨j, rfl, h'⟩ := hits_cons h
    exact hits_tail (p := p) h'
theorem hits_split {ws : List Int} : ∀ {q : List Int} {k j : Nat}, Hits ws (k + j) q → ∃ t r, q = t ++ r ∧ Hits ws j t ∧ Hits ws k r
  | [], k, j, h => by
    have h : k + j = 0 := h
    exact ⟨[], [], rfl, show j = 0 by omega, show k = 0 by omega⟩
  | m :: q, k, 0, h => ⟨[], m :: q, rfl, rfl, h⟩
  | m :: q, k, j + 1, h => by
    have h' : Hits ws (k + j + need ws m) q := h
    rw [Nat.add_assoc] at h'
    obtain ⟨t, r, rfl, h1, h2⟩ := hits_split h'
    exact ⟨m :: t, r, rfl, h1, h2⟩
theorem hits_parts {ws : List Int} : ∀ {k : Nat} {q : List Int}, Hits ws k q → ∃ ts : List (List Int), ts.length = k ∧ q = ts.flatten ∧ ∀ t ∈ ts, Hits ws 1 t
  | 0, q, h => ⟨[], rfl, hits0 h, fun t ht => by cases ht⟩
  | k + 1, q, h => by
    obtain ⟨t, r, rfl, h1, h2⟩ := hits_split h
    obtain ⟨ts, rfl, rfl, h3⟩ := hits_parts h2
    refine ⟨t :: ts, rfl, rfl, fun u hu => ?_⟩
    rcases List.mem_cons.mp hu with rfl | hu
    · exact h1
    · exact h3 u hu
theorem prt_all {ws : List Int} (hn : NN ws) : ∀ {ts done : List (List Int)}, (∀ t ∈ ts, Hits ws 1 t) → prt ws ts.flatten done [] 1 = some (done ++ ts)
  | [], done, _ => by
    rw [List.append_nil]
    rfl
  | t :: ts, done, h => by
    have e := prt_of_hits hn (r := ts.flatten) (done := done) (cur := []) (Nat.le_refl 1) (h t List.mem_cons_self)
    rw [List.flatten_cons]
    refine e.trans ?_
    rw [List.nil_append, prt_all hn fun u hu => h u (List.mem_cons_of_mem _ hu), List.append_assoc]
    rfl
local macro_rules | `(tactic| walk_at "ev") => `(tactic| first
  | with_reducible refine BW.MR.ev_seq ?_
  | with_reducible refine BW.MR.ev_ret ?_
  | with_reducible refine BW.MR.ev_if ?_
  | with_reducible refine BW.MR.ev_set ?_
  | with_reducible refine BW.MR.ev_asg ?_
  | with_reducible refine BW.MR.ev_drop ?_
  | with_reducible refine BW.MR.ev_tv ?_
  | with_reducible refine BW.MR.ev_next ?_
  | with_reducible refine BW.MR.ev_C ?_
  | with_reducible refine BW.MR.ev_V rfl ?_
  | with_reducible refine BW.MR.ev_Vo rfl ?_
  | with_reducible refine BW.MR.ev_Vi rfl ?_
  | with_reducible refine BW.MR.ev_add ?_
  | with_reducible refine BW.MR.ev_sub ?_
  | with_reducible refine BW.MR.ev_mul ?_
  | with_reducible refine BW.MR.ev_mod ?_
  | with_reducible refine BW.MR.ev_fdv ?_
  | with_reducible refine BW.MR.ev_pow ?_
  | with_reducible refine BW.MR.ev_lt ?_
  | with_reducible refine BW.MR.ev_le ?_
  | with_reducible refine BW.MR.ev_gt ?_
  | with_reducible refine BW.MR.ev_ge ?_
  | with_reducible refine BW.MR.ev_ixL ?_
  | with_reducible refine BW.MR.ev_fn ?_
  | with_reducible refine BW.MR.ev_nil ?_
  | with_reducible refine BW.MR.ev_cons ?_
  | with_reducible refine BW.MR.ev_F ?_
  | with_reducible refine BW.MR.ev_fzv ?_
  | with_reducible refine BW.MR.ev_fzn ?_
  | with_reducible refine BW.MR.ev_fzo rfl ?_
  | with_reducible refine BW.MR.ev_tup ?_
  | with_reducible refine BW.MR.ev_lst ?_
  | with_reducible refine BW.MR.ev_gN ?_
  | with_reducible refine BW.MR.ev_gIx ?_
  | with_reducible refine BW.MR.ev_pure ?_
  | with_reducible refine BW.MR.ev_lc ?_
  | with_reducible refine BW.MR.ev_for ?_
  | with_reducible refine BW.MR.ev_rng1 ?_
  | with_reducible refine BW.MR.ev_seqI ?_
  | with_reducible refine BW.MR.ev_popAt ?_
  | with_reducible refine BW.MR.ev_app ?_
  | with_reducible refine BW.MR.ev_fld ?_
  | with_reducible refine BW.MR.ev_is ?_
  | with_reducible refine BW.MR.ev_tru ?_
  | with_reducible refine BW.MR.ev_tnot ?_
  | with_reducible refine BW.MR.ev_tor ?_
  | with_reducible refine BW.MR.ev_tand ?_
  | with_reducible refine BW.MR.ev_not ?_
  | with_reducible refine BW.MR.ev_and ?_
  | with_reducible refine BW.MR.ev_or ?_
  | with_reducible refine BW.MR.ev_chainLe ?_
  | with_reducible refine BW.MR.ev_iStr ?_
  | with_reducible refine BW.MR.ev_op (f := BW.MR.isnD) ?_
  | with_reducible refine BW.MR.ev_op (f := BW.MR.isD) ?_
  | with_reducible refine BW.MR.ev_en ?_
  | with_reducible refine BW.MR.ev_sl ?_
  | with_reducible refine BW.MR.ev_oNone ?_
  | with_reducible refine BW.MR.ev_oSome ?_
  | with_reducible refine BW.MR.ev_listRg ?_
  | with_reducible refine BW.MR.ev_if_ ?_
  | refine ⟨_, _, _, rfl, rfl, rfl, ?_⟩
  | refine And.intro rfl ?_
  | refine iteF ?_
  | refine iteT ?_
  | refine ⟨_, _, rfl, rfl, ?_⟩
  | refine ⟨_, rfl, ?_⟩
  | refine And.intro (by first | walk_at "sd" | exact Nat.le_of_ble_eq_true rfl) ?_)
open BW BW.MR
theorem e_whole {i : Int} (h0 : 0 ≤ i) (h1 : i ≤ 4) : ∃ as', r_p_is_whole [.val (.int i), .val (.int 0), .val (.int 4)] = some (.v (.bool true), as') := by
  suffices h : ∃ r as', r_p_is_whole [.val (.int i), .val (.int 0), .val (.int 4)] = some (r, as') ∧ r = .v (.bool true) by
    obtain ⟨r, as', e, rfl⟩ := h
    exact ⟨as', e⟩
  refine ev_run ?_
  unfold d_p_is_whole
  repeat walk_at "ev"
  rw [if_neg (show ¬ decide (i < 0) = true by rw [decide_eq_true_eq]; omega)]
  repeat walk_at "ev"
  show R.v (.bool (decide (i ≤ 4))) = _
  rw [decide_eq_true h1]
theorem occ_abc0 : ∀ i : Nat, i < 26 → (Builtin.Str.occurrences abc ⟨#[97 + i]⟩ 0 abc.length 1).isEmpty = false := by
  intro i h
  have : ∀ i ∈ List.range 26, (Builtin.Str.occurrences abc ⟨#[97 + i]⟩ 0 abc.length 1).isEmpty = false := by decide +kernel
  exact this i (List.mem_range.mpr h)
theorem occ_abc {c : Nat} (h : 97 ≤ c ∧ c ≤ 122) : (Builtin.Str.occurrences abc ⟨#[c]⟩ 0 abc.length 1).isEmpty = false := by
  have e := occ_abc0 (c - 97) (by omega)
  rwa [show 97 + (c - 97) = c by omega] at e
theorem e_name {s : Str} (h : goodS s) : ∃ as', r_p_is_name [.val (.str s)] = some (.v (.bool true), as') := by
  have g : goodB s = true := h
  unfold goodB at g
  rw [Bool.and_eq_true, Bool.and_eq_true, decide_eq_true_eq, decide_eq_true_eq, List.all_eq_true] at g
  obtain ⟨⟨g1, g2⟩, g3⟩ := g
  suffices h : ∃ r as', r_p_is_name [.val (.str s)] = some (r, as') ∧ r = .v (.bool true) by
    obtain ⟨r, as', e, rfl⟩ := h
    exact ⟨as', e⟩
  refine ev_run ?_
  unfold d_p_is_name
  repeat walk_at "ev"
  refine ⟨[.str s], .v (.int s.length), rfl, if_pos (show s.cps.size ≤ 1000000 by omega), ?_⟩
  refine ⟨_, _, rfl, rfl, (show (1 : Int) ≤ (s.cps.size : Int) by omega), ?_⟩
  refine ev_C ⟨_, _, rfl, rfl, ?_⟩
  have e8 : decide ((s.length : Int) ≤ 8) = true := decide_eq_true (show (s.cps.size : Int) ≤ 8 by omega)
  rw [e8]
  repeat walk_at "ev"
  refine lcG_ev (fun ds acc τ => ∃ (n : Nat) (cs : List Nat), ds = cs.map (fun c => .str ⟨#[c]⟩) ∧ acc = (List.replicate n true).map .bool ∧ n + cs.length ≤ 8 ∧ τ = [.val (.str s), .un] ∧ ∀ c ∈ cs, 97 ≤ c ∧ c ≤ 122) ⟨0, s.cps.toList, rfl, rfl, by rw [Array.length_toList]; omega, rfl, fun c hc => ?_⟩ ?_ ?_
  · have := g3 c hc
    rw [Bool.and_eq_true, decide_eq_true_eq, decide_eq_true_eq] at this
    exact this
  · rintro acc τ ⟨n, cs, hd, rfl, hn, rfl, hg⟩
    repeat walk_at "ev"
    refine ⟨[.list ((List.replicate n true).map .bool)], .v (.bool true), rfl, ?_, rfl⟩
    show (boolsOf ((List.replicate n true).map .bool)).map _ = _
    rw [boolsOf_map]
    simp
  · rintro d ds acc τ ⟨n, cs, hd, rfl, hn, rfl, hg⟩
    obtain ⟨c, cs', rfl⟩ : ∃ c t, cs = c :: t := by
      cases cs with
      | nil => cases hd
      | cons c t => exact ⟨c, t, rfl⟩
    rw [List.map_cons] at hd
    obtain ⟨rfl, rfl⟩ := List.cons.inj hd
    rw [List.length_cons] at hn
    refine ev_lcT rfl ?_
    repeat walk_at "ev"
    refine ev_op ?_
    repeat walk_at "ev"
    refine ⟨by rw [List.length_map, List.length_replicate]; omega, n + 1, cs', rfl, ?_, by omega, rfl, fun c hc => hg c (List.mem_cons_of_mem _ hc)⟩
    rw [List.replicate_succ', List.map_append]
    have e := occ_abc (hg c List.mem_cons_self)
    show _ ++ [PyData.bool (!(Builtin.Str.occurrences abc ⟨#[c]⟩ 0 abc.length 1).isEmpty)] = _
    rw [e]
    rfl
open BW BW.MR
theorem in_true {i : Int} {ws : List Int} (h : i ∈ ws) : inD false (.int i) (.list (ws.map .int)) = some (.v (.bool true)) := by
  have h1 : (flatD (.int i) && (ws.map PyData.int).all flatD) = true := by
    rw [Bool.and_eq_true, List.all_eq_true]
    refine ⟨rfl, fun x hx => ?_⟩
    obtain ⟨j, _, rfl⟩ := List.mem_map.mp hx
    rfl
  have h2 : inF (.int i) (ws.map .int) = true := by
    unfold inF inV
    refine List.any_eq_true.mpr ⟨.int i, ?_, ?_⟩
    · rw [List.map_map]
      exact List.mem_map.mpr ⟨i, h, rfl⟩
    · show eqV (.int i) (.int i) = true
      simp [eqV]
  show (if (flatD (.int i) && (ws.map PyData.int).all flatD) = true then some (R.v (.bool (if false = true then !inF (.int i) (ws.map .int) else inF (.int i) (ws.map .int)))) else none) = _
  rw [if_pos h1, h2]
  rfl
theorem max_some {ws : List Int} {w : Int} (h : w ∈ ws) : ∃ m, maxD [.list (ws.map .int)] = some (.v (.int m)) ∧ m ∈ ws ∧ ∀ y ∈ ws, y ≤ m := by
  cases e : maxI ws with
  | none =>
    rw [maxI_none e] at h
    cases h
  | some m =>
    obtain ⟨h1, h2⟩ := maxI_ok e
    refine ⟨m, ?_, h1, h2⟩
    show (intsOf (ws.map PyData.int)).bind _ = _
    rw [intsOf_map]
    show (maxI ws).map _ = _
    rw [e]
    rfl
theorem e_maker {p : Str × Int} (h1 : goodS p.1) (h2 : 0 ≤ p.2) (h3 : p.2 ≤ 4) : ∃ as', r_p_is_maker [.val (prM p)] = some (.v (.bool true), as') := by
  suffices h : ∃ r as', r_p_is_maker [.val (prM p)] = some (r, as') ∧ r = .v (.bool true) by
    obtain ⟨r, as', e, rfl⟩ := h
    exact ⟨as', e⟩
  obtain ⟨s, w⟩ := p
  obtain ⟨as1, e1⟩ := e_name h1
  obtain ⟨as2, e2⟩ := e_whole h2 h3
  refine ev_run ?_
  unfold d_p_is_maker
  repeat walk_at "ev"
  refine ev_neI ?_
  repeat walk_at "ev"
  refine ⟨(), _, rfl, ?_⟩
  repeat walk_at "ev"
  refine ev_callV ?_
  repeat walk_at "ev"
  refine ⟨_, _, e1, rfl, ?_⟩
  repeat walk_at "ev"
  refine ev_callV ?_
  repeat walk_at "ev"
  exact ⟨_, _, e2, rfl, rfl⟩
theorem e_are {mk : List (Str × Int)} (h2 : 2 ≤ mk.length) (h5 : mk.length ≤ 5) (nd : (mk.map (·.1)).Nodup) (hg : ∀ p ∈ mk, goodS p.1 ∧ 0 ≤ p.2 ∧ p.2 ≤ 4) (h0 : (0 : Int) ∈ mk.map (·.2)) (hw : ∃ w ∈ mk.map (·.2), 2 ≤ w) : ∃ as', r_p_are_makers [.val (.list (mk.map prM))] = some (.v (.bool true), as') := by
  suffices h : ∃ r as', r_p_are_makers [.val (.list (mk.map prM))] = some (r, as') ∧ r = .v (.bool true) by
    obtain ⟨r, as', e, rfl⟩ := h
    exact ⟨as', e⟩
  refine ev_run ?_
  unfold d_p_are_makers
  repeat walk_at "ev"
  have lm : ((mk.map prM).length : Int) = mk.length := by rw [List.length_map]
  have e5 : decide (((mk.map prM).length : Int) ≤ 5) = true := decide_eq_true (by omega)
  refine ⟨by omega, ?_⟩
  repeat walk_at "ev"
  rw [e5]
  repeat walk_at "ev"
  refine lcG_ev (fun ds acc τ => ∃ (n : Nat) (ms : List (Str × Int)), ds = ms.map prM ∧ acc = (List.replicate n true).map .bool ∧ n + ms.length ≤ 5 ∧ τ = [.val (.list (mk.map prM)), .un, .un, .un, .un, .un] ∧ ∀ p ∈ ms, goodS p.1 ∧ 0 ≤ p.2 ∧ p.2 ≤ 4) ⟨0, mk, rfl, rfl, by omega, rfl, hg⟩ ?_ ?_
  rotate_left
  · rintro d ds acc τ ⟨n, ms, hd, rfl, hn, rfl, hg⟩
    obtain ⟨p, ms', rfl⟩ : ∃ p t, ms = p :: t := by
      cases ms with
      | nil => cases hd
      | cons c t => exact ⟨c, t, rfl⟩
    rw [List.map_cons] at hd
    obtain ⟨rfl, rfl⟩ := List.cons.inj hd
    rw [List.length_cons] at hn
    obtain ⟨g1, g2, g3⟩ := hg p List.mem_cons_self
    obtain ⟨as1, e1⟩ := e_maker g1 g2 g3
    refine ev_lcT rfl ?_
    repeat walk_at "ev"
    refine ev_callV ?_
    repeat walk_at "ev"
    refine ⟨_, _, e1, rfl, ?_⟩
    repeat walk_at "ev"
    refine ⟨by rw [List.length_map, List.length_replicate]; omega, n + 1, ms', rfl, ?_, by omega, rfl, fun c hc => hg c (List.mem_cons_of_mem _ hc)⟩
    rw [List.replicate_succ', List.map_append]
    rfl
  rintro acc τ ⟨n, ms, hd, rfl, hn, rfl, _⟩
  repeat walk_at "ev"
  refine ⟨_, .v (.bool true), rfl, ?_, ?_⟩
  · show (boolsOf ((List.replicate n true).map .bool)).map _ = _
    rw [boolsOf_map]
    simp
  repeat walk_at "ev"
  refine lcG_ev (fun ds acc τ => ∃ (ns : List Str) (ms : List (Str × Int)), ds = ms.map prM ∧ acc = ns.map .str ∧ ns ++ ms.map (·.1) = mk.map (·.1) ∧ ns.length + ms.length = mk.length ∧ τ = [.val (.list (mk.map prM)), .un, .un, .un, .un, .un]) ⟨[], mk, rfl, rfl, rfl, by simp, rfl⟩ ?_ ?_
  rotate_left
  · rintro d ds acc τ ⟨ns, ms, hd, rfl, hn, hl, rfl⟩
    obtain ⟨p, ms', rfl⟩ : ∃ p t, ms = p :: t := by
      cases ms with
      | nil => cases hd
      | cons c t => exact ⟨c, t, rfl⟩
    rw [List.map_cons] at hd
    obtain ⟨rfl, rfl⟩ := List.cons.inj hd
    rw [List.length_cons] at hl
    refine ev_lcT rfl ?_
    refine ⟨(), _, rfl, ?_⟩
    repeat walk_at "ev"
    refine ⟨by rw [List.length_map]; omega, ns ++ [p.1], ms', rfl, by rw [List.map_append]; rfl, by rw [List.append_assoc]; exact hn, by rw [List.length_append, List.length_singleton]; omega, rfl⟩
  rintro acc τ ⟨ns, ms, hd, rfl, hn, hl, rfl⟩
  have hm : ms = [] := by
    cases ms with
    | nil => rfl
    | cons c t => cases hd
  subst hm
  rw [List.map_nil, List.append_nil] at hn
  subst hn
  repeat walk_at "ev"
  refine lcG_ev (fun ds acc τ => ∃ (ws : List Int) (ms : List (Str × Int)), ds = ms.map prM ∧ acc = ws.map .int ∧ ws ++ ms.map (·.2) = mk.map (·.2) ∧ ws.length + ms.length = mk.length ∧ τ = [.val (.list (mk.map prM)), .own (.L ((mk.map (·.1)).map .str)), .un, .un, .un, .un]) ⟨[], mk, rfl, rfl, rfl, by simp, rfl⟩ ?_ ?_
  rotate_left
  · rintro d ds acc τ ⟨ws, ms, hd, rfl, hn, hl, rfl⟩
    obtain ⟨p, ms', rfl⟩ : ∃ p t, ms = p :: t := by
      cases ms with
      | nil => cases hd
      | cons c t => exact ⟨c, t, rfl⟩
    rw [List.map_cons] at hd
    obtain ⟨rfl, rfl⟩ := List.cons.inj hd
    rw [List.length_cons] at hl
    refine ev_lcT rfl ?_
    refine ⟨(), _, rfl, ?_⟩
    repeat walk_at "ev"
    refine ⟨by rw [List.length_map]; omega, ws ++ [p.2], ms', rfl, by rw [List.map_append]; rfl, by rw [List.append_assoc]; exact hn, by rw [List.length_append, List.length_singleton]; omega, rfl⟩
  rintro acc τ ⟨ws, ms, hd, rfl, hn, hl2, rfl⟩
  have hm : ms = [] := by
    cases ms with
    | nil => rfl
    | cons c t => cases hd
  subst hm
  rw [List.map_nil, List.append_nil] at hn
  subst hn
  repeat walk_at "ev"
  refine ev_eqI ?_
  refine ev_lenSet ?_
  refine ev_Vo rfl ?_
  refine ⟨_, rfl, nd, by rw [List.length_map]; omega, ?_⟩
  repeat walk_at "ev"
  rw [show decide (((mk.map (·.1)).length : Int) = (((mk.map (·.1)).map PyData.str).length : Int)) = true from decide_eq_true (by rw [List.length_map (f := PyData.str)])]
  repeat walk_at "ev"
  refine ev_op ?_
  repeat walk_at "ev"
  refine ⟨_, _, _, rfl, rfl, in_true h0, ?_⟩
  repeat walk_at "ev"
  obtain ⟨w, hw1, hw2⟩ := hw
  obtain ⟨m, hm1, hm2, hm3⟩ := max_some hw1
  refine ⟨_, _, rfl, hm1, ?_⟩
  repeat walk_at "ev"
  show R.v (.bool (decide (2 ≤ m))) = _
  rw [decide_eq_true (Int.le_trans hw2 (hm3 w hw1))]
theorem e_init {mk : List (Str × Int)} (h2 : 2 ≤ mk.length) (h5 : mk.length ≤ 5) (nd : (mk.map (·.1)).Nodup) (hg : ∀ p ∈ mk, goodS p.1 ∧ 0 ≤ p.2 ∧ p.2 ≤ 4) (h0 : (0 : Int) ∈ mk.map (·.2)) (hw : ∃ w ∈ mk.map (·.2), 2 ≤ w) :
    r_m_Kind_init [.io (.I 0 []), .val (.list (mk.map prM))] = some (.v .none, [.io (.I 0 [(.str "_makers", .list (mk.map prM))]), .val (.list (mk.map prM))]) := by
  suffices h : ∃ r as', r_m_Kind_init [.io (.I 0 []), .val (.list (mk.map prM))] = some (r, as') ∧ r = .v .none ∧ as' = [.io (.I 0 [(.str "_makers", .list (mk.map prM))]), .val (.list (mk.map prM))] by
    obtain ⟨r, as', e, rfl, rfl⟩ := h
    exact e
  obtain ⟨as1, e1⟩ := e_are h2 h5 nd hg h0 hw
  refine ev_run ?_
  unfold d_m_Kind_init
  repeat walk_at "ev"
  refine ev_callV ?_
  repeat walk_at "ev"
  refine ⟨_, _, e1, rfl, ?_⟩
  repeat walk_at "ev"
  rfl
open BW BW.MR
instance (priority := high) St.draw_ {as : M (List R)} {τ : List SD} {PR : R → List SD → Prop} : St (Ev (mb as (callD r_digit [])) τ PR) (Ev as τ fun rs τ1 => DrawK rs τ1 PR) := ⟨ev_drawc⟩
theorem DrawK.st {j k : Nat} {n : Int} {x : Own} {τ : List SD} {τ' : Own → List SD} {P : R → List SD → Prop} [h : OwnC τ j x] [o : ∀ y, OwnSetC τ j y (τ' y)] (hx : WlD k x) (hk : k < 1000000) (h0 : 0 < n) (h1 : n < 1073741824) (q : ∀ r y, WlD (k + 1) y → 0 ≤ r → r < n → P (.v (.int r)) (τ' y)) : DrawK [.o j, .v (.int n)] τ P :=
  DrawK.mk' h.eq hx hk h0 h1 fun r y a b c => by rw [(o y).eq]; exact q r y a b c
instance AsT.tD_ {t : List Int} : AsT (tD t) (t.map .int) := ⟨rfl⟩
instance AsT.prM_ {p : Str × Int} : AsT (prM p) [.str p.1, .int p.2] := ⟨rfl⟩
instance AsK.kindD_ {mk : List (Str × Int)} {τ : List SD} {f : Str} {Q : R → Prop} {d : Dt} [k : LookC f [(.str "_makers", .list (mk.map prM))] d] : St (FldK 0 f (.v (kindD mk)) τ Q) (Q (.v d)) := ⟨fun q => ⟨_, _, rfl, k.eq, q⟩⟩
instance St.addtD_ {τ : List SD} {x y : R} {PR : R → List SD → Prop} {a b : List Int} [hx : VwC τ x (tD a)] [hy : VwC τ y (tD b)] : St (OpK addD x y τ PR) (SideK (a.length + b.length ≤ 1000000) (PR (.v (tD (a ++ b))) τ)) :=
  ⟨fun ⟨h1, h⟩ => ⟨tD a, tD b, .v (tD (a ++ b)), hx.eq, hy.eq, by
    show (if (a.map PyData.int).length + (b.map PyData.int).length ≤ 1000000 then some (R.v (.tuple (a.map PyData.int ++ b.map PyData.int))) else none) = _
    rw [if_pos (by rw [List.length_map, List.length_map]; exact h1), ← List.map_append]
    rfl, h⟩⟩
instance St.addtD1_ {τ : List SD} {x y : R} {PR : R → List SD → Prop} {a : List Int} {m : Int} [hx : VwC τ x (tD a)] [hy : VwC τ y (.tuple [.int m])] : St (OpK addD x y τ PR) (SideK (a.length + 1 ≤ 1000000) (PR (.v (tD (a ++ [m]))) τ)) :=
  ⟨fun ⟨h1, h⟩ => ⟨tD a, .tuple [.int m], .v (tD (a ++ [m])), hx.eq, hy.eq, by
    show (if (a.map PyData.int).length + 1 ≤ 1000000 then some (R.v (.tuple (a.map PyData.int ++ [.int m]))) else none) = _
    rw [if_pos (by rw [List.length_map]; exact h1), show a.map PyData.int ++ [PyData.int m] = (a ++ [m]).map .int by rw [List.map_append]; rfl]
    rfl, h⟩⟩
instance ShC.tD_ {t : List Int} : ShC (tD t) 1 := ⟨Sh.tup Sh.ints⟩
/-- a method of a kind's -/
class MN (m : Str) : Prop where
  eq : (m == Str.ofString "_makers") = false
instance MN.a_ : MN (Str.ofString "withins") := ⟨by decide +kernel⟩
instance MN.b_ : MN (Str.ofString "makers") := ⟨by decide +kernel⟩
instance MN.c_ : MN (Str.ofString "poly") := ⟨by decide +kernel⟩
instance MN.d_ : MN (Str.ofString "gap") := ⟨by decide +kernel⟩
instance MN.e_ : MN (Str.ofString "name") := ⟨by decide +kernel⟩
instance MN.f_ : MN (Str.ofString "within") := ⟨by decide +kernel⟩
instance MN.g_ : MN (Str.ofString "number") := ⟨by decide +kernel⟩
instance MN.h_ : MN (Str.ofString "first_leaf") := ⟨by decide +kernel⟩
instance MN.i_ : MN (Str.ofString "first_wide") := ⟨by decide +kernel⟩
instance MN.j_ : MN (Str.ofString "_maker") := ⟨by decide +kernel⟩
instance St.methkd_ {m : Str} {f : List SD → Option (R × List SD)} {mk : List (Str × Int)} {rs : List R} {xs τ : List SD} {PR : R → List SD → Prop} [n : MN m] [h : ArgsC τ rs xs] : St (MethK 0 m f (kindD mk) rs τ PR) (SideK (ioOf 0 rs = []) (CallK f (.val (kindD mk) :: xs) τ PR)) :=
  ⟨fun ⟨h0, q⟩ => ⟨_, xs, rfl, by unfold lookK; rw [n.eq]; rfl, h.eq, h0, q⟩⟩
def LenVK (f : List SD → Option (R × List SD)) (xs τ : List SD) (PR : R → List SD → Prop) : Prop := CallK f xs τ fun r τ3 => ∃ n, r = .v (.int n) ∧ (0 ≤ n ∧ n < 1000000) ∧ PR (.v (.int n)) τ3
instance St.lenkd_ {f : List SD → Option (R × List SD)} {mk : List (Str × Int)} {τ : List SD} {PR : R → List SD → Prop} : St (LenOK 0 f (kindD mk) τ PR) (LenVK f [.val (kindD mk)] τ PR) := ⟨fun q => ⟨_, rfl, q⟩⟩
theorem LenVK.mk {f : List SD → Option (R × List SD)} {xs τ : List SD} {PR : R → List SD → Prop} {n : Nat} (h : Ret f xs (.v (.int n))) (hn : n < 1000000) (p : PR (.v (.int n)) τ) : LenVK f xs τ PR := CallK.v h ⟨_, rfl, ⟨by omega, by omega⟩, p⟩
theorem OpK.mk {f : Dt → Dt → Option R} {x y r : R} {d e : Dt} {τ : List SD} {PR : R → List SD → Prop} (e1 : vw τ x = some d) (e2 : vw τ y = some e) (e3 : f d e = some r) (p : PR r τ) : OpK f x y τ PR := ⟨_, _, _, e1, e2, e3, p⟩
theorem tD_to {l : List Int} {k : Nat} : PyData.tuple (cutD (l.map PyData.int) none (some (k : Int))) = tD (l.take k) := by
  rw [cut_to, ← List.map_take]
  rfl
theorem tD_from {l : List Int} {k : Nat} : PyData.tuple (cutD (l.map PyData.int) (some (k : Int)) none) = tD (l.drop k) := by
  rw [cut_from, ← List.map_drop]
  rfl
theorem tD_mid {l : List Int} {j k : Nat} : PyData.tuple (cutD (l.map PyData.int) (some (j : Int)) (some ((j + k : Nat) : Int))) = tD ((l.drop j).take k) := by
  rw [cut_mid (by omega), Nat.add_sub_cancel_left, ← List.map_drop, ← List.map_take]
  rfl
section
variable {x : R} {τ : List SD} {PR : R → List SD → Prop} {t : List Int} {p q : Int} {j k : Nat}
theorem SlK.tfrom [hx : VwC τ x (tD t)] (hp : p = (j : Int)) (h : PR (.v (tD (t.drop j))) τ) : SlK x (some p) none τ PR := ⟨tD t, _, hx.eq, by subst hp; exact congrArg (fun z => some (R.v z)) tD_from, h⟩
theorem SlK.tto [hx : VwC τ x (tD t)] (hp : p = (j : Int)) (h : PR (.v (tD (t.take j))) τ) : SlK x none (some p) τ PR := ⟨tD t, _, hx.eq, by subst hp; exact congrArg (fun z => some (R.v z)) tD_to, h⟩
theorem SlK.tmid [hx : VwC τ x (tD t)] (hp : p = (j : Int)) (hq : q = ((j + k : Nat) : Int)) (h : PR (.v (tD ((t.drop j).take k))) τ) : SlK x (some p) (some q) τ PR := ⟨tD t, _, hx.eq, by subst hp; subst hq; exact congrArg (fun z => some (R.v z)) tD_mid, h⟩
instance St.revtD_ [hx : VwC τ x (tD t)] : St (UnK revD x τ PR) (PR (.v (tD t.reverse)) τ) := ⟨fun h => ⟨tD t, _, hx.eq, by show some (R.v (.tuple (t.map PyData.int).reverse)) = _; rw [← List.map_reverse]; rfl, h⟩⟩
end
instance St.maxdf_ {a d : M R} {τ : List SD} {PR : R → List SD → Prop} : St (Ev (eMaxDf a d) τ PR) (Ev a τ fun r τ1 => Ev d τ1 fun z τ2 => OpK maxfD r z τ2 PR) := ⟨fun h => ev_maxDf h⟩
/-! more words for the reader by classes -/
def PopK (i : Nat) (rs : List R) (τ : List SD) (PR : R → List SD → Prop) : Prop := ∃ ds k d, ownAt τ i = some (.L ds) ∧ rds rs = some [.int k] ∧ (0 ≤ k ∧ k ≤ 1000000) ∧ ds[k.toNat]? = some d ∧ PR (.v d) (ownSet τ i (.L (ds.eraseIdx k.toNat)))
instance St.popat_ {i : Nat} {as : M (List R)} {τ : List SD} {PR : R → List SD → Prop} {l : List Dt} [h : OwnC τ i (.L l)] : St (Ev (ePopAt i as) τ PR) (Ev as τ fun rs τ1 => PopK i rs τ1 PR) := ⟨fun q => ev_popAt ⟨l, h.eq, q⟩⟩
theorem PopK.mk {α : Type} {f : α → Dt} {i : Nat} {k : Int} {l : List α} {a : α} {τ τ' : List SD} {PR : R → List SD → Prop} [h : OwnC τ i (.L (l.map f))] (k0 : 0 ≤ k) (k1 : k ≤ 1000000) (e : l[k.toNat]? = some a) [o : OwnSetC τ i (.L ((l.eraseIdx k.toNat).map f)) τ'] (p : PR (.v (f a)) τ') : PopK i [.v (.int k)] τ PR :=
  ⟨l.map f, k, f a, h.eq, rfl, ⟨k0, k1⟩, by rw [List.getElem?_map, e]; rfl, by rw [erase_map, o.eq]; exact p⟩
instance St.sorttD_ {rs : List R} {τ : List SD} {PR : R → List SD → Prop} {l : List Int} [h : VwsC τ rs [tD l]] : St (FnK sortD rs τ PR) (PR (.n (.L ((rising l).map .int))) τ) := ⟨fun q => ⟨_, .n (.L ((rising l).map .int)), h.eq, by show (intsOf (l.map PyData.int)).map _ = _; rw [intsOf_map]; rfl, q⟩⟩
instance St.sortl_ {rs : List R} {τ : List SD} {PR : R → List SD → Prop} {l : List Int} [h : VwsC τ rs [.list (l.map .int)]] : St (FnK sortD rs τ PR) (PR (.n (.L ((rising l).map .int))) τ) := ⟨fun q => ⟨_, .n (.L ((rising l).map .int)), h.eq, by show (intsOf (l.map PyData.int)).map _ = _; rw [intsOf_map]; rfl, q⟩⟩
theorem eqv_ints_nil {l : List Int} : PyData.eqv (.list (l.map .int)) (.list []) = l.isEmpty := by
  cases l <;> simp [PyData.eqv, PyData.eqvAll]
theorem OpK.str {a b : Str} {k : Bool} {x y : R} {τ : List SD} {PR : R → List SD → Prop} [hx : VwC τ x (.str a)] [hy : VwC τ y (.str b)] (h : (PyData.strOk a && PyData.strOk b && ((a == b) == k)) = true) (p : PR (.v (.bool k)) τ) : OpK eqD x y τ PR := by
  rw [Bool.and_eq_true, Bool.and_eq_true, beq_iff_eq] at h
  obtain ⟨⟨h1, h2⟩, h3⟩ := h
  refine ⟨_, _, .v (.bool k), hx.eq, hy.eq, ?_, p⟩
  unfold eqD
  rw [(Sh.str h1).shaped (by decide), (Sh.str h2).shaped (by decide), ← h3]
  rfl
theorem OpK.strn {a b : Str} {k : Bool} {x y : R} {τ : List SD} {PR : R → List SD → Prop} [hx : VwC τ x (.str a)] [hy : VwC τ y (.str b)] (h : (PyData.strOk a && PyData.strOk b && ((a == b) == !k)) = true) (p : PR (.v (.bool k)) τ) : OpK neD x y τ PR := by
  rw [Bool.and_eq_true, Bool.and_eq_true, beq_iff_eq] at h
  obtain ⟨⟨h1, h2⟩, h3⟩ := h
  refine ⟨_, _, .v (.bool k), hx.eq, hy.eq, ?_, p⟩
  unfold neD
  rw [(Sh.str h1).shaped (by decide), (Sh.str h2).shaped (by decide), show PyData.eqv (.str a) (.str b) = !k from h3, Bool.not_not]
  rfl
theorem OpK.inT {d e : Dt} {ds : List Dt} {k : Bool} {x y : R} {τ : List SD} {PR : R → List SD → Prop} [hx : VwC τ x d] [hy : VwC τ y e] [ht : AsT e ds] (h : (flatD d && ds.all flatD && (inF d ds == k)) = true) (p : PR (.v (.bool k)) τ) : OpK (inD false) x y τ PR := by
  rw [Bool.and_eq_true, beq_iff_eq] at h
  refine ⟨_, .tuple ds, .v (.bool k), hx.eq, by rw [hy.eq, ht.eq], ?_, p⟩
  show (if (flatD d && ds.all flatD) = true then some (R.v (.bool (inF d ds))) else none) = _
  rw [if_pos h.1, h.2]
instance (priority := high) St.intbT_ {rs : List R} {τ : List SD} {PR : R → List SD → Prop} [h : VwsC τ rs [.bool true]] : St (FnK intD rs τ PR) (PR (.v (.int 1)) τ) := ⟨fun q => ⟨_, _, h.eq, rfl, q⟩⟩
instance (priority := high) St.intbF_ {rs : List R} {τ : List SD} {PR : R → List SD → Prop} [h : VwsC τ rs [.bool false]] : St (FnK intD rs τ PR) (PR (.v (.int 0)) τ) := ⟨fun q => ⟨_, _, h.eq, rfl, q⟩⟩
theorem atI_pos {α : Type} {l : List α} {i : Int} {v : α} (h0 : 0 ≤ i) (h : l[i.toNat]? = some v) : L2.atI l i = some v := by
  have hl := (List.getElem?_eq_some_iff.mp h).1
  unfold L2.atI L2.ixN
  rw [if_pos h0, if_pos (by omega)]
  exact h
def Rng2K (rs : List R) (τ : List SD) (P : List Dt → Prop) : Prop := ∃ i j, vws τ rs = some [.int i, .int j] ∧ ((-1000000000000 ≤ i ∧ i ≤ 1000000000000) ∧ -1000000000000 ≤ j ∧ j ≤ 1000000000000) ∧ P ((List.range (j - i).toNat).map fun (k : Nat) => PyData.int (i + (k : Int)))
instance St.rng2_ {as : M (List R)} {τ : List SD} {PI : List Dt → List SD → Prop} : St (Ev (iRng2D as) τ PI) (Ev as τ fun rs τ1 => Rng2K rs τ1 fun ds => PI ds τ1) := ⟨fun h => ev_mb (h.imp fun rs τ1 ⟨i, j, e, hb, q⟩ => ⟨_, τ1, by
  show (match vws τ1 rs with | some [.int i, .int j] => if okN i && okN j then some (rngD i (j - i).toNat, τ1) else none | _ => none) = _
  rw [e]
  exact if_pos (by unfold okN; rw [Bool.and_eq_true]; exact ⟨decide_eq_true hb.1, decide_eq_true hb.2⟩), q⟩)⟩
instance St.rng2k_ {rs : List R} {τ : List SD} {P : List Dt → Prop} {i j : Int} [h : VwsC τ rs [.int i, .int j]] : St (Rng2K rs τ P) (SideK ((-1000000000000 ≤ i ∧ i ≤ 1000000000000) ∧ -1000000000000 ≤ j ∧ j ≤ 1000000000000) (P ((List.range (j - i).toNat).map fun (k : Nat) => PyData.int (i + (k : Int))))) := ⟨fun ⟨h1, q⟩ => ⟨i, j, h.eq, h1, q⟩⟩
theorem inV_str {w : Str} : ∀ {ts : List Str}, inF (.str w) (ts.map .str) = decide (w ∈ ts)
  | [] => rfl
  | t :: ts => by
    have ih := inV_str (w := w) (ts := ts)
    unfold inF inV at ih ⊢
    rw [List.map_cons, List.map_cons, List.any_cons, ih]
    show (t == w || decide (w ∈ ts)) = _
    by_cases e : t = w
    · subst e
      simp
    · rw [beq_eq_false_iff_ne.mpr e]
      have e2 : ¬ w = t := fun h => e h.symm
      simp [List.mem_cons, e2]
theorem flat_strs {ts : List Str} : (ts.map PyData.str).all flatD = true := all_flat_str
instance St.nins_ {x y : R} {τ : List SD} {PR : R → List SD → Prop} {w : Str} {ts : List Str} [hx : VwC τ x (.str w)] [hy : VwC τ y (.list (ts.map .str))] : St (OpK (inD true) x y τ PR) (PR (.v (.bool (!decide (w ∈ ts)))) τ) := ⟨fun p => ⟨_, _, .v (.bool (!decide (w ∈ ts))), hx.eq, hy.eq, by
  show (if (flatD (.str w) && (ts.map PyData.str).all flatD) = true then some (R.v (.bool (!inF (.str w) (ts.map .str)))) else none) = _
  rw [if_pos (by rw [flat_strs]; rfl), inV_str], p⟩⟩
theorem StoK.ints {i j : Nat} {k v : Int} {l : List Int} {x : R} {τ τ' : List SD} {P : List SD → Prop} [h : OwnC τ i (.L (l.map .int))] [hv : VwC τ x (.int k)] (e : ixN l.length k = some j) [o : OwnSetC τ i (.L ((l.set j v).map .int)) τ'] (p : P τ') : StoK i x (.int v) τ P :=
  ⟨l.map .int, k, j, h.eq, hv.eq, by rw [List.length_map]; exact e, by rw [← List.map_set, o.eq]; exact p⟩
theorem ixN_pos {n : Nat} {k : Int} (h0 : 0 ≤ k) (h1 : k < n) : ixN n k = some k.toNat := by
  unfold L2.ixN
  rw [if_pos h0, if_pos (by omega)]
theorem atI_ints {l : List Int} {k v : Int} (h0 : 0 ≤ k) (h : l[k.toNat]? = some v) : L2.atI (l.map PyData.int) k = some (.int v) := atI_pos h0 (by rw [List.getElem?_map, h]; rfl)
open BW BW.MR
structure GN (nums : List Int) : Prop where
  l2 : 2 ≤ nums.length
  l5 : nums.length ≤ 5
  b : ∀ n ∈ nums, 0 ≤ n ∧ n ≤ 4
  z : (0 : Int) ∈ nums
  w : ∃ w ∈ nums, 2 ≤ w
theorem gn_perm {a b : List Int} (h : a.Perm b) (g : GN a) : GN b := by
  obtain ⟨w, hw, w2⟩ := g.w
  exact ⟨by rw [← h.length_eq]; exact g.l2, by rw [← h.length_eq]; exact g.l5, fun n hn => g.b n (h.symm.subset hn), h.subset g.z, w, h.subset hw, w2⟩
theorem gn_snoc {a : List Int} {v : Int} (g : GN a) (l : a.length ≤ 4) (h0 : 0 ≤ v) (h4 : v ≤ 4) : GN (a ++ [v]) := by
  obtain ⟨w, hw, w2⟩ := g.w
  exact ⟨by rw [List.length_append]; have := g.l2; omega, by rw [List.length_append, List.length_singleton]; omega, fun n hn => by
    rcases List.mem_append.mp hn with h | h
    · exact g.b n h
    · rw [List.mem_singleton.mp h]; exact ⟨h0, h4⟩, List.mem_append_left _ g.z, w, List.mem_append_left _ hw, w2⟩
def fiveN : List Str := [Str.ofString "tip", Str.ofString "fork", Str.ofString "a", Str.ofString "stem", Str.ofString "bud"]
theorem fiveN_nd : fiveN.Nodup := by decide +kernel
theorem fiveN_good : ∀ s ∈ fiveN, goodS s := List.all_eq_true.mp (by decide +kernel)
theorem neL_nil {l : List Int} : neD (.list (l.map .int)) (.list []) = some (.v (.bool (!l.isEmpty))) := by
  have s1 : Sh 1 (.list (l.map PyData.int)) := Sh.lst Sh.ints
  have s2 : Sh 1 (.list (([] : List Int).map PyData.int)) := Sh.lst Sh.ints
  show neD (.list (l.map .int)) (.list (([] : List Int).map .int)) = _
  unfold neD
  rw [s1.shaped (by decide), s2.shaped (by decide)]
  show some (R.v (.bool (!PyData.eqv (.list (l.map .int)) (.list [])))) = _
  rw [eqv_ints_nil]
theorem some_at {q : Int} (q0 : 0 ≤ q) (q1 : q < 5) : ∃ v : Int, L2.atI [PyData.int 0, .int 0, .int 1, .int 2, .int 3] q = some (.int v) ∧ 0 ≤ v ∧ v ≤ 4 := by
  have : q = 0 ∨ q = 1 ∨ q = 2 ∨ q = 3 ∨ q = 4 := by omega
  rcases this with rfl | rfl | rfl | rfl | rfl
  · exact ⟨_, rfl, by decide, by decide⟩
  · exact ⟨_, rfl, by decide, by decide⟩
  · exact ⟨_, rfl, by decide, by decide⟩
  · exact ⟨_, rfl, by decide, by decide⟩
  · exact ⟨_, rfl, by decide, by decide⟩
theorem gn_one {d : Int} (d0 : 0 ≤ d) (d1 : d < 3) : GN [0, 2 + d] := ⟨by simp, by simp, fun n hn => by
  rcases List.mem_cons.mp hn with rfl | hn
  · decide
  · rw [List.mem_singleton.mp hn]
    omega, List.mem_cons_self, 2 + d, by simp, by omega⟩
theorem gn_five : GN [0, 0, 1, 2, 2] := ⟨by decide, by decide, by decide, by decide, 2, by decide, by decide⟩
theorem e_makers {k : Nat} {x : Own} (hx : WlD k x) (hk : k < 800000) : ∃ (mk : List (Str × Int)) (y : Own), r_makers [.io x] = some (.n (.L (mk.map prM)), [.io y]) ∧ WlD (k + 30) y ∧ GM mk := by
  suffices h : ∃ r as', r_makers [.io x] = some (r, as') ∧ ∃ (mk : List (Str × Int)) (y : Own), r = .n (.L (mk.map prM)) ∧ as' = [.io y] ∧ WlD (k + 30) y ∧ GM mk by
    obtain ⟨r, as', e, mk, y, rfl, rfl, h⟩ := h
    exact ⟨mk, y, e, h⟩
  refine run_st ?_
  unfold d_makers
  repeat walk_at "st"
  refine DrawK.st hx (by omega) (by omega) (by omega) fun d x0 hx0 d0 d1 => ?_
  repeat walk_at "st"
  refine DrawK.st hx0 (by omega) (by omega) (by omega) fun q x1 hx1 q0 q1 => ?_
  repeat walk_at "st"
  refine for_st (fun k : Nat => PyData.int (k : Int)) (fun (p : List Nat) τ => ∃ (t : List Int) (y : Own) (u2 : SD), τ = [.io y, .own (.L (t.map .int)), u2, .un, .un, .un] ∧ FreC u2 ∧ WlD (k + 2 + p.length) y ∧ t.length = 2 + p.length ∧ GN t) (xs := List.range q.toNat) rfl ⟨[0, 2 + d], x1, _, rfl, inferInstance, hx1.mono (by simp), rfl, gn_one d0 d1⟩ ?_ ?_
  rotate_left
  · rintro p j rest τ hp ⟨t, y, u2, rfl, f2, hy, hl, g⟩
    have hpl : p.length < 3 := by
      have := congrArg List.length hp
      simp at this
      omega
    repeat walk_at "st"
    refine DrawK.st hy (by omega) (by omega) (by omega) fun v y2 hy2 v0 v1 => ?_
    repeat walk_at "st"
    obtain ⟨c, hc, c0, c1⟩ := some_at v0 v1
    refine OpK.ixl hc ?_
    repeat walk_at "st"
    exact ⟨t ++ [c], y2, _, rfl, inferInstance, hy2.mono (by rw [List.length_append, List.length_singleton]; omega), by rw [List.length_append, List.length_append, hl]; rfl, gn_snoc g (by omega) c0 c1⟩
  rintro τ ⟨t, y, u2, rfl, f2, hy, hl, g⟩
  rw [List.length_range] at hy hl
  repeat walk_at "st"
  refine DrawK.st hy (by omega) (by omega) (by omega) fun e y2 hy2 e0 e1 => ?_
  repeat walk_at "st"
  refine IfK.join (fun τ => ∃ (ms : List Int), τ = [.io y2, .own (.L (ms.map .int)), u2, .un, .un, .un] ∧ GN ms) (fun c => ?_) (fun c => ?_) ?_
  · repeat walk_at "st"
    exact ⟨rfl, [0, 0, 1, 2, 2], rfl, gn_five⟩
  · repeat walk_at "st"
    exact ⟨rfl, t, rfl, g⟩
  rintro τ ⟨ms, rfl, gm⟩
  have l5 := gm.l5
  repeat walk_at "st"
  refine while_st (fun n τ => ∃ (l : List Int) (mk : List (Str × Int)) (y : Own) (u5 : SD), τ = [.io y, .own (.L (l.map .int)), u2, .own (.L (mk.map prM)), .own (.L [.str (Str.ofString "tip"), .str (Str.ofString "fork"), .str (Str.ofString "a"), .str (Str.ofString "stem"), .str (Str.ofString "bud")]), u5] ∧ FreC u5 ∧ n = l.length ∧ (mk.map (·.2) ++ l).Perm ms ∧ mk.map (·.1) = fiveN.take mk.length ∧ WlD (k + 10 + mk.length) y) ms.length ⟨ms, [], y2, _, rfl, inferInstance, rfl, .refl _, rfl, hy2.mono (by simp; omega)⟩ ?_
  rintro n τ ⟨l, mk, y, u5, rfl, f5, rfl, pe, hn, hy⟩
  have lt := pe.length_eq
  rw [List.length_append, List.length_map] at lt
  repeat walk_at "st"
  cases l with
  | nil =>
    refine OpK.mk (d := .list (([] : List Int).map .int)) (e := .list []) (r := .v (.bool false)) rfl rfl neL_nil ?_
    repeat walk_at "st"
    rw [List.append_nil] at pe
    have gp := gn_perm pe.symm gm
    refine ⟨mk, y, rfl, rfl, hy.mono (by simp at lt; omega), ⟨by have := gp.l2; rw [List.length_map] at this; exact this, by have := gp.l5; rw [List.length_map] at this; exact this, by rw [hn]; exact fiveN_nd.sublist (List.take_sublist _ _), fun p hp => ⟨?_, gp.b p.2 (List.mem_map.mpr ⟨p, hp, rfl⟩)⟩, gp.z, gp.w⟩⟩
    exact fiveN_good _ (List.mem_of_mem_take (hn ▸ List.mem_map.mpr ⟨p, hp, rfl⟩))
  | cons a l =>
    have lc : (a :: l).length = l.length + 1 := rfl
    refine OpK.mk (d := .list ((a :: l).map .int)) (e := .list []) (r := .v (.bool true)) rfl rfl neL_nil ?_
    repeat walk_at "st"
    refine DrawK.st hy (by omega) (by omega) (by omega) fun v y2 hy2 v0 v1 => ?_
    obtain ⟨m, hm⟩ : ∃ m, (a :: l)[v.toNat]? = some m := ⟨_, List.getElem?_eq_getElem (by omega)⟩
    have hp1 := erase_perm hm
    have hl2 := hp1.length_eq
    rw [List.length_cons] at hl2
    repeat walk_at "st"
    refine PopK.mk v0 (by omega) hm ?_
    repeat walk_at "st"
    obtain ⟨s, hs⟩ : ∃ s, fiveN[mk.length]? = some s := ⟨_, List.getElem?_eq_getElem (by show mk.length < 5; omega)⟩
    refine OpK.ixl (d := .str s) (atI_pos (by omega) (by
      rw [Int.toNat_natCast]
      show (fiveN.map PyData.str)[mk.length]? = _
      rw [List.getElem?_map, hs]
      rfl)) ?_
    repeat walk_at "st"
    refine ⟨((a :: l).eraseIdx v.toNat).length, by omega, (a :: l).eraseIdx v.toNat, mk ++ [(s, m)], y2, _, by rw [List.map_append]; rfl, inferInstance, rfl, ?_, ?_, hy2.mono (by rw [List.length_append, List.length_singleton]; omega)⟩
    · rw [List.map_append, List.append_assoc]
      exact (hp1.append_left _).trans pe
    · rw [List.map_append, hn, List.length_append, List.length_singleton, List.take_add_one, hs]
      rfl
open BW BW.MR
theorem e_withins {mk : List (Str × Int)} (h5 : mk.length ≤ 1000) : r_m_Kind_withins [.val (kindD mk)] = some (.n (.L ((mk.map (·.2)).map .int)), [.val (kindD mk)]) := by
  suffices h : ∃ r as', r_m_Kind_withins [.val (kindD mk)] = some (r, as') ∧ r = .n (.L ((mk.map (·.2)).map .int)) ∧ as' = [.val (kindD mk)] by
    obtain ⟨r, as', e, rfl, rfl⟩ := h
    exact e
  refine ev_run ?_
  unfold d_m_Kind_withins
  refine ev_ret (ev_lc (ev_seqI (ev_fld (ev_V rfl ⟨_, _, rfl, rfl, ?_⟩))))
  refine ev_fzv ⟨_, rfl, ?_⟩
  refine lcG_ev (fun ds acc τ => ∃ (ws : List Int) (ms : List (Str × Int)), ds = ms.map prM ∧ acc = ws.map .int ∧ ws ++ ms.map (·.2) = mk.map (·.2) ∧ ws.length + ms.length = mk.length ∧ τ = [.val (kindD mk), .un, .un]) ⟨[], mk, rfl, rfl, rfl, by simp, rfl⟩ ?_ ?_
  rotate_left
  · rintro d ds acc τ ⟨ws, ms, hd, rfl, hn, hl, rfl⟩
    obtain ⟨p, ms', rfl⟩ : ∃ p t, ms = p :: t := by
      cases ms with
      | nil => cases hd
      | cons c t => exact ⟨c, t, rfl⟩
    rw [List.map_cons] at hd
    obtain ⟨rfl, rfl⟩ := List.cons.inj hd
    rw [List.length_cons] at hl
    refine ev_lcT rfl ?_
    refine ⟨(), _, rfl, ?_⟩
    repeat walk_at "ev"
    refine ⟨by rw [List.length_map]; omega, ws ++ [p.2], ms', rfl, by rw [List.map_append]; rfl, by rw [List.append_assoc]; exact hn, by rw [List.length_append, List.length_singleton]; omega, rfl⟩
  rintro acc τ ⟨ws, ms, hd, rfl, hn, hl2, rfl⟩
  have hm : ms = [] := by
    cases ms with
    | nil => rfl
    | cons c t => cases hd
  subst hm
  rw [List.map_nil, List.append_nil] at hn
  subst hn
  exact ⟨rfl, rfl⟩
open BW BW.MR
theorem e_whole_ok {i lo hi : Int} (h0 : lo ≤ i) (h1 : i ≤ hi) : Ret r_p_is_whole [.val (.int i), .val (.int lo), .val (.int hi)] (.v (.bool true)) := by
  refine ret_st ?_
  unfold d_p_is_whole
  repeat walk_at "st"
  show R.v (.bool (decide (i ≤ hi))) = _
  rw [decide_eq_true h1]
theorem ne_self {k : Nat} {d : Dt} (s : Sh k d) (hk : k ≤ 64) : neD d d = some (.v (.bool false)) := by
  unfold neD
  rw [s.shaped hk, eqv_refl s.1]
  rfl
theorem eq_self {k : Nat} {d : Dt} (s : Sh k d) (hk : k ≤ 64) : eqD d d = some (.v (.bool true)) := by
  unfold eqD
  rw [s.shaped hk, eqv_refl s.1]
  rfl
theorem good_ok {s : Str} (h : goodS s) : PyData.strOk s = true := by
  have g : goodB s = true := h
  unfold goodB at g
  rw [Bool.and_eq_true, Bool.and_eq_true, List.all_eq_true] at g
  unfold PyData.strOk
  refine Array.all_eq_true'.mpr fun c hc => ?_
  have := g.2 c (by simpa using hc)
  rw [Bool.and_eq_true, decide_eq_true_eq, decide_eq_true_eq] at this
  exact decide_eq_true (by omega)
theorem sh_mk {mk : List (Str × Int)} (h : ∀ p ∈ mk, goodS p.1) : Sh 2 (mkD mk) := Sh.lst (Sh.maps fun p hp => Sh.tup fun d hd => by
  rcases List.mem_cons.mp hd with rfl | hd
  · exact Sh.str (good_ok (h p hp))
  · rw [List.mem_singleton.mp hd]
    exact Sh.int)
/-! racks -/
structure RK (t : List Int) : Prop where
  b : ∀ n ∈ t, 0 ≤ n ∧ n ≤ 200
  l : t.length ≤ 4000
theorem e_is_rack {t : List Int} (h : RK t) : Ret r_p_is_rack [.val (tD t)] (.v (.bool true)) := by
  have hl := h.l
  refine ret_st ?_
  unfold d_p_is_rack
  repeat walk_at "st"
  refine map_st PyData.int (fun _ => .bool true) (xs := t) rfl rfl (by omega) ?_ ?_
  rotate_left
  · intro n hn
    repeat walk_at "st"
    refine CallU.v (e_whole_ok (h.b n hn).1 (h.b n hn).2) ?_
    repeat walk_at "st"
    exact ⟨rfl, rfl⟩
  rw [show t.map (fun _ => PyData.bool true) = (List.replicate t.length true).map .bool by rw [List.map_replicate, List.map_const']]
  repeat walk_at "st"
  show R.v (.bool ((List.replicate t.length true).all id)) = _
  rw [show (List.replicate t.length true).all id = true by simp]
theorem e_need_rack {t : List Int} (h : RK t) : Ret r_p_need_rack [.val (tD t)] (.v .none) := by
  refine ret_st ?_
  unfold d_p_need_rack
  repeat walk_at "st"
  refine CallU.v (e_is_rack h) ?_
  repeat walk_at "st"
  rfl
open BW BW.MR
theorem range_set {α : Type} (f : Nat → α) (N p : Nat) (v : α) : ((List.range N).map f).set p v = (List.range N).map fun k => if k = p then v else f k := by
  apply List.ext_getElem
  · simp
  · intro i h1 h2
    simp only [List.getElem_set, List.getElem_map, List.getElem_range]
    by_cases h : p = i
    · rw [if_pos h, if_pos h.symm]
    · rw [if_neg h, if_neg (Ne.symm h)]
def hasT (t : List Int) : Bool := t.any fun n => decide (0 < n)
theorem max_any {t : List Int} : ∃ m : Int, maxfD (tD t) (.int 0) = some (.v (.int m)) ∧ (∀ n ∈ t, n ≤ m) ∧ (m = 0 ∨ m ∈ t) ∧ decide (0 < m) = hasT t := by
  have e0 : maxfD (tD t) (.int 0) = some (match maxI t with | some m => .v (.int m) | none => .v (.int 0)) := by
    show (intsOf (t.map PyData.int)).map _ = _
    rw [intsOf_map]
    rfl
  rw [e0]
  cases e : maxI t with
  | none =>
    rw [maxI_none e]
    exact ⟨0, rfl, (fun n h => by cases h), .inl rfl, rfl⟩
  | some m =>
    obtain ⟨h1, h2⟩ := maxI_ok e
    refine ⟨m, rfl, h2, .inr h1, ?_⟩
    unfold hasT
    by_cases c : 0 < m
    · rw [decide_eq_true c]
      exact (List.any_eq_true.mpr ⟨m, h1, decide_eq_true c⟩).symm
    · rw [decide_eq_false c]
      refine (List.any_eq_false.mpr fun n hn => ?_).symm
      have := h2 n hn
      rw [decide_eq_true_eq]
      omega
theorem e_within {mk : List (Str × Int)} (l5 : mk.length ≤ 1000) : Ret r_within [.val (.list (mk.map prM))] (.n (.L ((wsO mk).map .int))) := by
  refine ret_st ?_
  unfold d_within
  repeat walk_at "st"
  refine map_st prM (fun p => .int p.2) (xs := mk) rfl rfl (by omega) ?_ ?_
  rotate_left
  · intro p hp
    repeat walk_at "st"
    exact ⟨rfl, rfl⟩
  rw [show (mk.map fun p => PyData.int p.2) = (wsO mk).map .int by rw [List.map_map]; rfl]
  repeat walk_at "st"
  rfl
/-- racks of few forms of few trees -/
structure RKn (N L : Nat) (t : List Int) : Prop where
  b : ∀ n ∈ t, 0 ≤ n ∧ n ≤ N
  l : t.length ≤ L
theorem RKn.rk {N L : Nat} {t : List Int} (h : RKn N L t) (hN : N ≤ 200 := by decide) (hL : L ≤ 4000 := by decide) : RK t := ⟨fun n hn => by have := h.b n hn; omega, by have := h.l; omega⟩
theorem RKn.perm {N L : Nat} {a b : List Int} (h : a.Perm b) (ha : RKn N L a) : RKn N L b := ⟨fun n hn => ha.b n (h.symm.subset hn), by rw [← h.length_eq]; exact ha.l⟩
theorem RKn.app {N L L2 : Nat} {a b : List Int} (ha : RKn N L a) (hb : RKn N L2 b) : RKn N (L + L2) (a ++ b) := ⟨fun n hn => by
  rcases List.mem_append.mp hn with h | h
  · exact ha.b n h
  · exact hb.b n h, by
  have := ha.l
  have := hb.l
  rw [List.length_append]
  omega⟩
theorem neL_snoc {s : List Int} {z : Int} : neD (.list ((s ++ [z]).map .int)) (.list []) = some (.v (.bool true)) := by
  rw [neL_nil, show (s ++ [z]).isEmpty = false by simp]
  rfl
theorem range_at {n k : Nat} {p rest : List Nat} (h : List.range n = p ++ k :: rest) : k = p.length ∧ k < n := by
  have h1 : (List.range n)[p.length]? = some k := by rw [h, List.getElem?_append_right (Nat.le_refl _), Nat.sub_self]; rfl
  obtain ⟨h2, h3⟩ := List.getElem?_eq_some_iff.mp h1
  rw [List.getElem_range] at h3
  exact ⟨h3.symm, List.mem_range.mp (by rw [h]; simp)⟩
theorem max_fit {t : List Int} (h : RK t) : ∃ m : Int, maxfD (tD t) (.int 0) = some (.v (.int m)) ∧ m ≤ 200 := by
  have e0 : maxfD (tD t) (.int 0) = some (match maxI t with | some m => .v (.int m) | none => .v (.int 0)) := by
    show (intsOf (t.map PyData.int)).map _ = _
    rw [intsOf_map]
    rfl
  rw [e0]
  cases e : maxI t with
  | none => exact ⟨0, rfl, by decide⟩
  | some m => exact ⟨m, rfl, (h.b m (maxI_ok e).1).2⟩
theorem e_fit {t : List Int} (h : RK t) : Ret r_p_forms_fit [.val (tD t)] (.v (.bool true)) := by
  have hl := h.l
  obtain ⟨m, hm, m2⟩ := max_fit h
  refine ret_st ?_
  unfold d_p_forms_fit
  repeat walk_at "st"
  refine OpK.mk (d := tD t) (e := .int 0) rfl rfl hm ?_
  repeat walk_at "st"
  show R.v (.bool (decide (m ≤ 200))) = _
  rw [decide_eq_true m2]
theorem e_lenK {mk : List (Str × Int)} : Ret r_m_Kind_len [.val (kindD mk)] (.v (.int mk.length)) := by
  refine ret_st ?_
  unfold d_m_Kind_len
  repeat walk_at "st"
  rfl
theorem e_maker_at {mk : List (Str × Int)} {k : Nat} {p : Str × Int} (h : mk[k]? = some p) : Ret r_m_Kind_maker [.val (kindD mk), .val (.int k)] (.v (prM p)) := by
  have hk := (List.getElem?_eq_some_iff.mp h).1
  refine ret_st ?_
  unfold d_m_Kind_maker
  repeat walk_at "st"
  refine CallU.v (e_whole_ok (by omega) (by omega)) ?_
  repeat walk_at "st"
  refine OpK.ixl (d := prM p) (atI_pos (by omega) (by rw [Int.toNat_natCast, List.getElem?_map, h]; rfl)) ?_
  repeat walk_at "st"
  rfl
theorem e_withinK {mk : List (Str × Int)} {k : Nat} {p : Str × Int} (h : mk[k]? = some p) : Ret r_m_Kind_within [.val (kindD mk), .val (.int k)] (.v (.int p.2)) := by
  refine ret_st ?_
  unfold d_m_Kind_within
  repeat walk_at "st"
  refine SideK.mk rfl (CallK.v (e_maker_at h) ?_)
  repeat walk_at "st"
  rfl
open BW BW.MR
instance (priority := high) St.nelI_ {x y : R} {τ : List SD} {PR : R → List SD → Prop} {a b : List Int} [hx : VwC τ x (.list (a.map .int))] [hy : VwC τ y (.list (b.map .int))] : St (OpK neD x y τ PR) (PR (.v (.bool (!decide (a = b)))) τ) :=
  ⟨fun h => ⟨_, _, .v (.bool (!decide (a = b))), hx.eq, hy.eq, by unfold neD; rw [(Sh.lst Sh.ints).shaped (by decide), (Sh.lst Sh.ints).shaped (by decide), eqv_lstI]; rfl, h⟩⟩
/-! steps on racks -/
/-- the forms that a form opens into -/
def opF (ws : List Int) (n : Int) : List Int := ws.map fun w => n - 1 + w
/-- how many trees the form has that closes at a place -/
def clN (ws t : List Int) (p : Nat) : Int :=
  if t.length < p + ws.length then 0 else
  if 1 ≤ t.getD p 0 - ws.getD 0 0 + 1 ∧ (t.drop p).take ws.length = opF ws (t.getD p 0 - ws.getD 0 0 + 1) then t.getD p 0 - ws.getD 0 0 + 1 else 0
theorem e_closed {ws t : List Int} {p : Nat} (l0 : 0 < ws.length) (l5 : ws.length ≤ 1000) (lt : t.length ≤ 4000) (hp : p ≤ 4000) :
    Ret r_closed [.val (.list (ws.map .int)), .val (tD t), .val (.int (p : Int))] (.v (.int (clN ws t p))) := by
  have ls : ((t.drop p).take ws.length).length = min ws.length (t.length - p) := by rw [List.length_take, List.length_drop]
  refine ret_st ?_
  unfold d_closed
  repeat walk_at "st"
  refine SlK.tmid (j := p) (k := ws.length) rfl (by simp) ?_
  repeat walk_at "st"
  by_cases c : t.length < p + ws.length
  · refine IfK.yes (by simp; omega) ?_
    repeat walk_at "st"
    unfold clN
    rw [if_pos c]
  refine IfK.no (by simp; omega) ?_
  obtain ⟨a, ha⟩ : ∃ a, t[p]? = some a := ⟨_, List.getElem?_eq_getElem (by omega)⟩
  obtain ⟨b, hb⟩ : ∃ b, ws[0]? = some b := ⟨_, List.getElem?_eq_getElem l0⟩
  have h0 : ((t.drop p).take ws.length)[0]? = some a := by rw [List.getElem?_take, if_pos l0, List.getElem?_drop, Nat.add_zero, ha]
  have ga : t.getD p 0 = a := by rw [List.getD_eq_getElem?_getD, ha]; rfl
  have gb : ws.getD 0 0 = b := by rw [List.getD_eq_getElem?_getD, hb]; rfl
  unfold clN
  rw [if_neg c, ga, gb]
  generalize (t.drop p).take ws.length = s at *
  repeat walk_at "st"
  refine OpK.ixl (atI_ints (k := 0) (by decide) h0) ?_
  repeat walk_at "st"
  refine OpK.ixl (atI_ints (k := 0) (by decide) hb) ?_
  repeat walk_at "st"
  have mp : ∀ n : Int, (ws.map fun w => PyData.int (n - 1 + w)) = (opF ws n).map .int := fun n => by unfold opF; rw [List.map_map]; rfl
  by_cases c1 : a - b + 1 < 1
  · rw [decide_eq_true c1]
    repeat walk_at "st"
    rw [if_neg (by omega)]
  · rw [decide_eq_false c1]
    repeat walk_at "st"
    refine map_st PyData.int (fun w => .int (a - b + 1 - 1 + w)) (xs := ws) rfl rfl (by omega) ?_ ?_
    rotate_left
    · intro n hn
      repeat walk_at "st"
      exact ⟨rfl, rfl⟩
    rw [mp]
    repeat walk_at "st"
    refine IfK.two (fun e => ?_) (fun e => ?_)
    · repeat walk_at "st"
      rw [if_pos ⟨by omega, e⟩]
    · repeat walk_at "st"
      rw [if_neg fun h => e h.2]
theorem cut3 {t : List Int} {p k : Nat} : t = t.take p ++ (t.drop p).take k ++ t.drop (p + k) := by
  rw [List.append_assoc, ← List.drop_drop, List.take_append_drop, List.take_append_drop]
theorem cut1 {t : List Int} {p : Nat} {n : Int} (h : t[p]? = some n) : t = t.take p ++ [n] ++ t.drop (p + 1) := by
  have e : (t.drop p).take 1 = [n] := by
    have hp := (List.getElem?_eq_some_iff.mp h).1
    rw [List.drop_eq_getElem_cons hp, (List.getElem?_eq_some_iff.mp h).2]
    rfl
  rw [← e]
  exact cut3
theorem wsG {mk : List (Str × Int)} (gm : GM mk) {w : Int} (h : w ∈ wsO mk) : 0 ≤ w ∧ w ≤ 4 := by
  obtain ⟨p, hp, rfl⟩ := List.mem_map.mp h
  exact (gm.good p hp).2
instance (priority := high) St.netI_ {x y : R} {τ : List SD} {PR : R → List SD → Prop} {a b : List Int} [hx : VwC τ x (tD a)] [hy : VwC τ y (tD b)] : St (OpK neD x y τ PR) (PR (.v (.bool (!decide (a = b)))) τ) :=
  ⟨fun h => ⟨_, _, .v (.bool (!decide (a = b))), hx.eq, hy.eq, by unfold neD tD; rw [(Sh.tup Sh.ints).shaped (by decide), (Sh.tup Sh.ints).shaped (by decide), eqv_tupI]; rfl, h⟩⟩
theorem OpK.inTn {d e : Dt} {ds : List Dt} {k : Bool} {x y : R} {τ : List SD} {PR : R → List SD → Prop} [hx : VwC τ x d] [hy : VwC τ y e] [ht : AsT e ds] (h : (flatD d && ds.all flatD && (inF d ds == k)) = true) (p : PR (.v (.bool !k)) τ) : OpK (inD true) x y τ PR := by
  rw [Bool.and_eq_true, beq_iff_eq] at h
  refine ⟨_, .tuple ds, .v (.bool !k), hx.eq, by rw [hy.eq, ht.eq], ?_, p⟩
  show (if (flatD d && ds.all flatD) = true then some (R.v (.bool (!inF d ds))) else none) = _
  rw [if_pos h.1, h.2]
instance TruC.tupc_ {d : Dt} {ds : List Dt} : TruC (.tuple (d :: ds)) true := ⟨rfl⟩
instance (priority := high) St.eqlI_ {x y : R} {τ : List SD} {PR : R → List SD → Prop} {a b : List Int} [hx : VwC τ x (.list (a.map .int))] [hy : VwC τ y (.list (b.map .int))] : St (OpK eqD x y τ PR) (PR (.v (.bool (decide (a = b)))) τ) :=
  ⟨fun h => ⟨_, _, .v (.bool (decide (a = b))), hx.eq, hy.eq, by unfold eqD; rw [(Sh.lst Sh.ints).shaped (by decide), (Sh.lst Sh.ints).shaped (by decide), eqv_lstI]; rfl, h⟩⟩
/-! the program's steps -/
section
variable {mk : List (Str × Int)} {t : List Int} {p : Nat} {q : Int} 
theorem e_forms_opened (gm : GM mk) {n : Int} : Ret r_p_forms_opened [.val (kindD mk), .val (.int n)] (.v (tD (opF (wsO mk) n))) := by
  have l5 := gm.l5
  refine ret_st ?_
  unfold d_p_forms_opened
  repeat walk_at "st"
  refine CallK.n ⟨_, e_withins (mk := mk) (by omega)⟩ ?_
  repeat walk_at "st"
  refine map_st PyData.int (fun w => .int (n - 1 + w)) (xs := wsO mk) rfl rfl (by rw [List.length_map]; omega) ?_ ?_
  rotate_left
  · intro w hw
    repeat walk_at "st"
    exact ⟨rfl, rfl⟩
  rw [show ((wsO mk).map fun w => PyData.int (n - 1 + w)) = (opF (wsO mk) n).map .int from (List.map_map ..).symm]
  repeat walk_at "st"
  rfl
theorem e_form_closed (gm : GM mk) (lt : t.length ≤ 4000) (hp : p < t.length) : Ret r_p_form_closed [.val (kindD mk), .val (tD t), .val (.int (p : Int))] (.v (.int (clN (wsO mk) t p))) := by
  have l5 := gm.l5
  have l2 := gm.l2
  have lw : (wsO mk).length = mk.length := List.length_map ..
  obtain ⟨a, ha⟩ : ∃ a, t[p]? = some a := ⟨_, List.getElem?_eq_getElem hp⟩
  obtain ⟨b, hb⟩ : ∃ b, mk[0]? = some b := ⟨_, List.getElem?_eq_getElem (by omega)⟩
  have ga : t.getD p 0 = a := by rw [List.getD_eq_getElem?_getD, ha]; rfl
  have gb : (wsO mk).getD 0 0 = b.2 := by rw [List.getD_eq_getElem?_getD, List.getElem?_map, hb]; rfl
  have ls : ((t.drop p).take mk.length).length = min mk.length (t.length - p) := by rw [List.length_take, List.length_drop]
  have lo : (opF (wsO mk) (a - b.2 + 1)).length = mk.length := by unfold opF; rw [List.length_map, lw]
  refine ret_st ?_
  unfold d_p_form_closed
  repeat walk_at "st"
  refine OpK.ixt (atI_ints (k := (p : Int)) (v := a) (by omega) (by rw [Int.toNat_natCast]; exact ha)) ?_
  repeat walk_at "st"
  refine CallK.v (show Ret r_m_Kind_within [.val (kindD mk), .val (.int 0)] (.v (.int b.2)) from e_withinK (k := 0) hb) ?_
  repeat walk_at "st"
  unfold clN
  rw [ga, gb]
  by_cases c1 : a - b.2 + 1 < 1
  · rw [decide_eq_true c1]
    repeat walk_at "st"
    split
    · rfl
    · rw [if_neg (by omega)]
  rw [decide_eq_false c1]
  repeat walk_at "st"
  refine CallK.v e_lenK ?_
  refine ⟨_, rfl, ⟨by omega, by omega⟩, ?_⟩
  repeat walk_at "st"
  refine SlK.tmid (q := (p : Int) + (mk.length : Int)) (j := p) (k := mk.length) rfl (by simp) ?_
  repeat walk_at "st"
  refine CallU.v (e_forms_opened gm) ?_
  repeat walk_at "st"
  refine IfK.two (fun e => ?_) (fun e => ?_)
  · have e2 := congrArg List.length e
    rw [ls, lo] at e2
    repeat walk_at "st"
    rw [lw, if_neg (by omega), if_pos ⟨by omega, e⟩]
  · repeat walk_at "st"
    split
    · rfl
    · rw [lw, if_neg fun h => e h.2]
theorem e_whole_lo {i : Int} (h : 0 ≤ i) : Ret r_p_is_whole [.val (.int i), .val (.int 0), .val .none] (.v (.bool true)) := by
  refine ret_st ?_
  unfold d_p_is_whole
  repeat walk_at "st"
  rfl
theorem zts_sorted (n : Nat) : (zts n).Pairwise (· ≤ ·) := by
  unfold zts
  rw [List.pairwise_map]
  exact List.pairwise_lt_range.imp fun h => by omega
theorem e_places {o : List Int} (lt : t.length ≤ 4000) (ho : o.Perm (zts t.length)) : Ret r_p_are_places [.val (tD t), .val (tD o)] (.v (.bool true)) := by
  have lo := ho.length_eq
  rw [zts_len] at lo
  refine ret_st ?_
  unfold d_p_are_places
  repeat walk_at "st"
  refine map_st PyData.int (fun _ => .bool true) (xs := o) rfl rfl (by omega) ?_ ?_
  rotate_left
  · intro n hn
    repeat walk_at "st"
    refine CallU.v (e_whole_lo (mem_zts.mp (ho.subset hn)).1) ?_
    repeat walk_at "st"
    exact ⟨rfl, rfl⟩
  rw [show o.map (fun _ => PyData.bool true) = (List.replicate o.length true).map .bool by rw [List.map_replicate, List.map_const']]
  repeat walk_at "st"
  rw [show (List.replicate o.length true).all id = true by simp]
  repeat walk_at "st"
  show R.v (.bool (decide (rising o = zts ((t.length : Int)).toNat))) = _
  rw [Int.toNat_natCast, decide_eq_true (rising_is ho.symm (zts_sorted _)).symm]
theorem e_step_order {o : List Int} (lt : t.length ≤ 4000) (ho : o.Perm (zts t.length)) : Ret r_p_is_step_on [.val (kindD mk), .val (tD t), .val (ordD o)] (.v (.bool true)) := by
  refine ret_st ?_
  unfold d_p_is_step_on
  repeat walk_at "st"
  refine OpK.str (k := true) (by decide +kernel) ?_
  repeat walk_at "st"
  refine CallU.v (e_places lt ho) ?_
  repeat walk_at "st"
  rfl
theorem e_whole_in {n lo hi : Int} (h0 : lo ≤ n) (h1 : n ≤ hi) : Ret r_p_is_whole [.val (.int n), .val (.int lo), .val (.int hi)] (.v (.bool true)) := e_whole_ok h0 h1
theorem e_step_open {n : Int} (hn : t[p]? = some n) (q0 : 0 ≤ q) (q1 : q < n) : Ret r_p_is_step_on [.val (kindD mk), .val (tD t), .val (.tuple [.str (Str.ofString "open"), .int (p : Int), .int q])] (.v (.bool true)) := by
  have hp := (List.getElem?_eq_some_iff.mp hn).1
  refine ret_st ?_
  unfold d_p_is_step_on
  repeat walk_at "st"
  refine OpK.str (k := false) (by decide +kernel) ?_
  repeat walk_at "st"
  refine OpK.inTn (k := true) (by decide +kernel) ?_
  repeat walk_at "st"
  refine CallU.v (e_whole_ok (by omega) (by omega)) ?_
  repeat walk_at "st"
  refine OpK.str (k := true) (by decide +kernel) ?_
  repeat walk_at "st"
  refine OpK.ixt (atI_ints (k := (p : Int)) (v := n) (by omega) (by rw [Int.toNat_natCast]; exact hn)) ?_
  repeat walk_at "st"
  refine CallU.v (e_whole_ok q0 (by omega)) ?_
  repeat walk_at "st"
  rfl
theorem e_step_close (gm : GM mk) (lt : t.length ≤ 4000) (hp : p < t.length) (q0 : 0 ≤ q) (q1 : q < clN (wsO mk) t p) : Ret r_p_is_step_on [.val (kindD mk), .val (tD t), .val (.tuple [.str (Str.ofString "close"), .int (p : Int), .int q])] (.v (.bool true)) := by
  refine ret_st ?_
  unfold d_p_is_step_on
  repeat walk_at "st"
  refine OpK.str (k := false) (by decide +kernel) ?_
  repeat walk_at "st"
  refine OpK.inTn (k := true) (by decide +kernel) ?_
  repeat walk_at "st"
  refine CallU.v (e_whole_ok (by omega) (by omega)) ?_
  repeat walk_at "st"
  refine OpK.str (k := false) (by decide +kernel) ?_
  repeat walk_at "st"
  refine CallU.v (e_form_closed gm lt hp) ?_
  repeat walk_at "st"
  refine CallU.v (e_whole_ok q0 (by omega)) ?_
  repeat walk_at "st"
  rfl
theorem e_rack_after_of {st : Dt} {s : List Int} (rt : RK t) (rs : RK s) (h1 : Ret r_p_is_step_on [.val (kindD mk), .val (tD t), .val st] (.v (.bool true))) (h2 : Ret r_p_forms_after [.val (kindD mk), .val (tD t), .val st] (.v (tD s))) : Ret r_p_rack_after [.val (kindD mk), .val (tD t), .val st] (.v (tD s)) := by
  have e1 : Ret r_p_can_do [.val (kindD mk), .val (tD t), .val st] (.v (.bool true)) := by
    refine ret_st ?_
    unfold d_p_can_do
    repeat walk_at "st"
    refine CallU.v (e_need_rack rt) ?_
    repeat walk_at "st"
    refine CallU.v h1 ?_
    repeat walk_at "st"
    rfl
  refine ret_st ?_
  unfold d_p_rack_after
  repeat walk_at "st"
  refine CallU.v e1 ?_
  repeat walk_at "st"
  refine CallU.v h2 ?_
  repeat walk_at "st"
  refine CallU.v (e_fit rs) ?_
  repeat walk_at "st"
  rfl
end
/-! steps, as data -/
inductive Stp where
  | op (p : Nat) (q : Int)
  | cl (p : Nat) (q : Int)
  | or (o : List Int)
def Stp.D : Stp → Dt
  | .op p q => .tuple [.str (Str.ofString "open"), .int (p : Int), .int q]
  | .cl p q => .tuple [.str (Str.ofString "close"), .int (p : Int), .int q]
  | .or o => ordD o
def Stp.Ok (ws t : List Int) : Stp → Prop
  | .op p q => ∃ n, t[p]? = some n ∧ 0 ≤ q ∧ q < n
  | .cl p q => p < t.length ∧ 0 ≤ q ∧ q < clN ws t p
  | .or o => o.Perm (zts t.length)
def Stp.aft (ws t : List Int) : Stp → List Int
  | .op p _ => t.take p ++ opF ws (t.getD p 0) ++ t.drop (p + 1)
  | .cl p _ => t.take p ++ [clN ws t p] ++ t.drop (p + ws.length)
  | .or o => o.map fun n => t.getD n.toNat 0
theorem opF_len {ws : List Int} {n : Int} : (opF ws n).length = ws.length := List.length_map ..
theorem cl_yes {ws t : List Int} {p : Nat} (hc : 0 < clN ws t p) : p + ws.length ≤ t.length ∧ 1 ≤ clN ws t p ∧ (t.drop p).take ws.length = opF ws (clN ws t p) := by
  unfold clN at *
  split at hc
  · omega
  · rename_i h1
    rw [if_neg h1]
    split at hc
    · rename_i h2
      rw [if_pos h2]
      exact ⟨by omega, h2.1, h2.2⟩
    · omega
theorem getD_of {t : List Int} {p : Nat} {n : Int} (h : t[p]? = some n) : t.getD p 0 = n := by rw [List.getD_eq_getElem?_getD, h]; rfl
section
variable {mk : List (Str × Int)} {t : List Int} {p : Nat} {N L : Nat}
theorem aft_open (gm : GM mk) (hN : 32 ≤ N) (hL : 27 ≤ L) (rt : RKn N L t) {n : Int} {q : Int} (hn : t[p]? = some n) (n0 : 0 < n) (n1 : n < 30) (lt : t.length < 24) : RKn N L (Stp.aft (wsO mk) t (.op p q)) := by
  have l5 : (wsO mk).length ≤ 5 := by rw [List.length_map]; exact gm.l5
  have hp := (List.getElem?_eq_some_iff.mp hn).1
  show RKn N L (t.take p ++ opF (wsO mk) (t.getD p 0) ++ t.drop (p + 1))
  rw [getD_of hn]
  refine ⟨fun m hm => ?_, ?_⟩
  · rcases List.mem_append.mp hm with h | h
    · rcases List.mem_append.mp h with h | h
      · exact rt.b m (List.mem_of_mem_take h)
      · obtain ⟨w, hw, rfl⟩ := List.mem_map.mp h
        have := wsG gm hw
        omega
    · exact rt.b m (List.mem_of_mem_drop h)
  · rw [List.length_append, List.length_append, List.length_take, List.length_drop, opF_len]
    omega
theorem cl_split {ws t : List Int} {p : Nat} (hc : 0 < clN ws t p) : t = t.take p ++ opF ws (clN ws t p) ++ t.drop (p + ws.length) := by
  have h := (cl_yes hc).2.2
  rw [← h]
  exact cut3
theorem cl_le (gm : GM mk) {N : Int} (hb : ∀ n ∈ t, n ≤ N) (hc : 0 < clN (wsO mk) t p) : clN (wsO mk) t p + 1 ≤ N := by
  obtain ⟨w, hw, w2⟩ := gm.w
  have h := cl_split hc
  have : clN (wsO mk) t p - 1 + w ∈ t := by
    rw [h]
    exact List.mem_append_left _ (List.mem_append_right _ (List.mem_map.mpr ⟨w, hw, by rw [← h]⟩))
  have := hb _ this
  omega
theorem aft_close (gm : GM mk) (rt : RKn N L t) {q : Int} (hc : 0 < clN (wsO mk) t p) : RKn N L (Stp.aft (wsO mk) t (.cl p q)) := by
  have l2 : 2 ≤ (wsO mk).length := by rw [List.length_map]; exact gm.l2
  have h1 := cl_yes hc
  have hm := cl_le gm (fun n hn => (rt.b n hn).2) hc
  have lt := rt.l
  refine ⟨fun n hn => ?_, ?_⟩
  · rcases List.mem_append.mp (show n ∈ t.take p ++ [clN (wsO mk) t p] ++ t.drop (p + (wsO mk).length) from hn) with h | h
    · rcases List.mem_append.mp h with h | h
      · exact rt.b n (List.mem_of_mem_take h)
      · rw [List.mem_singleton.mp h]
        omega
    · exact rt.b n (List.mem_of_mem_drop h)
  · show (t.take p ++ [clN (wsO mk) t p] ++ t.drop (p + (wsO mk).length)).length ≤ L
    rw [List.length_append, List.length_append, List.length_take, List.length_drop, List.length_singleton]
    omega
theorem order_perm {o : List Int} (ho : o.Perm (zts t.length)) : (o.map fun n => t.getD n.toNat 0).Perm t := by
  refine (ho.map fun n : Int => t.getD n.toNat 0).trans ?_
  unfold zts
  rw [List.map_map]
  refine .of_eq (List.ext_getElem (by simp) fun i h1 h2 => ?_)
  simp [List.getD_eq_getElem?_getD, h2]
theorem aft_order (rt : RKn N L t) {o : List Int} (ho : o.Perm (zts t.length)) : RKn N L (Stp.aft (wsO mk) t (.or o)) := by
  have pm := order_perm ho
  exact ⟨fun n hn => rt.b n (pm.subset hn), by show (o.map fun n => t.getD n.toNat 0).length ≤ L; rw [pm.length_eq]; exact rt.l⟩
/-- the program's is_step_on tells True -/
theorem e_on (gm : GM mk) (lt : t.length ≤ 4000) {st : Stp} (h : st.Ok (wsO mk) t) : Ret r_p_is_step_on [.val (kindD mk), .val (tD t), .val st.D] (.v (.bool true)) := by
  cases st with
  | op p q => obtain ⟨n, hn, q0, q1⟩ := h; exact e_step_open hn q0 q1
  | cl p q => exact e_step_close gm lt h.1 h.2.1 h.2.2
  | or o => exact e_step_order lt h
theorem e_fafter (gm : GM mk) (lt : t.length ≤ 4000) {st : Stp} (h : st.Ok (wsO mk) t) : Ret r_p_forms_after [.val (kindD mk), .val (tD t), .val st.D] (.v (tD (st.aft (wsO mk) t))) := by
  have l5 : (wsO mk).length ≤ 5 := by rw [List.length_map]; exact gm.l5
  have lw : (wsO mk).length = mk.length := List.length_map ..
  cases st with
  | op p q =>
    obtain ⟨n, hn, q0, q1⟩ := h
    have hp := (List.getElem?_eq_some_iff.mp hn).1
    show Ret r_p_forms_after [.val (kindD mk), .val (tD t), .val (.tuple [.str (Str.ofString "open"), .int (p : Int), .int q])] (.v (tD (t.take p ++ opF (wsO mk) (t.getD p 0) ++ t.drop (p + 1))))
    rw [getD_of hn]
    refine ret_st ?_
    unfold d_p_forms_after
    repeat walk_at "st"
    refine OpK.str (k := false) (by decide +kernel) ?_
    repeat walk_at "st"
    refine OpK.str (k := false) (by decide +kernel) ?_
    repeat walk_at "st"
    refine SlK.tto (j := p) rfl ?_
    repeat walk_at "st"
    refine OpK.ixt (atI_ints (k := (p : Int)) (v := n) (by omega) (by rw [Int.toNat_natCast]; exact hn)) ?_
    repeat walk_at "st"
    refine CallU.v (e_forms_opened gm) ?_
    have lo : (opF (wsO mk) n).length ≤ 5 := by rw [opF_len]; exact l5
    repeat walk_at "st"
    refine SlK.tfrom (j := p + 1) rfl ?_
    repeat walk_at "st"
    unfold tD
    simp only [List.map_append]
  | cl p q =>
    obtain ⟨hp, q0, q1⟩ := h
    have ec := e_form_closed gm (t := t) (p := p) lt hp
    show Ret r_p_forms_after [.val (kindD mk), .val (tD t), .val (.tuple [.str (Str.ofString "close"), .int (p : Int), .int q])] (.v (tD (t.take p ++ [clN (wsO mk) t p] ++ t.drop (p + (wsO mk).length))))
    rw [lw]
    generalize clN (wsO mk) t p = m at *
    refine ret_st ?_
    unfold d_p_forms_after
    repeat walk_at "st"
    refine OpK.str (k := false) (by decide +kernel) ?_
    repeat walk_at "st"
    refine OpK.str (k := true) (by decide +kernel) ?_
    repeat walk_at "st"
    refine CallU.v ec ?_
    repeat walk_at "st"
    refine SlK.tto (j := p) rfl ?_
    repeat walk_at "st"
    refine CallK.v e_lenK ?_
    refine ⟨_, rfl, ⟨by omega, by omega⟩, ?_⟩
    repeat walk_at "st"
    refine SlK.tfrom (p := (p : Int) + (mk.length : Int)) (j := p + mk.length) (by simp) ?_
    repeat walk_at "st"
    unfold tD
    simp only [List.map_append]
  | or o =>
    have h : o.Perm (zts t.length) := h
    have lo := h.length_eq
    rw [zts_len] at lo
    show Ret r_p_forms_after [.val (kindD mk), .val (tD t), .val (ordD o)] (.v (tD (o.map fun n => t.getD n.toNat 0)))
    refine ret_st ?_
    unfold d_p_forms_after
    repeat walk_at "st"
    refine OpK.str (k := true) (by decide +kernel) ?_
    repeat walk_at "st"
    refine map_st PyData.int (fun n => .int (t.getD n.toNat 0)) (xs := o) rfl rfl (by omega) ?_ ?_
    rotate_left
    · intro n hn
      have hb := mem_zts.mp (h.subset hn)
      obtain ⟨v, hv⟩ : ∃ v, t[n.toNat]? = some v := ⟨_, List.getElem?_eq_getElem (by omega)⟩
      rw [getD_of hv]
      repeat walk_at "st"
      refine OpK.ixt (atI_ints hb.1 hv) ?_
      repeat walk_at "st"
      exact ⟨rfl, rfl⟩
    rw [show (o.map fun n => PyData.int (t.getD n.toNat 0)) = (o.map fun n => t.getD n.toNat 0).map .int by rw [List.map_map]; rfl]
    repeat walk_at "st"
    rfl
theorem e_rafter (gm : GM mk) (rt : RK t) {st : Stp} (h : st.Ok (wsO mk) t) (rs : RK (st.aft (wsO mk) t)) : Ret r_p_rack_after [.val (kindD mk), .val (tD t), .val st.D] (.v (tD (st.aft (wsO mk) t))) :=
  e_rack_after_of rt rs (e_on gm rt.l h) (e_fafter gm rt.l h)
end
open BW BW.MR
/-- the law's own rack behind a step -/
theorem e_lafter {mk : List (Str × Int)} {t : List Int} (gm : GM mk) (lt : t.length ≤ 4000) {st : Stp} (h : st.Ok (wsO mk) t) : Ret r_after [.val (.list ((wsO mk).map .int)), .val (tD t), .val st.D] (.v (tD (st.aft (wsO mk) t))) := by
  have l5 : (wsO mk).length ≤ 5 := by rw [List.length_map]; exact gm.l5
  have l2 : 2 ≤ (wsO mk).length := by rw [List.length_map]; exact gm.l2
  cases st with
  | op p q =>
    obtain ⟨n, hn, q0, q1⟩ := h
    have hp := (List.getElem?_eq_some_iff.mp hn).1
    show Ret r_after [.val (.list ((wsO mk).map .int)), .val (tD t), .val (.tuple [.str (Str.ofString "open"), .int (p : Int), .int q])] (.v (tD (t.take p ++ opF (wsO mk) (t.getD p 0) ++ t.drop (p + 1))))
    rw [getD_of hn]
    refine ret_st ?_
    unfold d_after
    repeat walk_at "st"
    refine OpK.str (k := false) (by decide +kernel) ?_
    repeat walk_at "st"
    refine OpK.str (k := true) (by decide +kernel) ?_
    repeat walk_at "st"
    refine map_st PyData.int (fun w => .int (n - 1 + w)) (xs := wsO mk) rfl rfl (by omega) ?_ ?_
    rotate_left
    · intro w hw
      repeat walk_at "st"
      refine OpK.ixt (atI_ints (k := (p : Int)) (v := n) (by omega) (by rw [Int.toNat_natCast]; exact hn)) ?_
      repeat walk_at "st"
      exact ⟨rfl, rfl⟩
    rw [show ((wsO mk).map fun w => PyData.int (n - 1 + w)) = (opF (wsO mk) n).map .int from (List.map_map ..).symm]
    have lo : (opF (wsO mk) n).length ≤ 5 := by rw [opF_len]; exact l5
    repeat walk_at "st"
    refine SlK.tto (j := p) rfl ?_
    repeat walk_at "st"
    refine SlK.tfrom (j := p + 1) rfl ?_
    repeat walk_at "st"
    unfold tD
    simp only [List.map_append]
  | cl p q =>
    obtain ⟨hp, q0, q1⟩ := h
    have ec := e_closed (ws := wsO mk) (t := t) (p := p) (by omega) (by omega) lt (by omega)
    show Ret r_after [.val (.list ((wsO mk).map .int)), .val (tD t), .val (.tuple [.str (Str.ofString "close"), .int (p : Int), .int q])] (.v (tD (t.take p ++ [clN (wsO mk) t p] ++ t.drop (p + (wsO mk).length))))
    generalize clN (wsO mk) t p = m at *
    refine ret_st ?_
    unfold d_after
    repeat walk_at "st"
    refine OpK.str (k := false) (by decide +kernel) ?_
    repeat walk_at "st"
    refine OpK.str (k := false) (by decide +kernel) ?_
    repeat walk_at "st"
    refine CallU.v ec ?_
    repeat walk_at "st"
    refine SlK.tto (j := p) rfl ?_
    repeat walk_at "st"
    refine SlK.tfrom (p := (p : Int) + ((wsO mk).length : Int)) (j := p + (wsO mk).length) (by simp) ?_
    repeat walk_at "st"
    unfold tD
    simp only [List.map_append]
  | or o =>
    have h : o.Perm (zts t.length) := h
    have lo := h.length_eq
    rw [zts_len] at lo
    show Ret r_after [.val (.list ((wsO mk).map .int)), .val (tD t), .val (ordD o)] (.v (tD (o.map fun n => t.getD n.toNat 0)))
    refine ret_st ?_
    unfold d_after
    repeat walk_at "st"
    refine OpK.str (k := true) (by decide +kernel) ?_
    repeat walk_at "st"
    refine map_st PyData.int (fun n => .int (t.getD n.toNat 0)) (xs := o) rfl rfl (by omega) ?_ ?_
    rotate_left
    · intro n hn
      have hb := mem_zts.mp (h.subset hn)
      obtain ⟨v, hv⟩ : ∃ v, t[n.toNat]? = some v := ⟨_, List.getElem?_eq_getElem (by omega)⟩
      rw [getD_of hv]
      repeat walk_at "st"
      refine OpK.ixt (atI_ints hb.1 hv) ?_
      repeat walk_at "st"
      exact ⟨rfl, rfl⟩
    rw [show (o.map fun n => PyData.int (t.getD n.toNat 0)) = (o.map fun n => t.getD n.toNat 0).map .int by rw [List.map_map]; rfl]
    repeat walk_at "st"
    rfl
open BW BW.MR
/-! things led by steps, as data -/
def prs (ws r : List Int) : List (List Int) := (prt ws r [] [] 1).getD []
theorem prs_flat {ws : List Int} (nn : NN ws) {us : List (List Int)} (h : ∀ u ∈ us, Hits ws 1 u) : prs ws us.flatten = us := by
  unfold prs
  rw [prt_all nn (done := []) h]
  rfl
def Stp.led (ws : List Int) : Stp → Nat → List (List Int) → Nat × List (List Int)
  | .op a q, p, ts => if p < a then (p, ts) else if a < p then (p + ws.length - 1, ts) else match ts[q.toNat]? with
    | some (m :: r) => (a + m.toNat, ts.take q.toNat ++ prs ws r ++ ts.drop (q.toNat + 1))
    | _ => (p, ts)
  | .cl a q, p, ts => if p < a then (p, ts) else if a + ws.length ≤ p then (p + 1 - ws.length, ts) else
    (a, ts.take q.toNat ++ [((p - a : Nat) : Int) :: ((ts.drop q.toNat).take (need ws ((p - a : Nat) : Int))).flatten] ++ ts.drop (q.toNat + need ws ((p - a : Nat) : Int)))
  | .or o, p, ts => (o.idxOf (p : Int), ts)
def invO (o : List Int) : List Int := (List.range o.length).map fun i : Nat => ((o.idxOf (i : Int) : Nat) : Int)
def Stp.back : Stp → Stp
  | .op a q => .cl a q
  | .cl a q => .op a q
  | .or o => .or (invO o)
section
variable {o : List Int} {n : Nat}
theorem zts_nodup (n : Nat) : (zts n).Nodup := by
  unfold zts
  exact (List.pairwise_map.mpr (List.nodup_range.imp fun h e => h (by omega)))
theorem ord_len (ho : o.Perm (zts n)) : o.length = n := by rw [ho.length_eq, zts_len]
theorem ord_nodup (ho : o.Perm (zts n)) : o.Nodup := ho.nodup_iff.mpr (zts_nodup n)
theorem ord_mem (ho : o.Perm (zts n)) {k : Int} : k ∈ o ↔ 0 ≤ k ∧ k < n := ho.mem_iff.trans mem_zts
theorem ord_lt (ho : o.Perm (zts n)) {k : Nat} (hk : k < n) : o.idxOf (k : Int) < n := by
  have h := List.idxOf_lt_length_of_mem ((ord_mem ho).mpr ⟨by omega, Int.ofNat_lt.mpr hk⟩)
  rwa [ord_len ho] at h
theorem ord_at (ho : o.Perm (zts n)) {k : Nat} (hk : k < n) : o[o.idxOf (k : Int)]? = some (k : Int) := by
  have h := List.idxOf_lt_length_of_mem ((ord_mem ho).mpr ⟨by omega, Int.ofNat_lt.mpr hk⟩)
  rw [List.getElem?_eq_getElem h, List.getElem_idxOf]
theorem idx_of_at (hn : o.Nodup) {i : Nat} {v : Int} (h : o[i]? = some v) : o.idxOf v = i := by
  obtain ⟨h1, rfl⟩ := List.getElem?_eq_some_iff.mp h
  exact hn.idxOf_getElem i h1
theorem inv_len : (invO o).length = o.length := by
  unfold invO
  rw [List.length_map, List.length_range]
theorem inv_at {i : Nat} (h : i < o.length) : (invO o)[i]? = some ((o.idxOf (i : Int) : Nat) : Int) := by
  unfold invO
  rw [List.getElem?_map, List.getElem?_range h]
  rfl
theorem inv_perm (ho : o.Perm (zts n)) : (invO o).Perm (zts n) := by
  have l := ord_len ho
  have e1 : invO o = (zts n).map fun k => ((o.idxOf k : Nat) : Int) := by
    unfold invO zts
    rw [List.map_map, l]
    rfl
  have e2 : o.map (fun k => ((o.idxOf k : Nat) : Int)) = zts n := by
    refine List.ext_getElem? fun i => ?_
    unfold zts
    rw [List.getElem?_map, List.getElem?_map]
    by_cases h : i < n
    · obtain ⟨v, hv⟩ : ∃ v, o[i]? = some v := ⟨_, List.getElem?_eq_getElem (by omega)⟩
      rw [hv, List.getElem?_range h]
      show some ((o.idxOf v : Nat) : Int) = some (i : Int)
      rw [idx_of_at (ord_nodup ho) hv]
    · rw [List.getElem?_eq_none (by omega), List.getElem?_eq_none (by rw [List.length_range]; omega)]
      rfl
  rw [e1, ← e2]
  rw [e2]
  exact ((ho.map fun k => ((o.idxOf k : Nat) : Int)).symm).trans (.of_eq e2)
theorem inv_idx (ho : o.Perm (zts n)) {k : Nat} (hk : k < n) : (invO o).idxOf ((o.idxOf (k : Int) : Nat) : Int) = k :=
  idx_of_at (ord_nodup (inv_perm ho)) (inv_at (by rw [ord_len ho]; exact hk))
theorem inv_inv (ho : o.Perm (zts n)) : invO (invO o) = o := by
  have l := ord_len ho
  refine List.ext_getElem? fun i => ?_
  by_cases h : i < n
  · rw [inv_at (by rw [inv_len]; omega)]
    obtain ⟨v, hv⟩ : ∃ v, o[i]? = some v := ⟨_, List.getElem?_eq_getElem (by omega)⟩
    have hb := (ord_mem ho).mp (List.mem_of_getElem? hv)
    have e := inv_at (o := o) (i := v.toNat) (by omega)
    rw [show ((v.toNat : Nat) : Int) = v by omega, idx_of_at (ord_nodup ho) hv] at e
    rw [idx_of_at (ord_nodup (inv_perm ho)) e, hv]
    exact congrArg some (by omega)
  · rw [List.getElem?_eq_none (by rw [inv_len, inv_len]; omega), List.getElem?_eq_none (by omega)]
end
/-- a thing of a rack: its place, its trees -/
structure Th (mk : List (Str × Int)) (t : List Int) (p : Nat) (ts : List (List Int)) : Prop where
  at_ : t[p]? = some (ts.length : Int)
  tr : ∀ u ∈ ts, Hits (wsO mk) 1 u
  bd : ∀ m ∈ ts.flatten, 0 ≤ m ∧ m < mk.length
  ln : ts.flatten.length ≤ 100000
abbrev thD (p : Nat) (ts : List (List Int)) : Dt := .tuple [.int (p : Int), tD ts.flatten]
section
variable {mk : List (Str × Int)} {t : List Int} {p : Nat} {ts : List (List Int)}
theorem hits_pos {ws : List Int} {u : List Int} (h : Hits ws 1 u) : ∃ m r, u = m :: r ∧ Hits ws (need ws m) r := by
  cases u with
  | nil => cases (show 1 = 0 from h)
  | cons m r =>
    obtain ⟨j, e, h'⟩ := hits_cons h
    have : j = 0 := by omega
    subst this
    rw [Nat.zero_add] at h'
    exact ⟨m, r, rfl, h'⟩
theorem take_mem {α : Type} {l : List α} {k : Nat} {x : α} (h : x ∈ l.take k) : x ∈ l := List.mem_of_mem_take h
theorem cl_aft (gm : GM mk) {n : Int} (n1 : 1 ≤ n) {a b : List Int} : clN (wsO mk) (a ++ opF (wsO mk) n ++ b) a.length = n := by
  have l2 : 2 ≤ (wsO mk).length := by rw [List.length_map]; exact gm.l2
  obtain ⟨w, hw⟩ : ∃ w, (wsO mk)[0]? = some w := ⟨_, List.getElem?_eq_getElem (by omega)⟩
  have e0 : (a ++ opF (wsO mk) n ++ b).getD a.length 0 = n - 1 + w := by
    rw [List.getD_eq_getElem?_getD, List.append_assoc, List.getElem?_append_right (Nat.le_refl _), Nat.sub_self, List.getElem?_append_left (by rw [opF_len]; omega)]
    unfold opF
    rw [List.getElem?_map, hw]
    rfl
  have ew : (wsO mk).getD 0 0 = w := getD_of hw
  have em : n - 1 + w - w + 1 = n := by omega
  unfold clN
  have e3 : ((a ++ opF (wsO mk) n ++ b).drop a.length).take (wsO mk).length = opF (wsO mk) n := by rw [List.append_assoc, List.drop_left, List.take_left' opF_len]
  rw [if_neg (by simp only [List.length_append, opF_len]; omega), e0, ew, em, if_pos ⟨n1, e3⟩]
/-- what a step leads to can be led back -/
theorem back_ok (gm : GM mk) {st : Stp} (h : st.Ok (wsO mk) t) : st.back.Ok (wsO mk) (st.aft (wsO mk) t) ∧ st.back.aft (wsO mk) (st.aft (wsO mk) t) = t := by
  have l2 : 2 ≤ (wsO mk).length := by rw [List.length_map]; exact gm.l2
  cases st with
  | op a q =>
    obtain ⟨n, hn, q0, q1⟩ := h
    have ha := (List.getElem?_eq_some_iff.mp hn).1
    have la : (t.take a).length = a := by rw [List.length_take]; omega
    have e : Stp.aft (wsO mk) t (.op a q) = t.take a ++ opF (wsO mk) n ++ t.drop (a + 1) := by show _ ++ opF (wsO mk) (t.getD a 0) ++ _ = _; rw [getD_of hn]
    have ec := cl_aft gm (n := n) (a := t.take a) (b := t.drop (a + 1)) (by omega)
    rw [la] at ec
    rw [e]
    refine ⟨⟨by simp only [List.length_append, opF_len]; omega, q0, by rw [ec]; exact q1⟩, ?_⟩
    show (t.take a ++ opF (wsO mk) n ++ t.drop (a + 1)).take a ++ [clN (wsO mk) (t.take a ++ opF (wsO mk) n ++ t.drop (a + 1)) a] ++ (t.take a ++ opF (wsO mk) n ++ t.drop (a + 1)).drop (a + (wsO mk).length) = t
    rw [ec, List.append_assoc (t.take a), List.take_left' la, ← List.drop_drop, List.drop_left' la, List.drop_left' opF_len]
    exact (cut1 hn).symm
  | cl a q =>
    obtain ⟨ha, q0, q1⟩ := h
    have hc : 0 < clN (wsO mk) t a := by omega
    have hy := cl_yes hc
    have la : (t.take a).length = a := by rw [List.length_take]; omega
    have sa : (Stp.aft (wsO mk) t (.cl a q))[a]? = some (clN (wsO mk) t a) := by
      show (t.take a ++ [clN (wsO mk) t a] ++ _)[a]? = _
      rw [List.append_assoc, List.getElem?_append_right (by omega), la, Nat.sub_self]
      rfl
    refine ⟨⟨_, sa, q0, q1⟩, ?_⟩
    show (Stp.aft (wsO mk) t (.cl a q)).take a ++ opF (wsO mk) ((Stp.aft (wsO mk) t (.cl a q)).getD a 0) ++ (Stp.aft (wsO mk) t (.cl a q)).drop (a + 1) = t
    rw [getD_of sa]
    show (t.take a ++ [clN (wsO mk) t a] ++ t.drop (a + (wsO mk).length)).take a ++ _ ++ (t.take a ++ [clN (wsO mk) t a] ++ t.drop (a + (wsO mk).length)).drop (a + 1) = t
    rw [List.append_assoc (t.take a), List.take_left' la, ← List.drop_drop, List.drop_left' la]
    exact (cl_split hc).symm
  | or o =>
    have h : o.Perm (zts t.length) := h
    have l := ord_len h
    have la : (Stp.aft (wsO mk) t (.or o)).length = t.length := by show (o.map _).length = _; rw [List.length_map, l]
    refine ⟨by show (invO o).Perm (zts _); rw [la]; exact inv_perm h, ?_⟩
    show (invO o).map (fun n => (o.map fun n => t.getD n.toNat 0).getD n.toNat 0) = t
    refine List.ext_getElem? fun i => ?_
    by_cases hi : i < t.length
    · rw [List.getElem?_map, inv_at (by omega)]
      show some ((o.map fun n => t.getD n.toNat 0).getD ((o.idxOf (i : Int) : Nat) : Int).toNat 0) = _
      rw [Int.toNat_natCast, List.getD_eq_getElem?_getD, List.getElem?_map, ord_at h hi]
      show some (t.getD ((i : Int)).toNat 0) = _
      rw [Int.toNat_natCast, List.getD_eq_getElem?_getD, List.getElem?_eq_getElem hi]
      rfl
    · rw [List.getElem?_eq_none (l := t) (by omega), List.getElem?_eq_none (by rw [List.length_map, inv_len]; omega)]
theorem back_back {st : Stp} (h : st.Ok (wsO mk) t) : st.back.back = st := by
  cases st with
  | op a q => rfl
  | cl a q => rfl
  | or o => exact congrArg Stp.or (inv_inv (n := t.length) h)
end
open BW BW.MR
theorem ev_chainLe {a b e : M R} {τ : List SD} {P : R → List SD → Prop} (h : Ev a τ fun x τ1 => Ev b τ1 fun y τ2 => ∃ i j, vw τ2 x = some (.int i) ∧ vw τ2 y = some (.int j) ∧ (i ≤ j → Ev e τ2 fun z τ3 => ∃ k, vw τ3 y = some (.int j) ∧ vw τ3 z = some (.int k) ∧ P (.v (.bool (decide (j ≤ k)))) τ3) ∧ (¬ i ≤ j → P (.v (.bool false)) τ2)) : Ev (eChain leD leD a b e) τ P := by
  refine ev_mb (h.imp fun x τ1 h => ev_mb (h.imp fun y τ2 h => ?_))
  obtain ⟨i, j, e1, e2, h1, h2⟩ := h
  by_cases c : i ≤ j
  · obtain ⟨z, τ3, e3, k, e4, e5, p⟩ := h1 c
    refine ⟨.v (.bool (decide (j ≤ k))), τ3, ?_, p⟩
    have el : leD (.int i) (.int j) = some (.v (.bool true)) := by
      show some (R.v (.bool (decide (i ≤ j)))) = _
      rw [decide_eq_true c]
    simp only [e1, e2, el, mb, e3, e4, e5]
    rfl
  · refine ⟨.v (.bool false), τ2, ?_, h2 c⟩
    have el : leD (.int i) (.int j) = some (.v (.bool false)) := by
      show some (R.v (.bool (decide (i ≤ j)))) = _
      rw [decide_eq_false c]
    simp only [e1, e2, el]
/-! the program's walk -/
section
variable {mk : List (Str × Int)} {t : List Int} {p : Nat} {ts : List (List Int)}
theorem GM.nn (g : GM mk) : NN (wsO mk) := fun w hw => by
  obtain ⟨q, hq, rfl⟩ := List.mem_map.mp hw
  exact (g.good q hq).2
theorem e_parts (gm : GM mk) {row : List Int} (hr : ∀ m ∈ row, 0 ≤ m ∧ m < mk.length) (hl : row.length ≤ 200000) : Ret r_p_parts_of [.val (kindD mk), .val (tD row)] (prtR (prt (wsO mk) row [] [] 1)) := by
  have l5 := gm.l5
  have lw : (wsO mk).length = mk.length := List.length_map ..
  refine ret_st ?_
  unfold d_p_parts_of
  repeat walk_at "st"
  refine CallK.n ⟨_, e_withins (mk := mk) (by omega)⟩ ?_
  repeat walk_at "st"
  rw [show (wsO mk).map PyData.int ++ [PyData.int 0] = (wsO mk ++ [0]).map .int by rw [List.map_append]; rfl]
  repeat walk_at "st"
  refine for_st (fun q : Int × Nat => PyData.tuple [.int (q.2 : Int), .int q.1]) (fun (pre : List (Int × Nat)) τ => ∃ (done : List (List Int)) (cur : List Int) (wt : Int) (u v : SD), τ = [.val (kindD mk), .val (tD row), .own (.L ((wsO mk ++ [0]).map .int)), .own (.L (done.map tD)), .val (.int ((pre.length - cur.length : Nat) : Int)), .val (.int wt), u, v] ∧ FreC u ∧ FreC v ∧ cur.length ≤ pre.length ∧ (row.drop (pre.length - cur.length)).take cur.length = cur ∧ prt (wsO mk) (row.drop pre.length) done cur wt = prt (wsO mk) row [] [] 1 ∧ done.length ≤ pre.length) (xs := row.zipIdx 0) (enD_map PyData.int row 0) ⟨[], [], 1, _, _, rfl, inferInstance, inferInstance, Nat.le_refl _, rfl, rfl, Nat.le_refl _⟩ ?_ ?_
  · rintro τ ⟨done, cur, wt, u, v, rfl, fu, fv, hc, ht, hp, hd⟩
    rw [List.length_zipIdx] at hc ht hp hd ⊢
    rw [List.drop_length] at hp
    repeat walk_at "st"
    by_cases c : cur = []
    · subst c
      refine IfK.no (by simp) ?_
      repeat walk_at "st"
      rw [← hp]
      rfl
    · have c0 : 0 < cur.length := List.length_pos_iff.mpr c
      refine IfK.yes (by omega) ?_
      repeat walk_at "st"
      rw [← hp]
      show R.v .none = prtR (if cur = [] then some done else none)
      rw [if_neg c]
      rfl
  rintro pre ⟨m, i⟩ rest τ hx ⟨done, cur, wt, u, v, rfl, fu, fv, hc, ht, hp, hd⟩
  have hi : i = pre.length ∧ row[pre.length]? = some m := by
    have h1 : (row.zipIdx 0)[pre.length]? = some (m, i) := by rw [hx, List.getElem?_append_right (Nat.le_refl _), Nat.sub_self]; rfl
    rw [List.getElem?_zipIdx] at h1
    obtain ⟨y, hy, e⟩ := Option.map_eq_some_iff.mp h1
    cases e
    exact ⟨by omega, hy⟩
  obtain ⟨rfl, hm⟩ := hi
  have hlt := (List.getElem?_eq_some_iff.mp hm).1
  obtain ⟨m0, m1⟩ := hr m (List.mem_of_getElem? hm)
  have am : L2.atI ((wsO mk ++ [0]).map PyData.int) m = some (.int ((wsO mk).getD m.toNat 0)) := by
    have hlt : m.toNat < (wsO mk).length := by omega
    refine atI_pos m0 ?_
    rw [List.getElem?_map, List.getElem?_append_left hlt, List.getD_eq_getElem?_getD, List.getElem?_eq_getElem hlt]
    rfl
  have hdrop : row.drop pre.length = m :: row.drop (pre.length + 1) := by
    rw [List.drop_eq_getElem_cons hlt, (List.getElem?_eq_some_iff.mp hm).2]
  have htake : (row.drop (pre.length - cur.length)).take (cur ++ [m]).length = cur ++ [m] := by
    rw [List.length_append, List.length_singleton, List.take_succ, ht, List.getElem?_drop, show pre.length - cur.length + cur.length = pre.length by omega, hm]
    rfl
  rw [hdrop] at hp
  have hp2 : prt (wsO mk) (m :: row.drop (pre.length + 1)) done cur wt = if wt + ((wsO mk).getD m.toNat 0 - 1) = 0 then prt (wsO mk) (row.drop (pre.length + 1)) (done ++ [cur ++ [m]]) [] 1 else prt (wsO mk) (row.drop (pre.length + 1)) done (cur ++ [m]) (wt + ((wsO mk).getD m.toNat 0 - 1)) := rfl
  rw [hp] at hp2
  repeat walk_at "st"
  refine OpK.ixl am ?_
  repeat walk_at "st"
  refine ⟨_, rfl, _, rfl, Fre.val, ?_⟩
  simp only [List.set_cons_succ, List.set_cons_zero]
  obtain ⟨w2, hw2⟩ : ∃ w2, w2 = wt + ((wsO mk).getD m.toNat 0 - 1) := ⟨_, rfl⟩
  rw [← hw2] at hp2 ⊢
  repeat walk_at "st"
  refine IfK.two (fun c => ?_) (fun c => ?_)
  · rw [if_pos c] at hp2
    repeat walk_at "st"
    refine SlK.tmid (j := pre.length - cur.length) (k := cur.length + 1) rfl (by omega) ?_
    rw [show cur.length + 1 = (cur ++ [m]).length by simp, htake]
    repeat walk_at "st"
    refine ⟨done ++ [cur ++ [m]], [], 1, .val (.int (pre.length : Int)), .val (.int m), ?_, inferInstance, inferInstance, by simp, rfl, ?_, by simp; omega⟩
    · rw [show (done ++ [cur ++ [m]]).map tD = done.map tD ++ [tD (cur ++ [m])] by rw [List.map_append]; rfl, show (pre ++ [(m, pre.length)]).length - ([] : List Int).length = pre.length + 1 by simp]
      rfl
    · rw [List.length_append, List.length_singleton]
      exact hp2.symm
  · rw [if_neg c] at hp2
    repeat walk_at "st"
    refine ⟨done, cur ++ [m], w2, .val (.int (pre.length : Int)), .val (.int m), ?_, inferInstance, inferInstance, by simp; omega, ?_, ?_, by simp; omega⟩
    · rw [show (pre ++ [(m, pre.length)]).length - (cur ++ [m]).length = pre.length - cur.length by simp]
    · rw [show (pre ++ [(m, pre.length)]).length - (cur ++ [m]).length = pre.length - cur.length by simp]
      exact htake
    · rw [List.length_append, List.length_singleton]
      exact hp2.symm
theorem e_prs (gm : GM mk) {us : List (List Int)} (h : ∀ u ∈ us, Hits (wsO mk) 1 u) (hb : ∀ m ∈ us.flatten, 0 ≤ m ∧ m < mk.length) (hl : us.flatten.length ≤ 200000) : Ret r_p_parts_of [.val (kindD mk), .val (tD us.flatten)] (.n (.L (us.map tD))) := by
  have e := e_parts gm hb hl
  rw [prt_all gm.nn (done := []) h] at e
  exact e
theorem e_wholeG {i lo hi : Int} : Ret r_p_is_whole [.val (.int i), .val (.int lo), .val (.int hi)] (.v (.bool (decide (lo ≤ i ∧ i ≤ hi)))) := by
  refine ret_st ?_
  unfold d_p_is_whole
  repeat walk_at "st"
  refine IfK.two (fun c => ?_) (fun c => ?_)
  · repeat walk_at "st"
    rw [decide_eq_false (by omega)]
  · repeat walk_at "st"
    show R.v (.bool (decide (i ≤ hi))) = _
    congr 3
    exact propext ⟨fun h => ⟨by omega, h⟩, fun h => h.2⟩
theorem e_arenum (gm : GM mk) {row : List Int} (hr : ∀ m ∈ row, 0 ≤ m ∧ m < mk.length) (hl : row.length ≤ 200000) : Ret r_p_are_numbers [.val (kindD mk), .val (.int 0), .val (tD row)] (.v (.bool true)) := by
  have l5 := gm.l5
  refine ret_st ?_
  unfold d_p_are_numbers
  repeat walk_at "st"
  refine CallK.v e_lenK ?_
  refine ⟨_, rfl, ⟨by omega, by omega⟩, ?_⟩
  repeat walk_at "st"
  refine map_st PyData.int (fun _ => .bool true) (xs := row) rfl rfl (by omega) ?_ ?_
  rotate_left
  · intro m hm
    obtain ⟨m0, m1⟩ := hr m hm
    repeat walk_at "st"
    refine CallU.v e_wholeG ?_
    repeat walk_at "st"
    rw [decide_eq_true (show 0 ≤ m ∧ m ≤ (mk.length : Int) - 1 by omega)]
    exact ⟨rfl, rfl⟩
  rw [show row.map (fun _ => PyData.bool true) = (List.replicate row.length true).map .bool by rw [List.map_replicate, List.map_const']]
  repeat walk_at "st"
  rw [show (List.replicate row.length true).all id = true by simp]
theorem e_parts_in (gm : GM mk) (h : ∀ u ∈ ts, Hits (wsO mk) 1 u) (hb : ∀ m ∈ ts.flatten, 0 ≤ m ∧ m < mk.length) (hl : ts.flatten.length ≤ 200000) : Ret r_p_parts_in [.val (kindD mk), .val (.int 0), .val (tD ts.flatten)] (.n (.L (ts.map tD))) := by
  refine ret_st ?_
  unfold d_p_parts_in
  repeat walk_at "st"
  refine CallU.v (e_arenum gm hb hl) ?_
  repeat walk_at "st"
  refine CallU.n (e_prs gm h hb hl) ?_
  repeat walk_at "st"
  rfl
theorem e_rowat (gm : GM mk) (h : Th mk t p ts) (lt : t.length ≤ 4000) : Ret r_p_is_row_at [.val (kindD mk), .val (tD t), .val (.int 0), .val (thD p ts)] (.v (.bool true)) := by
  have hp := (List.getElem?_eq_some_iff.mp h.at_).1
  refine ret_st ?_
  unfold d_p_is_row_at
  repeat walk_at "st"
  refine CallU.v (e_whole_ok (by omega) (by omega)) ?_
  repeat walk_at "st"
  refine CallU.n (e_parts_in gm h.tr h.bd (by have := h.ln; omega)) ?_
  repeat walk_at "st"
  refine OpK.ixt (atI_ints (k := (p : Int)) (v := (ts.length : Int)) (by omega) (by rw [Int.toNat_natCast]; exact h.at_)) ?_
  repeat walk_at "st"
  rw [decide_eq_true rfl]
theorem e_isthing (gm : GM mk) (h : Th mk t p ts) (rt : RK t) : Ret r_p_is_thing [.val (kindD mk), .val (tD t), .val (thD p ts)] (.v (.bool true)) := by
  refine ret_st ?_
  unfold d_p_is_thing
  repeat walk_at "st"
  refine CallU.v (e_need_rack rt) ?_
  repeat walk_at "st"
  refine CallU.v (e_rowat gm h rt.l) ?_
  repeat walk_at "st"
  rfl
theorem e_need_thing (gm : GM mk) (h : Th mk t p ts) (rt : RK t) : Ret r_p_need_thing [.val (kindD mk), .val (tD t), .val (thD p ts)] (.v .none) := by
  refine ret_st ?_
  unfold d_p_need_thing
  repeat walk_at "st"
  refine CallU.v (e_isthing gm h rt) ?_
  repeat walk_at "st"
  rfl
theorem e_row_of (hl : ts.flatten.length ≤ 200000) : Ret r_p_row_of [.val (.list (ts.map tD))] (.v (tD ts.flatten)) := by
  refine ret_st ?_
  unfold d_p_row_of
  repeat walk_at "st"
  have em : (ts.map fun u => u.map PyData.int).flatten = ts.flatten.map .int := by rw [List.map_flatten]
  refine lc2_st tD (fun u => u.map PyData.int) (xs := ts) rfl rfl (by rw [em, List.length_map]; omega) ?_ ?_
  rotate_left
  · intro u hu
    repeat walk_at "st"
    refine In2K.mk PyData.int (fun y => PyData.int y) u rfl rfl (fun y hy => ?_) rfl
    refine lcT_st rfl ?_
    repeat walk_at "st"
    exact ⟨_, rfl, rfl, rfl⟩
  rw [em]
  repeat walk_at "st"
  rfl
/-- what a step tells of a thing -/
abbrev ledD (x : Nat × List (List Int)) : Dt := .tuple [.int (x.1 : Int), .list (x.2.map tD)]
theorem th_cut (h : Th mk t p ts) {k : Nat} : (∀ u ∈ ts.take k, Hits (wsO mk) 1 u) ∧ (∀ u ∈ ts.drop k, Hits (wsO mk) 1 u) := ⟨fun u hu => h.tr u (List.mem_of_mem_take hu), fun u hu => h.tr u (List.mem_of_mem_drop hu)⟩
theorem flat_sub {ts : List (List Int)} {u : List Int} (h : u ∈ ts) : ∀ m ∈ u, m ∈ ts.flatten := fun m hm => List.mem_flatten.mpr ⟨u, h, hm⟩
theorem flat_le {ts : List (List Int)} {u : List Int} (h : u ∈ ts) : u.length ≤ ts.flatten.length := by
  obtain ⟨a, b, rfl⟩ := List.append_of_mem h
  rw [List.flatten_append, List.flatten_cons, List.length_append, List.length_append]
  omega
theorem th_len (gm : GM mk) (h : Th mk t p ts) : ts.length ≤ 100000 := by
  have : ∀ l : List (List Int), (∀ u ∈ l, Hits (wsO mk) 1 u) → l.length ≤ l.flatten.length := fun l => by
    induction l with
    | nil => intro _; exact Nat.le_refl _
    | cons u l ih =>
      intro h
      obtain ⟨m, r, rfl, _⟩ := hits_pos (h _ List.mem_cons_self)
      have := ih fun v hv => h v (List.mem_cons_of_mem _ hv)
      rw [List.flatten_cons, List.length_append, List.length_cons, List.length_cons]
      omega
  exact Nat.le_trans (this ts h.tr) h.ln
theorem e_led_open (gm : GM mk) (lt : t.length ≤ 4000) {a : Nat} {q : Int} (ok : (Stp.op a q).Ok (wsO mk) t) (h : Th mk t p ts) : Ret r_p_led_open [.val (kindD mk), .val (Stp.op a q).D, .val (.int (p : Int)), .val (.list (ts.map tD))] (.v (ledD ((Stp.op a q).led (wsO mk) p ts))) := by
  have l5 := gm.l5
  have l2 := gm.l2
  have lw : (wsO mk).length = mk.length := List.length_map ..
  have hl := th_len gm h
  have hln := h.ln
  have hp := (List.getElem?_eq_some_iff.mp h.at_).1
  obtain ⟨n, hn, q0, q1⟩ := ok
  obtain ⟨k, rfl⟩ : ∃ k : Nat, q = (k : Int) := ⟨q.toNat, by omega⟩
  show Ret r_p_led_open [.val (kindD mk), .val (.tuple [.str (Str.ofString "open"), .int (a : Int), .int (k : Int)]), .val (.int (p : Int)), .val (.list (ts.map tD))] (.v (ledD (if p < a then (p, ts) else if a < p then (p + (wsO mk).length - 1, ts) else match ts[((k : Int)).toNat]? with
    | some (m :: r) => (a + m.toNat, ts.take ((k : Int)).toNat ++ prs (wsO mk) r ++ ts.drop (((k : Int)).toNat + 1))
    | _ => (p, ts))))
  rw [Int.toNat_natCast]
  refine ret_st ?_
  unfold d_p_led_open
  repeat walk_at "st"
  refine IfK.two (fun c => ?_) (fun c => ?_)
  · rw [if_pos (show p < a by omega)]
    repeat walk_at "st"
    rfl
  rw [if_neg (show ¬ p < a by omega)]
  repeat walk_at "st"
  refine IfK.two (fun c2 => ?_) (fun c2 => ?_)
  · rw [if_pos (show a < p by omega)]
    repeat walk_at "st"
    refine CallK.v e_lenK ?_
    refine ⟨_, rfl, ⟨by omega, by omega⟩, ?_⟩
    repeat walk_at "st"
    rw [show (p : Int) + (mk.length : Int) - 1 = ((p + (wsO mk).length - 1 : Nat) : Int) by omega]
  have hpa : p = a := by omega
  subst hpa
  rw [if_neg (by omega)]
  have e1 := h.at_
  rw [hn] at e1
  cases e1
  obtain ⟨u, hu⟩ : ∃ u, ts[k]? = some u := ⟨_, List.getElem?_eq_getElem (by omega)⟩
  obtain ⟨m, r, rfl, hr⟩ := hits_pos (h.tr u (List.mem_of_getElem? hu))
  obtain ⟨us, hus, rfl, hus2⟩ := hits_parts hr
  have hum := List.mem_of_getElem? hu
  have hb : ∀ x ∈ us.flatten, 0 ≤ x ∧ x < mk.length := fun x hx => h.bd x (flat_sub hum x (List.mem_cons_of_mem _ hx))
  have hm := h.bd m (flat_sub hum m List.mem_cons_self)
  have hlu := flat_le hum
  rw [List.length_cons] at hlu
  rw [hu]
  show Ev _ _ _
  simp only [prs_flat gm.nn hus2]
  repeat walk_at "st"
  refine OpK.ixl (d := tD (m :: us.flatten)) (atI_pos (by omega) (by rw [Int.toNat_natCast, List.getElem?_map, hu]; rfl)) ?_
  repeat walk_at "st"
  refine OpK.ixt (atI_ints (l := m :: us.flatten) (k := 0) (v := m) (by decide) rfl) ?_
  repeat walk_at "st"
  refine SlK.lto (j := k) rfl ?_
  repeat walk_at "st"
  refine SlK.tfrom (p := 1) (j := 1) rfl ?_
  rw [show (m :: us.flatten).drop 1 = us.flatten from rfl]
  repeat walk_at "st"
  refine CallU.n (e_prs gm hus2 hb (by omega)) ?_
  have lus : us.length ≤ 100000 := by
    have := nn_get gm.nn m.toNat
    rw [hus]
    unfold need
    omega
  repeat walk_at "st"
  refine SlK.lfrom (j := k + 1) (by omega) ?_
  repeat walk_at "st"
  show R.v (.tuple [.int ((p : Int) + m), _]) = R.v (ledD (p + m.toNat, _))
  rw [show (p : Int) + m = ((p + m.toNat : Nat) : Int) by omega]
  simp only [ledD, List.map_append]
theorem e_led_close (gm : GM mk) (lt : t.length ≤ 4000) {a : Nat} {q : Int} (ok : (Stp.cl a q).Ok (wsO mk) t) (h : Th mk t p ts) : Ret r_p_led_close [.val (kindD mk), .val (Stp.cl a q).D, .val (.int (p : Int)), .val (.list (ts.map tD))] (.v (ledD ((Stp.cl a q).led (wsO mk) p ts))) := by
  have l5 := gm.l5
  have l2 := gm.l2
  have lw : (wsO mk).length = mk.length := List.length_map ..
  have hl := th_len gm h
  have hln := h.ln
  have hp := (List.getElem?_eq_some_iff.mp h.at_).1
  obtain ⟨ha, q0, q1⟩ := ok
  obtain ⟨k, rfl⟩ : ∃ k : Nat, q = (k : Int) := ⟨q.toNat, by omega⟩
  show Ret r_p_led_close [.val (kindD mk), .val (.tuple [.str (Str.ofString "close"), .int (a : Int), .int (k : Int)]), .val (.int (p : Int)), .val (.list (ts.map tD))] (.v (ledD (if p < a then (p, ts) else if a + (wsO mk).length ≤ p then (p + 1 - (wsO mk).length, ts) else
    (a, ts.take ((k : Int)).toNat ++ [((p - a : Nat) : Int) :: ((ts.drop ((k : Int)).toNat).take (need (wsO mk) ((p - a : Nat) : Int))).flatten] ++ ts.drop (((k : Int)).toNat + need (wsO mk) ((p - a : Nat) : Int))))))
  rw [Int.toNat_natCast]
  refine ret_st ?_
  unfold d_p_led_close
  repeat walk_at "st"
  refine IfK.two (fun c => ?_) (fun c => ?_)
  · rw [if_pos (show p < a by omega)]
    repeat walk_at "st"
    rfl
  rw [if_neg (show ¬ p < a by omega)]
  repeat walk_at "st"
  refine CallK.v e_lenK ?_
  refine ⟨_, rfl, ⟨by omega, by omega⟩, ?_⟩
  repeat walk_at "st"
  refine IfK.two (fun c2 => ?_) (fun c2 => ?_)
  · rw [if_pos (show a + (wsO mk).length ≤ p by omega)]
    repeat walk_at "st"
    refine CallK.v e_lenK ?_
    refine ⟨_, rfl, ⟨by omega, by omega⟩, ?_⟩
    repeat walk_at "st"
    rw [show (p : Int) - (mk.length : Int) + 1 = ((p + 1 - (wsO mk).length : Nat) : Int) by omega]
  rw [if_neg (by omega)]
  obtain ⟨m, hm⟩ : ∃ m : Nat, m = p - a := ⟨_, rfl⟩
  have hm1 : m < mk.length := by omega
  rw [← hm]
  obtain ⟨pr, hpr⟩ : ∃ pr, mk[m]? = some pr := ⟨_, List.getElem?_eq_getElem hm1⟩
  have hw : (wsO mk).getD m 0 = pr.2 := by rw [List.getD_eq_getElem?_getD, List.getElem?_map, hpr]; rfl
  have hw4 := nn_get gm.nn m
  have hnd : ((need (wsO mk) (m : Int) : Nat) : Int) = pr.2 := by rw [need_int gm.nn, Int.toNat_natCast, hw]
  generalize need (wsO mk) (m : Int) = nd at *
  have hsub : ((ts.drop k).take nd).flatten.length ≤ 200000 := by
    have e : ts.flatten = (ts.take k).flatten ++ ((ts.drop k).take nd).flatten ++ ((ts.drop k).drop nd).flatten := by
      rw [List.append_assoc, ← List.flatten_append, List.take_append_drop, ← List.flatten_append, List.take_append_drop]
    have := congrArg List.length e
    simp only [List.length_append] at this
    omega
  repeat walk_at "st"
  rw [show (p : Int) - (a : Int) = ((m : Nat) : Int) by omega]
  refine SideK.mk rfl (CallK.v (show Ret r_m_Kind_within [.val (kindD mk), .val (.int (m : Int))] (.v (.int pr.2)) from e_withinK hpr) ?_)
  repeat walk_at "st"
  refine SlK.lmid (j := k) (k := nd) rfl (by omega) ?_
  repeat walk_at "st"
  refine CallU.v (e_row_of hsub) ?_
  repeat walk_at "st"
  refine SlK.lto (j := k) rfl ?_
  repeat walk_at "st"
  refine SlK.lfrom (j := k + nd) (by omega) ?_
  repeat walk_at "st"
  simp only [ledD, List.map_append]
  rfl
theorem ixI_of {o : List Int} {k : Int} (h : k ∈ o) : ixI o k = some (o.idxOf k) := by
  induction o with
  | nil => cases h
  | cons x o ih =>
    unfold ixI
    by_cases c : x = k
    · rw [if_pos c, c, List.idxOf_cons_self]
    · rw [if_neg c, ih (by rcases List.mem_cons.mp h with h | h; exact absurd h.symm c; exact h), List.idxOf_cons, show (x == k) = false from beq_eq_false_iff_ne.mpr c]
      rfl
theorem e_led_by (gm : GM mk) (lt : t.length ≤ 4000) {st : Stp} (ok : st.Ok (wsO mk) t) (h : Th mk t p ts) : Ret r_p_led_by [.val (kindD mk), .val st.D, .val (.int (p : Int)), .val (.list (ts.map tD))] (.v (ledD (st.led (wsO mk) p ts))) := by
  have hp := (List.getElem?_eq_some_iff.mp h.at_).1
  cases st with
  | op a q =>
    have e := e_led_open gm lt ok h
    generalize (Stp.op a q).led (wsO mk) p ts = x at *
    refine ret_st ?_
    unfold d_p_led_by
    rw [show Stp.D (.op a q) = .tuple [.str (Str.ofString "open"), .int (a : Int), .int q] from rfl] at *
    repeat walk_at "st"
    refine OpK.str (k := false) (by decide +kernel) ?_
    repeat walk_at "st"
    refine OpK.str (k := true) (by decide +kernel) ?_
    repeat walk_at "st"
    refine CallU.v e ?_
    repeat walk_at "st"
    rfl
  | cl a q =>
    have e := e_led_close gm lt ok h
    generalize (Stp.cl a q).led (wsO mk) p ts = x at *
    refine ret_st ?_
    unfold d_p_led_by
    rw [show Stp.D (.cl a q) = .tuple [.str (Str.ofString "close"), .int (a : Int), .int q] from rfl] at *
    repeat walk_at "st"
    refine OpK.str (k := false) (by decide +kernel) ?_
    repeat walk_at "st"
    refine OpK.str (k := false) (by decide +kernel) ?_
    repeat walk_at "st"
    refine CallU.v e ?_
    repeat walk_at "st"
    rfl
  | or o =>
    have ok : o.Perm (zts t.length) := ok
    show Ret r_p_led_by [.val (kindD mk), .val (ordD o), .val (.int (p : Int)), .val (.list (ts.map tD))] (.v (ledD (o.idxOf (p : Int), ts)))
    refine ret_st ?_
    unfold d_p_led_by
    repeat walk_at "st"
    refine OpK.str (k := true) (by decide +kernel) ?_
    repeat walk_at "st"
    refine OixK.mk (ixI_of ((ord_mem ok).mpr ⟨by omega, by omega⟩)) ?_
    repeat walk_at "st"
    rfl
end
open BW BW.MR
section
variable {ws : List Int} {a p : Nat} {ts : List (List Int)}
theorem led_op_lt {q : Int} (c : p < a) : (Stp.op a q).led ws p ts = (p, ts) := if_pos c
theorem led_op_gt {q : Int} (c : a < p) : (Stp.op a q).led ws p ts = (p + ws.length - 1, ts) := (if_neg (by omega)).trans (if_pos c)
theorem led_op_at {k : Nat} {m : Int} {r : List Int} (hu : ts[k]? = some (m :: r)) : (Stp.op a (k : Int)).led ws a ts = (a + m.toNat, ts.take k ++ prs ws r ++ ts.drop (k + 1)) := by
  refine (if_neg (Nat.lt_irrefl a)).trans ((if_neg (Nat.lt_irrefl a)).trans ?_)
  rw [Int.toNat_natCast, hu]
theorem led_cl_lt {q : Int} (c : p < a) : (Stp.cl a q).led ws p ts = (p, ts) := if_pos c
theorem led_cl_gt {q : Int} (c : a + ws.length ≤ p) : (Stp.cl a q).led ws p ts = (p + 1 - ws.length, ts) := by
  by_cases h : p < a
  · omega
  · exact (if_neg h).trans (if_pos c)
theorem led_cl_at {k m : Nat} (h : p = a + m) (c : m < ws.length) : (Stp.cl a (k : Int)).led ws p ts = (a, ts.take k ++ [(m : Int) :: ((ts.drop k).take (need ws (m : Int))).flatten] ++ ts.drop (k + need ws (m : Int))) := by
  refine (if_neg (by omega)).trans ((if_neg (by omega)).trans ?_)
  rw [Int.toNat_natCast, show p - a = m by omega]
end
section
variable {mk : List (Str × Int)} {t : List Int} {p : Nat} {ts : List (List Int)}
theorem hits_app {ws : List Int} : ∀ {a b : List Int} {k j : Nat}, Hits ws k a → Hits ws j b → Hits ws (k + j) (a ++ b)
  | [], b, k, j, ha, hb => by
    have : k = 0 := ha
    subst this
    rw [Nat.zero_add]
    exact hb
  | m :: a, b, k, j, ha, hb => by
    obtain ⟨i, rfl, h⟩ := hits_cons ha
    have := hits_app h hb
    show Hits ws (i + 1 + j) (m :: (a ++ b))
    rw [show i + 1 + j = i + j + 1 by omega]
    show Hits ws (i + j + need ws m) (a ++ b)
    rw [show i + j + need ws m = i + need ws m + j by omega]
    exact this
theorem hits_flat {ws : List Int} : ∀ {us : List (List Int)}, (∀ u ∈ us, Hits ws 1 u) → Hits ws us.length us.flatten
  | [], _ => rfl
  | u :: us, h => by
    have h1 := hits_flat fun v hv => h v (List.mem_cons_of_mem _ hv)
    rw [List.length_cons, List.flatten_cons, Nat.add_comm]
    exact hits_app (h u List.mem_cons_self) h1
theorem led_back (gm : GM mk) {st : Stp} (ok : st.Ok (wsO mk) t) (h : Th mk t p ts) : st.back.led (wsO mk) (st.led (wsO mk) p ts).1 (st.led (wsO mk) p ts).2 = (p, ts) := by
  have l2 : 2 ≤ (wsO mk).length := by rw [List.length_map]; exact gm.l2
  have lw : (wsO mk).length = mk.length := List.length_map ..
  have hp := (List.getElem?_eq_some_iff.mp h.at_).1
  cases st with
  | op a q =>
    obtain ⟨n, hn, q0, q1⟩ := ok
    obtain ⟨k, rfl⟩ : ∃ k : Nat, q = (k : Int) := ⟨q.toNat, by omega⟩
    show (Stp.cl a (k : Int)).led (wsO mk) ((Stp.op a (k : Int)).led (wsO mk) p ts).1 ((Stp.op a (k : Int)).led (wsO mk) p ts).2 = (p, ts)
    by_cases c : p < a
    · rw [led_op_lt c, led_cl_lt c]
    by_cases c2 : a < p
    · rw [led_op_gt c2]
      show (Stp.cl a (k : Int)).led (wsO mk) (p + (wsO mk).length - 1) ts = (p, ts)
      rw [led_cl_gt (by omega), show p + (wsO mk).length - 1 + 1 - (wsO mk).length = p by omega]
    have hpa : p = a := by omega
    subst hpa
    have e1 := h.at_
    rw [hn] at e1
    cases e1
    obtain ⟨u, hu⟩ : ∃ u, ts[k]? = some u := ⟨_, List.getElem?_eq_getElem (by omega)⟩
    have hum := List.mem_of_getElem? hu
    obtain ⟨m, r, rfl, hr⟩ := hits_pos (h.tr u hum)
    obtain ⟨us, hus, rfl, hus2⟩ := hits_parts hr
    have hm := h.bd m (List.mem_flatten.mpr ⟨_, hum, List.mem_cons_self⟩)
    have hk := (List.getElem?_eq_some_iff.mp hu).1
    rw [led_op_at hu, prs_flat gm.nn hus2]
    show (Stp.cl p (k : Int)).led (wsO mk) (p + m.toNat) (ts.take k ++ us ++ ts.drop (k + 1)) = (p, ts)
    rw [led_cl_at (m := m.toNat) rfl (by omega), show ((m.toNat : Nat) : Int) = m by omega]
    have lk : (ts.take k).length = k := by rw [List.length_take]; omega
    have e2 : (ts.take k ++ us ++ ts.drop (k + 1)).take k = ts.take k := by rw [List.append_assoc, List.take_left' lk]
    have e3 : (ts.take k ++ us ++ ts.drop (k + 1)).drop k = us ++ ts.drop (k + 1) := by rw [List.append_assoc, List.drop_left' lk]
    have e6 : (ts.take k ++ us ++ ts.drop (k + 1)).drop (k + need (wsO mk) m) = ts.drop (k + 1) := by rw [← List.drop_drop, e3, ← hus, List.drop_left]
    rw [e2, e3, e6, ← hus, List.take_left]
    congr 1
    rw [List.append_assoc]
    have e4 : ts.drop k = (m :: us.flatten) :: ts.drop (k + 1) := by rw [List.drop_eq_getElem_cons hk, (List.getElem?_eq_some_iff.mp hu).2]
    show ts.take k ++ ((m :: us.flatten) :: ts.drop (k + 1)) = ts
    rw [← e4, List.take_append_drop]
  | cl a q =>
    obtain ⟨ha, q0, q1⟩ := ok
    obtain ⟨k, rfl⟩ : ∃ k : Nat, q = (k : Int) := ⟨q.toNat, by omega⟩
    show (Stp.op a (k : Int)).led (wsO mk) ((Stp.cl a (k : Int)).led (wsO mk) p ts).1 ((Stp.cl a (k : Int)).led (wsO mk) p ts).2 = (p, ts)
    by_cases c : p < a
    · rw [led_cl_lt c, led_op_lt c]
    by_cases c2 : a + (wsO mk).length ≤ p
    · rw [led_cl_gt c2]
      show (Stp.op a (k : Int)).led (wsO mk) (p + 1 - (wsO mk).length) ts = (p, ts)
      rw [led_op_gt (by omega), show p + 1 - (wsO mk).length + (wsO mk).length - 1 = p by omega]
    obtain ⟨m, hm⟩ : ∃ m : Nat, m = p - a := ⟨_, rfl⟩
    rw [led_cl_at (m := m) (by omega) (by omega)]
    generalize need (wsO mk) (m : Int) = nd at *
    have lk : k ≤ ts.length := by
      have hc : 0 < clN (wsO mk) t a := by omega
      have hy := (cl_yes hc).2.2
      obtain ⟨w, hw⟩ : ∃ w, (wsO mk)[m]? = some w := ⟨_, List.getElem?_eq_getElem (by omega)⟩
      have e : ((t.drop a).take (wsO mk).length)[m]? = (opF (wsO mk) (clN (wsO mk) t a))[m]? := congrArg (fun l => l[m]?) hy
      rw [List.getElem?_take, if_pos (by omega), List.getElem?_drop, show a + m = p by omega, h.at_] at e
      unfold opF at e
      rw [List.getElem?_map, hw] at e
      have e : some (ts.length : Int) = some (clN (wsO mk) t a - 1 + w) := e
      have := (wsG gm (List.mem_of_getElem? hw)).1
      have e := Option.some.inj e
      omega
    have lk2 : (ts.take k).length = k := by rw [List.length_take]; omega
    have e1 : (ts.take k ++ [(m : Int) :: ((ts.drop k).take nd).flatten] ++ ts.drop (k + nd))[k]? = some ((m : Int) :: ((ts.drop k).take nd).flatten) := by
      rw [List.append_assoc, List.getElem?_append_right (by omega), lk2, Nat.sub_self]
      rfl
    have hs : ∀ u ∈ (ts.drop k).take nd, Hits (wsO mk) 1 u := fun u hu => h.tr u (List.mem_of_mem_drop (List.mem_of_mem_take hu))
    show (Stp.op a (k : Int)).led (wsO mk) a (ts.take k ++ [(m : Int) :: ((ts.drop k).take nd).flatten] ++ ts.drop (k + nd)) = (p, ts)
    have f2 : (ts.take k ++ [(m : Int) :: ((ts.drop k).take nd).flatten] ++ ts.drop (k + nd)).take k = ts.take k := by rw [List.append_assoc, List.take_left' lk2]
    have f3 : (ts.take k ++ [(m : Int) :: ((ts.drop k).take nd).flatten] ++ ts.drop (k + nd)).drop (k + 1) = ts.drop (k + nd) := by
      rw [List.append_assoc, ← List.drop_drop, List.drop_left' lk2]
      rfl
    rw [led_op_at e1, prs_flat gm.nn hs, Int.toNat_natCast, f2, f3, ← List.drop_drop, List.append_assoc, List.take_append_drop, List.take_append_drop, show a + m = p by omega]
  | or o =>
    have h2 : o.Perm (zts t.length) := ok
    show ((invO o).idxOf ((o.idxOf (p : Int) : Nat) : Int), ts) = (p, ts)
    rw [inv_idx h2 hp]
theorem led_th (gm : GM mk) {st : Stp} (ok : st.Ok (wsO mk) t) (h : Th mk t p ts) (hl : ts.flatten.length + 1 ≤ 100000) : Th mk (st.aft (wsO mk) t) (st.led (wsO mk) p ts).1 (st.led (wsO mk) p ts).2 ∧ (st.led (wsO mk) p ts).2.flatten.length ≤ ts.flatten.length + 1 := by
  have l2 : 2 ≤ (wsO mk).length := by rw [List.length_map]; exact gm.l2
  have lw : (wsO mk).length = mk.length := List.length_map ..
  have hp := (List.getElem?_eq_some_iff.mp h.at_).1
  cases st with
  | op a q =>
    obtain ⟨n, hn, q0, q1⟩ := ok
    have ha := (List.getElem?_eq_some_iff.mp hn).1
    obtain ⟨k, rfl⟩ : ∃ k : Nat, q = (k : Int) := ⟨q.toNat, by omega⟩
    have la : (t.take a).length = a := by rw [List.length_take]; omega
    have lop : (opF (wsO mk) n).length = (wsO mk).length := opF_len
    have e : Stp.aft (wsO mk) t (.op a k) = t.take a ++ opF (wsO mk) n ++ t.drop (a + 1) := by show _ ++ opF (wsO mk) (t.getD a 0) ++ _ = _; rw [getD_of hn]
    rw [e]
    by_cases c : p < a
    · rw [led_op_lt c]
      exact ⟨⟨by rw [List.append_assoc, List.getElem?_append_left (by omega), List.getElem?_take, if_pos c, h.at_], h.tr, h.bd, h.ln⟩, by show ts.flatten.length ≤ _; omega⟩
    by_cases c2 : a < p
    · rw [led_op_gt c2]
      refine ⟨⟨?_, h.tr, h.bd, h.ln⟩, by show ts.flatten.length ≤ _; omega⟩
      rw [List.getElem?_append_right (by rw [List.length_append]; omega), List.length_append, la, lop, List.getElem?_drop, show a + 1 + (p + (wsO mk).length - 1 - (a + (wsO mk).length)) = p by omega, h.at_]
    have hpa : p = a := by omega
    subst hpa
    have e1 := h.at_
    rw [hn] at e1
    cases e1
    obtain ⟨u, hu⟩ : ∃ u, ts[k]? = some u := ⟨_, List.getElem?_eq_getElem (by omega)⟩
    have hum := List.mem_of_getElem? hu
    obtain ⟨m, r, rfl, hr⟩ := hits_pos (h.tr u hum)
    obtain ⟨us, hus, rfl, hus2⟩ := hits_parts hr
    have hm := h.bd m (List.mem_flatten.mpr ⟨_, hum, List.mem_cons_self⟩)
    have hk := (List.getElem?_eq_some_iff.mp hu).1
    rw [led_op_at hu, prs_flat gm.nn hus2]
    have e4 : ts.flatten = (ts.take k).flatten ++ (m :: us.flatten) ++ (ts.drop (k + 1)).flatten := by
      have : ts = ts.take k ++ [m :: us.flatten] ++ ts.drop (k + 1) := by
        rw [List.append_assoc]
        show ts = ts.take k ++ ((m :: us.flatten) :: ts.drop (k + 1))
        rw [← (List.getElem?_eq_some_iff.mp hu).2, ← List.drop_eq_getElem_cons hk, List.take_append_drop]
      have := congrArg List.flatten this
      rw [List.flatten_append, List.flatten_append, List.flatten_singleton] at this
      exact this
    have e5 : (ts.take k ++ us ++ ts.drop (k + 1)).flatten = (ts.take k).flatten ++ us.flatten ++ (ts.drop (k + 1)).flatten := by rw [List.flatten_append, List.flatten_append]
    have le := congrArg List.length e4
    simp only [List.length_append, List.length_cons] at le
    refine ⟨⟨?_, fun v hv => ?_, fun x hx => ?_, ?_⟩, ?_⟩
    · obtain ⟨w, hw⟩ : ∃ w, (wsO mk)[m.toNat]? = some w := ⟨_, List.getElem?_eq_getElem (by omega)⟩
      rw [List.append_assoc, List.getElem?_append_right (by omega), la, show p + m.toNat - p = m.toNat by omega, List.getElem?_append_left (by omega)]
      unfold opF
      rw [List.getElem?_map, hw]
      have hnd := need_int gm.nn m
      rw [getD_of hw, ← hus] at hnd
      show some ((ts.length : Int) - 1 + w) = some (((ts.take k ++ us ++ ts.drop (k + 1)).length : Nat) : Int)
      rw [List.length_append, List.length_append, List.length_take, List.length_drop]
      exact congrArg some (by omega)
    · rcases List.mem_append.mp hv with hv | hv
      · rcases List.mem_append.mp hv with hv | hv
        · exact h.tr v (List.mem_of_mem_take hv)
        · exact hus2 v hv
      · exact h.tr v (List.mem_of_mem_drop hv)
    · rw [e5] at hx
      refine h.bd x ?_
      rw [e4]
      simp only [List.mem_append, List.mem_cons] at hx ⊢
      rcases hx with (hx | hx) | hx
      · exact .inl (.inl hx)
      · exact .inl (.inr (.inr hx))
      · exact .inr hx
    · rw [e5]
      simp only [List.length_append]
      omega
    · show (ts.take k ++ us ++ ts.drop (k + 1)).flatten.length ≤ _
      rw [e5]
      simp only [List.length_append]
      omega
  | cl a q =>
    obtain ⟨ha, q0, q1⟩ := ok
    obtain ⟨k, rfl⟩ : ∃ k : Nat, q = (k : Int) := ⟨q.toNat, by omega⟩
    have hc : 0 < clN (wsO mk) t a := by omega
    have hy := cl_yes hc
    have la : (t.take a).length = a := by rw [List.length_take]; omega
    show Th mk (t.take a ++ [clN (wsO mk) t a] ++ t.drop (a + (wsO mk).length)) _ _ ∧ _
    by_cases c : p < a
    · rw [led_cl_lt c]
      exact ⟨⟨by rw [List.append_assoc, List.getElem?_append_left (by omega), List.getElem?_take, if_pos c, h.at_], h.tr, h.bd, h.ln⟩, by show ts.flatten.length ≤ _; omega⟩
    by_cases c2 : a + (wsO mk).length ≤ p
    · rw [led_cl_gt c2]
      refine ⟨⟨?_, h.tr, h.bd, h.ln⟩, by show ts.flatten.length ≤ _; omega⟩
      rw [List.getElem?_append_right (by rw [List.length_append, List.length_singleton]; omega), List.length_append, la, List.length_singleton, List.getElem?_drop, show a + (wsO mk).length + (p + 1 - (wsO mk).length - (a + 1)) = p by omega, h.at_]
    obtain ⟨m, hm⟩ : ∃ m : Nat, m = p - a := ⟨_, rfl⟩
    rw [led_cl_at (m := m) (by omega) (by omega)]
    obtain ⟨w, hw⟩ : ∃ w, (wsO mk)[m]? = some w := ⟨_, List.getElem?_eq_getElem (by omega)⟩
    have hw0 := (wsG gm (List.mem_of_getElem? hw)).1
    have hnd := need_int gm.nn (m : Int)
    rw [Int.toNat_natCast, getD_of hw] at hnd
    have hts : (ts.length : Int) = clN (wsO mk) t a - 1 + w := by
      have e : ((t.drop a).take (wsO mk).length)[m]? = (opF (wsO mk) (clN (wsO mk) t a))[m]? := congrArg (fun l => l[m]?) hy.2.2
      rw [List.getElem?_take, if_pos (by omega), List.getElem?_drop, show a + m = p by omega, h.at_] at e
      unfold opF at e
      rw [List.getElem?_map, hw] at e
      exact Option.some.inj e
    generalize hndd : need (wsO mk) (m : Int) = nd at *
    have e4 : ts.flatten = (ts.take k).flatten ++ ((ts.drop k).take nd).flatten ++ (ts.drop (k + nd)).flatten := by
      rw [List.append_assoc, ← List.drop_drop, ← List.flatten_append, List.take_append_drop, ← List.flatten_append, List.take_append_drop]
    have e5 : (ts.take k ++ [(m : Int) :: ((ts.drop k).take nd).flatten] ++ ts.drop (k + nd)).flatten = (ts.take k).flatten ++ ((m : Int) :: ((ts.drop k).take nd).flatten) ++ (ts.drop (k + nd)).flatten := by rw [List.flatten_append, List.flatten_append, List.flatten_singleton]
    have le := congrArg List.length e4
    simp only [List.length_append] at le
    refine ⟨⟨?_, fun v hv => ?_, fun x hx => ?_, ?_⟩, ?_⟩
    · rw [List.append_assoc, List.getElem?_append_right (by omega), la, Nat.sub_self]
      show some (clN (wsO mk) t a) = some (((ts.take k ++ [(m : Int) :: ((ts.drop k).take nd).flatten] ++ ts.drop (k + nd)).length : Nat) : Int)
      rw [List.length_append, List.length_append, List.length_take, List.length_drop, List.length_singleton]
      exact congrArg some (by omega)
    · rcases List.mem_append.mp hv with hv | hv
      · rcases List.mem_append.mp hv with hv | hv
        · exact h.tr v (List.mem_of_mem_take hv)
        · rw [List.mem_singleton.mp hv]
          have h1 := hits_flat (ws := wsO mk) (us := (ts.drop k).take nd) fun u hu => h.tr u (List.mem_of_mem_drop (List.mem_of_mem_take hu))
          rw [List.length_take, List.length_drop, show min nd (ts.length - k) = nd by omega] at h1
          show Hits (wsO mk) (0 + need (wsO mk) (m : Int)) _
          rw [hndd, Nat.zero_add]
          exact h1
      · exact h.tr v (List.mem_of_mem_drop hv)
    · rw [e5] at hx
      simp only [List.mem_append, List.mem_cons] at hx
      rcases hx with (hx | rfl | hx) | hx
      · exact h.bd x (by rw [e4]; simp [hx])
      · exact ⟨by omega, by omega⟩
      · exact h.bd x (by rw [e4]; simp only [List.mem_append]; exact .inl (.inr hx))
      · exact h.bd x (by rw [e4]; simp only [List.mem_append]; exact .inr hx)
    · rw [e5]
      simp only [List.length_append, List.length_cons]
      omega
    · show (ts.take k ++ [(m : Int) :: ((ts.drop k).take nd).flatten] ++ ts.drop (k + nd)).flatten.length ≤ _
      rw [e5]
      simp only [List.length_append, List.length_cons]
      omega
  | or o =>
    have h2 : o.Perm (zts t.length) := ok
    refine ⟨⟨?_, h.tr, h.bd, h.ln⟩, by show ts.flatten.length ≤ _; omega⟩
    show (o.map fun n => t.getD n.toNat 0)[o.idxOf (p : Int)]? = _
    rw [List.getElem?_map, ord_at h2 hp]
    show some (t.getD ((p : Int)).toNat 0) = some (ts.length : Int)
    rw [Int.toNat_natCast, getD_of h.at_]
end
open BW BW.MR
/-! the law's own walk -/
section
variable {mk : List (Str × Int)} {t : List Int} {p : Nat} {ts : List (List Int)}
theorem e_end (gm : GM mk) {pre u post : List Int} (hu : Hits (wsO mk) 1 u) (hb : ∀ m ∈ u, 0 ≤ m ∧ m < mk.length) : Ret r_end_ [.val (.list ((wsO mk).map .int)), .val (tD (pre ++ u ++ post)), .val (.int (pre.length : Int))] (.v (.int ((pre.length + u.length : Nat) : Int))) := by
  have lw : (wsO mk).length = mk.length := List.length_map ..
  refine ret_st ?_
  unfold d_end_
  repeat walk_at "st"
  refine while_st (fun n τ => ∃ (a s : List Int) (k : Nat), u = a ++ s ∧ n = s.length ∧ Hits (wsO mk) k s ∧ τ = [.val (.list ((wsO mk).map .int)), .val (tD (pre ++ u ++ post)), .val (.int ((pre.length + a.length : Nat) : Int)), .val (.int (k : Int))]) u.length ⟨[], u, 1, rfl, rfl, hu, rfl⟩ ?_
  rintro n τ ⟨a, s, k, e, rfl, hs, rfl⟩
  repeat walk_at "st"
  refine IfK.two (fun c => ?_) (fun c => ?_)
  · cases s with
    | nil =>
      have : k = 0 := hs
      omega
    | cons m s =>
      obtain ⟨j, rfl, h2⟩ := hits_cons hs
      obtain ⟨m0, m1⟩ := hb m (by rw [e]; simp)
      obtain ⟨w, hw⟩ : ∃ w, (wsO mk)[m.toNat]? = some w := ⟨_, List.getElem?_eq_getElem (by omega)⟩
      have hnd := need_int gm.nn m
      rw [getD_of hw] at hnd
      have hrow : (pre ++ u ++ post)[pre.length + a.length]? = some m := by
        rw [e, List.append_assoc, List.getElem?_append_right (by omega), show pre.length + a.length - pre.length = a.length by omega, List.append_assoc, List.getElem?_append_right (by omega), Nat.sub_self]
        rfl
      repeat walk_at "st"
      refine OpK.ixt (atI_ints (k := ((pre.length + a.length : Nat) : Int)) (v := m) (by omega) (by rw [Int.toNat_natCast]; exact hrow)) ?_
      repeat walk_at "st"
      refine OpK.ixl (atI_ints (k := m) (v := w) m0 hw) ?_
      repeat walk_at "st"
      refine ⟨s.length, by rw [List.length_cons]; omega, a ++ [m], s, j + need (wsO mk) m, by rw [e]; simp, rfl, h2, ?_⟩
      rw [show ((j + 1 : Nat) : Int) - 1 + w = ((j + need (wsO mk) m : Nat) : Int) by omega, show ((pre.length + a.length : Nat) : Int) + 1 = ((pre.length + (a ++ [m]).length : Nat) : Int) by rw [List.length_append, List.length_singleton]; omega]
  · have hk : k = 0 := by omega
    subst hk
    have := hits0 hs
    subst this
    repeat walk_at "st"
    rw [e, List.append_nil]
theorem e_spot (gm : GM mk) (h : ∀ u ∈ ts, Hits (wsO mk) 1 u) (hb : ∀ m ∈ ts.flatten, 0 ≤ m ∧ m < mk.length) {k : Nat} (hk : k ≤ ts.length) (hk2 : k ≤ 100000) : Ret r_spot [.val (.list ((wsO mk).map .int)), .val (tD ts.flatten), .val (.int (k : Int))] (.v (.int ((ts.take k).flatten.length : Int))) := by
  refine ret_st ?_
  unfold d_spot
  repeat walk_at "st"
  refine for_st (fun k : Nat => PyData.int (k : Int)) (fun (q : List Nat) τ => ∃ u : SD, τ = [.val (.list ((wsO mk).map .int)), .val (tD ts.flatten), .val (.int (k : Int)), .val (.int ((ts.take q.length).flatten.length : Int)), u] ∧ FreC u) (xs := List.range k) (by rw [Int.toNat_natCast]) ⟨_, rfl, inferInstance⟩ ?_ ?_
  · rintro τ ⟨u, rfl, fu⟩
    rw [List.length_range]
    repeat walk_at "st"
    rfl
  rintro pre j rest τ hx ⟨u, rfl, fu⟩
  have hl : pre.length < k := by
    have := congrArg List.length hx
    simp at this
    omega
  obtain ⟨v, hv⟩ : ∃ v, ts[pre.length]? = some v := ⟨_, List.getElem?_eq_getElem (by omega)⟩
  have hlt := (List.getElem?_eq_some_iff.mp hv).1
  have e1 : ts.take (pre.length + 1) = ts.take pre.length ++ [v] := by rw [List.take_succ, hv]; rfl
  have e2 : ts.flatten = (ts.take pre.length).flatten ++ v ++ (ts.drop (pre.length + 1)).flatten := by
    have : ts = ts.take pre.length ++ [v] ++ ts.drop (pre.length + 1) := by rw [← e1, List.take_append_drop]
    have := congrArg List.flatten this
    rw [List.flatten_append, List.flatten_append, List.flatten_singleton] at this
    exact this
  have ee := e_end gm (pre := (ts.take pre.length).flatten) (u := v) (post := (ts.drop (pre.length + 1)).flatten) (h v (List.mem_of_getElem? hv)) (fun m hm => hb m (flat_sub (List.mem_of_getElem? hv) m hm))
  rw [← e2] at ee
  repeat walk_at "st"
  refine CallU.v ee ?_
  repeat walk_at "st"
  refine ⟨.val (.int (j : Int)), ?_, inferInstance⟩
  rw [List.length_append, List.length_singleton, e1, List.flatten_append, List.flatten_singleton, List.length_append]
theorem th_place (gm : GM mk) {a k : Nat} (hc : (k : Int) < clN (wsO mk) t a) (h : Th mk t p ts) (h1 : a ≤ p) (h2 : p < a + (wsO mk).length) : k ≤ ts.length := by
  have hy := (cl_yes (show 0 < clN (wsO mk) t a by omega)).2.2
  obtain ⟨w, hw⟩ : ∃ w, (wsO mk)[p - a]? = some w := ⟨_, List.getElem?_eq_getElem (by omega)⟩
  have e : ((t.drop a).take (wsO mk).length)[p - a]? = (opF (wsO mk) (clN (wsO mk) t a))[p - a]? := congrArg (fun l => l[p - a]?) hy
  rw [List.getElem?_take, if_pos (by omega), List.getElem?_drop, show a + (p - a) = p by omega, h.at_] at e
  unfold opF at e
  rw [List.getElem?_map, hw] at e
  have := (wsG gm (List.mem_of_getElem? hw)).1
  have e : (ts.length : Int) = clN (wsO mk) t a - 1 + w := Option.some.inj e
  omega
theorem e_lled (gm : GM mk) (lt : t.length ≤ 4000) {st : Stp} (ok : st.Ok (wsO mk) t) (h : Th mk t p ts) : Ret r_led [.val (.list ((wsO mk).map .int)), .val st.D, .val (thD p ts)] (.v (thD (st.led (wsO mk) p ts).1 (st.led (wsO mk) p ts).2)) := by
  have l5 : (wsO mk).length ≤ 5 := by rw [List.length_map]; exact gm.l5
  have l2 : 2 ≤ (wsO mk).length := by rw [List.length_map]; exact gm.l2
  have lw : (wsO mk).length = mk.length := List.length_map ..
  have hl := th_len gm h
  have hln := h.ln
  have hp := (List.getElem?_eq_some_iff.mp h.at_).1
  cases st with
  | op a q =>
    obtain ⟨n, hn, q0, q1⟩ := ok
    obtain ⟨k, rfl⟩ : ∃ k : Nat, q = (k : Int) := ⟨q.toNat, by omega⟩
    rw [show Stp.D (.op a (k : Int)) = .tuple [.str (Str.ofString "open"), .int (a : Int), .int (k : Int)] from rfl]
    refine ret_st ?_
    unfold d_led
    repeat walk_at "st"
    refine OpK.str (k := false) (by decide +kernel) ?_
    repeat walk_at "st"
    refine OpK.str (k := true) (by decide +kernel) ?_
    repeat walk_at "st"
    refine IfK.two (fun c => ?_) (fun c => ?_)
    · have hpa : p = a := by omega
      subst hpa
      have e1 := h.at_
      rw [hn] at e1
      cases e1
      obtain ⟨u, hu⟩ : ∃ u, ts[k]? = some u := ⟨_, List.getElem?_eq_getElem (by omega)⟩
      have hum := List.mem_of_getElem? hu
      obtain ⟨m, r, rfl, hr⟩ := hits_pos (h.tr u hum)
      obtain ⟨us, hus, rfl, hus2⟩ := hits_parts hr
      have hm := h.bd m (List.mem_flatten.mpr ⟨_, hum, List.mem_cons_self⟩)
      have hk := (List.getElem?_eq_some_iff.mp hu).1
      have e4 : ts.flatten = (ts.take k).flatten ++ (m :: (us.flatten ++ (ts.drop (k + 1)).flatten)) := by
        have : ts = ts.take k ++ ((m :: us.flatten) :: ts.drop (k + 1)) := by rw [← (List.getElem?_eq_some_iff.mp hu).2, ← List.drop_eq_getElem_cons hk, List.take_append_drop]
        have := congrArg List.flatten this
        rw [List.flatten_append, List.flatten_cons] at this
        exact this
      have es := e_spot gm h.tr h.bd (k := k) (by omega) (by omega)
      rw [led_op_at hu, prs_flat gm.nn hus2]
      have hat : ts.flatten[(ts.take k).flatten.length]? = some m := by
        rw [e4, List.getElem?_append_right (Nat.le_refl _), Nat.sub_self]
        rfl
      have ht : ts.flatten.take (ts.take k).flatten.length = (ts.take k).flatten := by rw [e4, List.take_left]
      have hd : ts.flatten.drop ((ts.take k).flatten.length + 1) = us.flatten ++ (ts.drop (k + 1)).flatten := by
        rw [e4, ← List.drop_drop, List.drop_left]
        rfl
      have hf := List.getElem?_eq_some_iff.mp hat
      have hlt := hf.1
      have hlu := flat_le hum
      rw [List.length_cons] at hlu
      have hld : (us.flatten ++ (ts.drop (k + 1)).flatten).length ≤ 100000 := by
        have := congrArg List.length hd
        rw [List.length_drop] at this
        omega
      generalize (ts.take k).flatten.length = sp at *
      repeat walk_at "st"
      refine CallU.v es ?_
      repeat walk_at "st"
      refine OpK.ixt (atI_ints (k := (sp : Int)) (v := m) (by omega) (by rw [Int.toNat_natCast]; exact hat)) ?_
      repeat walk_at "st"
      refine SlK.tto (j := sp) rfl ?_
      repeat walk_at "st"
      refine SlK.tfrom (p := (sp : Int) + 1) (j := sp + 1) (by omega) ?_
      rw [ht, hd]
      have hl1 : ((ts.take k).flatten).length ≤ 100000 := by rw [← ht, List.length_take]; omega
      repeat walk_at "st"
      rw [show (p : Int) + m = ((p + m.toNat : Nat) : Int) by omega]
      show R.v (.tuple [_, _]) = R.v (.tuple [_, tD (ts.take k ++ us ++ ts.drop (k + 1)).flatten])
      rw [show (ts.take k ++ us ++ ts.drop (k + 1)).flatten = (ts.take k).flatten ++ (us.flatten ++ (ts.drop (k + 1)).flatten) by rw [List.flatten_append, List.flatten_append, List.append_assoc]]
    · repeat walk_at "st"
      refine OpK.str (k := true) (by decide +kernel) ?_
      repeat walk_at "st"
      by_cases c1 : p < a
      · rw [led_op_lt c1, decide_eq_false (show ¬ (a : Int) < (p : Int) by omega)]
        repeat walk_at "st"
        rw [show (p : Int) + (((wsO mk).length : Int) - 1) * (if false = true then 1 else 0) = (p : Int) by simp]
      · rw [led_op_gt (by omega), decide_eq_true (show (a : Int) < (p : Int) by omega)]
        repeat walk_at "st"
        rw [show (p : Int) + (((wsO mk).length : Int) - 1) * (if true = true then 1 else 0) = ((p + (wsO mk).length - 1 : Nat) : Int) by simp; omega]
  | cl a q =>
    obtain ⟨ha, q0, q1⟩ := ok
    obtain ⟨k, rfl⟩ : ∃ k : Nat, q = (k : Int) := ⟨q.toNat, by omega⟩
    rw [show Stp.D (.cl a (k : Int)) = .tuple [.str (Str.ofString "close"), .int (a : Int), .int (k : Int)] from rfl]
    refine ret_st ?_
    unfold d_led
    repeat walk_at "st"
    refine OpK.str (k := false) (by decide +kernel) ?_
    repeat walk_at "st"
    refine OpK.str (k := false) (by decide +kernel) ?_
    repeat walk_at "st"
    refine OpK.str (k := false) (by decide +kernel) ?_
    repeat walk_at "st"
    refine ev_chainLe ?_
    repeat walk_at "st"
    refine ⟨(a : Int), (p : Int), rfl, rfl, fun c => ?_, fun c => ?_⟩
    · repeat walk_at "st"
      refine ⟨_, rfl, rfl, ?_⟩
      repeat walk_at "st"
      refine IfK.two (fun c2 => ?_) (fun c2 => ?_)
      · obtain ⟨m, hm⟩ : ∃ m : Nat, m = p - a := ⟨_, rfl⟩
        have hkl := th_place gm q1 h (by omega) (by omega)
        rw [led_cl_at (m := m) (by omega) (by omega)]
        generalize need (wsO mk) (m : Int) = nd at *
        have es := e_spot gm h.tr h.bd (k := k) hkl (by omega)
        have e4 : ts.flatten = (ts.take k).flatten ++ (ts.drop k).flatten := by rw [← List.flatten_append, List.take_append_drop]
        have ht : ts.flatten.take (ts.take k).flatten.length = (ts.take k).flatten := by rw [e4, List.take_left]
        have hd : ts.flatten.drop (ts.take k).flatten.length = (ts.drop k).flatten := by rw [e4, List.drop_left]
        have hl1 : (ts.take k).flatten.length ≤ 100000 := by
          have := congrArg List.length e4
          rw [List.length_append] at this
          omega
        have hl2 : (ts.drop k).flatten.length ≤ 100000 := by
          have := congrArg List.length e4
          rw [List.length_append] at this
          omega
        have e5 : (ts.take k ++ [(m : Int) :: ((ts.drop k).take nd).flatten] ++ ts.drop (k + nd)).flatten = (ts.take k).flatten ++ [(m : Int)] ++ (ts.drop k).flatten := by
          rw [List.flatten_append, List.flatten_append, List.flatten_singleton, ← List.drop_drop, List.append_assoc, List.append_assoc]
          show _ ++ ((m : Int) :: (((ts.drop k).take nd).flatten ++ ((ts.drop k).drop nd).flatten)) = _ ++ ((m : Int) :: _)
          rw [← List.flatten_append, List.take_append_drop]
          rfl
        repeat walk_at "st"
        refine CallU.v es ?_
        repeat walk_at "st"
        refine SlK.tto (j := (ts.take k).flatten.length) rfl ?_
        repeat walk_at "st"
        refine SlK.tfrom (p := ((ts.take k).flatten.length : Int)) (j := (ts.take k).flatten.length) rfl ?_
        rw [ht, hd, show (p : Int) - (a : Int) = (m : Int) by omega]
        repeat walk_at "st"
        show R.v (.tuple [_, _]) = R.v (.tuple [_, tD (ts.take k ++ [(m : Int) :: ((ts.drop k).take nd).flatten] ++ ts.drop (k + nd)).flatten])
        rw [e5]
      · repeat walk_at "st"
        rw [led_cl_gt (by omega), decide_eq_true (show (a : Int) < (p : Int) by omega)]
        repeat walk_at "st"
        rw [show (p : Int) - (((wsO mk).length : Int) - 1) * (if true = true then 1 else 0) = ((p + 1 - (wsO mk).length : Nat) : Int) by simp; omega]
    · repeat walk_at "st"
      rw [led_cl_lt (by omega), decide_eq_false (show ¬ (a : Int) < (p : Int) by omega)]
      repeat walk_at "st"
      rw [show (p : Int) - (((wsO mk).length : Int) - 1) * (if false = true then 1 else 0) = (p : Int) by simp]
  | or o =>
    have ok : o.Perm (zts t.length) := ok
    show Ret r_led [.val (.list ((wsO mk).map .int)), .val (ordD o), .val (thD p ts)] (.v (thD (o.idxOf (p : Int)) ts))
    refine ret_st ?_
    unfold d_led
    repeat walk_at "st"
    refine OpK.str (k := true) (by decide +kernel) ?_
    repeat walk_at "st"
    refine OixK.mk (ixI_of ((ord_mem ok).mpr ⟨by omega, by omega⟩)) ?_
    repeat walk_at "st"
    rfl
theorem ws_zero (gm : GM mk) : ∃ j, ixI (wsO mk) 0 = some j ∧ (wsO mk)[j]? = some 0 := by
  have e := ixI_of (o := wsO mk) (k := 0) gm.z
  exact ⟨_, e, (ixI_ok e).1⟩
theorem e_ltree (gm : GM mk) {c0 : Nat} {x : Own} (hx : WlD c0 x) (hc : c0 < 800000) {sz : Int} (s0 : 1 ≤ sz) (s1 : sz ≤ 100) :
    ∃ (u : List Int) (y : Own), r_tree [.io x, .val (.list ((wsO mk).map .int)), .val (.int sz)] = some (.n (.L (u.map .int)), [.io y, .val (.list ((wsO mk).map .int)), .val (.int sz)]) ∧ WlD (c0 + 110) y ∧ Hits (wsO mk) 1 u ∧ (∀ m ∈ u, 0 ≤ m ∧ m < mk.length) ∧ (u.length : Int) ≤ sz + 4 := by
  suffices h : ∃ r as', r_tree [.io x, .val (.list ((wsO mk).map .int)), .val (.int sz)] = some (r, as') ∧ ∃ (u : List Int) (y : Own), r = .n (.L (u.map .int)) ∧ as' = [.io y, .val (.list ((wsO mk).map .int)), .val (.int sz)] ∧ WlD (c0 + 110) y ∧ Hits (wsO mk) 1 u ∧ (∀ m ∈ u, 0 ≤ m ∧ m < mk.length) ∧ (u.length : Int) ≤ sz + 4 by
    obtain ⟨r, as', e, u, y, rfl, rfl, h⟩ := h
    exact ⟨u, y, e, h⟩
  have l5 := gm.l5
  have l2 := gm.l2
  have lw : (wsO mk).length = mk.length := List.length_map ..
  obtain ⟨z, hz1, hz2⟩ := ws_zero gm
  have hz3 := (List.getElem?_eq_some_iff.mp hz2).1
  refine run_st ?_
  unfold d_tree
  repeat walk_at "st"
  refine while_st (fun n τ => ∃ (u : List Int) (k : Nat) (y : Own) (w : SD), τ = [.io y, .val (.list ((wsO mk).map .int)), .val (.int sz), .own (.L (u.map .int)), .val (.int (k : Int)), w] ∧ FreC w ∧ n + u.length = (sz + 5).toNat ∧ (u.length : Int) + k ≤ sz + 4 ∧ (∀ s, Hits (wsO mk) k s → Hits (wsO mk) 1 (u ++ s)) ∧ (∀ m ∈ u, 0 ≤ m ∧ m < mk.length) ∧ WlD (c0 + u.length) y) (sz + 5).toNat ⟨[], 1, x, .un, rfl, inferInstance, by simp, by simp; omega, fun s h => h, (fun m h => by cases h), hx⟩ ?_
  rintro n τ ⟨u, k, y, w, rfl, fw, hn, hk, hh, hb, hy⟩
  repeat walk_at "st"
  refine IfK.two (fun c => ?_) (fun c => ?_)
  · repeat walk_at "st"
    refine DrawK.st hy (by omega) (by omega) (by omega) fun v y2 hy2 v0 v1 => ?_
    repeat walk_at "st"
    refine IfK.join (fun τ => ∃ m : Int, 0 ≤ m ∧ m < mk.length ∧ (sz < (u.length : Int) + k → (wsO mk)[m.toNat]? = some 0) ∧ τ = [.io y2, .val (.list ((wsO mk).map .int)), .val (.int sz), .own (.L (u.map .int)), .val (.int (k : Int)), .val (.int m)]) (fun c2 => ?_) (fun c2 => ?_) ?_
    · repeat walk_at "st"
      refine BmK.mk (j := (z : Int)) (by unfold idxF; rw [hz1]; rfl) ?_
      repeat walk_at "st"
      exact ⟨rfl, (z : Int), by omega, by omega, fun _ => by rw [Int.toNat_natCast]; exact hz2, rfl⟩
    · repeat walk_at "st"
      exact ⟨rfl, v, v0, by omega, fun h => absurd h c2, rfl⟩
    rintro τ ⟨m, m0, m1, hm, rfl⟩
    obtain ⟨q, hq⟩ : ∃ q, (wsO mk)[m.toNat]? = some q := ⟨_, List.getElem?_eq_getElem (by omega)⟩
    have hq4 := wsG gm (List.mem_of_getElem? hq)
    have hnd := need_int gm.nn m
    rw [getD_of hq] at hnd
    repeat walk_at "st"
    refine OpK.ixl (atI_ints (k := m) (v := q) m0 hq) ?_
    repeat walk_at "st"
    refine ⟨n - 1, by omega, u ++ [m], k - 1 + need (wsO mk) m, y2, .val (.int m), ?_, inferInstance, by rw [List.length_append, List.length_singleton]; omega, ?_, fun s hs => ?_, fun x hx => ?_, hy2.mono (by rw [List.length_append, List.length_singleton]; omega)⟩
    · rw [show (k : Int) - 1 + q = ((k - 1 + need (wsO mk) m : Nat) : Int) by omega]
    · rw [List.length_append, List.length_singleton]
      by_cases c3 : sz < (u.length : Int) + k
      · have := hm c3
        rw [hq] at this
        cases this
        omega
      · omega
    · rw [List.append_assoc]
      refine hh _ ?_
      obtain ⟨j, rfl⟩ : ∃ j, k = j + 1 := ⟨k - 1, by omega⟩
      exact hs
    · rcases List.mem_append.mp hx with h | h
      · exact hb x h
      · rw [List.mem_singleton.mp h]
        exact ⟨m0, m1⟩
  · have hk0 : k = 0 := by omega
    subst hk0
    repeat walk_at "st"
    refine ⟨u, y, rfl, rfl, hy.mono (by omega), ?_, hb, by omega⟩
    have := hh [] rfl
    rwa [List.append_nil] at this
end
open BW BW.MR
theorem flat_rep {α : Type} {d : α} : ∀ n : Nat, (List.replicate n [d]).flatten = List.replicate n d
  | 0 => rfl
  | n + 1 => by rw [List.replicate_succ, List.flatten_cons, flat_rep n]; rfl
def RepK (r s : R) (τ : List SD) (P : R → List SD → Prop) : Prop := ∃ ds k, r = .n (.L ds) ∧ vw τ s = some (.int k) ∧ (-1000000 ≤ k ∧ k ≤ 1000000 ∧ ds.length * k.toNat ≤ 1000000) ∧ P (.n (.L (List.replicate k.toNat ds).flatten)) τ
instance St.rep_ {a b : M R} {τ : List SD} {P : R → List SD → Prop} : St (Ev (eRep a b) τ P) (Ev a τ fun r τ1 => Ev b τ1 fun s τ2 => RepK r s τ2 P) := ⟨fun h => ev_mb (h.imp fun r τ1 h => ev_mb (h.imp fun s τ2 ⟨ds, k, e1, e2, hk, p⟩ => ⟨_, τ2, by
  subst e1
  simp only [e2]
  exact if_pos hk, p⟩))⟩
theorem RepK.one {i k : Int} {s : R} {τ : List SD} {P : R → List SD → Prop} [h : VwC τ s (.int k)] (h0 : 0 ≤ k) (h1 : k ≤ 1000000) (p : P (.n (.L ((List.replicate k.toNat i).map .int))) τ) : RepK (.n (.L [.int i])) s τ P := ⟨[.int i], k, rfl, h.eq, ⟨by omega, h1, by rw [List.length_singleton]; omega⟩, by rw [flat_rep, ← List.map_replicate]; exact p⟩
/-! steps undone: the program's way back, the law's contrary; a thing led along -/
section
variable {mk : List (Str × Int)} {t : List Int} {p : Nat} {ts : List (List Int)}
instance St.unod_ {st : Stp} {P : R → Prop} : St (UnoK (.v st.D) P) (P (.v (unoD st.D))) := ⟨id⟩
theorem sh_step (st : Stp) : Sh 3 (unoD st.D) := by
  have w : ∀ z : Str, PyData.strOk z = true → Sh 2 (.str z) := fun z h => (Sh.str h).mono (by decide)
  cases st with
  | op a q =>
    refine Sh.tup (k := 2) fun d hd => ?_
    rcases List.mem_cons.mp hd with rfl | hd
    · exact w _ (by decide +kernel)
    · rcases List.mem_cons.mp hd with rfl | hd
      · exact Sh.int.mono (by decide)
      · rw [List.mem_singleton.mp hd]
        exact Sh.int.mono (by decide)
  | cl a q =>
    refine Sh.tup (k := 2) fun d hd => ?_
    rcases List.mem_cons.mp hd with rfl | hd
    · exact w _ (by decide +kernel)
    · rcases List.mem_cons.mp hd with rfl | hd
      · exact Sh.int.mono (by decide)
      · rw [List.mem_singleton.mp hd]
        exact Sh.int.mono (by decide)
  | or o =>
    refine Sh.tup (k := 2) fun d hd => ?_
    rcases List.mem_cons.mp hd with rfl | hd
    · exact w _ (by decide +kernel)
    · rw [List.mem_singleton.mp hd]
      exact (Sh.tup Sh.ints).mono (by decide)
theorem e_way_back {n : Nat} (hn : n ≤ 4000) {st : Stp} (h : ∀ o, st = .or o → o.Perm (zts n)) : Ret r_p_way_back [.val st.D] (.v st.back.D) := by
  cases st with
  | op a q =>
    show Ret r_p_way_back [.val (.tuple [.str (Str.ofString "open"), .int (a : Int), .int q])] (.v (.tuple [.str (Str.ofString "close"), .int (a : Int), .int q]))
    refine ret_st ?_
    unfold d_p_way_back
    repeat walk_at "st"
    refine OpK.str (k := false) (by decide +kernel) ?_
    repeat walk_at "st"
    refine OpK.str (k := true) (by decide +kernel) ?_
    repeat walk_at "st"
    rfl
  | cl a q =>
    show Ret r_p_way_back [.val (.tuple [.str (Str.ofString "close"), .int (a : Int), .int q])] (.v (.tuple [.str (Str.ofString "open"), .int (a : Int), .int q]))
    refine ret_st ?_
    unfold d_p_way_back
    repeat walk_at "st"
    refine OpK.str (k := false) (by decide +kernel) ?_
    repeat walk_at "st"
    refine OpK.str (k := false) (by decide +kernel) ?_
    repeat walk_at "st"
    rfl
  | or o =>
    have ho := h o rfl
    have lo := ord_len ho
    show Ret r_p_way_back [.val (ordD o)] (.v (ordD (invO o)))
    refine ret_st ?_
    unfold d_p_way_back
    repeat walk_at "st"
    refine OpK.str (k := true) (by decide +kernel) ?_
    repeat walk_at "st"
    refine RepK.one (by omega) (by omega) ?_
    rw [Int.toNat_natCast]
    repeat walk_at "st"
    refine for_st (fun q : Int × Nat => PyData.tuple [.int (q.2 : Int), .int q.1]) (fun (pre : List (Int × Nat)) τ => ∃ (L : List Int) (u v : SD), τ = [.val (ordD o), .own (.L (L.map .int)), u, v, .un, .un, .un] ∧ FreC u ∧ FreC v ∧ L.length = n ∧ ∀ (i : Nat) (x : Int), i < pre.length → o[i]? = some x → L[x.toNat]? = some (i : Int)) (xs := o.zipIdx 0) (enD_map PyData.int o 0) ⟨List.replicate o.length 0, _, _, rfl, inferInstance, inferInstance, by rw [List.length_replicate, lo], fun i x hi => absurd hi (Nat.not_lt_zero i)⟩ ?_ ?_
    · rintro τ ⟨L, u, v, rfl, fu, fv, hL, hi⟩
      have e : L = invO o := by
        refine List.ext_getElem? fun j => ?_
        by_cases hj : j < n
        · rw [inv_at (by omega)]
          have h1 := hi (o.idxOf (j : Int)) j (by rw [List.length_zipIdx, lo]; exact ord_lt ho hj) (ord_at ho hj)
          rwa [Int.toNat_natCast] at h1
        · rw [List.getElem?_eq_none (by omega), List.getElem?_eq_none (by rw [inv_len]; omega)]
      subst e
      repeat walk_at "st"
      rfl
    rintro pre ⟨x, i⟩ rest τ hx ⟨L, u, v, rfl, fu, fv, hL, hi⟩
    have hi2 : i = pre.length ∧ o[pre.length]? = some x := by
      have h1 : (o.zipIdx 0)[pre.length]? = some (x, i) := by rw [hx, List.getElem?_append_right (Nat.le_refl _), Nat.sub_self]; rfl
      rw [List.getElem?_zipIdx] at h1
      obtain ⟨y, hy, e⟩ := Option.map_eq_some_iff.mp h1
      cases e
      exact ⟨by omega, hy⟩
    obtain ⟨rfl, hox⟩ := hi2
    have hb := (ord_mem ho).mp (List.mem_of_getElem? hox)
    repeat walk_at "st"
    refine StoK.ints (j := x.toNat) (ixN_pos hb.1 (by omega)) ?_
    refine ⟨L.set x.toNat (pre.length : Int), .val (.int (pre.length : Int)), .val (.int x), rfl, inferInstance, inferInstance, by rw [List.length_set, hL], fun j y hj hy => ?_⟩
    rw [List.length_append, List.length_singleton] at hj
    by_cases c : j = pre.length
    · subst c
      rw [hox] at hy
      cases hy
      rw [List.getElem?_set_self (by omega)]
    · have hne : x.toNat ≠ y.toNat := fun e => by
        have hyb := (ord_mem ho).mp (List.mem_of_getElem? hy)
        have hxy : x = y := by omega
        subst hxy
        have a1 := idx_of_at (ord_nodup ho) hox
        have a2 := idx_of_at (ord_nodup ho) hy
        omega
      rw [List.getElem?_set_ne hne]
      exact hi j y (by omega) hy
theorem ok_or {ws : List Int} {st : Stp} (h : st.Ok ws t) : ∀ o, st = .or o → o.Perm (zts t.length) := fun o e => by subst e; exact h
theorem e_undone (gm : GM mk) (rt : RK t) {st : Stp} (ok : st.Ok (wsO mk) t) (rs : RK (st.aft (wsO mk) t)) : Ret r_p_undone [.val (kindD mk), .val (tD t), .val st.D] (.v st.back.D) := by
  refine ret_st ?_
  unfold d_p_undone
  repeat walk_at "st"
  refine CallU.v (e_rafter gm rt ok rs) ?_
  repeat walk_at "st"
  refine CallU.v (e_way_back rt.l (ok_or ok)) ?_
  repeat walk_at "st"
  rfl
/-- a rack behind steps; a thing led along -/
def rkA (ws : List Int) (t : List Int) (sts : List Stp) : List Int := sts.foldl (fun t s => s.aft ws t) t
def ledA (ws : List Int) (x : Nat × List (List Int)) (sts : List Stp) : Nat × List (List Int) := sts.foldl (fun x s => s.led ws x.1 x.2) x
def Chain (ws : List Int) (t : List Int) (sts : List Stp) : Prop := ∀ pre s post, sts = pre ++ s :: post → s.Ok ws (rkA ws t pre) ∧ (rkA ws t pre).length ≤ 4000
theorem e_along (gm : GM mk) {sts : List Stp} (ch : Chain (wsO mk) t sts) (h : Th mk t p ts) (hl : ts.flatten.length + sts.length ≤ 100000) : Ret r_p_led_along [.val (kindD mk), .val (.list (sts.map Stp.D)), .val (thD p ts)] (.v (thD (ledA (wsO mk) (p, ts) sts).1 (ledA (wsO mk) (p, ts) sts).2)) := by
  refine ret_st ?_
  unfold d_p_led_along
  repeat walk_at "st"
  refine CallU.n (e_prs gm h.tr h.bd (by have := h.ln; omega)) ?_
  repeat walk_at "st"
  refine for_st Stp.D (fun (pre : List Stp) τ => ∃ (x : Nat × List (List Int)) (s5 u : SD), τ = [.val (kindD mk), .val (.list (sts.map Stp.D)), .val (thD p ts), .val (.int (x.1 : Int)), .val (tD ts.flatten), s5, u] ∧ (s5 = .own (.L (x.2.map tD)) ∨ s5 = .val (.list (x.2.map tD))) ∧ FreC u ∧ x = ledA (wsO mk) (p, ts) pre ∧ Th mk (rkA (wsO mk) t pre) x.1 x.2 ∧ x.2.flatten.length ≤ ts.flatten.length + pre.length) (xs := sts) rfl ⟨(p, ts), _, _, rfl, .inl rfl, inferInstance, rfl, h, Nat.le_refl _⟩ ?_ ?_
  · rintro τ ⟨x, s5, u, rfl, h5, fu, rfl, hx, hf⟩
    have er := e_row_of (ts := (ledA (wsO mk) (p, ts) sts).2) (by omega)
    rcases h5 with rfl | rfl
    all_goals
      repeat walk_at "st"
      refine CallU.v er ?_
      repeat walk_at "st"
      rfl
  rintro pre s rest τ hs ⟨x, s5, u, rfl, h5, fu, hx0, hx, hf⟩
  have hpl : pre.length < sts.length := by rw [hs]; simp
  obtain ⟨ok, lt⟩ := ch pre s rest hs
  have e := e_led_by gm lt ok hx
  have ht := led_th gm ok hx (by omega)
  have el : s.led (wsO mk) x.1 x.2 = ledA (wsO mk) (p, ts) (pre ++ [s]) := by
    rw [hx0]
    unfold ledA
    rw [List.foldl_append]
    rfl
  have ea : rkA (wsO mk) t (pre ++ [s]) = s.aft (wsO mk) (rkA (wsO mk) t pre) := by
    unfold rkA
    rw [List.foldl_append]
    rfl
  rcases h5 with rfl | rfl
  all_goals
    repeat walk_at "st"
    refine CallU.v e ?_
    repeat walk_at "st"
    exact ⟨s.led (wsO mk) x.1 x.2, _, .val s.D, rfl, .inr rfl, inferInstance, el, by rw [ea]; exact ht.1, by rw [List.length_append, List.length_singleton]; omega⟩
theorem e_along1 (gm : GM mk) {st : Stp} (lt : t.length ≤ 4000) (ok : st.Ok (wsO mk) t) (h : Th mk t p ts) (hl : ts.flatten.length + 1 ≤ 100000) : Ret r_p_led_along [.val (kindD mk), .val (.list [st.D]), .val (thD p ts)] (.v (thD (st.led (wsO mk) p ts).1 (st.led (wsO mk) p ts).2)) :=
  e_along gm (sts := [st]) (fun pre s post e => by
    cases pre with
    | nil => cases e; exact ⟨ok, lt⟩
    | cons a pre => simp at e) h hl
theorem e_led_to (gm : GM mk) (rt : RK t) {st : Stp} (ok : st.Ok (wsO mk) t) (rs : RK (st.aft (wsO mk) t)) (h : Th mk t p ts) (hl : ts.flatten.length + 1 ≤ 100000) : Ret r_p_led_to [.val (kindD mk), .val (tD t), .val st.D, .val (thD p ts)] (.v (thD (st.led (wsO mk) p ts).1 (st.led (wsO mk) p ts).2)) := by
  refine ret_st ?_
  unfold d_p_led_to
  repeat walk_at "st"
  refine CallU.v (e_rafter gm rt ok rs) ?_
  repeat walk_at "st"
  refine CallU.v (e_need_thing gm h rt) ?_
  repeat walk_at "st"
  refine CallU.v (e_along1 gm rt.l ok h hl) ?_
  repeat walk_at "st"
  rfl
end
open BW BW.MR
theorem IfK.andT {p : Prop} [Decidable p] {t : M Bool} {b : Bool} {τ : List SD} {PB : Bool → List SD → Prop} (ht : PB b τ → Ev t τ PB) (h1 : p → b = true → PB true τ) (h2 : ¬ p ∨ b = false → PB false τ) : IfK (decide p) (Ev t τ PB) (PB false τ) := by
  refine IfK.two (fun c => ht ?_) (fun c => h2 (.inl c))
  cases b with
  | true => exact h1 c rfl
  | false => exact h2 (.inr rfl)
theorem IfK.joinB {b : Bool} {m1 m2 : M Fl} {τ : List SD} {Q : Fl → List SD → Prop} (I : List SD → Prop) (h1 : b = true → Ev m1 τ fun f τ1 => f = .nx ∧ I τ1) (h2 : b = false → Ev m2 τ fun f τ1 => f = .nx ∧ I τ1) (h3 : ∀ τ1, I τ1 → Q .nx τ1) : IfK b (Ev m1 τ Q) (Ev m2 τ Q) := by
  cases b with
  | true => exact (h1 rfl).imp fun f τ1 ⟨e, h⟩ => by subst e; exact h3 τ1 h
  | false => exact (h2 rfl).imp fun f τ1 ⟨e, h⟩ => by subst e; exact h3 τ1 h
def Stp.word : Stp → Str
  | .op _ _ => Str.ofString "open"
  | .cl _ _ => Str.ofString "close"
  | .or _ => Str.ofString "order"
def Stp.no : Stp → Bool
  | .or _ => false
  | _ => true
def Stp.pl : Stp → Nat
  | .op a _ => a
  | .cl a _ => a
  | .or _ => 0
theorem word_at (st : Stp) : ixD (unoD st.D) (.int 0) = some (.v (.str st.word)) := by cases st <;> rfl
theorem place_at {st : Stp} (h : st.no = true) : ixD (unoD st.D) (.int 1) = some (.v (.int (st.pl : Int))) := by
  cases st with
  | op a q => rfl
  | cl a q => rfl
  | or o => cases h
theorem word_ne (st : Stp) : (PyData.strOk st.word && PyData.strOk (Str.ofString "order") && ((st.word == Str.ofString "order") == !st.no)) = true := by
  cases st with
  | op a q => show (PyData.strOk (Str.ofString "open") && PyData.strOk (Str.ofString "order") && ((Str.ofString "open" == Str.ofString "order") == !true)) = true; decide +kernel
  | cl a q => show (PyData.strOk (Str.ofString "close") && PyData.strOk (Str.ofString "order") && ((Str.ofString "close" == Str.ofString "order") == !true)) = true; decide +kernel
  | or o => show (PyData.strOk (Str.ofString "order") && PyData.strOk (Str.ofString "order") && ((Str.ofString "order" == Str.ofString "order") == !false)) = true; decide +kernel
section
variable {mk : List (Str × Int)} {t : List Int}
theorem pl_lt {st : Stp} (ok : st.Ok (wsO mk) t) (h : st.no = true) : st.pl < t.length := by
  cases st with
  | op a q => obtain ⟨n, hn, _⟩ := ok; exact (List.getElem?_eq_some_iff.mp hn).1
  | cl a q => exact ok.1
  | or o => cases h
theorem e_step20 (gm : GM mk) {k : Nat} {x : Own} (hx : WlD k x) (hk : k < 800000) (t0 : 0 < t.length) (lt : t.length ≤ 1000) (tb : ∀ n ∈ t, 0 ≤ n ∧ n ≤ 100) :
    ∃ (st : Stp) (y : Own), r_step [.io x, .val (.list ((wsO mk).map .int)), .val (tD t)] = some (.v st.D, [.io y, .val (.list ((wsO mk).map .int)), .val (tD t)]) ∧ WlD (k + 10) y ∧ st.Ok (wsO mk) t := by
  suffices h : ∃ r as', r_step [.io x, .val (.list ((wsO mk).map .int)), .val (tD t)] = some (r, as') ∧ ∃ (st : Stp) (y : Own), r = .v st.D ∧ as' = [.io y, .val (.list ((wsO mk).map .int)), .val (tD t)] ∧ WlD (k + 10) y ∧ st.Ok (wsO mk) t by
    obtain ⟨r, as', e, st, y, rfl, rfl, h⟩ := h
    exact ⟨st, y, e, h⟩
  have l5 : (wsO mk).length ≤ 5 := by rw [List.length_map]; exact gm.l5
  have l2 : 2 ≤ (wsO mk).length := by rw [List.length_map]; exact gm.l2
  refine run_st ?_
  unfold d_step
  repeat walk_at "st"
  refine DrawK.st (n := 4) hx (by omega) (by decide) (by decide) fun way x1 hx1 w0 w1 => ?_
  repeat walk_at "st"
  refine DrawK.st hx1 (by omega) (by omega) (by omega) fun d1 x2 hx2 d10 d11 => ?_
  repeat walk_at "st"
  refine DrawK.st (n := 4) hx2 (by omega) (by decide) (by decide) fun v x3 hx3 v0 v1 => ?_
  obtain ⟨a, ha⟩ : ∃ a, [d1, (t.length : Int) - 1, 0, (t.length : Int) / 2][v.toNat]? = some a := ⟨_, List.getElem?_eq_getElem (by simp; omega)⟩
  have hab : 0 ≤ a ∧ a < t.length := by
    have hm := List.mem_of_getElem? ha
    simp only [List.mem_cons, List.not_mem_nil, or_false] at hm
    rcases hm with rfl | rfl | rfl | rfl
    · exact ⟨d10, d11⟩
    · omega
    · omega
    · omega
  repeat walk_at "st"
  refine OpK.ixl (d := .int a) (atI_ints (l := [d1, (t.length : Int) - 1, 0, (t.length : Int) / 2]) v0 ha) ?_
  repeat walk_at "st"
  rw [Int.toNat_natCast]
  refine filter_st (fun k : Nat => PyData.int (k : Int)) (fun k : Nat => .int (k : Int)) (fun k => decide (0 < clN (wsO mk) t k)) (xs := List.range t.length) rfl rfl (by simp; omega) ?_ ?_
  rotate_left
  · intro j hj
    have hj := List.mem_range.mp hj
    repeat walk_at "st"
    refine CallU.v (e_closed (ws := wsO mk) (t := t) (p := j) (by omega) (by omega) (by omega) (by omega)) ?_
    repeat walk_at "st"
    refine ⟨rfl, ?_⟩
    split
    · repeat walk_at "st"
      exact ⟨rfl, rfl⟩
    · rfl
  have hcl : ∀ p ∈ (List.range t.length).filter fun k => decide (0 < clN (wsO mk) t k), p < t.length ∧ 0 < clN (wsO mk) t p := fun p hp => by
    obtain ⟨h1, h2⟩ := List.mem_filter.mp hp
    exact ⟨List.mem_range.mp h1, by simpa using h2⟩
  have hll : ((List.range t.length).filter fun k => decide (0 < clN (wsO mk) t k)).length ≤ 1000 := Nat.le_trans (List.length_filter_le ..) (by rw [List.length_range]; omega)
  generalize (List.range t.length).filter (fun k => decide (0 < clN (wsO mk) t k)) = C at *
  rw [show (C.map fun k : Nat => PyData.int (k : Int)) = (C.map fun k : Nat => (k : Int)).map .int by rw [List.map_map]; rfl]
  repeat walk_at "st"
  obtain ⟨bC, hbC⟩ : ∃ b, neD (.list ((C.map fun k : Nat => (k : Int)).map .int)) (.list []) = some (.v (.bool b)) ∧ (b = true → 0 < C.length) := ⟨_, neL_nil, fun e => by cases C with | nil => cases e | cons => simp⟩
  refine IfK.andT (b := bC) (fun h => ?_) (fun c1 c2 => ?_) (fun c => ?_)
  · repeat walk_at "st"
    refine OpK.mk (d := .list ((C.map fun k : Nat => (k : Int)).map .int)) (e := .list []) (r := .v (.bool bC)) rfl rfl hbC.1 ?_
    repeat walk_at "st"
    exact h
  · have c0 := hbC.2 c2
    repeat walk_at "st"
    refine DrawK.st hx3 (by omega) (by simp; omega) (by simp; omega) fun v x4 hx4 v0 v1 => ?_
    obtain ⟨p, hp⟩ : ∃ p, C[v.toNat]? = some p := ⟨_, List.getElem?_eq_getElem (by simp at v1; omega)⟩
    obtain ⟨p1, p2⟩ := hcl p (List.mem_of_getElem? hp)
    have cb := cl_le gm (N := 100) (fun n hn => (tb n hn).2) p2
    repeat walk_at "st"
    refine OpK.ixl (atI_ints (k := v) (v := (p : Int)) v0 (by rw [List.getElem?_map, hp]; rfl)) ?_
    repeat walk_at "st"
    refine CallU.v (e_closed (ws := wsO mk) (t := t) (p := p) (by omega) (by omega) (by omega) (by omega)) ?_
    repeat walk_at "st"
    refine DrawK.st hx4 (by omega) (by omega) (by omega) fun q x5 hx5 q0 q1 => ?_
    repeat walk_at "st"
    exact ⟨.cl p q, x5, rfl, rfl, hx5.mono (by omega), p1, q0, q1⟩
  clear c
  have lz1 : (ztr a (t.length : Int)).length = ((t.length : Int) - a).toNat := by unfold ztr; rw [List.length_map, List.length_range]
  have lz2 : (zts a.toNat).length = a.toNat := zts_len
  repeat walk_at "st"
  refine filter_st PyData.int PyData.int (fun m : Int => decide (0 < t.getD m.toNat 0)) (xs := ztr a (t.length : Int) ++ zts a.toNat) (by rw [List.map_append]) rfl (by rw [List.length_append, zts_len]; unfold ztr; rw [List.length_map, List.length_range]; omega) ?_ ?_
  rotate_left
  · intro m hm
    have hmb : 0 ≤ m ∧ m < t.length := by
      rcases List.mem_append.mp hm with h | h
      · have := mem_ztr.mp h; omega
      · have := mem_zts.mp h; omega
    obtain ⟨n, hn⟩ : ∃ n, t[m.toNat]? = some n := ⟨_, List.getElem?_eq_getElem (by omega)⟩
    rw [getD_of hn]
    repeat walk_at "st"
    refine OpK.ixt (atI_ints hmb.1 hn) ?_
    repeat walk_at "st"
    refine ⟨rfl, ?_⟩
    split
    · repeat walk_at "st"
      exact ⟨rfl, rfl⟩
    · rfl
  have ho : ∀ m ∈ (ztr a (t.length : Int) ++ zts a.toNat).filter fun m : Int => decide (0 < t.getD m.toNat 0), 0 ≤ m ∧ ∃ n, t[m.toNat]? = some n ∧ 0 < n := fun m hm => by
    obtain ⟨h1, h2⟩ := List.mem_filter.mp hm
    have hmb : 0 ≤ m ∧ m < t.length := by
      rcases List.mem_append.mp h1 with h | h
      · have := mem_ztr.mp h; omega
      · have := mem_zts.mp h; omega
    obtain ⟨n, hn⟩ : ∃ n, t[m.toNat]? = some n := ⟨_, List.getElem?_eq_getElem (by omega)⟩
    rw [getD_of hn] at h2
    exact ⟨hmb.1, n, hn, by simpa using h2⟩
  generalize (ztr a (t.length : Int) ++ zts a.toNat).filter (fun m : Int => decide (0 < t.getD m.toNat 0)) = O at *
  repeat walk_at "st"
  obtain ⟨bO, hbO⟩ : ∃ b, neD (.list (O.map .int)) (.list []) = some (.v (.bool b)) ∧ (b = true → O ≠ []) := ⟨_, neL_nil, fun e => by cases O with | nil => cases e | cons => simp⟩
  refine IfK.andT (b := bO && decide ((t.length : Int) < 430)) (fun h => ?_) (fun c1 c2 => ?_) (fun c => ?_)
  · repeat walk_at "st"
    refine OpK.mk (d := .list (O.map .int)) (e := .list []) (r := .v (.bool bO)) rfl rfl hbO.1 ?_
    repeat walk_at "st"
    cases bO with
    | true =>
      repeat walk_at "st"
      exact h
    | false =>
      refine BW.MR.St.imp ?_
      exact h
  · rw [Bool.and_eq_true] at c2
    obtain ⟨m, O', rfl⟩ : ∃ m O', O = m :: O' := by
      cases O with
      | nil => exact absurd rfl (hbO.2 c2.1)
      | cons m O' => exact ⟨m, O', rfl⟩
    obtain ⟨m0, n, hn, n0⟩ := ho m List.mem_cons_self
    have hnb := tb n (List.mem_of_getElem? hn)
    repeat walk_at "st"
    refine OpK.ixl (atI_ints (l := m :: O') (k := 0) (v := m) (by decide) rfl) ?_
    repeat walk_at "st"
    refine OpK.ixl (atI_ints (l := m :: O') (k := 0) (v := m) (by decide) rfl) ?_
    repeat walk_at "st"
    refine OpK.ixt (atI_ints m0 hn) ?_
    repeat walk_at "st"
    refine DrawK.st hx3 (by omega) (by omega) (by omega) fun q x4 hx4 q0 q1 => ?_
    repeat walk_at "st"
    refine ⟨.op m.toNat q, x4, ?_, rfl, hx4.mono (by omega), n, hn, q0, q1⟩
    show R.v (.tuple [_, _, _]) = R.v (.tuple [_, .int ((m.toNat : Nat) : Int), _])
    rw [show ((m.toNat : Nat) : Int) = m by omega]
  clear c
  repeat walk_at "st"
  rw [Int.toNat_natCast]
  repeat walk_at "st"
  refine SlK.lfrom (j := a.toNat) (by omega) ?_
  repeat walk_at "st"
  refine SlK.lto (j := a.toNat) (by omega) ?_
  have lz := zts_len (n := t.length)
  repeat walk_at "st"
  rw [show ((zts t.length).map PyData.int).reverse = (zts t.length).reverse.map .int from (List.map_reverse ..).symm, ← List.map_append]
  obtain ⟨o, ho1, ho2⟩ : ∃ o : List Int, L2.atI [PyData.list ((zts t.length).reverse.map .int), .list (((zts t.length).drop a.toNat ++ (zts t.length).take a.toNat).map .int)] (way % 2) = some (.list (o.map .int)) ∧ o.Perm (zts t.length) := by
    have hw : way % 2 = 0 ∨ way % 2 = 1 := by omega
    rcases hw with e | e
    · rw [e]
      exact ⟨(zts t.length).reverse, rfl, List.reverse_perm _⟩
    · rw [e]
      exact ⟨(zts t.length).drop a.toNat ++ (zts t.length).take a.toNat, rfl, List.perm_append_comm.trans (.of_eq (List.take_append_drop ..))⟩
  refine OpK.ixl ho1 ?_
  repeat walk_at "st"
  exact ⟨.or o, x3, rfl, rfl, hx3.mono (by omega), ho2⟩
theorem aft_grow (gm : GM mk) {N : Int} {L : Nat} (hb : ∀ n ∈ t, 0 ≤ n ∧ n ≤ N) (hl : t.length ≤ L) {st : Stp} (ok : st.Ok (wsO mk) t) : (∀ n ∈ st.aft (wsO mk) t, 0 ≤ n ∧ n ≤ N + 4) ∧ (st.aft (wsO mk) t).length ≤ L + 4 := by
  have l5 : (wsO mk).length ≤ 5 := by rw [List.length_map]; exact gm.l5
  have l2 : 2 ≤ (wsO mk).length := by rw [List.length_map]; exact gm.l2
  cases st with
  | op a q =>
    obtain ⟨n, hn, q0, q1⟩ := ok
    have hp := (List.getElem?_eq_some_iff.mp hn).1
    have hnb := hb n (List.mem_of_getElem? hn)
    have e : Stp.aft (wsO mk) t (.op a q) = t.take a ++ opF (wsO mk) n ++ t.drop (a + 1) := by show _ ++ opF (wsO mk) (t.getD a 0) ++ _ = _; rw [getD_of hn]
    rw [e]
    refine ⟨fun m hm => ?_, ?_⟩
    · rcases List.mem_append.mp hm with h | h
      · rcases List.mem_append.mp h with h | h
        · have := hb m (List.mem_of_mem_take h); omega
        · obtain ⟨w, hw, rfl⟩ := List.mem_map.mp h
          have := wsG gm hw
          omega
      · have := hb m (List.mem_of_mem_drop h); omega
    · rw [List.length_append, List.length_append, List.length_take, List.length_drop, opF_len]
      omega
  | cl a q =>
    have hc : 0 < clN (wsO mk) t a := by have := ok.2; omega
    have h1 := cl_yes hc
    have h2 := cl_le gm (N := N) (fun n hn => (hb n hn).2) hc
    refine ⟨fun m hm => ?_, ?_⟩
    · rcases List.mem_append.mp (show m ∈ t.take a ++ [clN (wsO mk) t a] ++ t.drop (a + (wsO mk).length) from hm) with h | h
      · rcases List.mem_append.mp h with h | h
        · have := hb m (List.mem_of_mem_take h); omega
        · rw [List.mem_singleton.mp h]; omega
      · have := hb m (List.mem_of_mem_drop h); omega
    · show (t.take a ++ [clN (wsO mk) t a] ++ t.drop (a + (wsO mk).length)).length ≤ _
      rw [List.length_append, List.length_append, List.length_take, List.length_drop, List.length_singleton]
      omega
  | or o =>
    have pm := order_perm (t := t) ok
    exact ⟨fun m hm => by have := hb m (pm.subset hm); omega, by show (o.map _).length ≤ _; rw [pm.length_eq]; omega⟩
theorem e_led_back (gm : GM mk) {p : Nat} {ts : List (List Int)} (rt : RK t) {st : Stp} (ok : st.Ok (wsO mk) t) (rs : RK (st.aft (wsO mk) t)) (h : Th mk (st.aft (wsO mk) t) p ts) (hl : ts.flatten.length + 1 ≤ 100000) : Ret r_p_led_back [.val (kindD mk), .val (tD t), .val st.D, .val (thD p ts)] (.v (thD (st.back.led (wsO mk) p ts).1 (st.back.led (wsO mk) p ts).2)) := by
  refine ret_st ?_
  unfold d_p_led_back
  repeat walk_at "st"
  refine CallU.v (e_rafter gm rt ok rs) ?_
  repeat walk_at "st"
  refine CallU.v (e_need_thing gm h rs) ?_
  repeat walk_at "st"
  refine CallU.v (e_way_back rt.l (ok_or ok)) ?_
  repeat walk_at "st"
  refine CallU.v (e_along1 gm rs.l (back_ok gm ok).1 h hl) ?_
  repeat walk_at "st"
  rfl
theorem sh_thD {p : Nat} {ts : List (List Int)} : Sh 2 (thD p ts) := Sh.tup fun d hd => by
  rcases List.mem_cons.mp hd with rfl | hd
  · exact Sh.int.mono (by decide)
  · rw [List.mem_singleton.mp hd]
    exact Sh.tup Sh.ints
theorem e_things (gm : GM mk) {k : Nat} {x : Own} (hx : WlD k x) (hk : k < 500000) (t0 : 0 < t.length) (rt : RK t) (tb : ∀ n ∈ t, 0 ≤ n ∧ n ≤ 100) {st : Stp} (ok : st.Ok (wsO mk) t) (rs : RK (st.aft (wsO mk) t)) :
    ∃ y : Own, r_things_right [.io x, .val (kindD mk), .val (.list ((wsO mk).map .int)), .val (tD t), .val st.D] = some (.v (.bool true), [.io y, .val (kindD mk), .val (.list ((wsO mk).map .int)), .val (tD t), .val st.D]) ∧ WlD (k + 60000) y := by
  suffices h : ∃ r as', r_things_right [.io x, .val (kindD mk), .val (.list ((wsO mk).map .int)), .val (tD t), .val st.D] = some (r, as') ∧ ∃ y : Own, r = .v (.bool true) ∧ as' = [.io y, .val (kindD mk), .val (.list ((wsO mk).map .int)), .val (tD t), .val st.D] ∧ WlD (k + 60000) y by
    obtain ⟨r, as', e, y, rfl, rfl, h⟩ := h
    exact ⟨y, e, h⟩
  have lt := rt.l
  refine run_st ?_
  unfold d_things_right
  repeat walk_at "st"
  refine DrawK.st hx (by omega) (by omega) (by omega) fun d x1 hx1 d0 d1 => ?_
  repeat walk_at "st"
  refine OpK.mk (d := unoD st.D) (e := .int 0) (r := .v (.str st.word)) rfl rfl (word_at st) ?_
  repeat walk_at "st"
  refine OpK.strn (k := st.no) (word_ne st) ?_
  repeat walk_at "st"
  refine IfK.joinB (fun τ => ∃ L : List Int, (∀ m ∈ L, 0 ≤ m ∧ m < t.length) ∧ L.length ≤ 4 ∧ τ = [.io x1, .val (kindD mk), .val (.list ((wsO mk).map .int)), .val (tD t), .val st.D, .own (.L (L.map .int)), .un, .un, .un, .un, .un]) (fun hno => ?_) (fun _ => ?_) ?_
  · have hpl := pl_lt ok hno
    repeat walk_at "st"
    refine OpK.mk (d := unoD st.D) (e := .int 1) (r := .v (.int (st.pl : Int))) rfl rfl (place_at hno) ?_
    repeat walk_at "st"
    refine ⟨rfl, [0, (t.length : Int) - 1, d, (st.pl : Int)], fun m hm => ?_, by simp, rfl⟩
    simp only [List.mem_cons, List.not_mem_nil, or_false] at hm
    rcases hm with rfl | rfl | rfl | rfl <;> omega
  · repeat walk_at "st"
    refine ⟨rfl, [0, (t.length : Int) - 1, d], fun m hm => ?_, by simp, rfl⟩
    simp only [List.mem_cons, List.not_mem_nil, or_false] at hm
    rcases hm with rfl | rfl | rfl <;> omega
  rintro τ ⟨L, hL, lL, rfl⟩
  repeat walk_at "st"
  refine for_st PyData.int (fun (pre : List Int) τ => ∃ (y : Own) (u6 u7 u8 u9 u10 : SD), τ = [.io y, .val (kindD mk), .val (.list ((wsO mk).map .int)), .val (tD t), .val st.D, .val (.list (L.map .int)), u6, u7, u8, u9, u10] ∧ FreC u6 ∧ FreC u7 ∧ FreC u8 ∧ FreC u9 ∧ FreC u10 ∧ WlD (k + 1 + 12000 * pre.length) y) (xs := L) rfl ⟨x1, _, _, _, _, _, rfl, inferInstance, inferInstance, inferInstance, inferInstance, inferInstance, hx1.mono (by simp)⟩ ?_ ?_
  · rintro τ ⟨y, u6, u7, u8, u9, u10, rfl, f6, f7, f8, f9, f10, hy⟩
    repeat walk_at "st"
    exact ⟨y, rfl, rfl, hy.mono (by omega)⟩
  rintro pre m rest τ hp ⟨y, u6, u7, u8, u9, u10, rfl, f6, f7, f8, f9, f10, hy⟩
  have hpl : pre.length < 4 := by
    have := congrArg List.length hp
    simp at this
    omega
  obtain ⟨m0, m1⟩ := hL m (by rw [hp]; simp)
  obtain ⟨p, rfl⟩ : ∃ p : Nat, m = (p : Int) := ⟨m.toNat, by omega⟩
  obtain ⟨n, hn⟩ : ∃ n, t[p]? = some n := ⟨_, List.getElem?_eq_getElem (by omega)⟩
  have hnb := tb n (List.mem_of_getElem? hn)
  repeat walk_at "st"
  refine OpK.ixt (atI_ints (k := (p : Int)) (v := n) (by omega) (by rw [Int.toNat_natCast]; exact hn)) ?_
  repeat walk_at "st"
  refine for_st (fun k : Nat => PyData.int (k : Int)) (fun (q : List Nat) τ => ∃ (ts : List (List Int)) (y : Own) (u8 : SD), τ = [.io y, .val (kindD mk), .val (.list ((wsO mk).map .int)), .val (tD t), .val st.D, .val (.list (L.map .int)), .val (.int (p : Int)), .own (.L (ts.flatten.map .int)), u8, u9, u10] ∧ FreC u8 ∧ ts.length = q.length ∧ (∀ u ∈ ts, Hits (wsO mk) 1 u) ∧ (∀ m ∈ ts.flatten, 0 ≤ m ∧ m < mk.length) ∧ ts.flatten.length ≤ 20 * q.length ∧ WlD (k + 1 + 12000 * pre.length + 111 * q.length) y) (xs := List.range n.toNat) rfl ⟨[], y, _, rfl, f8, rfl, (fun u h => by cases h), (fun u h => by cases h), by simp, hy.mono (by simp)⟩ ?_ ?_
  rotate_left
  · rintro pre2 j rest2 τ hx2 ⟨ts, y, u8, rfl, f8, hl, ht, hb, hf, hy⟩
    have hpl2 : pre2.length < 100 := by
      have := congrArg List.length hx2
      simp at this
      omega
    repeat walk_at "st"
    refine DrawK.st (n := 6) hy (by omega) (by decide) (by decide) fun v y3 hy3 v0 v1 => ?_
    repeat walk_at "st"
    obtain ⟨u, y4, e, hy4, hu, hub, hul⟩ := e_ltree gm hy3 (by omega) (sz := 1 + v) (by omega) (by omega)
    refine CallU.jn e ?_
    repeat walk_at "st"
    refine ⟨ts ++ [u], y4, .val (.int (j : Int)), ?_, inferInstance, by rw [List.length_append, List.length_append, hl]; rfl, fun a ha => ?_, fun m hm => ?_, ?_, hy4.mono (by rw [List.length_append, List.length_singleton]; omega)⟩
    · rw [List.flatten_append, List.flatten_singleton, List.map_append]
    · rcases List.mem_append.mp ha with h | h
      · exact ht a h
      · rw [List.mem_singleton.mp h]
        exact hu
    · rw [List.flatten_append, List.flatten_singleton] at hm
      rcases List.mem_append.mp hm with h | h
      · exact hb m h
      · exact hub m h
    · rw [List.flatten_append, List.flatten_singleton, List.length_append, List.length_append, List.length_singleton]
      omega
  rintro τ ⟨ts, y, u8, rfl, f8, hl, ht, hb, hf, hy⟩
  rw [List.length_range] at hl hf hy
  have hth : Th mk t p ts := ⟨by rw [hn]; exact congrArg some (by omega), ht, hb, by omega⟩
  have el := e_lled gm rt.l ok hth
  have et := e_led_to gm rt ok rs hth (by omega)
  obtain ⟨ht2, hf2⟩ := led_th gm ok hth (by omega)
  have eb := e_led_back gm rt ok rs ht2 (by omega)
  rw [led_back gm ok hth] at eb
  repeat walk_at "st"
  refine CallU.v el ?_
  repeat walk_at "st"
  refine CallU.v et ?_
  repeat walk_at "st"
  refine OpK.nes sh_thD (by decide) ?_
  repeat walk_at "st"
  refine CallU.v eb ?_
  repeat walk_at "st"
  refine OpK.nes sh_thD (by decide) ?_
  repeat walk_at "st"
  exact ⟨y, _, _, _, _, _, rfl, inferInstance, inferInstance, f8, inferInstance, inferInstance, hy.mono (by rw [List.length_append, List.length_singleton]; omega)⟩
end
theorem aft_pos' {mk : List (Str × Int)} (gm : GM mk) {t : List Int} {st : Stp} (h : 0 < t.length) (ok : st.Ok (wsO mk) t) : 0 < (st.aft (wsO mk) t).length := by
  have l2 : 2 ≤ (wsO mk).length := by rw [List.length_map]; exact gm.l2
  cases st with
  | op a q => show 0 < (t.take a ++ opF (wsO mk) (t.getD a 0) ++ t.drop (a + 1)).length; simp only [List.length_append, opF_len]; omega
  | cl a q => show 0 < (t.take a ++ [clN (wsO mk) t a] ++ t.drop (a + (wsO mk).length)).length; simp only [List.length_append, List.length_singleton]; omega
  | or o =>
    have := ord_len (n := t.length) ok
    show 0 < (o.map _).length
    rw [List.length_map]
    omega
theorem e_can_do {mk : List (Str × Int)} (gm : GM mk) {t : List Int} (rt : RK t) {st : Stp} (ok : st.Ok (wsO mk) t) : Ret r_p_can_do [.val (kindD mk), .val (tD t), .val st.D] (.v (.bool true)) := by
  refine ret_st ?_
  unfold d_p_can_do
  repeat walk_at "st"
  refine CallU.v (e_need_rack rt) ?_
  repeat walk_at "st"
  refine CallU.v (e_on gm rt.l ok) ?_
  repeat walk_at "st"
  rfl
/-- steps done, the last one first, each behind those ahead -/
def Hist (ws t0 : List Int) : List Stp → List Int → Prop
  | [], t => t = t0
  | s :: r, t => ∃ t1, t = s.aft ws t1 ∧ s.Ok ws t1 ∧ RK t1 ∧ RK t ∧ Hist ws t0 r t1
theorem law_true : ∀ ns : List Int, ns.length ≤ 63 → ∃ as', r_law [.val (.list (ns.map .int))] = some (.v (.bool true), as') := by
  intro ns h
  show Ret r_law _ _
  refine ret_st ?_
  unfold d_law
  repeat walk_at "st"
  refine SlK.lto (j := 2) rfl ?_
  repeat walk_at "st"
  refine for_st PyData.int (fun pre τ => ∃ (t1 t2 t3 t4 t5 t6 t7 t8 t9 t10 t11 : SD), τ = [.val (.list (ns.map .int)), t1, t2, t3, t4, t5, t6, t7, t8, t9, t10, t11] ∧ FreC t1 ∧ FreC t2 ∧ FreC t3 ∧ FreC t4 ∧ FreC t5 ∧ FreC t6 ∧ FreC t7 ∧ FreC t8 ∧ FreC t9 ∧ FreC t10 ∧ FreC t11 ∧ (t9 = .un ∨ ∃ d, t9 = .val d)) (xs := [0] ++ ns.take 2) (by rw [List.map_append]; rfl)
    ⟨_, _, _, _, _, _, _, _, _, _, _, rfl, inferInstance, inferInstance, inferInstance, inferInstance, inferInstance, inferInstance, inferInstance, inferInstance, inferInstance, inferInstance, inferInstance, .inl rfl⟩ ?_ ?_
  · rintro τ ⟨t1, t2, t3, t4, t5, t6, t7, t8, t9, t10, t11, rfl, _⟩
    repeat walk_at "st"
    rfl
  rintro pre c0 rest τ - ⟨t1, t2, t3, t4, t5, t6, t7, t8, t9, t10, t11, rfl, f1, f2, f3, f4, f5, f6, f7, f8, f9, f10, f11, h9⟩
  repeat walk_at "st"
  obtain ⟨mk, x1, em, hx1, gm⟩ := e_makers (k := 0) (x := .L [.int c0]) (.inl ⟨c0, rfl⟩) (by decide)
  have l5 := gm.l5
  refine CallU.jn em ?_
  repeat walk_at "st"
  refine CallU.n (e_within (by omega)) ?_
  repeat walk_at "st"
  refine MakeK.mk (e_init gm.l2 gm.l5 gm.nd gm.good gm.z gm.w) ?_
  repeat walk_at "st"
  refine DrawK.st (n := 2) hx1 (by decide) (by decide) (by decide) fun v x2 hx2 v0 v1 => ?_
  obtain ⟨b, hb⟩ : ∃ b, [(40 : Int), 400][v.toNat]? = some b := ⟨_, List.getElem?_eq_getElem (by simp; omega)⟩
  have hbb : 0 < b ∧ b ≤ 400 := by
    have hm := List.mem_of_getElem? hb
    simp only [List.mem_cons, List.not_mem_nil, or_false] at hm
    rcases hm with rfl | rfl <;> decide
  repeat walk_at "st"
  refine OpK.ixl (d := .int b) (atI_ints (l := [40, 400]) v0 hb) ?_
  repeat walk_at "st"
  refine DrawK.st (n := b) hx2 (by decide) (by omega) (by omega) fun m x3 hx3 m0 m1 => ?_
  repeat walk_at "st"
  refine lc_st (fun k : Nat => PyData.int (k : Int)) (fun (p : List Nat) acc τ => ∃ (r : List Int) (y : Own), acc = r.map .int ∧ τ = [.val (.list (ns.map .int)), .val (.int c0), .own y, .val (.list (mk.map prM)), .own (.L ((wsO mk).map .int)), .own (.I 0 [(.str (Str.ofString "_makers"), .list (mk.map prM))]), t6, t7, t8, t9, t10, t11] ∧ WlD (40 + p.length) y ∧ r.length = p.length ∧ ∀ n ∈ r, 0 ≤ n ∧ n ≤ 3) (xs := List.range (1 + m).toNat) rfl ⟨[], x3, rfl, rfl, hx3.mono (by simp), rfl, fun n h => by cases h⟩ ?_ ?_
  rotate_left
  · rintro p j rest acc τ hp ⟨r, y, rfl, rfl, hy, hl, hb⟩
    have hpl : p.length < 401 := by
      have := congrArg List.length hp
      simp at this
      omega
    refine lcT_st (by rcases h9 with rfl | ⟨d, rfl⟩ <;> rfl) ?_
    repeat walk_at "st"
    refine DrawK.st (n := 4) hy (by omega) (by decide) (by decide) fun v y2 hy2 v0 v1 => ?_
    repeat walk_at "st"
    refine ⟨_, rfl, by rw [List.length_map]; omega, r ++ [v], y2, by rw [List.map_append]; rfl, rfl, hy2.mono (by rw [List.length_append, List.length_singleton]; omega), by rw [List.length_append, List.length_append, hl]; rfl, fun n hn => ?_⟩
    rcases List.mem_append.mp hn with h | h
    · exact hb n h
    · rw [List.mem_singleton.mp h]
      exact ⟨v0, by omega⟩
  rintro acc τ ⟨r, y, rfl, rfl, hy, hl, hb⟩
  rw [List.length_range] at hy hl
  have rr : RK r := ⟨fun n hn => by have := hb n hn; omega, by omega⟩
  repeat walk_at "st"
  refine DrawK.st (n := 8) hy (by omega) (by decide) (by decide) fun q y1 hy1 q0 q1 => ?_
  repeat walk_at "st"
  refine for_st (fun k : Nat => PyData.int (k : Int)) (fun (p : List Nat) τ => ∃ (sts : List Stp) (l : List Int) (y : Own) (s4 s5 u9 u10 u11 : SD), τ = [.val (.list (ns.map .int)), .val (.int c0), .own y, .val (.list (mk.map prM)), s4, s5, .val (tD r), .val (tD l), .own (.L (sts.reverse.map fun s => s.back.D)), u9, u10, u11] ∧ ((s4 = .own (.L ((wsO mk).map .int)) ∧ s5 = .own (.I 0 [(.str (Str.ofString "_makers"), .list (mk.map prM))])) ∨ s4 = .val (.list ((wsO mk).map .int)) ∧ s5 = .val (kindD mk)) ∧ FreC u9 ∧ (u9 = .un ∨ ∃ d, u9 = .val d) ∧ FreC u10 ∧ FreC u11 ∧ WlD (1000 + 60100 * p.length) y ∧ Hist (wsO mk) r sts l ∧ (∀ n ∈ l, 0 ≤ n ∧ n ≤ 3 + 4 * (p.length : Int)) ∧ l.length ≤ 401 + 4 * p.length ∧ 0 < l.length ∧ sts.length = p.length) (xs := List.range (1 + q).toNat) rfl ⟨[], r, y1, _, _, _, _, _, rfl, .inl ⟨rfl, rfl⟩, f9, h9, f10, f11, hy1.mono (by omega), rfl, fun n hn => by have := hb n hn; simp; omega, by simp; omega, by omega, rfl⟩ ?_ ?_
  rotate_left
  · rintro p k rest τ hp ⟨sts, l, y, s4, s5, u9, u10, u11, rfl, h5, g9, h9', g10, g11, hy, hh, lb, ll, l0, hs⟩
    have hpl : p.length < 8 := by
      have := congrArg List.length hp
      simp at this
      omega
    have lb2 : ∀ n ∈ l, 0 ≤ n ∧ n ≤ 100 := fun n hn => by have := lb n hn; omega
    have rl : RK l := ⟨fun n hn => by have := lb2 n hn; omega, by omega⟩
    obtain ⟨st, y2, e1, hy2, ok⟩ := e_step20 gm hy (by omega) l0 (by omega) lb2
    obtain ⟨ga, gl⟩ := aft_grow gm (N := 3 + 4 * (p.length : Int)) (L := 401 + 4 * p.length) lb ll ok
    have ra : RK (st.aft (wsO mk) l) := ⟨fun n hn => by have := ga n hn; omega, by omega⟩
    have e2 := e_lafter gm rl.l ok
    have e3 := e_can_do gm rl ok
    have e4 := e_rafter gm rl ok ra
    obtain ⟨y3, e5, hy3⟩ := e_things gm hy2 (by omega) l0 rl lb2 ok ra
    have e6 := e_undone gm rl ok ra
    have eL : (sts.reverse.map fun s => s.back.D) ++ [st.back.D] = ((st :: sts).reverse.map fun s => s.back.D) := by rw [List.reverse_cons, List.map_append]; rfl
    have lr0 : sts.reverse.length ≤ 100 := by rw [List.length_reverse]; omega
    rcases h5 with ⟨rfl, rfl⟩ | ⟨rfl, rfl⟩
    all_goals
      repeat walk_at "st"
      refine CallU.jv e1 ?_
      repeat walk_at "st"
      refine CallU.v e2 ?_
      repeat walk_at "st"
      refine CallU.v e3 ?_
      repeat walk_at "st"
      refine CallU.v e4 ?_
      repeat walk_at "st"
      refine IfK.yes rfl ?_
      repeat walk_at "st"
      refine CallU.jv e5 ?_
      repeat walk_at "st"
      refine CallU.v e6 ?_
      repeat walk_at "st"
      rw [eL]
      exact ⟨st :: sts, _, y3, _, _, _, _, _, rfl, .inr ⟨rfl, rfl⟩, inferInstance, .inr ⟨_, rfl⟩, inferInstance, inferInstance, hy3.mono (by rw [List.length_append, List.length_singleton]; omega), ⟨l, rfl, ok, rl, ra, hh⟩, fun n hn => by have := ga n hn; rw [List.length_append, List.length_singleton]; omega, by rw [List.length_append, List.length_singleton]; omega, aft_pos' gm l0 ok, by rw [List.length_cons, List.length_append, hs]; rfl⟩
  rintro τ ⟨sts, l, y, s4, s5, u9, u10, u11, rfl, h5, g9, h9', g10, g11, hy, hh, lb, ll, l0, hs⟩
  have lsts : sts.length ≤ 100 := by
    rw [List.length_range] at hs
    omega
  have rl : RK l := by
    rw [List.length_range] at lb ll
    exact ⟨fun n hn => by have := lb n hn; omega, by omega⟩
  rcases h5 with ⟨rfl, rfl⟩ | ⟨rfl, rfl⟩
  all_goals
    repeat walk_at "st"
    rw [← List.map_reverse, List.reverse_reverse]
    repeat walk_at "st"
    refine for_st (fun s : Stp => s.back.D) (fun (pre : List Stp) τ => ∃ (rem : List Stp) (l : List Int) (s4 s5 s8 u10 : SD), τ = [.val (.list (ns.map .int)), .val (.int c0), .own y, .val (.list (mk.map prM)), s4, s5, .val (tD r), .val (tD l), s8, u9, u10, u11] ∧ FreC s4 ∧ (s5 = .own (.I 0 [(.str (Str.ofString "_makers"), .list (mk.map prM))]) ∨ s5 = .val (kindD mk)) ∧ FreC s8 ∧ FreC u10 ∧ sts = pre ++ rem ∧ Hist (wsO mk) r rem l ∧ RK l) (xs := sts) rfl ⟨sts, l, _, _, _, _, rfl, inferInstance, (by first | exact .inl rfl | exact .inr rfl), inferInstance, g10, rfl, hh, rl⟩ ?_ ?_
    · rintro τ ⟨rem, l2, s4, s5, s8, u10', rfl, f4', h5', f8', f10', e, h2, rk2⟩
      have er : rem = [] := by
        have := congrArg List.length e
        rw [List.length_append] at this
        exact List.eq_nil_of_length_eq_zero (by omega)
      subst er
      have h2 : l2 = r := h2
      subst h2
      have fs5 : FreC s5 := by rcases h5' with rfl | rfl <;> exact inferInstance
      repeat walk_at "st"
      refine IfK.yes rfl ?_
      repeat walk_at "st"
      exact ⟨_, _, _, _, _, _, _, _, _, _, _, rfl, inferInstance, inferInstance, inferInstance, f4', fs5, inferInstance, inferInstance, f8', g9, f10', g11, h9'⟩
    rintro pre2 s rest2 τ hs2 ⟨rem, l2, s4, s5, s8, u10', rfl, f4', h5', f8', f10', e, h2, rk2⟩
    have er : rem = s :: rest2 := List.append_cancel_left (e.symm.trans hs2)
    subst er
    obtain ⟨l1, rfl, ok1, rk1, rka, h3⟩ := h2
    obtain ⟨bo, ba⟩ := back_ok gm ok1
    have e4 := e_rafter gm rka bo (by rw [ba]; exact rk1)
    rw [ba] at e4
    rcases h5' with rfl | rfl
    all_goals
      repeat walk_at "st"
      refine CallU.v e4 ?_
      repeat walk_at "st"
      exact ⟨rest2, l1, _, _, _, _, rfl, f4', .inr rfl, f8', inferInstance, by rw [hs2, List.append_assoc]; rfl, h3, rk1⟩
open BW BW.MR
def sp_law := spLaw
theorem ok_law (T : Bi K mg) (D : Df K mg Cc) : Cal P w K mg base CX0 10 "law" s_law ["_law_script"] (sp_law K) := law_of (ok_lawM (Cc := Cc) T D) fun ns h => law_true ns h
end

theorem all_mk {l : PySem.W.OpenLaw} {w : World} {K : PySem.W.Frag} {h : Heap} {mg : Str → Option Value} {fa : Addr} (X : K.In h) (G : h.Ns mainGlobals mg) (hfa : mg "law" = some (.ref fa))
    {f0 : Addr} {od0 an0 : Option Addr} {sl0 : Array (Option Value)} {oc0 kV0 dc0 pm0 cd0 ct0 : Value}
    (a0 : PySem.W.nsIn K mainGlobals "_wall" = some (some (.ref f0))) (l0 : K.lookup f0 = some ⟨oc0, od0, .func (PySem.W.fnOf "_wall" "_wall" (defArgs s_p_wall) (defBody s_p_wall) (defScope s_p_wall) .none kV0 dc0 pm0 an0 cd0 ct0), sl0⟩) (c0 : PySem.W.codeIn K cd0 "_wall" = true) (k0 : PySem.W.keepIn K (.ref f0) = true)
    {f1 : Addr} {od1 an1 : Option Addr} {sl1 : Array (Option Value)} {oc1 kV1 dc1 pm1 cd1 ct1 : Value}
    (a1 : PySem.W.nsIn K mainGlobals "is_whole" = some (some (.ref f1))) (l1 : K.lookup f1 = some ⟨oc1, od1, .func (PySem.W.fnOf "is_whole" "is_whole" (defArgs s_p_is_whole) (defBody s_p_is_whole) (defScope s_p_is_whole) .none kV1 dc1 pm1 an1 cd1 ct1), sl1⟩) (c1 : PySem.W.codeIn K cd1 "is_whole" = true) (k1 : PySem.W.keepIn K (.ref f1) = true)
    {f2 : Addr} {od2 an2 : Option Addr} {sl2 : Array (Option Value)} {oc2 kV2 dc2 pm2 cd2 ct2 : Value}
    (a2 : PySem.W.nsIn K mainGlobals "parts_in" = some (some (.ref f2))) (l2 : K.lookup f2 = some ⟨oc2, od2, .func (PySem.W.fnOf "parts_in" "parts_in" (defArgs s_p_parts_in) (defBody s_p_parts_in) (defScope s_p_parts_in) .none kV2 dc2 pm2 an2 cd2 ct2), sl2⟩) (c2 : PySem.W.codeIn K cd2 "parts_in" = true) (k2 : PySem.W.keepIn K (.ref f2) = true)
    {f3 : Addr} {od3 an3 : Option Addr} {sl3 : Array (Option Value)} {oc3 kV3 dc3 pm3 cd3 ct3 : Value}
    (a3 : PySem.W.nsIn K mainGlobals "parts_of" = some (some (.ref f3))) (l3 : K.lookup f3 = some ⟨oc3, od3, .func (PySem.W.fnOf "parts_of" "parts_of" (defArgs s_p_parts_of) (defBody s_p_parts_of) (defScope s_p_parts_of) .none kV3 dc3 pm3 an3 cd3 ct3), sl3⟩) (c3 : PySem.W.codeIn K cd3 "parts_of" = true) (k3 : PySem.W.keepIn K (.ref f3) = true)
    {f4 : Addr} {od4 an4 : Option Addr} {sl4 : Array (Option Value)} {oc4 kV4 dc4 pm4 cd4 ct4 : Value}
    (a4 : PySem.W.nsIn K mainGlobals "row_of" = some (some (.ref f4))) (l4 : K.lookup f4 = some ⟨oc4, od4, .func (PySem.W.fnOf "row_of" "row_of" (defArgs s_p_row_of) (defBody s_p_row_of) (defScope s_p_row_of) .none kV4 dc4 pm4 an4 cd4 ct4), sl4⟩) (c4 : PySem.W.codeIn K cd4 "row_of" = true) (k4 : PySem.W.keepIn K (.ref f4) = true)
    {f5 : Addr} {od5 an5 : Option Addr} {sl5 : Array (Option Value)} {oc5 kV5 dc5 pm5 cd5 ct5 : Value}
    (a5 : PySem.W.nsIn K mainGlobals "_are_numbers" = some (some (.ref f5))) (l5 : K.lookup f5 = some ⟨oc5, od5, .func (PySem.W.fnOf "_are_numbers" "_are_numbers" (defArgs s_p_are_numbers) (defBody s_p_are_numbers) (defScope s_p_are_numbers) .none kV5 dc5 pm5 an5 cd5 ct5), sl5⟩) (c5 : PySem.W.codeIn K cd5 "_are_numbers" = true) (k5 : PySem.W.keepIn K (.ref f5) = true)
    {f6 : Addr} {od6 an6 : Option Addr} {sl6 : Array (Option Value)} {oc6 kV6 dc6 pm6 cd6 ct6 : Value}
    (a6 : PySem.W.nsIn K mainGlobals "is_rack" = some (some (.ref f6))) (l6 : K.lookup f6 = some ⟨oc6, od6, .func (PySem.W.fnOf "is_rack" "is_rack" (defArgs s_p_is_rack) (defBody s_p_is_rack) (defScope s_p_is_rack) .none kV6 dc6 pm6 an6 cd6 ct6), sl6⟩) (c6 : PySem.W.codeIn K cd6 "is_rack" = true) (k6 : PySem.W.keepIn K (.ref f6) = true)
    {f7 : Addr} {od7 an7 : Option Addr} {sl7 : Array (Option Value)} {oc7 kV7 dc7 pm7 cd7 ct7 : Value}
    (a7 : PySem.W.nsIn K mainGlobals "is_thing" = some (some (.ref f7))) (l7 : K.lookup f7 = some ⟨oc7, od7, .func (PySem.W.fnOf "is_thing" "is_thing" (defArgs s_p_is_thing) (defBody s_p_is_thing) (defScope s_p_is_thing) .none kV7 dc7 pm7 an7 cd7 ct7), sl7⟩) (c7 : PySem.W.codeIn K cd7 "is_thing" = true) (k7 : PySem.W.keepIn K (.ref f7) = true)
    {f8 : Addr} {od8 an8 : Option Addr} {sl8 : Array (Option Value)} {oc8 kV8 dc8 pm8 cd8 ct8 : Value}
    (a8 : PySem.W.nsIn K mainGlobals "is_row_at" = some (some (.ref f8))) (l8 : K.lookup f8 = some ⟨oc8, od8, .func (PySem.W.fnOf "is_row_at" "is_row_at" (defArgs s_p_is_row_at) (defBody s_p_is_row_at) (defScope s_p_is_row_at) .none kV8 dc8 pm8 an8 cd8 ct8), sl8⟩) (c8 : PySem.W.codeIn K cd8 "is_row_at" = true) (k8 : PySem.W.keepIn K (.ref f8) = true)
    {f9 : Addr} {od9 an9 : Option Addr} {sl9 : Array (Option Value)} {oc9 kV9 dc9 pm9 cd9 ct9 : Value}
    (a9 : PySem.W.nsIn K mainGlobals "forms_fit" = some (some (.ref f9))) (l9 : K.lookup f9 = some ⟨oc9, od9, .func (PySem.W.fnOf "forms_fit" "forms_fit" (defArgs s_p_forms_fit) (defBody s_p_forms_fit) (defScope s_p_forms_fit) .none kV9 dc9 pm9 an9 cd9 ct9), sl9⟩) (c9 : PySem.W.codeIn K cd9 "forms_fit" = true) (k9 : PySem.W.keepIn K (.ref f9) = true)
    {f10 : Addr} {od10 an10 : Option Addr} {sl10 : Array (Option Value)} {oc10 kV10 dc10 pm10 cd10 ct10 : Value}
    (a10 : PySem.W.nsIn K mainGlobals "need_rack" = some (some (.ref f10))) (l10 : K.lookup f10 = some ⟨oc10, od10, .func (PySem.W.fnOf "need_rack" "need_rack" (defArgs s_p_need_rack) (defBody s_p_need_rack) (defScope s_p_need_rack) .none kV10 dc10 pm10 an10 cd10 ct10), sl10⟩) (c10 : PySem.W.codeIn K cd10 "need_rack" = true) (k10 : PySem.W.keepIn K (.ref f10) = true)
    {f11 : Addr} {od11 an11 : Option Addr} {sl11 : Array (Option Value)} {oc11 kV11 dc11 pm11 cd11 ct11 : Value}
    (a11 : PySem.W.nsIn K mainGlobals "need_thing" = some (some (.ref f11))) (l11 : K.lookup f11 = some ⟨oc11, od11, .func (PySem.W.fnOf "need_thing" "need_thing" (defArgs s_p_need_thing) (defBody s_p_need_thing) (defScope s_p_need_thing) .none kV11 dc11 pm11 an11 cd11 ct11), sl11⟩) (c11 : PySem.W.codeIn K cd11 "need_thing" = true) (k11 : PySem.W.keepIn K (.ref f11) = true)
    {f12 : Addr} {od12 an12 : Option Addr} {sl12 : Array (Option Value)} {oc12 kV12 dc12 pm12 cd12 ct12 : Value}
    (a12 : PySem.W.nsIn K mainGlobals "can_do" = some (some (.ref f12))) (l12 : K.lookup f12 = some ⟨oc12, od12, .func (PySem.W.fnOf "can_do" "can_do" (defArgs s_p_can_do) (defBody s_p_can_do) (defScope s_p_can_do) .none kV12 dc12 pm12 an12 cd12 ct12), sl12⟩) (c12 : PySem.W.codeIn K cd12 "can_do" = true) (k12 : PySem.W.keepIn K (.ref f12) = true)
    {f13 : Addr} {od13 an13 : Option Addr} {sl13 : Array (Option Value)} {oc13 kV13 dc13 pm13 cd13 ct13 : Value}
    (a13 : PySem.W.nsIn K mainGlobals "rack_after" = some (some (.ref f13))) (l13 : K.lookup f13 = some ⟨oc13, od13, .func (PySem.W.fnOf "rack_after" "rack_after" (defArgs s_p_rack_after) (defBody s_p_rack_after) (defScope s_p_rack_after) .none kV13 dc13 pm13 an13 cd13 ct13), sl13⟩) (c13 : PySem.W.codeIn K cd13 "rack_after" = true) (k13 : PySem.W.keepIn K (.ref f13) = true)
    {f14 : Addr} {od14 an14 : Option Addr} {sl14 : Array (Option Value)} {oc14 kV14 dc14 pm14 cd14 ct14 : Value}
    (a14 : PySem.W.nsIn K mainGlobals "led_to" = some (some (.ref f14))) (l14 : K.lookup f14 = some ⟨oc14, od14, .func (PySem.W.fnOf "led_to" "led_to" (defArgs s_p_led_to) (defBody s_p_led_to) (defScope s_p_led_to) .none kV14 dc14 pm14 an14 cd14 ct14), sl14⟩) (c14 : PySem.W.codeIn K cd14 "led_to" = true) (k14 : PySem.W.keepIn K (.ref f14) = true)
    {f15 : Addr} {od15 an15 : Option Addr} {sl15 : Array (Option Value)} {oc15 kV15 dc15 pm15 cd15 ct15 : Value}
    (a15 : PySem.W.nsIn K mainGlobals "led_back" = some (some (.ref f15))) (l15 : K.lookup f15 = some ⟨oc15, od15, .func (PySem.W.fnOf "led_back" "led_back" (defArgs s_p_led_back) (defBody s_p_led_back) (defScope s_p_led_back) .none kV15 dc15 pm15 an15 cd15 ct15), sl15⟩) (c15 : PySem.W.codeIn K cd15 "led_back" = true) (k15 : PySem.W.keepIn K (.ref f15) = true)
    {f16 : Addr} {od16 an16 : Option Addr} {sl16 : Array (Option Value)} {oc16 kV16 dc16 pm16 cd16 ct16 : Value}
    (a16 : PySem.W.nsIn K mainGlobals "undone" = some (some (.ref f16))) (l16 : K.lookup f16 = some ⟨oc16, od16, .func (PySem.W.fnOf "undone" "undone" (defArgs s_p_undone) (defBody s_p_undone) (defScope s_p_undone) .none kV16 dc16 pm16 an16 cd16 ct16), sl16⟩) (c16 : PySem.W.codeIn K cd16 "undone" = true) (k16 : PySem.W.keepIn K (.ref f16) = true)
    {f17 : Addr} {od17 an17 : Option Addr} {sl17 : Array (Option Value)} {oc17 kV17 dc17 pm17 cd17 ct17 : Value}
    (a17 : PySem.W.nsIn K mainGlobals "is_step_on" = some (some (.ref f17))) (l17 : K.lookup f17 = some ⟨oc17, od17, .func (PySem.W.fnOf "is_step_on" "is_step_on" (defArgs s_p_is_step_on) (defBody s_p_is_step_on) (defScope s_p_is_step_on) .none kV17 dc17 pm17 an17 cd17 ct17), sl17⟩) (c17 : PySem.W.codeIn K cd17 "is_step_on" = true) (k17 : PySem.W.keepIn K (.ref f17) = true)
    {f18 : Addr} {od18 an18 : Option Addr} {sl18 : Array (Option Value)} {oc18 kV18 dc18 pm18 cd18 ct18 : Value}
    (a18 : PySem.W.nsIn K mainGlobals "forms_after" = some (some (.ref f18))) (l18 : K.lookup f18 = some ⟨oc18, od18, .func (PySem.W.fnOf "forms_after" "forms_after" (defArgs s_p_forms_after) (defBody s_p_forms_after) (defScope s_p_forms_after) .none kV18 dc18 pm18 an18 cd18 ct18), sl18⟩) (c18 : PySem.W.codeIn K cd18 "forms_after" = true) (k18 : PySem.W.keepIn K (.ref f18) = true)
    {f19 : Addr} {od19 an19 : Option Addr} {sl19 : Array (Option Value)} {oc19 kV19 dc19 pm19 cd19 ct19 : Value}
    (a19 : PySem.W.nsIn K mainGlobals "way_back" = some (some (.ref f19))) (l19 : K.lookup f19 = some ⟨oc19, od19, .func (PySem.W.fnOf "way_back" "way_back" (defArgs s_p_way_back) (defBody s_p_way_back) (defScope s_p_way_back) .none kV19 dc19 pm19 an19 cd19 ct19), sl19⟩) (c19 : PySem.W.codeIn K cd19 "way_back" = true) (k19 : PySem.W.keepIn K (.ref f19) = true)
    {f20 : Addr} {od20 an20 : Option Addr} {sl20 : Array (Option Value)} {oc20 kV20 dc20 pm20 cd20 ct20 : Value}
    (a20 : PySem.W.nsIn K mainGlobals "led_along" = some (some (.ref f20))) (l20 : K.lookup f20 = some ⟨oc20, od20, .func (PySem.W.fnOf "led_along" "led_along" (defArgs s_p_led_along) (defBody s_p_led_along) (defScope s_p_led_along) .none kV20 dc20 pm20 an20 cd20 ct20), sl20⟩) (c20 : PySem.W.codeIn K cd20 "led_along" = true) (k20 : PySem.W.keepIn K (.ref f20) = true)
    {f21 : Addr} {od21 an21 : Option Addr} {sl21 : Array (Option Value)} {oc21 kV21 dc21 pm21 cd21 ct21 : Value}
    (a21 : PySem.W.nsIn K mainGlobals "led_by" = some (some (.ref f21))) (l21 : K.lookup f21 = some ⟨oc21, od21, .func (PySem.W.fnOf "led_by" "led_by" (defArgs s_p_led_by) (defBody s_p_led_by) (defScope s_p_led_by) .none kV21 dc21 pm21 an21 cd21 ct21), sl21⟩) (c21 : PySem.W.codeIn K cd21 "led_by" = true) (k21 : PySem.W.keepIn K (.ref f21) = true)
    {f22 : Addr} {od22 an22 : Option Addr} {sl22 : Array (Option Value)} {oc22 kV22 dc22 pm22 cd22 ct22 : Value}
    (a22 : PySem.W.nsIn K mainGlobals "_led_open" = some (some (.ref f22))) (l22 : K.lookup f22 = some ⟨oc22, od22, .func (PySem.W.fnOf "_led_open" "_led_open" (defArgs s_p_led_open) (defBody s_p_led_open) (defScope s_p_led_open) .none kV22 dc22 pm22 an22 cd22 ct22), sl22⟩) (c22 : PySem.W.codeIn K cd22 "_led_open" = true) (k22 : PySem.W.keepIn K (.ref f22) = true)
    {f23 : Addr} {od23 an23 : Option Addr} {sl23 : Array (Option Value)} {oc23 kV23 dc23 pm23 cd23 ct23 : Value}
    (a23 : PySem.W.nsIn K mainGlobals "_led_close" = some (some (.ref f23))) (l23 : K.lookup f23 = some ⟨oc23, od23, .func (PySem.W.fnOf "_led_close" "_led_close" (defArgs s_p_led_close) (defBody s_p_led_close) (defScope s_p_led_close) .none kV23 dc23 pm23 an23 cd23 ct23), sl23⟩) (c23 : PySem.W.codeIn K cd23 "_led_close" = true) (k23 : PySem.W.keepIn K (.ref f23) = true)
    {f24 : Addr} {od24 an24 : Option Addr} {sl24 : Array (Option Value)} {oc24 kV24 dc24 pm24 cd24 ct24 : Value}
    (a24 : PySem.W.nsIn K mainGlobals "_forms_opened" = some (some (.ref f24))) (l24 : K.lookup f24 = some ⟨oc24, od24, .func (PySem.W.fnOf "_forms_opened" "_forms_opened" (defArgs s_p_forms_opened) (defBody s_p_forms_opened) (defScope s_p_forms_opened) .none kV24 dc24 pm24 an24 cd24 ct24), sl24⟩) (c24 : PySem.W.codeIn K cd24 "_forms_opened" = true) (k24 : PySem.W.keepIn K (.ref f24) = true)
    {f25 : Addr} {od25 an25 : Option Addr} {sl25 : Array (Option Value)} {oc25 kV25 dc25 pm25 cd25 ct25 : Value}
    (a25 : PySem.W.nsIn K mainGlobals "_form_closed" = some (some (.ref f25))) (l25 : K.lookup f25 = some ⟨oc25, od25, .func (PySem.W.fnOf "_form_closed" "_form_closed" (defArgs s_p_form_closed) (defBody s_p_form_closed) (defScope s_p_form_closed) .none kV25 dc25 pm25 an25 cd25 ct25), sl25⟩) (c25 : PySem.W.codeIn K cd25 "_form_closed" = true) (k25 : PySem.W.keepIn K (.ref f25) = true)
    {f26 : Addr} {od26 an26 : Option Addr} {sl26 : Array (Option Value)} {oc26 kV26 dc26 pm26 cd26 ct26 : Value}
    (a26 : PySem.W.nsIn K mainGlobals "_are_places" = some (some (.ref f26))) (l26 : K.lookup f26 = some ⟨oc26, od26, .func (PySem.W.fnOf "_are_places" "_are_places" (defArgs s_p_are_places) (defBody s_p_are_places) (defScope s_p_are_places) .none kV26 dc26 pm26 an26 cd26 ct26), sl26⟩) (c26 : PySem.W.codeIn K cd26 "_are_places" = true) (k26 : PySem.W.keepIn K (.ref f26) = true)
    {f27 : Addr} {od27 an27 : Option Addr} {sl27 : Array (Option Value)} {oc27 kV27 dc27 pm27 cd27 ct27 : Value}
    (a27 : PySem.W.nsIn K mainGlobals "is_name" = some (some (.ref f27))) (l27 : K.lookup f27 = some ⟨oc27, od27, .func (PySem.W.fnOf "is_name" "is_name" (defArgs s_p_is_name) (defBody s_p_is_name) (defScope s_p_is_name) .none kV27 dc27 pm27 an27 cd27 ct27), sl27⟩) (c27 : PySem.W.codeIn K cd27 "is_name" = true) (k27 : PySem.W.keepIn K (.ref f27) = true)
    {f28 : Addr} {od28 an28 : Option Addr} {sl28 : Array (Option Value)} {oc28 kV28 dc28 pm28 cd28 ct28 : Value}
    (a28 : PySem.W.nsIn K mainGlobals "_are_makers" = some (some (.ref f28))) (l28 : K.lookup f28 = some ⟨oc28, od28, .func (PySem.W.fnOf "_are_makers" "_are_makers" (defArgs s_p_are_makers) (defBody s_p_are_makers) (defScope s_p_are_makers) .none kV28 dc28 pm28 an28 cd28 ct28), sl28⟩) (c28 : PySem.W.codeIn K cd28 "_are_makers" = true) (k28 : PySem.W.keepIn K (.ref f28) = true)
    {f29 : Addr} {od29 an29 : Option Addr} {sl29 : Array (Option Value)} {oc29 kV29 dc29 pm29 cd29 ct29 : Value}
    (a29 : PySem.W.nsIn K mainGlobals "_is_maker" = some (some (.ref f29))) (l29 : K.lookup f29 = some ⟨oc29, od29, .func (PySem.W.fnOf "_is_maker" "_is_maker" (defArgs s_p_is_maker) (defBody s_p_is_maker) (defScope s_p_is_maker) .none kV29 dc29 pm29 an29 cd29 ct29), sl29⟩) (c29 : PySem.W.codeIn K cd29 "_is_maker" = true) (k29 : PySem.W.keepIn K (.ref f29) = true)
    {f30 : Addr} {od30 an30 : Option Addr} {sl30 : Array (Option Value)} {oc30 kV30 dc30 pm30 cd30 ct30 : Value}
    (a30 : PySem.W.nsIn K mainGlobals "_law_digit" = some (some (.ref f30))) (l30 : K.lookup f30 = some ⟨oc30, od30, .func (PySem.W.fnOf "_law_digit" "_law_digit" (defArgs s_digit) (defBody s_digit) (defScope s_digit) .none kV30 dc30 pm30 an30 cd30 ct30), sl30⟩) (c30 : PySem.W.codeIn K cd30 "_law_digit" = true) (k30 : PySem.W.keepIn K (.ref f30) = true)
    {f31 : Addr} {od31 an31 : Option Addr} {sl31 : Array (Option Value)} {oc31 kV31 dc31 pm31 cd31 ct31 : Value}
    (a31 : PySem.W.nsIn K mainGlobals "_law_makers" = some (some (.ref f31))) (l31 : K.lookup f31 = some ⟨oc31, od31, .func (PySem.W.fnOf "_law_makers" "_law_makers" (defArgs s_makers) (defBody s_makers) (defScope s_makers) .none kV31 dc31 pm31 an31 cd31 ct31), sl31⟩) (c31 : PySem.W.codeIn K cd31 "_law_makers" = true) (k31 : PySem.W.keepIn K (.ref f31) = true)
    {f32 : Addr} {od32 an32 : Option Addr} {sl32 : Array (Option Value)} {oc32 kV32 dc32 pm32 cd32 ct32 : Value}
    (a32 : PySem.W.nsIn K mainGlobals "_law_within" = some (some (.ref f32))) (l32 : K.lookup f32 = some ⟨oc32, od32, .func (PySem.W.fnOf "_law_within" "_law_within" (defArgs s_within) (defBody s_within) (defScope s_within) .none kV32 dc32 pm32 an32 cd32 ct32), sl32⟩) (c32 : PySem.W.codeIn K cd32 "_law_within" = true) (k32 : PySem.W.keepIn K (.ref f32) = true)
    {f33 : Addr} {od33 an33 : Option Addr} {sl33 : Array (Option Value)} {oc33 kV33 dc33 pm33 cd33 ct33 : Value}
    (a33 : PySem.W.nsIn K mainGlobals "_law_tree" = some (some (.ref f33))) (l33 : K.lookup f33 = some ⟨oc33, od33, .func (PySem.W.fnOf "_law_tree" "_law_tree" (defArgs s_tree) (defBody s_tree) (defScope s_tree) .none kV33 dc33 pm33 an33 cd33 ct33), sl33⟩) (c33 : PySem.W.codeIn K cd33 "_law_tree" = true) (k33 : PySem.W.keepIn K (.ref f33) = true)
    {f34 : Addr} {od34 an34 : Option Addr} {sl34 : Array (Option Value)} {oc34 kV34 dc34 pm34 cd34 ct34 : Value}
    (a34 : PySem.W.nsIn K mainGlobals "_law_end" = some (some (.ref f34))) (l34 : K.lookup f34 = some ⟨oc34, od34, .func (PySem.W.fnOf "_law_end" "_law_end" (defArgs s_end_) (defBody s_end_) (defScope s_end_) .none kV34 dc34 pm34 an34 cd34 ct34), sl34⟩) (c34 : PySem.W.codeIn K cd34 "_law_end" = true) (k34 : PySem.W.keepIn K (.ref f34) = true)
    {f35 : Addr} {od35 an35 : Option Addr} {sl35 : Array (Option Value)} {oc35 kV35 dc35 pm35 cd35 ct35 : Value}
    (a35 : PySem.W.nsIn K mainGlobals "_law_spot" = some (some (.ref f35))) (l35 : K.lookup f35 = some ⟨oc35, od35, .func (PySem.W.fnOf "_law_spot" "_law_spot" (defArgs s_spot) (defBody s_spot) (defScope s_spot) .none kV35 dc35 pm35 an35 cd35 ct35), sl35⟩) (c35 : PySem.W.codeIn K cd35 "_law_spot" = true) (k35 : PySem.W.keepIn K (.ref f35) = true)
    {f36 : Addr} {od36 an36 : Option Addr} {sl36 : Array (Option Value)} {oc36 kV36 dc36 pm36 cd36 ct36 : Value}
    (a36 : PySem.W.nsIn K mainGlobals "_law_closed" = some (some (.ref f36))) (l36 : K.lookup f36 = some ⟨oc36, od36, .func (PySem.W.fnOf "_law_closed" "_law_closed" (defArgs s_closed) (defBody s_closed) (defScope s_closed) .none kV36 dc36 pm36 an36 cd36 ct36), sl36⟩) (c36 : PySem.W.codeIn K cd36 "_law_closed" = true) (k36 : PySem.W.keepIn K (.ref f36) = true)
    {f37 : Addr} {od37 an37 : Option Addr} {sl37 : Array (Option Value)} {oc37 kV37 dc37 pm37 cd37 ct37 : Value}
    (a37 : PySem.W.nsIn K mainGlobals "_law_after" = some (some (.ref f37))) (l37 : K.lookup f37 = some ⟨oc37, od37, .func (PySem.W.fnOf "_law_after" "_law_after" (defArgs s_after) (defBody s_after) (defScope s_after) .none kV37 dc37 pm37 an37 cd37 ct37), sl37⟩) (c37 : PySem.W.codeIn K cd37 "_law_after" = true) (k37 : PySem.W.keepIn K (.ref f37) = true)
    {f38 : Addr} {od38 an38 : Option Addr} {sl38 : Array (Option Value)} {oc38 kV38 dc38 pm38 cd38 ct38 : Value}
    (a38 : PySem.W.nsIn K mainGlobals "_law_led" = some (some (.ref f38))) (l38 : K.lookup f38 = some ⟨oc38, od38, .func (PySem.W.fnOf "_law_led" "_law_led" (defArgs s_led) (defBody s_led) (defScope s_led) .none kV38 dc38 pm38 an38 cd38 ct38), sl38⟩) (c38 : PySem.W.codeIn K cd38 "_law_led" = true) (k38 : PySem.W.keepIn K (.ref f38) = true)
    {f39 : Addr} {od39 an39 : Option Addr} {sl39 : Array (Option Value)} {oc39 kV39 dc39 pm39 cd39 ct39 : Value}
    (a39 : PySem.W.nsIn K mainGlobals "_law_step" = some (some (.ref f39))) (l39 : K.lookup f39 = some ⟨oc39, od39, .func (PySem.W.fnOf "_law_step" "_law_step" (defArgs s_step) (defBody s_step) (defScope s_step) .none kV39 dc39 pm39 an39 cd39 ct39), sl39⟩) (c39 : PySem.W.codeIn K cd39 "_law_step" = true) (k39 : PySem.W.keepIn K (.ref f39) = true)
    {f40 : Addr} {od40 an40 : Option Addr} {sl40 : Array (Option Value)} {oc40 kV40 dc40 pm40 cd40 ct40 : Value}
    (a40 : PySem.W.nsIn K mainGlobals "_law_things_right" = some (some (.ref f40))) (l40 : K.lookup f40 = some ⟨oc40, od40, .func (PySem.W.fnOf "_law_things_right" "_law_things_right" (defArgs s_things_right) (defBody s_things_right) (defScope s_things_right) .none kV40 dc40 pm40 an40 cd40 ct40), sl40⟩) (c40 : PySem.W.codeIn K cd40 "_law_things_right" = true) (k40 : PySem.W.keepIn K (.ref f40) = true)
    {f41 : Addr} {od41 an41 : Option Addr} {sl41 : Array (Option Value)} {oc41 kV41 dc41 pm41 cd41 ct41 : Value}
    (a41 : PySem.W.nsIn K mainGlobals "law" = some (some (.ref f41))) (l41 : K.lookup f41 = some ⟨oc41, od41, .func (PySem.W.fnOf "law" "law" (defArgs s_law) (defBody s_law) (defScope s_law) .none kV41 dc41 pm41 an41 cd41 ct41), sl41⟩) (c41 : PySem.W.codeIn K cd41 "law" = true) (k41 : PySem.W.keepIn K (.ref f41) = true)
    (z0 : PySem.W.nsIn K mainGlobals "all" = some none)
    (z1 : PySem.W.nsIn K mainGlobals "bool" = some none)
    (z2 : PySem.W.nsIn K mainGlobals "enumerate" = some none)
    (z3 : PySem.W.nsIn K mainGlobals "int" = some none)
    (z4 : PySem.W.nsIn K mainGlobals "isinstance" = some none)
    (z5 : PySem.W.nsIn K mainGlobals "len" = some none)
    (z6 : PySem.W.nsIn K mainGlobals "list" = some none)
    (z7 : PySem.W.nsIn K mainGlobals "max" = some none)
    (z8 : PySem.W.nsIn K mainGlobals "range" = some none)
    (z9 : PySem.W.nsIn K mainGlobals "set" = some none)
    (z10 : PySem.W.nsIn K mainGlobals "sorted" = some none)
    (z11 : PySem.W.nsIn K mainGlobals "str" = some none)
    (z12 : PySem.W.nsIn K mainGlobals "tuple" = some none)
    {tc0 : Nat} (x0 : PySem.W.nsIn K mainGlobals "MOST_FORMS" = some (some (.int 4000 tc0)))
    {tc1 : Nat} (x1 : PySem.W.nsIn K mainGlobals "MOST_TREES" = some (some (.int 200 tc1)))
    {tc2 : Nat} (x2 : PySem.W.nsIn K mainGlobals "MOST_LETTERS" = some (some (.int 8 tc2)))
    {tc3 : Nat} (x3 : PySem.W.nsIn K mainGlobals "FEWEST_MAKERS" = some (some (.int 2 tc3)))
    {tc4 : Nat} (x4 : PySem.W.nsIn K mainGlobals "MOST_MAKERS" = some (some (.int 5 tc4)))
    {tc5 : Nat} (x5 : PySem.W.nsIn K mainGlobals "MOST_WITHIN" = some (some (.int 4 tc5)))
    {tz0 : Nat} (xz0 : PySem.W.nsIn K mainGlobals "SMALL_LETTERS" = some (some (.str (Str.ofString "abcdefghijklmnopqrstuvwxyz") tz0)))
    {C0 : Addr} (gC0 : PySem.W.nsIn K mainGlobals "Kind" = some (some (.ref C0))) (pg0 : PySem.W.plainGet K C0 Str.empty = true) (hd0 : PySem.W.hasDictIn K C0 = true) (po0 : PySem.W.plainOver K C0 = true) (sa0 : PySem.W.findIn K (.ref C0) "__setattr__" = some (some (.builtin "object.__setattr__"))) (mk0 : PySem.W.makesIn K C0 = true) (kc0 : PySem.W.keepIn K (.ref C0) = true)
    (na0_0 : PySem.W.findIn K (.ref C0) "_makers" = some none)
    {fm0 : Addr} {odm0 anm0 : Option Addr} {slm0 : Array (Option Value)} {ocm0 kVm0 dcm0 pmm0 cdm0 ctm0 : Value}
    (am0 : PySem.W.findIn K (.ref C0) "__init__" = some (some (.ref fm0))) (im0 : PySem.W.isFn K (.ref fm0) = true) (lm0 : K.lookup fm0 = some ⟨ocm0, odm0, .func (PySem.W.fnOf "__init__" "Kind.__init__" (defArgs s_m_Kind_init) (defBody s_m_Kind_init) (defScope s_m_Kind_init) .none kVm0 dcm0 pmm0 anm0 cdm0 ctm0), slm0⟩) (cm0 : PySem.W.codeIn K cdm0 "Kind.__init__" = true) (km0 : PySem.W.keepIn K (.ref fm0) = true)
    {fm1 : Addr} {odm1 anm1 : Option Addr} {slm1 : Array (Option Value)} {ocm1 kVm1 dcm1 pmm1 cdm1 ctm1 : Value}
    (am1 : PySem.W.findIn K (.ref C0) "within" = some (some (.ref fm1))) (im1 : PySem.W.isFn K (.ref fm1) = true) (lm1 : K.lookup fm1 = some ⟨ocm1, odm1, .func (PySem.W.fnOf "within" "Kind.within" (defArgs s_m_Kind_within) (defBody s_m_Kind_within) (defScope s_m_Kind_within) .none kVm1 dcm1 pmm1 anm1 cdm1 ctm1), slm1⟩) (cm1 : PySem.W.codeIn K cdm1 "Kind.within" = true) (km1 : PySem.W.keepIn K (.ref fm1) = true)
    {fm2 : Addr} {odm2 anm2 : Option Addr} {slm2 : Array (Option Value)} {ocm2 kVm2 dcm2 pmm2 cdm2 ctm2 : Value}
    (am2 : PySem.W.findIn K (.ref C0) "_maker" = some (some (.ref fm2))) (im2 : PySem.W.isFn K (.ref fm2) = true) (lm2 : K.lookup fm2 = some ⟨ocm2, odm2, .func (PySem.W.fnOf "_maker" "Kind._maker" (defArgs s_m_Kind_maker) (defBody s_m_Kind_maker) (defScope s_m_Kind_maker) .none kVm2 dcm2 pmm2 anm2 cdm2 ctm2), slm2⟩) (cm2 : PySem.W.codeIn K cdm2 "Kind._maker" = true) (km2 : PySem.W.keepIn K (.ref fm2) = true)
    {fm3 : Addr} {odm3 anm3 : Option Addr} {slm3 : Array (Option Value)} {ocm3 kVm3 dcm3 pmm3 cdm3 ctm3 : Value}
    (am3 : PySem.W.findIn K (.ref C0) "withins" = some (some (.ref fm3))) (im3 : PySem.W.isFn K (.ref fm3) = true) (lm3 : K.lookup fm3 = some ⟨ocm3, odm3, .func (PySem.W.fnOf "withins" "Kind.withins" (defArgs s_m_Kind_withins) (defBody s_m_Kind_withins) (defScope s_m_Kind_withins) .none kVm3 dcm3 pmm3 anm3 cdm3 ctm3), slm3⟩) (cm3 : PySem.W.codeIn K cdm3 "Kind.withins" = true) (km3 : PySem.W.keepIn K (.ref fm3) = true)
    {fm4 : Addr} {odm4 anm4 : Option Addr} {slm4 : Array (Option Value)} {ocm4 kVm4 dcm4 pmm4 cdm4 ctm4 : Value}
    (am4 : PySem.W.findIn K (.ref C0) "__len__" = some (some (.ref fm4))) (im4 : PySem.W.isFn K (.ref fm4) = true) (lm4 : K.lookup fm4 = some ⟨ocm4, odm4, .func (PySem.W.fnOf "__len__" "Kind.__len__" (defArgs s_m_Kind_len) (defBody s_m_Kind_len) (defScope s_m_Kind_len) .none kVm4 dcm4 pmm4 anm4 cdm4 ctm4), slm4⟩) (cm4 : PySem.W.codeIn K cdm4 "Kind.__len__" = true) (km4 : PySem.W.keepIn K (.ref fm4) = true) :
    ∃ fd : FuncData, (∀ (s : Shared) (v : Value), BindsTo s fd ⟨[v], []⟩ [("_law_script", v)]) ∧ ∀ base : Heap, K.In base → base.Ns mainGlobals mg → FnOk l.prog w K mg base CX0 10 fa fd ["_law_script"] (sp_law K) := by
  have e := hfa.symm.trans (PySem.W.mg_of X G a41)
  cases e
  have D : Df K mg (fun i => ([C0] : List Addr).getD i 0) := ⟨⟨f0, _, PySem.W.mg_of X G a0, fun_mk (st := s_p_wall) l0 c0 k0⟩, ⟨f1, _, PySem.W.mg_of X G a1, fun_mk (st := s_p_is_whole) l1 c1 k1⟩, ⟨f2, _, PySem.W.mg_of X G a2, fun_mk (st := s_p_parts_in) l2 c2 k2⟩, ⟨f3, _, PySem.W.mg_of X G a3, fun_mk (st := s_p_parts_of) l3 c3 k3⟩, ⟨f4, _, PySem.W.mg_of X G a4, fun_mk (st := s_p_row_of) l4 c4 k4⟩, ⟨f5, _, PySem.W.mg_of X G a5, fun_mk (st := s_p_are_numbers) l5 c5 k5⟩, ⟨f6, _, PySem.W.mg_of X G a6, fun_mk (st := s_p_is_rack) l6 c6 k6⟩, ⟨f7, _, PySem.W.mg_of X G a7, fun_mk (st := s_p_is_thing) l7 c7 k7⟩, ⟨f8, _, PySem.W.mg_of X G a8, fun_mk (st := s_p_is_row_at) l8 c8 k8⟩, ⟨f9, _, PySem.W.mg_of X G a9, fun_mk (st := s_p_forms_fit) l9 c9 k9⟩, ⟨f10, _, PySem.W.mg_of X G a10, fun_mk (st := s_p_need_rack) l10 c10 k10⟩, ⟨f11, _, PySem.W.mg_of X G a11, fun_mk (st := s_p_need_thing) l11 c11 k11⟩, ⟨f12, _, PySem.W.mg_of X G a12, fun_mk (st := s_p_can_do) l12 c12 k12⟩, ⟨f13, _, PySem.W.mg_of X G a13, fun_mk (st := s_p_rack_after) l13 c13 k13⟩, ⟨f14, _, PySem.W.mg_of X G a14, fun_mk (st := s_p_led_to) l14 c14 k14⟩, ⟨f15, _, PySem.W.mg_of X G a15, fun_mk (st := s_p_led_back) l15 c15 k15⟩, ⟨f16, _, PySem.W.mg_of X G a16, fun_mk (st := s_p_undone) l16 c16 k16⟩, ⟨f17, _, PySem.W.mg_of X G a17, fun_mk (st := s_p_is_step_on) l17 c17 k17⟩, ⟨f18, _, PySem.W.mg_of X G a18, fun_mk (st := s_p_forms_after) l18 c18 k18⟩, ⟨f19, _, PySem.W.mg_of X G a19, fun_mk (st := s_p_way_back) l19 c19 k19⟩, ⟨f20, _, PySem.W.mg_of X G a20, fun_mk (st := s_p_led_along) l20 c20 k20⟩, ⟨f21, _, PySem.W.mg_of X G a21, fun_mk (st := s_p_led_by) l21 c21 k21⟩, ⟨f22, _, PySem.W.mg_of X G a22, fun_mk (st := s_p_led_open) l22 c22 k22⟩, ⟨f23, _, PySem.W.mg_of X G a23, fun_mk (st := s_p_led_close) l23 c23 k23⟩, ⟨f24, _, PySem.W.mg_of X G a24, fun_mk (st := s_p_forms_opened) l24 c24 k24⟩, ⟨f25, _, PySem.W.mg_of X G a25, fun_mk (st := s_p_form_closed) l25 c25 k25⟩, ⟨f26, _, PySem.W.mg_of X G a26, fun_mk (st := s_p_are_places) l26 c26 k26⟩, ⟨f27, _, PySem.W.mg_of X G a27, fun_mk (st := s_p_is_name) l27 c27 k27⟩, ⟨f28, _, PySem.W.mg_of X G a28, fun_mk (st := s_p_are_makers) l28 c28 k28⟩, ⟨f29, _, PySem.W.mg_of X G a29, fun_mk (st := s_p_is_maker) l29 c29 k29⟩, ⟨f30, _, PySem.W.mg_of X G a30, fun_mk (st := s_digit) l30 c30 k30⟩, ⟨f31, _, PySem.W.mg_of X G a31, fun_mk (st := s_makers) l31 c31 k31⟩, ⟨f32, _, PySem.W.mg_of X G a32, fun_mk (st := s_within) l32 c32 k32⟩, ⟨f33, _, PySem.W.mg_of X G a33, fun_mk (st := s_tree) l33 c33 k33⟩, ⟨f34, _, PySem.W.mg_of X G a34, fun_mk (st := s_end_) l34 c34 k34⟩, ⟨f35, _, PySem.W.mg_of X G a35, fun_mk (st := s_spot) l35 c35 k35⟩, ⟨f36, _, PySem.W.mg_of X G a36, fun_mk (st := s_closed) l36 c36 k36⟩, ⟨f37, _, PySem.W.mg_of X G a37, fun_mk (st := s_after) l37 c37 k37⟩, ⟨f38, _, PySem.W.mg_of X G a38, fun_mk (st := s_led) l38 c38 k38⟩, ⟨f39, _, PySem.W.mg_of X G a39, fun_mk (st := s_step) l39 c39 k39⟩, ⟨f40, _, PySem.W.mg_of X G a40, fun_mk (st := s_things_right) l40 c40 k40⟩, ⟨fa, _, PySem.W.mg_of X G a41, fun_mk (st := s_law) l41 c41 k41⟩, ⟨fm0, _, ⟨am0, im0, km0⟩, fun_mk (st := s_m_Kind_init) lm0 cm0 km0⟩, ⟨fm1, _, ⟨am1, im1, km1⟩, fun_mk (st := s_m_Kind_within) lm1 cm1 km1⟩, ⟨fm2, _, ⟨am2, im2, km2⟩, fun_mk (st := s_m_Kind_maker) lm2 cm2 km2⟩, ⟨fm3, _, ⟨am3, im3, km3⟩, fun_mk (st := s_m_Kind_withins) lm3 cm3 km3⟩, ⟨fm4, _, ⟨am4, im4, km4⟩, fun_mk (st := s_m_Kind_len) lm4 cm4 km4⟩, ⟨⟨pg0, hd0, po0, sa0⟩, PySem.W.mg_of X G gC0, mk0, kc0⟩, na0_0⟩
  have T : Bi K mg := ⟨PySem.W.mg_none_of X G z0, PySem.W.mg_none_of X G z1, PySem.W.mg_none_of X G z2, PySem.W.mg_none_of X G z3, PySem.W.mg_none_of X G z4, PySem.W.mg_none_of X G z5, PySem.W.mg_none_of X G z6, PySem.W.mg_none_of X G z7, PySem.W.mg_none_of X G z8, PySem.W.mg_none_of X G z9, PySem.W.mg_none_of X G z10, PySem.W.mg_none_of X G z11, PySem.W.mg_none_of X G z12, ⟨_, PySem.W.mg_of X G x0⟩, ⟨_, PySem.W.mg_of X G x1⟩, ⟨_, PySem.W.mg_of X G x2⟩, ⟨_, PySem.W.mg_of X G x3⟩, ⟨_, PySem.W.mg_of X G x4⟩, ⟨_, PySem.W.mg_of X G x5⟩, ⟨_, PySem.W.mg_of X G xz0⟩⟩
  refine ⟨PySem.W.fnOf "law" "law" (defArgs s_law) (defBody s_law) (defScope s_law) .none kV41 dc41 pm41 an41 cd41 ct41, fun s v => .of_eq rfl, fun base _ _ => ?_⟩
  obtain ⟨f, fd, g, F, b, R⟩ := (ok_law (P := l.prog) (w := w) (base := base) T D).ex
  have e2 := g.symm.trans (PySem.W.mg_of X G a41)
  cases e2
  obtain ⟨_, _, _, _, _, _, _, _, _, rfl, lk, _⟩ := F.ex
  have e3 := lk.symm.trans l41
  cases e3
  exact R
end boughswap_k20_steps_on_long_racks
open PySem PySem.W PyProof.Rows
set_option maxHeartbeats 0 in
theorem PySem.Challenge.cw_boughswap_k20_steps_on_long_racks_holds : PySem.Challenge.rw_boughswap_k20_steps_on_long_racks.Holds := by
  w_on; o_law; k_head; (case hw => w_witness2)
  k_fill
  refine L2.walk_of (l := PySem.Challenge.rw_boughswap_k20_steps_on_long_racks) (n := 63) (k := 10) (x := "_law_script") (CX := fun _ => L2.CX0) (sp := fun w => boughswap_k20_steps_on_long_racks.sp_law _) rfl (by decide) rfl ⟨rfl, by decide, by decide⟩ (fun w h Y => PySem.W.kIn_of Y) ?F (fun _ _ a ns hl _ hS => ⟨a, ns, rfl, hS, hl, fun _ => rfl⟩) (fun _ _ _ _ _ h => h)
  case F =>
    intro w mg fa h KX G hmg
    refine' boughswap_k20_steps_on_long_racks.all_mk KX G hmg ?a0 ?l0 ?c0 ?k0 ?a1 ?l1 ?c1 ?k1 ?a2 ?l2 ?c2 ?k2 ?a3 ?l3 ?c3 ?k3 ?a4 ?l4 ?c4 ?k4 ?a5 ?l5 ?c5 ?k5 ?a6 ?l6 ?c6 ?k6 ?a7 ?l7 ?c7 ?k7 ?a8 ?l8 ?c8 ?k8 ?a9 ?l9 ?c9 ?k9 ?a10 ?l10 ?c10 ?k10 ?a11 ?l11 ?c11 ?k11 ?a12 ?l12 ?c12 ?k12 ?a13 ?l13 ?c13 ?k13 ?a14 ?l14 ?c14 ?k14 ?a15 ?l15 ?c15 ?k15 ?a16 ?l16 ?c16 ?k16 ?a17 ?l17 ?c17 ?k17 ?a18 ?l18 ?c18 ?k18 ?a19 ?l19 ?c19 ?k19 ?a20 ?l20 ?c20 ?k20 ?a21 ?l21 ?c21 ?k21 ?a22 ?l22 ?c22 ?k22 ?a23 ?l23 ?c23 ?k23 ?a24 ?l24 ?c24 ?k24 ?a25 ?l25 ?c25 ?k25 ?a26 ?l26 ?c26 ?k26 ?a27 ?l27 ?c27 ?k27 ?a28 ?l28 ?c28 ?k28 ?a29 ?l29 ?c29 ?k29 ?a30 ?l30 ?c30 ?k30 ?a31 ?l31 ?c31 ?k31 ?a32 ?l32 ?c32 ?k32 ?a33 ?l33 ?c33 ?k33 ?a34 ?l34 ?c34 ?k34 ?a35 ?l35 ?c35 ?k35 ?a36 ?l36 ?c36 ?k36 ?a37 ?l37 ?c37 ?k37 ?a38 ?l38 ?c38 ?k38 ?a39 ?l39 ?c39 ?k39 ?a40 ?l40 ?c40 ?k40 ?a41 ?l41 ?c41 ?k41 ?z0 ?z1 ?z2 ?z3 ?z4 ?z5 ?z6 ?z7 ?z8 ?z9 ?z10 ?z11 ?z12 ?x0 ?x1 ?x2 ?x3 ?x4 ?x5 ?xz0 ?gC0 ?pg0 ?hd0 ?po0 ?sa0 ?mk0 ?kc0 ?na0_0 ?am0 ?im0 ?lm0 ?cm0 ?km0 ?am1 ?im1 ?lm1 ?cm1 ?km1 ?am2 ?im2 ?lm2 ?cm2 ?km2 ?am3 ?im3 ?lm3 ?cm3 ?km3 ?am4 ?im4 ?lm4 ?cm4 ?km4
    (case a0 => k_is); (case l0 => k_is); (case c0 => k_is); (case k0 => k_is); (case a1 => k_is); (case l1 => k_is); (case c1 => k_is); (case k1 => k_is); (case a2 => k_is); (case l2 => k_is); (case c2 => k_is); (case k2 => k_is); (case a3 => k_is); (case l3 => k_is); (case c3 => k_is); (case k3 => k_is); (case a4 => k_is); (case l4 => k_is); (case c4 => k_is); (case k4 => k_is); (case a5 => k_is); (case l5 => k_is); (case c5 => k_is); (case k5 => k_is); (case a6 => k_is); (case l6 => k_is); (case c6 => k_is); (case k6 => k_is); (case a7 => k_is); (case l7 => k_is); (case c7 => k_is); (case k7 => k_is); (case a8 => k_is); (case l8 => k_is); (case c8 => k_is); (case k8 => k_is); (case a9 => k_is); (case l9 => k_is); (case c9 => k_is); (case k9 => k_is); (case a10 => k_is); (case l10 => k_is); (case c10 => k_is); (case k10 => k_is); (case a11 => k_is); (case l11 => k_is); (case c11 => k_is); (case k11 => k_is); (case a12 => k_is); (case l12 => k_is); (case c12 => k_is); (case k12 => k_is); (case a13 => k_is); (case l13 => k_is); (case c13 => k_is); (case k13 => k_is); (case a14 => k_is); (case l14 => k_is); (case c14 => k_is); (case k14 => k_is); (case a15 => k_is); (case l15 => k_is); (case c15 => k_is); (case k15 => k_is); (case a16 => k_is); (case l16 => k_is); (case c16 => k_is); (case k16 => k_is); (case a17 => k_is); (case l17 => k_is); (case c17 => k_is); (case k17 => k_is); (case a18 => k_is); (case l18 => k_is); (case c18 => k_is); (case k18 => k_is); (case a19 => k_is); (case l19 => k_is); (case c19 => k_is); (case k19 => k_is); (case a20 => k_is); (case l20 => k_is); (case c20 => k_is); (case k20 => k_is); (case a21 => k_is); (case l21 => k_is); (case c21 => k_is); (case k21 => k_is); (case a22 => k_is); (case l22 => k_is); (case c22 => k_is); (case k22 => k_is); (case a23 => k_is); (case l23 => k_is); (case c23 => k_is); (case k23 => k_is); (case a24 => k_is); (case l24 => k_is); (case c24 => k_is); (case k24 => k_is); (case a25 => k_is); (case l25 => k_is); (case c25 => k_is); (case k25 => k_is); (case a26 => k_is); (case l26 => k_is); (case c26 => k_is); (case k26 => k_is); (case a27 => k_is); (case l27 => k_is); (case c27 => k_is); (case k27 => k_is); (case a28 => k_is); (case l28 => k_is); (case c28 => k_is); (case k28 => k_is); (case a29 => k_is); (case l29 => k_is); (case c29 => k_is); (case k29 => k_is); (case a30 => k_is); (case l30 => k_is); (case c30 => k_is); (case k30 => k_is); (case a31 => k_is); (case l31 => k_is); (case c31 => k_is); (case k31 => k_is); (case a32 => k_is); (case l32 => k_is); (case c32 => k_is); (case k32 => k_is); (case a33 => k_is); (case l33 => k_is); (case c33 => k_is); (case k33 => k_is); (case a34 => k_is); (case l34 => k_is); (case c34 => k_is); (case k34 => k_is); (case a35 => k_is); (case l35 => k_is); (case c35 => k_is); (case k35 => k_is); (case a36 => k_is); (case l36 => k_is); (case c36 => k_is); (case k36 => k_is); (case a37 => k_is); (case l37 => k_is); (case c37 => k_is); (case k37 => k_is); (case a38 => k_is); (case l38 => k_is); (case c38 => k_is); (case k38 => k_is); (case a39 => k_is); (case l39 => k_is); (case c39 => k_is); (case k39 => k_is); (case a40 => k_is); (case l40 => k_is); (case c40 => k_is); (case k40 => k_is); (case a41 => k_is); (case l41 => k_is); (case c41 => k_is); (case k41 => k_is); (case z0 => k_is); (case z1 => k_is); (case z2 => k_is); (case z3 => k_is); (case z4 => k_is); (case z5 => k_is); (case z6 => k_is); (case z7 => k_is); (case z8 => k_is); (case z9 => k_is); (case z10 => k_is); (case z11 => k_is); (case z12 => k_is); (case x0 => k_is); (case x1 => k_is); (case x2 => k_is); (case x3 => k_is); (case x4 => k_is); (case x5 => k_is); (case xz0 => k_is); (case gC0 => k_is); (case pg0 => k_is); (case hd0 => k_is); (case po0 => k_is); (case sa0 => k_is); (case mk0 => k_is); (case kc0 => k_is); (case na0_0 => k_is); (case am0 => k_is); (case im0 => k_is); (case lm0 => k_is); (case cm0 => k_is); (case km0 => k_is); (case am1 => k_is); (case im1 => k_is); (case lm1 => k_is); (case cm1 => k_is); (case km1 => k_is); (case am2 => k_is); (case im2 => k_is); (case lm2 => k_is); (case cm2 => k_is); (case km2 => k_is); (case am3 => k_is); (case im3 => k_is); (case lm3 => k_is); (case cm3 => k_is); (case km3 => k_is); (case am4 => k_is); (case im4 => k_is); (case lm4 => k_is); (case cm4 => k_is); (case km4 => k_is)

