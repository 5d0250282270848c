import PyProof.Rows.All
import Wide.All
import OpenK.AllK
import Wide.FinOn
import HandS.ForMost
import HandS.ForExc
import HandS.IsInst
import HandS.Style
import HandS.Flow
import HandS.Wide
import HandS.WideBits
import HandS.Gcd
import HandS.TupMul
import HandS.TupAny
import HandS.Conv
import HandS.Evl
import HandS.Codes
import HandS.Defaults
import PySem.Challenge.RW_boughswap_k04_sums_and_products_of_fract
set_option Elab.async false
set_option linter.all false
set_option maxRecDepth 100000
set_option maxHeartbeats 4000000
namespace BW
open PySem PySem.Spec PyProof.Rows L2

section
variable {P : Program} {w : World} {K : PySem.W.Frag} {mg : Str → Option Value} {base : Heap} {CX : CXT}
/-- a def stands at a name of the module -/
def At (K : PySem.W.Frag) (mg : Str → Option Value) (x : Str) (st : Stmt) : Prop := ∃ (f : Addr) (fd : FuncData), mg x = some (.ref f) ∧ Fun K x x st f fd
/-- a def that keeps its promise -/
structure Cal (P : Program) (w : World) (K : PySem.W.Frag) (mg : Str → Option Value) (base : Heap) (CX : CXT) (k : Nat) (x : Str) (st : Stmt) (ps : List Str) (sp : Sp) : Prop where
  ex : ∃ (f : Addr) (fd : FuncData), mg x = some (.ref f) ∧ Fun K x x st f fd ∧ Binds K fd ps [] ∧ FnOk P w K mg base CX k f fd ps sp
def BindH (x : Str) (st : Stmt) (ps : List Str) : Prop := ∀ (kV doc pm : Value) (an : Option Addr) (cdv ct : Value) (us : List Value), us.length = ps.length → bindArgs (PySem.W.fnOf x x (defArgs st) (defBody st) (defScope st) .none kV doc pm an cdv ct) ⟨us, []⟩ = pure (ps.zip us)
theorem Cal.mk' {k : Nat} {x : Str} {st : Stmt} {ps : List Str} {sp : Sp} (a : At K mg x st) (hb : BindH x st ps) (h : ∀ (f : Addr) (fd : FuncData), Fun K x x st f fd → FnOk P w K mg base CX k f fd ps sp) : Cal P w K mg base CX k x st ps sp := by
  obtain ⟨f, fd, g, F⟩ := a
  exact ⟨f, fd, g, F, F.binds hb, h f fd F⟩
theorem Cal.mono {j k : Nat} {x : Str} {st : Stmt} {ps : List Str} {sp : Sp} (a : Cal P w K mg base CX j x st ps sp) (h : j ≤ k) : Cal P w K mg base CX k x st ps sp := by
  obtain ⟨f, fd, g, F, b, G⟩ := a.ex
  exact ⟨f, fd, g, F, b, G.mono h⟩
end
section
variable {X : Cx} {CX : CXT} {k : Nat} {st : Stmt} {ps : List Str} {sp : Sp} {E : XK} {x : Str} {p pos : Pos} {e : Expr} {es : List Expr} {t : TA}
/-- f(e, ..) -/
theorem pe_own (C : Cal X.prog X.w X.K X.mg X.base CX k x st ps sp) (hr : Room k X.A) (hg : Gl X x) (hx : Passes CX X E)
    (ha : PA X (e :: es) t) (hdb : (x == ("__debug__" : Str)) = false := by decide) (he : starEach (e :: es) X.env = (false, eval e X.env) :: starEach es X.env := by rfl) (hpl : (backTo pos (starEach es X.env)).any (·.1) = false := by rfl) :
    PE X (.Call (.Name x p) (e :: es) [] pos) (tCall sp [] E t) := by
  obtain ⟨f, fd, g, F, b, G⟩ := C.ex
  exact pe_call G hr hg g F.kp b .nil hx ha hdb he hpl
theorem pe_own0 (C : Cal X.prog X.w X.K X.mg X.base CX k x st ps sp) (hr : Room k X.A) (hg : Gl X x) (hx : Passes CX X E)
    (hdb : (x == ("__debug__" : Str)) = false := by decide) :
    PE X (.Call (.Name x p) [] [] pos) (tCall sp [] E tNil) := by
  obtain ⟨f, fd, g, F, b, G⟩ := C.ex
  exact pe_call0 G hr hg g F.kp b .nil hx hdb
/-- f(k = v, ..), all by names -/
def tCallK0 (sp : Sp) (gV : List V → List V) (E : XK) (tk : TA) : TE := fun σ H Q => tk σ H fun zs H2 => sp (gV zs) H2 Q E
def KBindH (x : Str) (st : Stmt) (ps ks : List Str) (g : {α : Type} → List α → List α) : Prop := ∀ (kV doc pm : Value) (an : Option Addr) (cdv ct : Value) (ws : List Value), ws.length = ks.length → bindArgs (PySem.W.fnOf x x (defArgs st) (defBody st) (defScope st) .none kV doc pm an cdv ct) ⟨[], ks.zip ws⟩ = pure (ps.zip (g ws))
theorem pe_ownK {ks : List Str} {kws : List Keyword} {tk : TA} (g : {α : Type} → List α → List α) (C : Cal X.prog X.w X.K X.mg X.base CX k x st ps sp) (hr : Room k X.A) (hg : Gl X x) (hx : Passes CX X E)
    (hb : KBindH x st ps ks g) (hl : ∀ (α : Type) (ws : List α), (g ws).length = ps.length → ws.length = ks.length) (hrel : ∀ (zs : List V) (ws : List Value), Vals zs ws → Vals (g zs) (g ws))
    (hkw : PK X kws tk) (hall : (backToKw pos (keywordEach kws X.env)).all (·.1.isSome) = true := by rfl) (hks : (backToKw pos (keywordEach kws X.env)).filterMap (·.1) = ks := by rfl)
    (hdb : (x == ("__debug__" : Str)) = false := by decide) (hpl : ((backTo pos (starEach [] X.env)).any (·.1) || (backToKw pos (keywordEach kws X.env)).any (·.1.isNone)) = false := by rfl) :
    PE X (.Call (.Name x p) [] kws pos) (tCallK0 sp g E tk) := by
  obtain ⟨f, fd, gm, F, b, G⟩ := C.ex
  refine ⟨fun pins s σ H Q I h => ?_⟩
  refine wpAny_Call_Name_kw (ld_glob I hg gm ?_ hdb)
  refine PySem.W.callWith_KW0 (h₀ := X.base) I.ok.mod.kin F.kp hall ?_ hpl
  refine thn (hkw.run pos pins s σ H _ I h) fun ws s2 ⟨zs, H2, I2, rz, q2⟩ => ⟨I2.kIn, ?_⟩
  rw [hks]
  have r2 := hrel _ _ rz
  have hl2 : (g ws).length = ps.length := by rw [← r2.length]; exact G.len _ _ _ _ q2
  have bt : BindsTo s2 fd ⟨[], ks.zip ws⟩ (ps.zip (g ws)) := by
    obtain ⟨oc, od, kV, doc, pm, an, cdv, ct, osl, rfl, lk, hcd⟩ := F.ex
    exact .of_eq (hb kV doc pm an cdv ct ws (hl _ ws hl2))
  refine wpAny_call (codeAny_mono (G.run X.A X.stack s2 H2 ⟨[], ks.zip ws⟩ (g ws) (g zs) Q E hr I2.env0 bt r2 q2) fun r s' hq => ?_)
  cases r with
  | error e => exact hx pins σ H2 s2 e s' I2 hq
  | ok fl =>
    cases fl with
    | ret u => exact I2.after hq
    | next => exact False.elim hq
    | brk => exact False.elim hq
    | cont => exact False.elim hq
end
/-! ### defs with defaults -/
section
variable {P : Program} {w : World} {K : PySem.W.Frag} {mg : Str → Option Value} {base : Heap} {CX : CXT}
abbrev FunDs (K : PySem.W.Frag) (x : Str) (st : Stmt) (dvs : List V) (f : Addr) (fd : FuncData) : Prop := FunD K x x (defArgs st) (defBody st) (defScope st) dvs [] f fd
def AtD (K : PySem.W.Frag) (mg : Str → Option Value) (x : Str) (st : Stmt) (dvs : List V) : Prop := ∃ (f : Addr) (fd : FuncData), mg x = some (.ref f) ∧ FunDs K x st dvs f fd
structure CalD (P : Program) (w : World) (K : PySem.W.Frag) (mg : Str → Option Value) (base : Heap) (CX : CXT) (k : Nat) (x : Str) (st : Stmt) (dvs : List V) (ps : List Str) (sp : Sp) : Prop where
  ex : ∃ (f : Addr) (fd : FuncData), mg x = some (.ref f) ∧ FunDs K x st dvs f fd ∧ FnOk P w K mg base CX k f fd ps sp
theorem CalD.mk' {k : Nat} {x : Str} {st : Stmt} {dvs : List V} {ps : List Str} {sp : Sp} (a : AtD K mg x st dvs) (h : ∀ (f : Addr) (fd : FuncData), FunDs K x st dvs f fd → FnOk P w K mg base CX k f fd ps sp) : CalD P w K mg base CX k x st dvs ps sp := by
  obtain ⟨f, fd, g, F⟩ := a
  exact ⟨f, fd, g, F, h f fd F⟩
theorem funD_mk {x : Str} {st : Stmt} {f T : Addr} {oc : Value} {od an : Option Addr} {osl : Array (Option Value)} {kV doc pm cdv ct : Value} {o : Obj} {its : List Value} {n : Nat} {dvs : List V} (l : K.lookup f = some ⟨oc, od, .func (PySem.W.fnOf x x (defArgs st) (defBody st) (defScope st) (.ref T) kV doc pm an cdv ct), osl⟩)
    (c : PySem.W.codeIn K cdv x = true) (k : PySem.W.keepIn K (.ref f) = true) (lT : K.lookup T = some o) (oT : o.data = .seq its.toArray n) (hd : dvs ≠ []) (r : Vals dvs its) :
    FunDs K x st dvs f (PySem.W.fnOf x x (defArgs st) (defBody st) (defScope st) (.ref T) kV doc pm an cdv ct) :=
  ⟨⟨oc, od, .ref T, kV, doc, pm, an, cdv, ct, osl, rfl, l, c, .inr ⟨hd, T, o, its, n, rfl, lT, oT, r⟩, .inl rfl⟩, k⟩
end
section
variable {X : Cx} {CX : CXT} {k : Nat} {st : Stmt} {dvs : List V} {ps : List Str} {sp : Sp} {E : XK} {x : Str} {p pos : Pos} {e : Expr} {es : List Expr} {t : TA}
def BindD (x : Str) (st : Stmt) (ps : List Str) (n m j : Nat) : Prop := ∀ (T : Addr) (kV doc pm : Value) (an : Option Addr) (cdv ct : Value) (us its : List Value), us.length = n → its.length = m →
      ∃ k, bindArgs (PySem.W.fnOf x x (defArgs st) (defBody st) (defScope st) (.ref T) kV doc pm an cdv ct) ⟨us, []⟩ = seqItems? (.ref T) >>= k ∧ k (some its.toArray) = pure (ps.zip (us ++ its.drop j))
/-- f(e, ..), n values written, the defaults from the j-th on taken -/
theorem pe_ownD (n j : Nat) (C : CalD X.prog X.w X.K X.mg X.base CX k x st dvs ps sp) (hd : dvs ≠ []) (hn : n + (dvs.length - j) = ps.length) (hb : BindD x st ps n dvs.length j) (hr : Room k X.A) (hg : Gl X x) (hx : Passes CX X E)
    (ha : PA X (e :: es) t) (hdb : (x == ("__debug__" : Str)) = false := by decide) (he : starEach (e :: es) X.env = (false, eval e X.env) :: starEach es X.env := by rfl) (hpl : (backTo pos (starEach es X.env)).any (·.1) = false := by rfl) :
    PE X (.Call (.Name x p) (e :: es) [] pos) (tCall sp (dvs.drop j) E t) := by
  obtain ⟨f, fd, g, F, G⟩ := C.ex
  obtain ⟨ds, hv, b⟩ := FunD.binds1 (ps := ps) F n j hd hn hb
  exact pe_call G hr hg g F.kp b hv hx ha hdb he hpl
def KBindD (x : Str) (st : Stmt) (ps ks : List Str) (m : Nat) (g : {α : Type} → List α → List α) : Prop := ∀ (T : Addr) (kV doc pm : Value) (an : Option Addr) (cdv ct : Value) (ws its : List Value), ws.length = ks.length → its.length = m →
      ∃ k, bindArgs (PySem.W.fnOf x x (defArgs st) (defBody st) (defScope st) (.ref T) kV doc pm an cdv ct) ⟨[], ks.zip ws⟩ = seqItems? (.ref T) >>= k ∧ k (some its.toArray) = pure (ps.zip (g ws))
/-- f(k = v, ..), all parameters by names -/
theorem pe_ownDK {ks : List Str} {kws : List Keyword} {tk : TA} (g : {α : Type} → List α → List α) (C : CalD X.prog X.w X.K X.mg X.base CX k x st dvs ps sp) (hd : dvs ≠ []) (hr : Room k X.A) (hg : Gl X x) (hx : Passes CX X E)
    (hb : KBindD x st ps ks dvs.length g) (hl : ∀ (α : Type) (ws : List α), (g ws).length = ps.length → ws.length = ks.length) (hrel : ∀ (zs : List V) (ws : List Value), Vals zs ws → Vals (g zs) (g ws))
    (hkw : PK X kws tk) (hall : (backToKw pos (keywordEach kws X.env)).all (·.1.isSome) = true := by rfl) (hks : (backToKw pos (keywordEach kws X.env)).filterMap (·.1) = ks := by rfl)
    (hdb : (x == ("__debug__" : Str)) = false := by decide) (hpl : ((backTo pos (starEach [] X.env)).any (·.1) || (backToKw pos (keywordEach kws X.env)).any (·.1.isNone)) = false := by rfl) :
    PE X (.Call (.Name x p) [] kws pos) (tCallK0 sp g E tk) := by
  obtain ⟨f, fd, gm, F, G⟩ := C.ex
  refine ⟨fun pins s σ H Q I h => ?_⟩
  refine wpAny_Call_Name_kw (ld_glob I hg gm ?_ hdb)
  refine PySem.W.callWith_KW0 (h₀ := X.base) I.ok.mod.kin F.kp hall ?_ hpl
  refine thn (hkw.run pos pins s σ H _ I h) fun ws s2 ⟨zs, H2, I2, rz, q2⟩ => ⟨I2.kIn, ?_⟩
  rw [hks]
  have r2 := hrel _ _ rz
  have hl2 : (g ws).length = ps.length := by rw [← r2.length]; exact G.len _ _ _ _ q2
  have bt : BindsTo s2 fd ⟨[], ks.zip ws⟩ (ps.zip (g ws)) := by
    obtain ⟨oc, od, dV, kV, doc, pm, an, cdv, ct, osl, rfl, lk, hcd, hD, hK⟩ := F.ex
    rcases hD with ⟨e, _⟩ | ⟨_, T, o, its, m, rfl, lT, oT, rT⟩
    · exact absurd e hd
    · obtain ⟨k, e1, e2⟩ := hb T kV doc pm an cdv ct ws its (hl _ ws hl2) rT.length.symm
      refine BindsTo.of_looks fun M => ?_
      rw [e1]
      exact looks_items I2.kIn lT oT (.of_pure e2)
  refine wpAny_call (codeAny_mono (G.run X.A X.stack s2 H2 ⟨[], ks.zip ws⟩ (g ws) (g zs) Q E hr I2.env0 bt r2 q2) fun r s' hq => ?_)
  cases r with
  | error e => exact hx pins σ H2 s2 e s' I2 hq
  | ok fl =>
    cases fl with
    | ret u => exact I2.after hq
    | next => exact False.elim hq
    | brk => exact False.elim hq
    | cont => exact False.elim hq
/-- what a for walks: one of two -/
theorem PI.or {tg iter : Expr} {w1 w2 : TI} (h1 : PI X tg iter w1) (h2 : PI X tg iter w2) : PI X tg iter (fun σ H R => w1 σ H R ∨ w2 σ H R) :=
  ⟨fun pins s σ H R I h => h.elim (h1.run pins s σ H R I) (h2.run pins s σ H R I)⟩
/-- // by any great number but 0 -/
def CDivZ (_ j : Int) : Prop := j ≠ 0 ∧ j.natAbs.log2 < 9000
theorem op_fdivZ : OpR X (binaryOp .FloorDiv) (rI CDivZ fun i j => .int (i.fdiv j)) := opI fun i j _ _ _ _ _ hc q =>
  floordiv_int hc.1 q (.inl (PyProof.noPylong_of_log2 hc.2))

/-- list + list, written, locked or tracked -/
def rCatL (K : PySem.W.Frag) : R2 := fun x y H Q => ∃ l b xs zs, x = .ref l ∧ y = .ref b ∧ SqL K H l xs ∧ SqL K H b zs ∧ xs.length + zs.length ≤ sizeLine ∧ ∀ p, H p = none → Q (.ref p) (upd H p (.lst (xs ++ zs)))
theorem op_catL : OpR X (binaryOp .Add) (rCatL X.K) := by
  intro pins s σ H x y v u Q I rx ry h
  obtain ⟨l, b, xs, zs, rfl, rfl, hH, hB, hz, q⟩ := h
  cases rx
  cases ry
  obtain ⟨its, r, ⟨⟨cls, dd, data, sl⟩, n, ho, hc, hd, hs⟩, hl⟩ := I.list hH
  obtain ⟨its2, r2, ⟨⟨cls2, dd2, data2, sl2⟩, n2, ho2, hc2, hd2, hs2⟩, hl2⟩ := I.list hB
  simp only at hc hd hs hc2 hd2 hs2
  subst hc hd hs hc2 hd2 hs2
  have e : its.toArray ++ its2.toArray = (its ++ its2).toArray := by simp
  have l1 := r.length
  have l2 := r2.length
  refine concat_meets ⟨_, ho, rfl⟩ ⟨_, ho2, rfl⟩ noFill_list_add seq_list_add PySem.F.slot_list_add PySem.F.entry_list_add (PySem.F.args_list_add_2 _ _) (list_addW l b its.toArray its2.toArray n n2 none none sl sl2 (by simp only [List.size_toArray]; omega)) ⟨ho, ho2, ?_⟩
  rw [e]
  exact ⟨.ref _, _, I.lnew (t' := s.toks) (r.append r2) (by rw [List.length_append]; omega), rfl, q _ I.fresh⟩
end
/-! ### heaps -/
/-- all but what stands at l is as it was -/
def Ch (l : Addr) (H H' : Hp) : Prop := ∀ b o, b ≠ l → H b = some o → H' b = some o
theorem Ch.refl (l : Addr) (H : Hp) : Ch l H H := fun _ _ _ h => h
theorem Ch.trans {l : Addr} {H H1 H2 : Hp} (a : Ch l H H1) (b : Ch l H1 H2) : Ch l H H2 := fun c o n h => b c o n (a c o n h)
theorem Same.ch {l : Addr} {H H' : Hp} (e : Same H H') : Ch l H H' := fun b o _ h => e b o h
theorem same_new {H : Hp} {p : Addr} {o : HO} (h : H p = none) : Same H (upd H p o) := fun b u q => by rw [upd_ne (ne_of_none q h)]; exact q
theorem Ch.new {l : Addr} {H H' : Hp} {p : Addr} {o : HO} (e : Ch l H H') (h : H' p = none) : Ch l H (upd H' p o) := e.trans (Same.ch (same_new h))
theorem Ch.tr1 {l : Addr} {H H1 H2 : Hp} (b : Ch l H1 H2) (a : Ch l H H1) : Ch l H H2 := a.trans b
theorem Ch.tr2 {l : Addr} {H H1 H2 : Hp} (b : Same H1 H2) (a : Ch l H H1) : Ch l H H2 := a.trans (Same.ch b)
theorem Same.tr1 {H H1 H2 : Hp} (b : Same H1 H2) (a : Same H H1) : Same H H2 := a.trans b
theorem Ch.at {l : Addr} {H H' : Hp} {o : HO} (e : Ch l H H') : Ch l H (upd H' l o) := e.trans fun b u n q => by rw [upd_ne n]; exact q
/-- a new thing may change -/
theorem Ch.own {l : Addr} {H0 H H' : Hp} (e : Same H0 H) (n : H0 l = none) (c : Ch l H H') : Same H0 H' := fun b o q => c b o (ne_of_none q n) (e b o q)
theorem Ch.get {l p : Addr} {H H' : Hp} {o : HO} (c : Ch l H H') (h : H p = some o) (n : p ≠ l) : H' p = some o := c p o n h
theorem ne_new {H : Hp} {p q : Addr} {o : HO} (h : H q = some o) (n : H p = none) : q ≠ p := ne_of_none h n
theorem Same.none' {H H' : Hp} {p : Addr} (e : Same H H') (h : H' p = none) : H p = none := e.free h
theorem Ch.free {l p : Addr} {H H' : Hp} {o : HO} (e : Ch l H H') (hl : H' l = some o) (h : H' p = none) : H p = none := by
  cases q : H p with
  | none => rfl
  | some u =>
    by_cases n : p = l
    · subst n
      rw [h] at hl
      cases hl
    · rw [e p u n q] at h
      cases h
/-- a well: a list of three whole numbers, the middle one small -/
structure Wl (H : Hp) (l : Addr) : Prop where
  ex : ∃ a b z : Int, H l = some (.lst [.int a, .int b, .int z]) ∧ 0 ≤ b ∧ b < 2147483647
theorem Wl.same {H H' : Hp} {l : Addr} (e : Same H H') (h : Wl H l) : Wl H' l := by
  obtain ⟨a, b, z, q, r⟩ := h.ex
  exact ⟨a, b, z, e _ _ q, r⟩
theorem Wl.new {H : Hp} {l p : Addr} {o : HO} (h : Wl H l) (n : H p = none) : Wl (upd H p o) l := h.same (same_new n)
theorem Wl.get {H : Hp} {l : Addr} (h : Wl H l) : ∃ o, H l = some o := by
  obtain ⟨a, b, z, q, _⟩ := h.ex
  exact ⟨_, q⟩
theorem Wl.ne {H : Hp} {l p : Addr} (h : Wl H l) (n : H p = none) : l ≠ p := by
  obtain ⟨o, q⟩ := h.get
  exact ne_of_none q n
theorem ne_wl {H : Hp} {l p : Addr} (n : H p = none) (h : Wl H l) : p ≠ l := (h.ne n).symm
theorem SqL.of' {K : PySem.W.Frag} {H : Hp} {a : Addr} {xs : List V} (h : H a = some (.lst xs)) : SqL K H a xs := .inl (.inl h)
theorem SqT.of' {K : PySem.W.Frag} {H : Hp} {a : Addr} {xs : List V} (h : H a = some (.tup xs)) : SqT K H a xs := .inl (.inl h)
theorem Ch.seq {K : PySem.W.Frag} {l : Addr} {H H' : Hp} {a : Addr} {xs ys : List V} (e : Ch l H H') (hl : H l = some (.lst ys)) (hn : H a = none ∨ a ≠ l) (h : SqL K H a xs) : SqL K H' a xs := by
  have n : a ≠ l ∨ H a = none := by rcases hn with h | h; exact .inr h; exact .inl h
  rcases h with (h | ⟨o, h⟩) | h
  · rcases n with n | n
    · exact .inl (.inl (e _ _ n h))
    · rw [n] at h; cases h
  · rcases n with n | n
    · exact .inl (.inr ⟨o, e _ _ n h⟩)
    · rw [n] at h; cases h
  · exact .inr h
/-! ### new objects: the heap behind is told by what stands there -/
def New (H : Hp) (o : HO) (R : V → Hp → Prop) : Prop := ∀ p G, H p = none → Same H G → G p = some o → R (.ref p) G
theorem New.go {H : Hp} {o : HO} {R : V → Hp → Prop} (h : New H o R) : ∀ p, H p = none → R (.ref p) (upd H p o) := fun p hp => h p _ hp (same_new hp) upd_same
theorem New.intro {H : Hp} {o : HO} {R : V → Hp → Prop} (h : ∀ p G, H p = none → Same H G → G p = some o → R (.ref p) G) : New H o R := h
theorem sm_get {H G : Hp} {p : Addr} {o : HO} (e : Same H G) (h : H p = some o) : G p = some o := e _ _ h
theorem new_two {H : Hp} {p : Addr} {o o' : HO} {R : Hp → Prop} (hp : H p = none) (h : ∀ G, Same H G → G p = some o' → R G) : R (upd (upd H p o) p o') := h _ (fun b u q => by rw [upd_ne (ne_of_none q hp), upd_ne (ne_of_none q hp)]; exact q) upd_same
theorem pe_weak {X : Cx} {e : Expr} {t t' : TE} (h : PE X e t) (w : ∀ σ H Q, t' σ H Q → t σ H Q) : PE X e t' := ⟨fun pins s σ H Q I q => h.run pins s σ H Q I (w σ H Q q)⟩
theorem op_weak {X : Cx} {f : Value → Value → Sem Value} {r r' : R2} (h : OpR X f r) (w : ∀ x y H Q, r' x y H Q → r x y H Q) : OpR X f r' := fun pins s σ H x y v u Q I rx ry q => h pins s σ H x y v u Q I rx ry (w x y H Q q)
theorem call_weak {X : Cx} {f : Value} {r r' : List V → Hp → VK → Prop} (h : CallR X f r) (w : ∀ xs H Q, r' xs H Q → r xs H Q) : CallR X f r' := fun pins s σ H xs us Q I rs q => h pins s σ H xs us Q I rs (w xs H Q q)
theorem sl_weak {X : Cx} {r r' : V → Option Int → Option Int → Hp → VK → Prop} (h : SlR X r) (w : ∀ x lo hi H Q, r' x lo hi H Q → r x lo hi H Q) : SlR X r' := fun pins s σ H x v vl vu lo hi sl Q I rx hs pl pu q => h pins s σ H x v vl vu lo hi sl Q I rx hs pl pu (w x lo hi H Q q)
section
variable {X : Cx}
def nLst (t : TA) : TE := fun σ H Q => t σ H fun xs H1 => xs.length ≤ sizeLine ∧ New H1 (.lst xs) Q
def nTup (t : TA) : TE := fun σ H Q => t σ H fun xs H1 => xs.length ≤ sizeLine ∧ New H1 (.tup xs) Q
theorem n_tup {es : List Expr} {t : TA} {pos : Pos} {x1} (h : PA X es t) : PE X (.Tuple es x1 pos) (nTup t) := by
  refine ⟨fun pins s σ H Q I hq => ?_⟩
  refine wpAny_Tuple_spliced (thn (h.run pos pins s σ H _ I hq) fun us s1 ⟨xs, H1, I1, r, z, q⟩ => ⟨by rw [← r.length]; exact z, ?_⟩)
  have hf : H1 s1.heap.objs.size = none := I1.hok.fresh (Nat.le_refl _)
  refine ⟨.ref s1.heap.objs.size, upd H1 s1.heap.objs.size (.tup xs), I1.laid (t' := s1.toks) (fun b u e => Heap.get?_push_of_some _ e) (Nat.le_refl _) ?_, rfl, q.go _ hf⟩
  exact ⟨z, us, r, ⟨_, Heap.get?_push_size _ rfl, rfl, _, rfl⟩⟩
theorem n_lst {es : List Expr} {t : TA} {pos : Pos} (h : PA X es t) : PE X (.List es pos) (nLst t) := by
  refine ⟨fun pins s σ H Q I hq => ?_⟩
  refine wpAny_List_spliced (thn (h.run pos pins s σ H _ I hq) fun us s1 ⟨xs, H1, I1, r, z, q⟩ => ⟨by rw [← r.length]; exact z, ?_⟩)
  have hf : H1 s1.heap.objs.size = none := I1.hok.fresh (Nat.le_refl _)
  refine ⟨.ref s1.heap.objs.size, upd H1 s1.heap.objs.size (.lst xs), I1.laid (t' := s1.toks) (fun b u e => Heap.get?_push_of_some _ e) (Nat.le_refl _) ?_, rfl, q.go _ hf⟩
  exact ⟨z, us, 0, r, Heap.get?_push_size _ rfl⟩
def nDict : TE := fun _ H Q => New H (.dK []) Q
theorem n_dict {pos : Pos} : PE X (.Dict [] [] pos) nDict := pe_weak pe_dnewK fun _ _ _ q => q.go
/-! ### operators by any of their kinds -/
def rStrs : R2 := fun x y H Q => ∃ i j, x = .str i ∧ y = .str j ∧ i.length + j.length ≤ sizeLine ∧ Q (.str (i ++ j)) H
def nCat (K : PySem.W.Frag) : R2 := fun x y H Q => ∃ l b xs zs, x = .ref l ∧ y = .ref b ∧ SqL K H l xs ∧ SqL K H b zs ∧ xs.length + zs.length ≤ sizeLine ∧ New H (.lst (xs ++ zs)) Q
theorem n_cat : OpR X (binaryOp .Add) (nCat X.K) := op_weak op_catL fun _ _ _ _ ⟨l, b, xs, zs, h1, h2, h3, h4, h5, q⟩ => ⟨l, b, xs, zs, h1, h2, h3, h4, h5, q.go⟩
def nCatT (K : PySem.W.Frag) : R2 := fun x y H Q => ∃ a b xs ys, x = .ref a ∧ y = .ref b ∧ SqT K H a xs ∧ SqT K H b ys ∧ xs.length + ys.length ≤ sizeLine ∧
  (xs = [] → Q (.ref b) H) ∧ (xs ≠ [] → ys = [] → Q (.ref a) H) ∧ (xs ≠ [] → ys ≠ [] → New H (.tup (xs ++ ys)) Q)
theorem n_catT : OpR X (binaryOp .Add) (nCatT X.K) := op_weak op_catA fun _ _ _ _ ⟨l, b, xs, zs, h1, h2, h3, h4, h5, q0, q1, q⟩ => ⟨l, b, xs, zs, h1, h2, h3, h4, h5, q0, q1, fun a b => (q a b).go⟩
def rPlus (K : PySem.W.Frag) : R2 := fun x y H Q => (rI0 fun i j => .int (i + j)) x y H Q ∨ (nCat K x y H Q ∨ (nCatT K x y H Q ∨ rStrs x y H Q))
theorem o_add : OpR X (binaryOp .Add) (rPlus X.K) := op_add.or (n_cat.or (n_catT.or op_add_str))
def nRep : R2 := fun x y H Q => ∃ l k xs, x = .ref l ∧ y = .int k ∧ H l = some (.lst xs) ∧ -(2 ^ 63) ≤ k ∧ k < 2 ^ 63 ∧ xs.length * k.toNat ≤ sizeLine ∧ New H (.lst (List.replicate k.toNat xs).flatten) Q
theorem n_rep : OpR X (binaryOp .Mult) nRep := op_weak op_rep fun _ _ _ _ ⟨l, k, xs, h1, h2, h3, h4, h5, h6, q⟩ => ⟨l, k, xs, h1, h2, h3, h4, h5, h6, q.go⟩
def nRepT (K : PySem.W.Frag) : R2 := fun x y H Q => ∃ l k xs, x = .ref l ∧ y = .int k ∧ SqT K H l xs ∧ xs ≠ [] ∧ 2 ≤ k ∧ k ≤ 1000 ∧ xs.length ≤ 1000 ∧ New H (.tup (List.replicate k.toNat xs).flatten) Q
theorem n_repT : OpR X (binaryOp .Mult) (nRepT X.K) := op_weak op_repT fun _ _ _ _ ⟨l, k, xs, h1, h2, h3, h4, h5, h6, h7, q⟩ => ⟨l, k, xs, h1, h2, h3, h4, h5, h6, h7, q.go⟩
def rMul (K : PySem.W.Frag) : R2 := fun x y H Q => (rI CMul fun i j => .int (i * j)) x y H Q ∨ ((rI CMulX fun i j => .int (i * j)) x y H Q ∨ (nRep x y H Q ∨ nRepT K x y H Q))
theorem o_mul : OpR X (binaryOp .Mult) (rMul X.K) := op_mul.or (op_mulX.or (n_rep.or n_repT))
def rFdv : R2 := fun x y H Q => (rI CDiv fun i j => .int (i / j)) x y H Q ∨ (rI CDivZ fun i j => .int (i.fdiv j)) x y H Q
theorem o_fdv : OpR X (binaryOp .FloorDiv) rFdv := op_fdiv.or op_fdivZ
def rMod : R2 := rI (fun _ j => 0 < j) fun i j => .int (i % j)
theorem o_mod : OpR X (binaryOp .Mod) rMod := op_mod
def rPow : R2 := rI CPow fun i j => .int (i ^ j.toNat)
theorem o_pow : OpR X (binaryOp .Pow) rPow := op_pow
def rSubt : R2 := rI0 fun i j => .int (i - j)
theorem o_sub : OpR X (binaryOp .Sub) rSubt := op_sub
def rEqq (K : PySem.W.Frag) : R2 := fun x y H Q => rEq x y H Q ∨ rEqD K x y H Q
theorem o_eq (hu : X.A.units + 64 < cLine) : OpR X (compareOp .Eq) (rEqq X.K) := op_eq.or (op_eqD hu)
def rNee (K : PySem.W.Frag) : R2 := fun x y H Q => rNe x y H Q ∨ rNeD K x y H Q
theorem o_ne (hu : X.A.units + 64 < cLine) : OpR X (compareOp .NotEq) (rNee X.K) := op_ne.or (op_neD hu)
def rIss : R2 := fun x y H Q => (y = .non ∧ Q (.bl (decide (x = .non))) H) ∨ rIsB x y H Q
theorem o_is : OpR X (compareOp .Is) rIss := op_isN.or op_isBl
def rIsn : R2 := fun x y H Q => (y = .non ∧ Q (.bl (!decide (x = .non))) H) ∨ rNotB x y H Q
theorem o_isn : OpR X (compareOp .IsNot) rIsn := op_notN.or op_notBl
def rIst (K : PySem.W.Frag) : List V → Hp → VK → Prop := fun xs H Q => rIsi K xs H Q ∨ rIsiT K xs H Q
theorem c_isinst : CallR X (.builtin "isinstance") (rIst X.K) := call_isi.or call_isiT
def nSlL (K : PySem.W.Frag) : V → Option Int → Option Int → Hp → VK → Prop := fun x lo hi H Q => ∃ a xs, x = .ref a ∧ SqL K H a xs ∧ New H (.lst (cutV xs lo hi)) Q
theorem n_slL : SlR X (nSlL X.K) := sl_weak sl_list fun _ _ _ _ _ ⟨a, xs, h1, h2, q⟩ => ⟨a, xs, h1, h2, q.go⟩
def nSlT (K : PySem.W.Frag) : V → Option Int → Option Int → Hp → VK → Prop := fun x lo hi H Q => ∃ a xs, x = .ref a ∧ SqT K H a xs ∧
  (HT.sIx xs.length 0 lo = 0 ∧ HT.sIx xs.length xs.length hi = xs.length → Q (.ref a) H) ∧ (¬ (HT.sIx xs.length 0 lo = 0 ∧ HT.sIx xs.length xs.length hi = xs.length) → New H (.tup (cutV xs lo hi)) Q)
theorem n_slT : SlR X (nSlT X.K) := sl_weak sl_tupA fun _ _ _ _ _ ⟨a, xs, h1, h2, q0, q⟩ => ⟨a, xs, h1, h2, q0, fun z => (q z).go⟩
def rSlc (K : PySem.W.Frag) : V → Option Int → Option Int → Hp → VK → Prop := fun x lo hi H Q => nSlL K x lo hi H Q ∨ (nSlT K x lo hi H Q ∨ rSlS x lo hi H Q)
theorem s_any : SlR X (rSlc X.K) := n_slL.or (n_slT.or sl_str)
def nDivm : List V → Hp → VK → Prop := fun xs H Q => ∃ i j, xs = [.int i, .int j] ∧ CDiv i j ∧ New H (.tup [.int (i / j), .int (i % j)]) Q
theorem c_divmod : CallR X (.builtin "divmod") nDivm := call_weak call_divmod fun _ _ _ ⟨i, j, h1, h2, q⟩ => ⟨i, j, h1, h2, q.go⟩
def nList (K : PySem.W.Frag) : List V → Hp → VK → Prop := fun xs H Q => ∃ p ys, xs = [.ref p] ∧ (SqL K H p ys ∨ SqT K H p ys) ∧ New H (.lst ys) Q
theorem c_list : CallR X (.type "list") (nList X.K) := call_weak call_list_of fun _ _ _ ⟨i, j, h1, h2, q⟩ => ⟨i, j, h1, h2, q.go⟩
def nTuple (K : PySem.W.Frag) : List V → Hp → VK → Prop := fun xs H Q => ∃ p ys, xs = [.ref p] ∧ ((SqL K H p ys ∧ New H (.tup ys) Q) ∨ (SqT K H p ys ∧ Q (.ref p) H))
theorem c_tuple : CallR X (.type "tuple") (nTuple X.K) := call_weak call_tuple_of fun _ _ _ ⟨i, j, h1, h2⟩ => ⟨i, j, h1, h2.imp (fun ⟨a, q⟩ => ⟨a, q.go⟩) id⟩
def iSeq (K : PySem.W.Frag) (tl : TE) : TI := fun σ H R => iList K tl σ H R ∨ iTup K tl σ H R
theorem pi_seq {tg l : Expr} {tl : TE} (h : PE X l tl) : PI X tg l (iSeq X.K tl) := PI.or (pi_list h) (pi_tup h)
end
theorem asg_val {te : TE} {g : TG} {D : Ends} {σ : L2.St} {H : Hp} (v : V) (h : ∀ R : VK, R v H → te σ H R) (q : g v σ H D.nx) : tAsg te g D σ H := h _ q
theorem seq_val {te : TE} {g : TG} {u : TS} {D : Ends} {σ : L2.St} {H : Hp} (v : V) (h : ∀ R : VK, R v H → te σ H R) (q : g v σ H (u D)) : tSeq (tAsg te g) u D σ H := h _ q
theorem cutV_int {ns : List Int} {lo hi : Option Int} {i : Nat} {x : V} (h : (cutV (ns.map V.int) lo hi)[i]? = some x) : ∃ c : Int, x = .int c := by
  unfold cutV at h
  rw [List.getElem?_take] at h
  split at h
  · rw [List.getElem?_drop, List.getElem?_map] at h
    cases e : ns[HT.sIx (ns.map V.int).length 0 lo + i]? with
    | none => rw [e] at h; cases h
    | some c =>
      rw [e] at h
      exact ⟨c, (Option.some.inj h).symm⟩
  · cases h
/-- what a law promises -/
def spLaw (K : PySem.W.Frag) : Sp := fun vs H Q _ => ∃ (a : Addr) (ns : List Int), vs = [.ref a] ∧ SqL K H a (ns.map V.int) ∧ ns.length ≤ 63 ∧ ∀ H', Q (.bl true) H'
/-! ### what is no whole number -/
def bV : Option Int → V
  | none => .non
  | some i => .int i
def inB (lo hi : Option Int) (n : Int) : Bool := (match lo with | none => true | some i => decide (i ≤ n)) && (match hi with | none => true | some i => decide (n ≤ i))
def Odd (K : PySem.W.Frag) (H : Hp) (x : V) : Prop := ∃ s : String, TyX K H x (.type s) ∧ ((kitB s "bool" = some true) ∨ (kitB s "bool" = some false ∧ kitB s "int" = some false))
def spWhole (K : PySem.W.Frag) : Sp := fun vs H Q _ => ∃ (x : V) (lo hi : Option Int), vs = [x, bV lo, bV hi] ∧ ((∃ n, x = .int n ∧ Q (.bl (inB lo hi n)) H) ∨ (Odd K H x ∧ Q (.bl false) H))
def spWell (K : PySem.W.Frag) : Sp := fun vs H Q _ => ∃ (c : Int), vs = [.int c] ∧ ∀ H' p, Same H H' → H p = none → Wl H' p → Q (.ref p) H'
def spDraw (K : PySem.W.Frag) : Sp := fun vs H Q _ => ∃ (l : Addr) (m : Int), vs = [.ref l, .int m] ∧ Wl H l ∧ 0 < m ∧ m < 1073741824 ∧ ∀ H' r, Ch l H H' → Wl H' l → 0 ≤ r → r < m → Q (.int r) H'
def spNumber (K : PySem.W.Frag) : Sp := fun vs H Q _ => ∃ (l : Addr) (m : Int), vs = [.ref l, .int m] ∧ Wl H l ∧ 0 ≤ m ∧ m < 10 ^ 60 ∧ ∀ H' (n : Int), Ch l H H' → Wl H' l → n.natAbs < 10 ^ 60 → Q (.int n) H'
theorem lvL {X : Cx} {x : Str} (h : X.env.scope.names.lookup x = some .local) : Loc X.env.scope x := .inl h
/-! ### fractions -/
def gcI (a b : Int) : Int := ((Nat.gcd a.natAbs b.natAbs : Nat) : Int)
def frC (t b : Int) : Int := if b < 0 then -gcI t b else gcI t b
def frT (t b : Int) : Int := t.fdiv (frC t b)
def frB (t b : Int) : Int := b.fdiv (frC t b)
theorem gcI_pos {t b : Int} (h : b ≠ 0) : 0 < gcI t b := by
  unfold gcI
  have : 0 < Nat.gcd t.natAbs b.natAbs := Nat.gcd_pos_of_pos_right _ (by omega)
  omega
theorem gcI_dl (t b : Int) : gcI t b ∣ t := Int.natAbs_dvd_natAbs.mp (by unfold gcI; rw [Int.natAbs_natCast]; exact Nat.gcd_dvd_left _ _)
theorem gcI_dr (t b : Int) : gcI t b ∣ b := Int.natAbs_dvd_natAbs.mp (by unfold gcI; rw [Int.natAbs_natCast]; exact Nat.gcd_dvd_right _ _)
theorem frC_ne {t b : Int} (h : b ≠ 0) : frC t b ≠ 0 := by
  have := gcI_pos (t := t) h
  unfold frC
  split <;> omega
theorem frC_abs (t b : Int) : (frC t b).natAbs = Nat.gcd t.natAbs b.natAbs := by
  unfold frC gcI
  split <;> omega
theorem frC_le {t b : Int} (h : b ≠ 0) : (frC t b).natAbs ≤ b.natAbs := by
  rw [frC_abs]
  exact Nat.le_of_dvd (by omega) (Nat.gcd_dvd_right _ _)
theorem fr_parts {t b : Int} (h : b ≠ 0) : t = frC t b * frT t b ∧ b = frC t b * frB t b := by
  have h0 := frC_ne (t := t) h
  have d1 : frC t b ∣ t := by unfold frC; split; exact Int.neg_dvd.mpr (gcI_dl t b); exact gcI_dl t b
  have d2 : frC t b ∣ b := by unfold frC; split; exact Int.neg_dvd.mpr (gcI_dr t b); exact gcI_dr t b
  obtain ⟨k, hk⟩ := d1
  obtain ⟨l, hl⟩ := d2
  constructor
  · unfold frT
    have e : t.fdiv (frC t b) = k := by
      conv => lhs; arg 1; rw [hk]
      exact Int.mul_fdiv_cancel_left _ h0
    rw [e]
    exact hk
  · unfold frB
    have e : b.fdiv (frC t b) = l := by
      conv => lhs; arg 1; rw [hl]
      exact Int.mul_fdiv_cancel_left _ h0
    rw [e]
    exact hl
theorem frB_pos {t b : Int} (h : b ≠ 0) : 0 < frB t b := by
  have h0 := gcI_pos (t := t) h
  have e := (fr_parts (t := t) h).2
  have hc : frC t b = if b < 0 then -gcI t b else gcI t b := rfl
  generalize frB t b = l at *
  generalize frC t b = c at *
  split at hc
  · have hc0 : c < 0 := by omega
    rcases Int.lt_trichotomy l 0 with hl | hl | hl
    · have := Int.mul_pos_of_neg_of_neg hc0 hl
      omega
    · subst hl
      omega
    · exact hl
  · have hc0 : 0 < c := by omega
    rcases Int.lt_trichotomy l 0 with hl | hl | hl
    · have := Int.mul_neg_of_pos_of_neg hc0 hl
      omega
    · subst hl
      omega
    · exact hl
theorem fr_one {t b : Int} (h : b ≠ 0) : gcI (frT t b) (frB t b) = 1 := by
  obtain ⟨e1, e2⟩ := fr_parts (t := t) h
  have ha := frC_abs t b
  have hp : 0 < Nat.gcd t.natAbs b.natAbs := Nat.gcd_pos_of_pos_right _ (by omega)
  have n1 : t.natAbs = (frC t b).natAbs * (frT t b).natAbs := by
    conv => lhs; rw [e1]
    exact Int.natAbs_mul _ _
  have n2 : b.natAbs = (frC t b).natAbs * (frB t b).natAbs := by
    conv => lhs; rw [e2]
    exact Int.natAbs_mul _ _
  have q : Nat.gcd t.natAbs b.natAbs = Nat.gcd t.natAbs b.natAbs * Nat.gcd (frT t b).natAbs (frB t b).natAbs := by
    conv => lhs; rw [n1, n2, Nat.gcd_mul_left, ha]
  unfold gcI
  have : Nat.gcd (frT t b).natAbs (frB t b).natAbs = 1 := by
    have q2 : Nat.gcd t.natAbs b.natAbs * 1 = Nat.gcd t.natAbs b.natAbs * Nat.gcd (frT t b).natAbs (frB t b).natAbs := by rw [Nat.mul_one]; exact q
    exact (Nat.eq_of_mul_eq_mul_left hp q2).symm
  rw [this]
  rfl
theorem fr_cross {t b : Int} (h : b ≠ 0) : frT t b * b = t * frB t b := by
  obtain ⟨e1, e2⟩ := fr_parts (t := t) h
  generalize frT t b = T at *
  generalize frB t b = B at *
  generalize frC t b = C at *
  subst e1
  subst e2
  rw [← Int.mul_assoc, Int.mul_comm T C]
/-- two fractions in lowest terms of one worth are one -/
theorem low_unique {t b u d : Int} (hb : 0 < b) (hd : 0 < d) (h1 : gcI t b = 1) (h2 : gcI u d = 1) (e : t * d = u * b) : t = u ∧ b = d := by
  have g1 : Nat.gcd t.natAbs b.natAbs = 1 := by unfold gcI at h1; omega
  have g2 : Nat.gcd u.natAbs d.natAbs = 1 := by unfold gcI at h2; omega
  have en : t.natAbs * d.natAbs = u.natAbs * b.natAbs := by rw [← Int.natAbs_mul, ← Int.natAbs_mul, e]
  have d1 : b.natAbs ∣ d.natAbs := (Nat.Coprime.dvd_of_dvd_mul_left (k := b.natAbs) (m := t.natAbs) (n := d.natAbs) (by rw [Nat.Coprime, Nat.gcd_comm]; exact g1) ⟨u.natAbs, by rw [en, Nat.mul_comm]⟩)
  have d2 : d.natAbs ∣ b.natAbs := (Nat.Coprime.dvd_of_dvd_mul_left (k := d.natAbs) (m := u.natAbs) (n := b.natAbs) (by rw [Nat.Coprime, Nat.gcd_comm]; exact g2) ⟨t.natAbs, by rw [← en, Nat.mul_comm]⟩)
  have eb : b.natAbs = d.natAbs := Nat.dvd_antisymm d1 d2
  have eb' : b = d := by omega
  subst eb'
  exact ⟨Int.eq_of_mul_eq_mul_right (by omega) e, rfl⟩
theorem fr_self {t b : Int} (hb : 0 < b) (h : gcI t b = 1) : frT t b = t ∧ frB t b = b :=
  low_unique (frB_pos (by omega)) hb (fr_one (by omega)) h (fr_cross (by omega))
theorem gcI_oneR (t : Int) : gcI t 1 = 1 := by
  unfold gcI
  rw [show (1 : Int).natAbs = 1 from rfl, Nat.gcd_one_right]
  rfl
/-- not too great for a product or a share -/
def small (b : Int) : Prop := b.natAbs < 2 ^ 8000
theorem small_mul {i j : Int} (h : small i) (k : small j) : CMulX i j := mulx_ok h k (by decide)
theorem small_le {n m : Int} (h : n.natAbs ≤ m.natAbs) (k : small m) : small n := Nat.lt_of_le_of_lt h k
theorem small_lt {n : Int} {k : Nat} (h : n.natAbs < k) (hk : k ≤ 2 ^ 8000 := by decide) : small n := Nat.lt_of_lt_of_le h hk
theorem small_frC {t b : Int} (h : b ≠ 0) (hs : small b) : CDivZ t (frC t b) := ⟨frC_ne h, Nat.lt_of_lt_of_le (PySem.Flt.log2_lt_of (k := 8000) (by decide) (Nat.lt_of_le_of_lt (frC_le h) hs)) (by decide)⟩
theorem frT_le {t b : Int} (h : b ≠ 0) : (frT t b).natAbs ≤ t.natAbs := by
  have e := (fr_parts (t := t) h).1
  have h0 := frC_ne (t := t) h
  have : t.natAbs = (frC t b).natAbs * (frT t b).natAbs := by
    conv => lhs; rw [e]
    exact Int.natAbs_mul _ _
  rw [this]
  exact Nat.le_mul_of_pos_left _ (by omega)
theorem frB_le {t b : Int} (h : b ≠ 0) : (frB t b).natAbs ≤ b.natAbs := by
  have e := (fr_parts (t := t) h).2
  have h0 := frC_ne (t := t) h
  have : b.natAbs = (frC t b).natAbs * (frB t b).natAbs := by
    conv => lhs; rw [e]
    exact Int.natAbs_mul _ _
  rw [this]
  exact Nat.le_mul_of_pos_left _ (by omega)
/-- a size in bits -/
def sz (k : Nat) (n : Int) : Prop := n.natAbs < 2 ^ k
theorem sz_mono {j k : Nat} {n : Int} (h : sz j n) (e : j ≤ k) : sz k n := Nat.lt_of_lt_of_le h (Nat.pow_le_pow_right (by decide) e)
theorem sz_mul {j k : Nat} {n m : Int} (h : sz j n) (e : sz k m) : sz (j + k) (n * m) := by
  unfold sz
  rw [Int.natAbs_mul, Nat.pow_add]
  exact Nat.mul_lt_mul'' h e
theorem sz_add {j k : Nat} {n m : Int} (h : sz j n) (e : sz k m) : sz (j + k + 1) (n + m) := by
  have h1 := sz_mono h (show j ≤ j + k by omega)
  have h2 := sz_mono e (show k ≤ j + k by omega)
  unfold sz at *
  have := Int.natAbs_add_le n m
  rw [Nat.pow_succ]
  omega
theorem sz_neg {j : Nat} {n : Int} (h : sz j n) : sz j (-n) := by
  unfold sz at *
  rw [Int.natAbs_neg]
  exact h
theorem sz_sub {j k : Nat} {n m : Int} (h : sz j n) (e : sz k m) : sz (j + k + 1) (n - m) := by
  rw [Int.sub_eq_add_neg]
  exact sz_add h (sz_neg e)
theorem sz_le {k : Nat} {n m : Int} (h : n.natAbs ≤ m.natAbs) (e : sz k m) : sz k n := Nat.lt_of_le_of_lt h e
theorem sz_mulx {j k : Nat} {n m : Int} (h : sz j n) (e : sz k m) (l : j + k ≤ 134217728) : CMulX n m := mulx_ok h e l
theorem sz_small {k : Nat} {n : Int} (h : sz k n) (l : k ≤ 8000) : small n := sz_mono h l
theorem sz_lit {k : Nat} {n : Int} (h : n.natAbs < 2 ^ k := by decide) : sz k n := h
/-! ### a fraction, and what it is worth -/
def IsFr (a b : Int) : Prop := 0 < b ∧ gcI a b = 1
def Wth (a b n d : Int) : Prop := IsFr a b ∧ d ≠ 0 ∧ a * d = n * b
theorem wth_unique {a b n d a' b' n' d' : Int} (h : Wth a b n d) (h' : Wth a' b' n' d') (e : n * d' = n' * d) : a = a' ∧ b = b' := by
  obtain ⟨⟨h1, h2⟩, h3, h4⟩ := h
  obtain ⟨⟨k1, k2⟩, k3, k4⟩ := h'
  refine low_unique h1 k1 h2 k2 ?_
  have z : d * d' ≠ 0 := Int.mul_ne_zero h3 k3
  refine Int.eq_of_mul_eq_mul_right z ?_
  grind
theorem wth_fr {n d : Int} (h : d ≠ 0) : Wth (frT n d) (frB n d) n d := ⟨⟨frB_pos h, fr_one h⟩, h, fr_cross h⟩
theorem wth_self {a b : Int} (h : IsFr a b) : Wth a b a b := ⟨h, by have := h.1; omega, rfl⟩
theorem wth_conv {x y n d n' d' : Int} (h : Wth x y n d) (h0 : d' ≠ 0) (e : n * d' = n' * d) : Wth x y n' d' := by
  refine ⟨h.1, h0, ?_⟩
  obtain ⟨_, h3, h4⟩ := h
  refine Int.eq_of_mul_eq_mul_right h3 ?_
  grind
theorem w_times {x y n d u v m f X Y : Int} (h1 : Wth x y n d) (h2 : Wth u v m f) (h : Wth X Y (x * u) (y * v)) : Wth X Y (n * m) (d * f) := by
  refine wth_conv h (Int.mul_ne_zero h1.2.1 h2.2.1) ?_
  have e1 := h1.2.2
  have e2 := h2.2.2
  clear h1 h2 h
  grind
theorem w_plus {x y n d u v m f X Y : Int} (h1 : Wth x y n d) (h2 : Wth u v m f) (h : Wth X Y (x * v + u * y) (y * v)) : Wth X Y (n * f + m * d) (d * f) := by
  refine wth_conv h (Int.mul_ne_zero h1.2.1 h2.2.1) ?_
  have e1 := h1.2.2
  have e2 := h2.2.2
  clear h1 h2 h
  grind
theorem isFr_int (n : Int) : IsFr n 1 := ⟨by decide, gcI_oneR n⟩
theorem eqv_ii (a b : Int) : PyData.eqv (.tuple [.int a, .int b]) (.tuple [.int a, .int b]) = true := PySem.SeqAt.eqv_refl _ rfl
/-- a fraction stands at p, its numbers not too great -/
structure FrAt (H : Hp) (p : Addr) (k : Nat) (a b : Int) : Prop where
  get : H p = some (.tup [.int a, .int b])
  fr : IsFr a b
  s1 : sz k a
  s2 : sz k b
theorem FrAt.same {H G : Hp} {p : Addr} {k : Nat} {a b : Int} (e : Same H G) (f : FrAt H p k a b) : FrAt G p k a b := ⟨e _ _ f.get, f.fr, f.s1, f.s2⟩
theorem FrAt.ch {H G : Hp} {l p : Addr} {k : Nat} {a b : Int} (e : Ch l H G) (w : Wl H l) (f : FrAt H p k a b) : FrAt G p k a b := by
  obtain ⟨x, y, z, q, _⟩ := w.ex
  refine ⟨e _ _ (fun n => ?_) f.get, f.fr, f.s1, f.s2⟩
  subst n
  have := q.symm.trans f.get
  cases this
theorem FrAt.upd {H : Hp} {l p : Addr} {k : Nat} {a b : Int} {xs ys : List V} (w : H l = some (.lst xs)) (f : FrAt H p k a b) : FrAt (upd H l (.lst ys)) p k a b := by
  refine ⟨?_, f.fr, f.s1, f.s2⟩
  rw [upd_ne]
  · exact f.get
  · intro n
    subst n
    have := w.symm.trans f.get
    cases this
theorem FrAt.of {H : Hp} {p : Addr} {k : Nat} {n d : Int} (g : H p = some (.tup [.int (frT n d), .int (frB n d)])) (h : d ≠ 0) (s1 : sz k n) (s2 : sz k d) : FrAt H p k (frT n d) (frB n d) :=
  ⟨g, (wth_fr h).1, sz_le (frT_le h) s1, sz_le (frB_le h) s2⟩
theorem FrAt.lit {H : Hp} {p : Addr} {n : Int} (g : H p = some (.tup [.int n, .int 1])) (s : sz 2 n) : FrAt H p 2 n 1 := ⟨g, isFr_int n, s, sz_lit⟩
theorem FrAt.mono {H : Hp} {p : Addr} {j k : Nat} {a b : Int} (f : FrAt H p j a b) (e : j ≤ k) : FrAt H p k a b := ⟨f.get, f.fr, sz_mono f.s1 e, sz_mono f.s2 e⟩
theorem eqv_w {a b n d a' b' n' d' : Int} (h : Wth a b n d) (h' : Wth a' b' n' d') (e : n * d' = n' * d) : PyData.eqv (.tuple [.int a, .int b]) (.tuple [.int a', .int b']) = true := by
  obtain ⟨e1, e2⟩ := wth_unique h h' e
  rw [e1, e2]
  exact eqv_ii _ _
theorem itePb {b : Bool} {A B : Prop} (h : b = true) (q : A) : if b = true then A else B := by
  rw [h]
  exact iteT q
def gSeq (K : PySem.W.Frag) (n : Nat) (t : TGs) : TG := fun v σ H Q => gTup K n t v σ H Q ∨ gLst K n t v σ H Q
theorem pg_any {X : Cx} {pos : Pos} {es : List Expr} {k : Nat} {t : TGs} {n : Nat} (hc : X.calm = true) (h : PGs X es t)
    (hn : (assignEach es X.env).length = n := by rfl) (hst : (assignEach es X.env).findIdx? (·.1) = none := by rfl) : PG X (.Tuple es k pos) (gSeq X.K n t) :=
  ⟨fun pins s σ H v u Q I r hw => hw.elim ((pg_tup hc h hn hst).run pins s σ H v u Q I r) ((pg_lst hc h hn hst).run pins s σ H v u Q I r)⟩
theorem iteNb {b : Bool} {A B : Prop} (h : b = true) (q : B) : if (!b) = true then A else B := by
  rw [h]
  exact iteF q
end BW
/-! short words for proofs -/
local macro_rules | `(tactic| walk_at "v") => `(tactic| refine ⟨_, rfl, ?_⟩)
local macro_rules | `(tactic| walk_at "sd") => `(tactic| first | omega | decide | exact Or.inr ⟨by decide, by decide⟩ | exact Or.inl ⟨by decide, by decide⟩ | (simp only [L2.CMul, L2.CDiv, L2.CPow, BW.CDivZ]; omega) | exact ⟨by decide, by decide, by decide⟩ | (refine ⟨by decide, by decide, ?_⟩; omega))
local macro_rules | `(tactic| walk_at "sz") => `(tactic| exact Nat.le_of_ble_eq_true rfl)
local macro_rules | `(tactic| walk_at "wl") => `(tactic| first | assumption | (refine BW.Wl.same (by assumption) ?_; walk_at "wl"))
local macro_rules | `(tactic| walk_at "ne") => `(tactic| first | assumption | exact Ne.symm (by assumption) | exact BW.ne_wl (by assumption) (by walk_at "wl"))
local macro_rules | `(tactic| walk_at "hf") => `(tactic| first
  | assumption
  | exact L2.upd_same
  | (refine BW.sm_get (by assumption) ?_; walk_at "hf")
  | (refine BW.same_new (by assumption) _ _ ?_; walk_at "hf")
  | (refine (L2.upd_ne (by walk_at "ne")).trans ?_; walk_at "hf")
  | exact BW.FrAt.get (by assumption)
  | (refine BW.Ch.get (by assumption) ?_ (by walk_at "ne"); walk_at "hf"))
local macro_rules | `(tactic| walk_at "fa") => `(tactic| first | assumption | exact BW.FrAt.lit (by assumption) (BW.sz_lit (by decide)) | exact BW.FrAt.same (by assumption) (by walk_at "fa"))
local macro_rules | `(tactic| walk_at "nz") => `(tactic| ((with_reducible show (_ : Int) ≠ 0); first | assumption | omega | exact Int.mul_ne_zero (by walk_at "nz") (by walk_at "nz")))
local macro_rules | `(tactic| walk_at "zz") => `(tactic| first | assumption | exact BW.sz_mul (by walk_at "zz") (by walk_at "zz") | exact BW.sz_add (by walk_at "zz") (by walk_at "zz") | exact BW.sz_sub (by walk_at "zz") (by walk_at "zz"))
local macro_rules | `(tactic| walk_at "nc") => `(tactic| fail_if_success (first | (with_reducible show L2.CDiv _ _ ∧ _) | (with_reducible show L2.CMul _ _ ∧ _) | (with_reducible show L2.CPow _ _ ∧ _)))
local macro_rules | `(tactic| walk_at "ch") => `(tactic| first | assumption | exact BW.Ch.refl _ _ | (refine BW.Ch.tr2 (by assumption) ?_; walk_at "ch") | (refine BW.Ch.tr1 (by assumption) ?_; walk_at "ch"))
local macro_rules | `(tactic| walk_at "sm") => `(tactic| first | assumption | exact L2.Same.refl _ | (refine BW.Same.tr1 (by assumption) ?_; walk_at "sm"))
local macro_rules | `(tactic| walk_at "mx") => `(tactic| first | exact BW.small_mul (by assumption) (by assumption) | exact BW.sz_mulx (by walk_at "zz") (by walk_at "zz") (by omega))
local macro_rules | `(tactic| walk_at "dp") => `(tactic| first | exact .int _ | exact .bl _ | exact .non | exact .str _ | exact .tup (BW.SqT.of' (by walk_at "hf")) (by walk_at "dps") | exact .lst (BW.SqL.of' (by walk_at "hf")) (by walk_at "dps"))
local macro_rules | `(tactic| walk_at "dps") => `(tactic| first | exact .nil | exact .cons (by walk_at "dp") (by walk_at "dps"))
local macro_rules | `(tactic| walk_at "r1") => `(tactic| first
  | refine ⟨_, rfl, ?_⟩
  | refine ⟨_, _, rfl, rfl, And.intro (by walk_at "sd") ?_⟩
  | refine Or.inl ⟨_, _, rfl, rfl, And.intro (by walk_at "sd") ?_⟩
  | (refine ⟨_, _, rfl, rfl, ?_⟩; walk_at "nc")
  | (refine Or.inl ⟨_, _, rfl, rfl, ?_⟩; walk_at "nc")
  | refine Or.inl ⟨rfl, ?_⟩
  | refine Or.inr ⟨_, _, rfl, rfl, ?_⟩
  | refine L2.iteT ?_
  | refine L2.iteF ?_
  | refine Or.inl ⟨_, _, _, _, rfl, rfl, BW.SqL.of' (by walk_at "hf"), rfl, ?_⟩
  | refine Or.inr (Or.inl ⟨_, _, _, _, rfl, rfl, BW.SqT.of' (by walk_at "hf"), rfl, ?_⟩)
  | refine Or.inr (Or.inl ⟨_, _, _, _, rfl, rfl, BW.SqL.of' (by walk_at "hf"), BW.SqL.of' (by walk_at "hf"), by walk_at "sz", ?_⟩)
  | refine Or.inl ⟨_, _, _, _, false, rfl, .ty _, .base (.int _), L2.kit_ty (by decide +kernel), ?_⟩
  | refine Or.inl ⟨_, _, _, _, true, rfl, .ty _, .base (.int _), L2.kit_ty (by decide +kernel), ?_⟩
  | refine Or.inl ⟨_, _, _, _, true, rfl, .ty _, .base (.tup (by walk_at "hf")), L2.kit_ty (by decide +kernel), ?_⟩
  | refine Or.inl ⟨_, _, _, _, false, rfl, .ty _, .base (.tup (by walk_at "hf")), L2.kit_ty (by decide +kernel), ?_⟩
  | refine ⟨_, _, rfl, Or.inr ⟨_, BW.SqT.of' (by walk_at "hf"), rfl⟩, ?_⟩
  | refine ⟨_, _, rfl, Or.inl ⟨_, BW.SqL.of' (by walk_at "hf"), rfl⟩, ?_⟩
  | refine And.intro (by walk_at "sz") (fun p G hp sG gp => ?_)
  | (intro p G hp sG gp; have z := (hp : (_ : Option L2.HO) = none); clear z)
  | refine Or.inl ⟨_, rfl, ?_⟩
  | refine Or.inr ⟨_, rfl, ?_⟩
  | refine ⟨_, _, rfl, by walk_at "sd", fun p G hp sG gp => ?_⟩
  | refine Or.inl ⟨_, _, rfl, BW.SqT.of' (by walk_at "hf"), rfl, ?_⟩
  | refine Or.inr ⟨_, _, rfl, BW.SqL.of' (by walk_at "hf"), rfl, ?_⟩
  | refine ⟨_, _, _, _, rfl, rfl, by walk_at "hf", rfl, ?_⟩
  | refine ⟨_, _, rfl, ?_⟩
  | refine ⟨_, _, _, rfl, ?_⟩
  | refine ⟨_, none, none, rfl, ?_⟩
  | refine ⟨_, some _, none, rfl, ?_⟩
  | refine ⟨_, some _, some _, rfl, ?_⟩
  | refine And.intro rfl ?_
  | refine Or.inr (And.intro (by assumption) ?_)
  | refine Or.inr (Or.inl ⟨_, _, rfl, rfl, And.intro (by walk_at "mx") ?_⟩)
  | refine Or.inr ⟨_, _, by walk_at "dp", by walk_at "dp", rfl, rfl, ?_⟩
  | refine Or.inl ⟨_, _, _, rfl, And.intro (by walk_at "hf") ?_⟩
  | refine ⟨_, _, _, rfl, And.intro (by walk_at "hf") ?_⟩
  | refine ⟨_, _, _, _, rfl, And.intro (by walk_at "wl") (And.intro (by walk_at "hf") ?_)⟩
  | refine And.intro (by walk_at "wl") ?_
  | refine And.intro (by walk_at "hf") ?_
  | refine And.intro (by walk_at "sd") ?_
  | refine ⟨_, _, _, _, _, _, _, _, rfl, And.intro (by walk_at "fa") (And.intro (by walk_at "fa") ?_)⟩
  | refine ⟨_, _, _, _, _, _, _, _, rfl, And.intro (by walk_at "fa") (And.intro (by assumption) (And.intro (by walk_at "zz") (And.intro (by walk_at "zz") ?_)))⟩
  | refine ⟨_, _, _, _, rfl, And.intro (by walk_at "fa") ?_⟩
  | refine ⟨_, _, _, _, _, _, rfl, And.intro (by walk_at "fa") (And.intro (by walk_at "fa") ?_)⟩
  | (intro r G x y hr sG fG wG yG eG; have z := (fG : BW.FrAt _ _ _ _ _); clear z)
  | refine And.intro (by walk_at "nz") ?_)
local macro_rules | `(tactic| walk_at "rd") => `(tactic| repeat (walk_at "r1"))
local macro_rules | `(tactic| walk_at "rq") => `(tactic| first
  | walk_at "r1"
  | refine BW.iteNb (BW.eqv_w (by assumption) (by assumption) (by grind)) ?_
  | refine BW.itePb (BW.eqv_w (by assumption) (by assumption) (by grind)) ?_)
local macro_rules | `(tactic| walk_at "rdq") => `(tactic| repeat (walk_at "rq"))
local macro_rules | `(tactic| walk_at "kw_len") => `(tactic| (intro α ws h; rcases ws with _ | ⟨a, _ | ⟨b, _ | ⟨c, _ | ⟨d, t⟩⟩⟩⟩ <;> first | rfl | exact absurd h (by simp)))
local macro_rules | `(tactic| walk_at "kw_rel") => `(tactic| (intro zs ws h; rcases h with _ | ⟨r1, _ | ⟨r2, _ | ⟨r3, _ | ⟨r4, t⟩⟩⟩⟩ <;> (repeat' first | assumption | constructor)))

namespace boughswap_k04_sums_and_products_of_fract
open PySem PySem.Spec PyProof.Rows L2 BW
def topS (i : Nat) : Stmt := PySem.Challenge.pw_boughswap_k04_sums_and_products_of_fract.main.body.getD i (.Pass ⟨0, 0, 0, 0⟩)
abbrev s_p_is_whole : Stmt := topS 5
abbrev N_p_is_whole : List Str := ["thing", "low", "high"]
theorem sc_p_is_whole : FnScope N_p_is_whole ["thing", "low", "high"] (defScope s_p_is_whole) := ⟨rfl, rfl, rfl, by decide +kernel, rfl, by decide +kernel, by decide +kernel⟩
abbrev s_p_fraction : Stmt := topS 7
abbrev N_p_fraction : List Str := ["top", "bottom", "common"]
theorem sc_p_fraction : FnScope N_p_fraction ["top", "bottom"] (defScope s_p_fraction) := ⟨rfl, rfl, rfl, by decide +kernel, rfl, by decide +kernel, by decide +kernel⟩
abbrev s_p_is_fraction : Stmt := topS 8
abbrev N_p_is_fraction : List Str := ["thing", "top", "bottom"]
theorem sc_p_is_fraction : FnScope N_p_is_fraction ["thing"] (defScope s_p_is_fraction) := ⟨rfl, rfl, rfl, by decide +kernel, rfl, by decide +kernel, by decide +kernel⟩
abbrev s_p_plus : Stmt := topS 9
abbrev N_p_plus : List Str := ["one", "other"]
theorem sc_p_plus : FnScope N_p_plus ["one", "other"] (defScope s_p_plus) := ⟨rfl, rfl, rfl, by decide +kernel, rfl, by decide +kernel, by decide +kernel⟩
abbrev s_p_minus : Stmt := topS 10
abbrev N_p_minus : List Str := ["one", "other"]
theorem sc_p_minus : FnScope N_p_minus ["one", "other"] (defScope s_p_minus) := ⟨rfl, rfl, rfl, by decide +kernel, rfl, by decide +kernel, by decide +kernel⟩
abbrev s_p_times : Stmt := topS 11
abbrev N_p_times : List Str := ["one", "other"]
theorem sc_p_times : FnScope N_p_times ["one", "other"] (defScope s_p_times) := ⟨rfl, rfl, rfl, by decide +kernel, rfl, by decide +kernel, by decide +kernel⟩
abbrev s_p_shared : Stmt := topS 12
abbrev N_p_shared : List Str := ["one", "other"]
theorem sc_p_shared : FnScope N_p_shared ["one", "other"] (defScope s_p_shared) := ⟨rfl, rfl, rfl, by decide +kernel, rfl, by decide +kernel, by decide +kernel⟩
abbrev s_p_need_fractions : Stmt := topS 13
abbrev N_p_need_fractions : List Str := ["one", "other"]
theorem sc_p_need_fractions : FnScope N_p_need_fractions ["one", "other"] (defScope s_p_need_fractions) := ⟨rfl, rfl, rfl, by decide +kernel, rfl, by decide +kernel, by decide +kernel⟩
abbrev s_well : Stmt := topS 15
abbrev N_well : List Str := ["_law_cell"]
theorem sc_well : FnScope N_well ["_law_cell"] (defScope s_well) := ⟨rfl, rfl, rfl, by decide +kernel, rfl, by decide +kernel, by decide +kernel⟩
abbrev s_draw : Stmt := topS 16
abbrev N_draw : List Str := ["_law_well_here", "_law_many", "_law_found", "_law_this"]
theorem sc_draw : FnScope N_draw ["_law_well_here", "_law_many"] (defScope s_draw) := ⟨rfl, rfl, rfl, by decide +kernel, rfl, by decide +kernel, by decide +kernel⟩
abbrev s_number : Stmt := topS 17
abbrev N_number : List Str := ["_law_well_here", "_law_most", "_law_kind", "_law_sign", "_law_number_here", "_law_k"]
theorem sc_number : FnScope N_number ["_law_well_here", "_law_most"] (defScope s_number) := ⟨rfl, rfl, rfl, by decide +kernel, rfl, by decide +kernel, by decide +kernel⟩
abbrev s_shared : Stmt := topS 18
abbrev N_shared : List Str := ["_law_this", "_law_that"]
theorem sc_shared : FnScope N_shared ["_law_this", "_law_that"] (defScope s_shared) := ⟨rfl, rfl, rfl, by decide +kernel, rfl, by decide +kernel, by decide +kernel⟩
abbrev s_whole : Stmt := topS 19
abbrev N_whole : List Str := ["_law_thing"]
theorem sc_whole : FnScope N_whole ["_law_thing"] (defScope s_whole) := ⟨rfl, rfl, rfl, by decide +kernel, rfl, by decide +kernel, by decide +kernel⟩
abbrev s_worth : Stmt := topS 20
abbrev N_worth : List Str := ["_law_found", "_law_top", "_law_bottom"]
theorem sc_worth : FnScope N_worth ["_law_found", "_law_top", "_law_bottom"] (defScope s_worth) := ⟨rfl, rfl, rfl, by decide +kernel, rfl, by decide +kernel, by decide +kernel⟩
abbrev s_fraction : Stmt := topS 21
abbrev N_fraction : List Str := ["_law_well_here", "_law_bottom", "_law_top"]
theorem sc_fraction : FnScope N_fraction ["_law_well_here", "_law_bottom"] (defScope s_fraction) := ⟨rfl, rfl, rfl, by decide +kernel, rfl, by decide +kernel, by decide +kernel⟩
abbrev s_pair : Stmt := topS 22
abbrev N_pair : List Str := ["_law_this", "_law_two", "_law_a", "_law_b", "_law_c", "_law_d"]
theorem sc_pair : FnScope N_pair ["_law_this", "_law_two"] (defScope s_pair) := ⟨rfl, rfl, rfl, by decide +kernel, rfl, by decide +kernel, by decide +kernel⟩
abbrev s_law : Stmt := topS 23
abbrev N_law : List Str := ["_law_script", "_law_cell", "_law_well_here", "_law_bottom", "_law_some", "_law_this", "_law_two", "_law_three", "_law_k"]
theorem sc_law : FnScope N_law ["_law_script"] (defScope s_law) := ⟨rfl, rfl, rfl, by decide +kernel, rfl, by decide +kernel, by decide +kernel⟩
/-- the names of built-ins that no def of the text takes -/
structure Bi (K : PySem.W.Frag) (mg : Str → Option Value) : Prop where
  b_abs : mg "abs" = none
  b_bool : mg "bool" = none
  b_divmod : mg "divmod" = none
  b_int : mg "int" = none
  b_isinstance : mg "isinstance" = none
  b_len : mg "len" = none
  b_range : mg "range" = none
  b_tuple : mg "tuple" = none
  i_gcd : mg "gcd" = some (.builtin "math.gcd")
/-- the defs of the text as they stand behind its top -/
structure Df (K : PySem.W.Frag) (mg : Str → Option Value) : Prop where
  p_is_whole : At K mg "is_whole" s_p_is_whole
  p_fraction : AtD K mg "fraction" s_p_fraction [.int 1]
  p_is_fraction : At K mg "is_fraction" s_p_is_fraction
  p_plus : At K mg "plus" s_p_plus
  p_minus : At K mg "minus" s_p_minus
  p_times : At K mg "times" s_p_times
  p_shared : At K mg "shared" s_p_shared
  p_need_fractions : At K mg "_need_fractions" s_p_need_fractions
  well : At K mg "_law_well" s_well
  draw : At K mg "_law_draw" s_draw
  number : At K mg "_law_number" s_number
  shared : At K mg "_law_shared" s_shared
  whole : At K mg "_law_whole" s_whole
  worth : At K mg "_law_worth" s_worth
  fraction : At K mg "_law_fraction" s_fraction
  pair : At K mg "_law_pair" s_pair
  law : At K mg "law" s_law
section
variable {P : Program} {w : World} {K : PySem.W.Frag} {mg : Str → Option Value} {base : Heap}
def sp_p_is_whole := spWhole
theorem ok_p_is_whole (T : Bi K mg) (D : Df K mg) : Cal P w K mg base CX0 1 "is_whole" s_p_is_whole ["thing", "low", "high"] (sp_p_is_whole K) := by
  refine Cal.mk' D.p_is_whole (fun _ _ _ _ _ _ us hl => match us, hl with | [_, _, _], _ => rfl) fun f fd F => F.ok sc_p_is_whole (fun vs H Q E h => ?_) (fun cdv A outer s H vs Q E hr h => ?_)
  · obtain ⟨x, lo, hi, rfl, _⟩ := h
    rfl
  obtain ⟨x, lo, hi, rfl, h⟩ := h
  refine ⟨_, (pss_cons (ps_if (PW.pt (pw_or (pt_truth (pe_callB c_isinst (by rfl) T.b_isinstance (by decide +kernel) (pa_cons (pv 0) (pa_cons (pe_bltn (v := .ty "bool") (by rfl) T.b_bool (by decide +kernel) rfl) pa_nil))) (by intro _; rfl)) (pw_or1 (pt_not (pt_truth (pe_callB c_isinst (by rfl) T.b_isinstance (by decide +kernel) (pa_cons (pv 0) (pa_cons (pe_bltn (v := .ty "int") (by rfl) T.b_int (by decide +kernel) rfl) pa_nil))) (by intro _; rfl)))))) (pss_one (ps_ret pe_bl)) pss_nil)
      (pss_cons (ps_if (PW.pt (pw_and (pt_cmpR o_isn (pv 1) pe_non (nomark _)) (pw_and1 (pt_cmpR op_lt (pv 0) (pv 1) (nomark _))))) (pss_one (ps_ret pe_bl)) pss_nil)
      (pss_one (ps_ret (pe_orT (pe_cmpR o_is (pv 2) pe_non (nomark _)) (pe_one (pe_cmpR op_le (pv 0) (pv 2) (nomark _)))))))), ?_⟩
  rcases h with ⟨n, rfl, q⟩ | ⟨⟨s, ty, hs⟩, q⟩
  · refine ⟨_, rfl, Or.inl ⟨_, _, _, _, false, rfl, .ty _, .base (.int n), kit_ty (by decide +kernel), _, rfl, ?_⟩⟩
    refine iteF ?_
    refine ⟨_, rfl, Or.inl ⟨_, _, _, _, true, rfl, .ty _, .base (.int n), kit_ty (by decide +kernel), _, rfl, ?_⟩⟩
    refine iteF ?_
    cases lo with
    | none =>
      walk_at "rd"
      cases hi with
      | none =>
        walk_at "rd"
        exact q
      | some u =>
        walk_at "rd"
        exact q
    | some l =>
      walk_at "rd"
      refine ite2 (fun c => ?_) (fun c => ?_)
      · have e : inB (some l) hi n = false := by simp [inB] at c ⊢; intro; omega
        rw [e] at q
        exact q
      · cases hi with
        | none =>
          walk_at "rd"
          have e : inB (some l) none n = true := by simp [inB] at c ⊢; omega
          rw [e] at q
          exact q
        | some u =>
          walk_at "rd"
          have e : inB (some l) (some u) n = decide (n ≤ u) := by simp [inB] at c ⊢; intro; omega
          rw [e] at q
          exact q
  · rcases hs with hb | ⟨hb, hi⟩
    · refine ⟨_, rfl, Or.inl ⟨_, _, _, _, true, rfl, .ty _, ty, kit_ty hb, _, rfl, ?_⟩⟩
      exact iteT q
    · refine ⟨_, rfl, Or.inl ⟨_, _, _, _, false, rfl, .ty _, ty, kit_ty hb, _, rfl, ?_⟩⟩
      refine iteF ?_
      refine ⟨_, rfl, Or.inl ⟨_, _, _, _, false, rfl, .ty _, ty, kit_ty hi, _, rfl, ?_⟩⟩
      exact iteT q
def sp_p_fraction (K : PySem.W.Frag) : Sp := fun vs H Q _ => ∃ (t b : Int), vs = [.int t, .int b] ∧ b ≠ 0 ∧ small b ∧ New H (.tup [.int (frT t b), .int (frB t b)]) Q
theorem ok_p_fraction (T : Bi K mg) (D : Df K mg) : CalD P w K mg base CX0 2 "fraction" s_p_fraction [.int 1] ["top", "bottom"] (sp_p_fraction K) := by
  refine CalD.mk' D.p_fraction fun f fd F => FunD.ok F sc_p_fraction (fun vs H Q E h => ?_) (fun cdv A outer s H vs Q E hr h => ?_)
  · obtain ⟨x, y, rfl, _⟩ := h
    rfl
  obtain ⟨t, b, rfl, hb, hs, q⟩ := h
  refine ⟨_, PSs.nox (pss_cons (ps_if (PW.pt (pw_or (pt_not (pt_truth (pe_own (ok_p_is_whole T D) (hr.mono (by decide)) (by rfl) pass0 (pa_cons (pv 0) (pa_cons pe_non (pa_cons pe_non pa_nil)))) (by intro _; rfl))) (pw_or1 (pt_not (pt_truth (pe_own (ok_p_is_whole T D) (hr.mono (by decide)) (by rfl) pass0 (pa_cons (pv 1) (pa_cons pe_non (pa_cons pe_non pa_nil)))) (by intro _; rfl)))))) (pss_one ps_never) pss_nil)
      (pss_cons (ps_if (pt_cmpR (o_eq hr.units) (pv 1) pe_int (nomark _)) (pss_one ps_never) pss_nil)
      (pss_cons (ps_set (i := 2) sc_p_fraction.nd rfl (by first | exact Or.inl rfl | exact Or.inr rfl) (pe_callBfun cr_gcd (by rfl) T.i_gcd (pa_cons (pv 0) (pa_cons (pv 1) pa_nil))))
      (C8.pss_cut (ps_if (pt_cmpR op_lt (pv 1) pe_int (nomark _)) (pss_one (ps_set (i := 2) sc_p_fraction.nd rfl (by first | exact Or.inl rfl | exact Or.inr rfl) (pe_un un_neg (pv 2)))) pss_nil)
      (pss_one (ps_ret (n_tup (pa_cons (pe_op o_fdv (pv 0) (pv 2)) (pa_cons (pe_op o_fdv (pv 1) (pv 2)) pa_nil))))))))), ?_⟩
  walk_at "rd"
  refine ite2 (fun c => ?_) (fun c => ?_)
  · exact absurd (V.int.inj (of_decide_eq_true c)) hb
  walk_at "rd"
  refine ⟨fun σ' H' => σ' = [some (.int t), some (.int b), some (.int (frC t b))] ∧ H' = H, ?_, ?_⟩
  · walk_at "rd"
    refine ite2 (fun c2 => ?_) (fun c2 => ?_)
    · have c3 : b < 0 := of_decide_eq_true c2
      have ec : -((Nat.gcd t.natAbs b.natAbs : Nat) : Int) = frC t b := by
        unfold frC gcI
        rw [if_pos c3]
      rw [← ec]
      walk_at "rd"
      first | rfl | exact ⟨rfl, rfl⟩
    · have c3 : ¬ b < 0 := fun z => c2 (decide_eq_true z)
      have ec : ((Nat.gcd t.natAbs b.natAbs : Nat) : Int) = frC t b := by
        unfold frC gcI
        rw [if_neg c3]
      rw [← ec]
      walk_at "rd"
      first | rfl | exact ⟨rfl, rfl⟩
  · rintro σ' H' ⟨rfl, rfl⟩
    have z := small_frC (t := t) hb hs
    walk_at "rd"
    rename_i p G hp sG gp
    exact q p G hp sG gp
/-- what stands at a fraction's place: a whole number or an odd thing -/
def isFr : V → V → Bool
  | .int t, .int b => decide (1 ≤ b) && decide (gcI t b = 1)
  | _, _ => false
def Part (K : PySem.W.Frag) (H : Hp) (x : V) : Prop := (∃ n : Int, x = .int n) ∨ Odd K H x
/-- a thing that is no fraction, by what is_fraction looks at -/
def NoFr (K : PySem.W.Frag) (H : Hp) (x : V) : Prop := (∃ s : String, TyX K H x (.type s) ∧ kitB s "tuple" = some false) ∨ (∃ (p : Addr) (xs : List V), x = .ref p ∧ H p = some (.tup xs) ∧ xs.length ≠ 2) ∨
  (∃ (p : Addr) (t b : Int), x = .ref p ∧ H p = some (.tup [.int t, .int b]) ∧ (b < 1 ∨ gcI t b ≠ 1)) ∨ (∃ (p : Addr) (u v : V), x = .ref p ∧ H p = some (.tup [u, v]) ∧ (Odd K H u ∨ ((∃ n : Int, u = .int n) ∧ Odd K H v)))
def sp_p_is_fraction (K : PySem.W.Frag) : Sp := fun vs H Q _ => ∃ x : V, vs = [x] ∧ ((∃ (p : Addr) (t b : Int), x = .ref p ∧ H p = some (.tup [.int t, .int b]) ∧ 0 < b ∧ gcI t b = 1 ∧ Q (.bl true) H) ∨ (NoFr K H x ∧ Q (.bl false) H))
theorem ok_p_is_fraction (T : Bi K mg) (D : Df K mg) : Cal P w K mg base CX0 2 "is_fraction" s_p_is_fraction ["thing"] (sp_p_is_fraction K) := by
  refine Cal.mk' D.p_is_fraction (fun _ _ _ _ _ _ us hl => match us, hl with | [_], _ => rfl) fun f fd F => F.ok sc_p_is_fraction (fun vs H Q E h => ?_) (fun cdv A outer s H vs Q E hr h => ?_)
  · obtain ⟨x, rfl, _⟩ := h
    rfl
  obtain ⟨x, rfl, h⟩ := h
  refine ⟨_, (pss_cons (ps_if (PW.pt (pw_or (pt_not (pt_truth (pe_callB c_isinst (by rfl) T.b_isinstance (by decide +kernel) (pa_cons (pv 0) (pa_cons (pe_bltn (v := .ty "tuple") (by rfl) T.b_tuple (by decide +kernel) rfl) pa_nil))) (by intro _; rfl))) (pw_or1 (pt_cmpR (o_ne hr.units) (pe_callB call_len (by rfl) T.b_len (by decide +kernel) (pa_cons (pv 0) pa_nil)) pe_int (nomark _))))) (pss_one (ps_ret pe_bl)) pss_nil)
      (pss_cons (ps_asg (pv 0) (pg_any rfl (pgs_cons (pg_name (i := 1) sc_p_is_fraction.nd rfl (by first | exact Or.inl rfl | exact Or.inr rfl)) (pgs_cons (pg_name (i := 2) sc_p_is_fraction.nd rfl (by first | exact Or.inl rfl | exact Or.inr rfl)) pgs_nil))))
      (pss_cons (ps_if (PW.pt (pw_or (pt_not (pt_truth (pe_own (ok_p_is_whole T D) (hr.mono (by decide)) (by rfl) pass0 (pa_cons (pv 1) (pa_cons pe_non (pa_cons pe_non pa_nil)))) (by intro _; rfl))) (pw_or1 (pt_not (pt_truth (pe_own (ok_p_is_whole T D) (hr.mono (by decide)) (by rfl) pass0 (pa_cons (pv 2) (pa_cons pe_int (pa_cons pe_non pa_nil)))) (by intro _; rfl)))))) (pss_one (ps_ret pe_bl)) pss_nil)
      (pss_one (ps_ret (pe_cmpR (o_eq hr.units) (pe_callBfun cr_gcd (by rfl) T.i_gcd (pa_cons (pv 1) (pa_cons (pv 2) pa_nil))) pe_int (nomark _))))))), ?_⟩
  rcases h with ⟨p, t, b, rfl, hp, hb, hg, q⟩ | ⟨⟨st, ty, hs⟩ | ⟨p, xs, rfl, hp, hl⟩ | ⟨p, t, b, rfl, hp, hb⟩ | ⟨p, u, v, rfl, hp, hu⟩, q⟩
  · walk_at "rd"
    have e : inB (some 1) none b = true := by simp [inB]; omega
    show ite ((!inB (some 1) none b) = true) _ _
    rw [e]
    walk_at "rd"
    have e2 : decide (V.int (gcI t b) = V.int 1) = true := by rw [hg]; decide
    show Q (.bl (decide (V.int (gcI t b) = V.int 1))) H
    rw [e2]
    exact q
  · walk_at "rd"
    refine Or.inl ⟨_, _, _, _, false, rfl, .ty _, ty, kit_ty hs, ?_⟩
    walk_at "rd"
    exact q
  · walk_at "rd"
    have e : decide (V.int (xs.length : Int) = V.int 2) = false := by simp; omega
    show ite ((!decide (V.int (xs.length : Int) = V.int 2)) = true) _ _
    rw [e]
    walk_at "rd"
    exact q
  · walk_at "rd"
    rcases hb with hb | hb
    · have e : inB (some 1) none b = false := by simp [inB]; omega
      show ite ((!inB (some 1) none b) = true) _ _
      rw [e]
      walk_at "rd"
      exact q
    · refine ite2 (fun c => ?_) (fun c => ?_)
      · walk_at "rd"
        exact q
      · walk_at "rd"
        have e2 : decide (V.int (gcI t b) = V.int 1) = false := by simp; exact hb
        show Q (.bl (decide (V.int (gcI t b) = V.int 1))) H
        rw [e2]
        exact q
  · walk_at "rd"
    rcases hu with hu | ⟨⟨n, rfl⟩, hv⟩
    · refine Or.inr ⟨hu, ?_⟩
      walk_at "rd"
      exact q
    · refine Or.inl ⟨n, rfl, ?_⟩
      walk_at "rd"
      exact q
def sp_well := spWell
theorem ok_well (T : Bi K mg) (D : Df K mg) : Cal P w K mg base CX0 1 "_law_well" s_well ["_law_cell"] (sp_well K) := by
  refine Cal.mk' D.well (fun _ _ _ _ _ _ us hl => match us, hl with | [_], _ => rfl) fun f fd F => F.ok sc_well (fun vs H Q E h => ?_) (fun cdv A outer s H vs Q E hr h => ?_)
  · obtain ⟨x, rfl, _⟩ := h
    rfl
  obtain ⟨x, rfl, q⟩ := h
  refine ⟨_, (pss_one (ps_ret (n_lst (pa_cons (pe_op o_mul (pv 0) (pe_callTy call_int1 (by rfl) T.b_int (by decide +kernel) (pa_cons (pe_cmpR op_ge (pv 0) (pe_op o_pow pe_int pe_int) (nomark _)) pa_nil))) (pa_cons (pe_op o_mod (pv 0) pe_int) (pa_cons pe_int pa_nil)))))), ?_⟩
  walk_at "rd"
  rename_i p G hp sG gp
  exact q _ p sG hp ⟨_, _, _, gp, Int.emod_nonneg _ (by omega), Int.emod_lt_of_pos _ (by omega)⟩
def sp_draw := spDraw
theorem ok_draw (T : Bi K mg) (D : Df K mg) : Cal P w K mg base CX0 1 "_law_draw" s_draw ["_law_well_here", "_law_many"] (sp_draw K) := by
  refine Cal.mk' D.draw (fun _ _ _ _ _ _ us hl => match us, hl with | [_, _], _ => rfl) fun f fd F => F.ok sc_draw (fun vs H Q E h => ?_) (fun cdv A outer s H vs Q E hr h => ?_)
  · obtain ⟨l, m, rfl, _⟩ := h
    rfl
  obtain ⟨l, m, rfl, ⟨⟨a, b, z, hl, hb0, hb1⟩⟩, h0, h1, q⟩ := h
  refine ⟨_, (pss_cons (ps_if (pt_cmpR op_gt (pe_ix ix_seq (pv 0) pe_int (fun _ _ => rfl)) pe_int (nomark _)) (pss_cons (ps_asg (pe_callB c_divmod (by rfl) T.b_divmod (by decide +kernel) (pa_cons (pe_ix ix_seq (pv 0) pe_int (fun _ _ => rfl)) (pa_cons (pv 1) pa_nil))) (pg_any rfl (pgs_cons (pg_sub (pv 0) pe_int set_list) (pgs_cons (pg_name (i := 2) sc_draw.nd rfl (by first | exact Or.inl rfl | exact Or.inr rfl)) pgs_nil))))
      (pss_one (ps_ret (pv 2)))) pss_nil)
      (pss_cons (ps_asg (pe_op o_add (pe_ix ix_seq (pv 0) pe_int (fun _ _ => rfl)) pe_int) (pg_sub (pv 0) pe_int set_list))
      (pss_cons (ps_set (i := 3) sc_draw.nd rfl (by first | exact Or.inl rfl | exact Or.inr rfl) (pe_op o_mod (pe_op o_add (pe_op o_add (pe_op o_mul (pe_ix ix_seq (pv 0) pe_int (fun _ _ => rfl)) (pe_op o_add (pe_op o_mul pe_int (pe_ix ix_seq (pv 0) pe_int (fun _ _ => rfl))) pe_int)) (pe_op o_mul pe_int (pe_ix ix_seq (pv 0) pe_int (fun _ _ => rfl)))) pe_int) pe_int))
      (pss_cons (ps_set (i := 3) sc_draw.nd rfl (by first | exact Or.inl rfl | exact Or.inr rfl) (pe_op o_mod (pe_op o_pow (pv 3) pe_int) pe_int))
      (pss_cons (ps_set (i := 3) sc_draw.nd rfl (by first | exact Or.inl rfl | exact Or.inr rfl) (pe_op o_mod (pe_op o_mul (pv 3) (pe_op o_add (pe_op o_fdv (pv 3) pe_int) pe_int)) pe_int))
      (pss_one (ps_ret (pe_op o_mod (pe_op o_fdv (pv 3) pe_int) (pv 1))))))))), ?_⟩
  walk_at "rd"
  refine ite2 (fun c => ?_) (fun c => ?_)
  · walk_at "rd"
    rename_i p G hp sG gp
    exact q _ _ ((Same.ch sG).at) ⟨_, _, _, upd_same, hb0, hb1⟩ (Int.emod_nonneg _ (by omega)) (Int.emod_lt_of_pos _ h0)
  · walk_at "rd"
    exact q _ _ ((Ch.refl l H).at) ⟨_, _, _, upd_same, hb0, hb1⟩ (Int.emod_nonneg _ (by omega)) (Int.emod_lt_of_pos _ h0)
def sp_number := spNumber
theorem ok_number (T : Bi K mg) (D : Df K mg) : Cal P w K mg base CX0 2 "_law_number" s_number ["_law_well_here", "_law_most"] (sp_number K) := by
  refine Cal.mk' D.number (fun _ _ _ _ _ _ us hl => match us, hl with | [_, _], _ => rfl) fun f fd F => F.ok sc_number (fun vs H Q E h => ?_) (fun cdv A outer s H vs Q E hr h => ?_)
  · obtain ⟨l, m, rfl, _⟩ := h
    rfl
  obtain ⟨l, m, rfl, hW, h0, h1, q⟩ := h
  refine ⟨_, (pss_cons (ps_set (i := 2) sc_number.nd rfl (by first | exact Or.inl rfl | exact Or.inr rfl) (pe_own (ok_draw T D) (hr.mono (by decide)) (by rfl) pass0 (pa_cons (pv 0) (pa_cons pe_int pa_nil))))
      (pss_cons (ps_set (i := 3) sc_number.nd rfl (by first | exact Or.inl rfl | exact Or.inr rfl) (pe_ix ix_seq (n_lst (pa_cons pe_int (pa_cons (pe_un un_neg pe_int) pa_nil))) (pe_own (ok_draw T D) (hr.mono (by decide)) (by rfl) pass0 (pa_cons (pv 0) (pa_cons pe_int pa_nil))) (fun _ _ => rfl)))
      (pss_cons (ps_if (pt_cmpR op_lt (pv 2) pe_int (nomark _)) (pss_one (ps_ret (pe_op o_mul (pv 3) (pe_own (ok_draw T D) (hr.mono (by decide)) (by rfl) pass0 (pa_cons (pv 0) (pa_cons (pe_ix ix_seq (n_lst (pa_cons pe_int (pa_cons pe_int (pa_cons pe_int pa_nil)))) (pv 2) (fun _ _ => rfl)) pa_nil)))))) pss_nil)
      (pss_cons (ps_if (pt_cmpR (o_eq hr.units) (pv 2) pe_int (nomark _)) (pss_one (ps_ret (pe_op o_mul (pe_op o_mul (pv 3) pe_int) (pe_own (ok_draw T D) (hr.mono (by decide)) (by rfl) pass0 (pa_cons (pv 0) (pa_cons pe_int pa_nil)))))) pss_nil)
      (pss_cons (ps_if (pt_cmpR (o_eq hr.units) (pv 2) pe_int (nomark _)) (pss_one (ps_ret (pe_op o_mul (pv 3) (pe_op o_sub (pv 1) (pe_own (ok_draw T D) (hr.mono (by decide)) (by rfl) pass0 (pa_cons (pv 0) (pa_cons pe_int pa_nil))))))) pss_nil)
      (pss_cons (ps_set (i := 4) sc_number.nd rfl (by first | exact Or.inl rfl | exact Or.inr rfl) pe_int)
      (pss_cons (ps_for PassesOwn.never rfl (pi_range1 (by rfl) T.b_range (pa_cons (pe_op o_add pe_int (pe_own (ok_draw T D) (hr.mono (by decide)) (by rfl) pass0 (pa_cons (pv 0) (pa_cons pe_int pa_nil)))) pa_nil)) (pg_name (i := 5) sc_number.nd rfl (by first | exact Or.inl rfl | exact Or.inr rfl)) (pss_one (ps_set (i := 4) sc_number.nd rfl (by first | exact Or.inl rfl | exact Or.inr rfl) (pe_op o_add (pe_op o_mul (pv 4) (pe_op o_pow pe_int pe_int)) (pe_own (ok_draw T D) (hr.mono (by decide)) (by rfl) pass0 (pa_cons (pv 0) (pa_cons (pe_op o_pow pe_int pe_int) pa_nil)))))))
      (pss_one (ps_ret (pe_op o_mul (pv 3) (pv 4))))))))))), ?_⟩
  walk_at "rd"
  intro H1 k c1 w1 k0 k1
  walk_at "rd"
  rename_i p G hp sG gp
  intro H2 g c2 w2 g0 g1
  have sg : ∃ e : Int, (e = 1 ∨ e = -1) ∧ atI [V.int 1, V.int (-1)] g = some (V.int e) := by
    rcases (by omega : g = 0 ∨ g = 1) with rfl | rfl
    · exact ⟨1, .inl rfl, rfl⟩
    · exact ⟨-1, .inr rfl, rfl⟩
  obtain ⟨e, he, ae⟩ := sg
  have c12 := (c1.trans (Same.ch sG)).trans c2
  refine Or.inl ⟨_, _, _, _, rfl, rfl, SqL.of' (c2.get gp (ne_wl hp w1)), ae, ?_⟩
  walk_at "rd"
  refine ite2 (fun c => ?_) (fun c => ?_)
  · have c' := of_decide_eq_true c
    walk_at "rd"
    rename_i p3 G3 hp3 s3 g3
    have sk : ∃ v : Int, 0 < v ∧ v < 2000 ∧ atI [V.int 1, V.int 13, V.int 1009] k = some (V.int v) := by
      rcases (by omega : k = 0 ∨ k = 1 ∨ k = 2) with rfl | rfl | rfl
      · exact ⟨1, by decide, by decide, rfl⟩
      · exact ⟨13, by decide, by decide, rfl⟩
      · exact ⟨1009, by decide, by decide, rfl⟩
    obtain ⟨v, v0, v1, av⟩ := sk
    refine Or.inl ⟨_, _, _, _, rfl, rfl, SqL.of' g3, av, ?_⟩
    walk_at "rd"
    intro H3 r c5 w5 r0 r1
    walk_at "rd"
    refine q _ _ (c12.trans ((Same.ch s3).trans c5)) w5 ?_
    rcases he with rfl | rfl <;> omega
  · walk_at "rd"
    refine ite2 (fun c3 => ?_) (fun c3 => ?_)
    · walk_at "rd"
      intro H3 r c5 w5 r0 r1
      walk_at "rd"
      refine q _ _ (c12.trans c5) w5 ?_
      rcases he with rfl | rfl <;> omega
    · walk_at "rd"
      refine ite2 (fun c4 => ?_) (fun c4 => ?_)
      · walk_at "rd"
        intro H3 r c5 w5 r0 r1
        walk_at "rd"
        refine q _ _ (c12.trans c5) w5 ?_
        rcases he with rfl | rfl <;> omega
      · walk_at "rd"
        intro H3 r c5 w5 r0 r1
        walk_at "rd"
        refine for_range (lo := 0) (n := (1 + r).toNat) (fun i σ' H' => ∃ (n : Int) (y : Option V), σ' = [some (.ref l), some (.int m), some (.int k), some (.int e), some (.int n), y] ∧ Ch l H H' ∧ Wl H' l ∧ 0 ≤ n ∧ n < 10 ^ (8 * i)) ?_ ?_ ?_
        · exact ⟨0, none, rfl, c12.trans c5, w5, by omega, by decide⟩
        · intro i σ' H' hi hP
          obtain ⟨n, y, rfl, c6, w6, n0, n1⟩ := hP
          walk_at "rd"
          intro H4 d c7 w7 d0 d1
          walk_at "rd"
          refine ⟨c6.trans c7, w7, ?_, ?_⟩
          · rw [show (10 : Int) ^ Int.toNat 8 = 100000000 by decide]
            omega
          · rw [show (10 : Int) ^ Int.toNat 8 = 100000000 by decide] at d1 ⊢
            have z : (10 : Int) ^ (8 * (i + 1)) = 10 ^ (8 * i) * 100000000 := by
              rw [show 8 * (i + 1) = 8 * i + 8 by omega, Int.pow_add]
              rfl
            omega
        · intro σ' H' hP
          obtain ⟨n, y, rfl, c6, w6, n0, n1⟩ := hP
          walk_at "rd"
          refine q _ _ c6 w6 ?_
          have z : (10 : Int) ^ (8 * (1 + r).toNat) ≤ 10 ^ 48 := by
            rcases (by omega : r = 0 ∨ r = 1 ∨ r = 2 ∨ r = 3 ∨ r = 4 ∨ r = 5) with rfl | rfl | rfl | rfl | rfl | rfl <;> decide
          rcases he with rfl | rfl <;> omega
def sp_shared (K : PySem.W.Frag) : Sp := fun vs H Q _ => ∃ (a b : Int), vs = [.int a, .int b] ∧ Q (.int (gcI a b)) H
theorem ok_shared (T : Bi K mg) (D : Df K mg) : Cal P w K mg base CX0 1 "_law_shared" s_shared ["_law_this", "_law_that"] (sp_shared K) := by
  refine Cal.mk' D.shared (fun _ _ _ _ _ _ us hl => match us, hl with | [_, _], _ => rfl) fun f fd F => F.ok sc_shared (fun vs H Q E h => ?_) (fun cdv A outer s H vs Q E hr h => ?_)
  · obtain ⟨x, y, rfl, _⟩ := h
    rfl
  obtain ⟨a, b, rfl, q⟩ := h
  refine ⟨_, (pss_cons (ps_set (i := 0) sc_shared.nd rfl (by first | exact Or.inl rfl | exact Or.inr rfl) (pe_callB call_abs (by rfl) T.b_abs (by decide +kernel) (pa_cons (pv 0) pa_nil)))
      (pss_cons (ps_set (i := 1) sc_shared.nd rfl (by first | exact Or.inl rfl | exact Or.inr rfl) (pe_callB call_abs (by rfl) T.b_abs (by decide +kernel) (pa_cons (pv 1) pa_nil)))
      (pss_cons (ps_while PassesOwn.never (pt_cmpR op_gt (pv 1) pe_int (nomark _)) (pss_one (ps_par (i := 0) (j := 1) (by rfl) sc_shared.nd rfl rfl (by decide) rfl rfl (pa_cons (pv 1) (pa_cons (pe_op o_mod (pv 0) (pv 1)) pa_nil)) (by rfl))))
      (pss_one (ps_ret (pv 0)))))), ?_⟩
  walk_at "rd"
  refine ⟨fun m σ H' => ∃ x y : Int, σ = [some (.int x), some (.int y)] ∧ H' = H ∧ 0 ≤ x ∧ 0 ≤ y ∧ y.toNat = m ∧ gcI x y = gcI a b, ⟨_, _, _, rfl, rfl, ?_, ?_, rfl, ?_⟩, ?_⟩
  · split <;> omega
  · split <;> omega
  · unfold gcI
    congr 1
    congr 1 <;> split <;> omega
  intro m σ H' hP
  obtain ⟨x, y, rfl, rfl, x0, y0, rfl, e⟩ := hP
  walk_at "rd"
  refine ite2 (fun c => ?_) (fun c => ?_)
  · have c' : 0 < y := of_decide_eq_true c
    refine ⟨fun σ' H1 => σ' = [some (.int y), some (.int (x % y))] ∧ H1 = H', ?_, ?_⟩
    · rintro σ' H1 ⟨rfl, rfl⟩
      have h1 := Int.emod_nonneg x (show y ≠ 0 by omega)
      have h2 := Int.emod_lt_of_pos x c'
      refine ⟨(x % y).toNat, by omega, _, _, rfl, rfl, by omega, h1, rfl, ?_⟩
      rw [← e]
      unfold gcI
      congr 1
      rw [Nat.gcd_comm]
      have hy : y.natAbs = y.toNat := by omega
      have hx : x.natAbs = x.toNat := by omega
      have hm : (x % y).natAbs = x.toNat % y.toNat := by
        have : x % y = ((x.toNat % y.toNat : Nat) : Int) := by
          rw [Int.natCast_emod, Int.toNat_of_nonneg x0, Int.toNat_of_nonneg y0]
        rw [this, Int.natAbs_natCast]
      rw [hm, hx, hy, Nat.gcd_comm x.toNat y.toNat, Nat.gcd_rec y.toNat x.toNat]
    · walk_at "rd"
      rfl
  · have c' : ¬ 0 < y := fun z => c (decide_eq_true z)
    have y1 : y = 0 := by omega
    subst y1
    have e2 : x = gcI a b := by
      rw [← e]
      unfold gcI
      rw [show (0 : Int).natAbs = 0 from rfl, Nat.gcd_zero_right]
      omega
    walk_at "rd"
    rw [e2]
    exact q
def sp_whole (K : PySem.W.Frag) : Sp := fun vs H Q _ => ∃ n : Int, vs = [.int n] ∧ Q (.bl true) H
theorem ok_whole (T : Bi K mg) (D : Df K mg) : Cal P w K mg base CX0 1 "_law_whole" s_whole ["_law_thing"] (sp_whole K) := by
  refine Cal.mk' D.whole (fun _ _ _ _ _ _ us hl => match us, hl with | [_], _ => rfl) fun f fd F => F.ok sc_whole (fun vs H Q E h => ?_) (fun cdv A outer s H vs Q E hr h => ?_)
  · obtain ⟨x, rfl, _⟩ := h
    rfl
  obtain ⟨n, rfl, q⟩ := h
  refine ⟨_, (pss_one (ps_ret (pe_andT (pe_callB c_isinst (by rfl) T.b_isinstance (by decide +kernel) (pa_cons (pv 0) (pa_cons (pe_bltn (v := .ty "int") (by rfl) T.b_int (by decide +kernel) rfl) pa_nil))) (pe_one (pe_notT (pe_callB c_isinst (by rfl) T.b_isinstance (by decide +kernel) (pa_cons (pv 0) (pa_cons (pe_bltn (v := .ty "bool") (by rfl) T.b_bool (by decide +kernel) rfl) pa_nil)))))))), ?_⟩
  walk_at "rd"
  exact q
def sp_p_need_fractions (K : PySem.W.Frag) : Sp := fun vs H Q _ => ∃ (p q : Addr) (k1 k2 : Nat) (a b c e : Int), vs = [.ref p, .ref q] ∧ FrAt H p k1 a b ∧ FrAt H q k2 c e ∧ Q .non H
theorem ok_p_need_fractions (T : Bi K mg) (D : Df K mg) : Cal P w K mg base CX0 3 "_need_fractions" s_p_need_fractions ["one", "other"] (sp_p_need_fractions K) := by
  refine Cal.mk' D.p_need_fractions (fun _ _ _ _ _ _ us hl => match us, hl with | [_, _], _ => rfl) fun f fd F => F.ok sc_p_need_fractions (fun vs H Q E h => ?_) (fun cdv A outer s H vs Q E hr h => ?_)
  · obtain ⟨_, _, _, _, _, _, _, _, rfl, _⟩ := h
    rfl
  obtain ⟨p, r, k1, k2, a, b, c, e, rfl, hp, hq, q⟩ := h
  refine ⟨_, (pss_one (ps_if (PW.pt (pw_or (pt_not (pt_truth (pe_own (ok_p_is_fraction T D) (hr.mono (by decide)) (by rfl) pass0 (pa_cons (pv 0) pa_nil)) (by intro _; rfl))) (pw_or1 (pt_not (pt_truth (pe_own (ok_p_is_fraction T D) (hr.mono (by decide)) (by rfl) pass0 (pa_cons (pv 1) pa_nil)) (by intro _; rfl)))))) (pss_one ps_never) pss_nil)), ?_⟩
  have i1 := hp.fr.1
  have i2 := hp.fr.2
  have i3 := hq.fr.1
  have i4 := hq.fr.2
  walk_at "rd"
  exact q
/-- what a sum, a product .. of fractions promises: N over D is the worth -/
def spFr (N D : Int → Int → Int → Int → Int) : Sp := fun vs H Q _ => ∃ (p q : Addr) (k1 k2 : Nat) (a b c e : Int), vs = [.ref p, .ref q] ∧ FrAt H p k1 a b ∧ FrAt H q k2 c e ∧ k1 + k2 + 1 ≤ 4000 ∧
  (D a b c e ≠ 0) ∧ ∀ r G x y, H r = none → Same H G → FrAt G r (k1 + k2 + k1 + k2 + 1) x y → Wth x y (N a b c e) (D a b c e) → 0 < y → x * D a b c e = N a b c e * y → Q (.ref r) G
def sp_p_plus (K : PySem.W.Frag) : Sp := spFr (fun a b c e => a * e + c * b) (fun a b c e => b * e)
theorem ok_p_plus (T : Bi K mg) (D : Df K mg) : Cal P w K mg base CX0 4 "plus" s_p_plus ["one", "other"] (sp_p_plus K) := by
  refine Cal.mk' D.p_plus (fun _ _ _ _ _ _ us hl => match us, hl with | [_, _], _ => rfl) fun f fd F => F.ok sc_p_plus (fun vs H Q E h => ?_) (fun cdv A outer s H vs Q E hr h => ?_)
  · obtain ⟨_, _, _, _, _, _, _, _, rfl, _⟩ := h
    rfl
  obtain ⟨p, r, k1, k2, a, b, c, e, rfl, hp, hq, hk, h0, q⟩ := h
  have s1 := hp.s1
  have s2 := hp.s2
  have s3 := hq.s1
  have s4 := hq.s2
  have zd := sz_small (sz_mono (show sz _ (b * e) by walk_at "zz") (show _ ≤ 8000 by omega)) (Nat.le_refl _)
  have zn : sz ((k1 + k2) + (k2 + k1) + 1) (a * e + c * b) := by walk_at "zz"
  have ze : sz (k1 + k2) (b * e) := by walk_at "zz"
  refine ⟨_, (pss_cons (ps_expr (pe_own (ok_p_need_fractions T D) (hr.mono (by decide)) (by rfl) pass0 (pa_cons (pv 0) (pa_cons (pv 1) pa_nil))))
      (pss_one (ps_ret (pe_ownD 2 1 (ok_p_fraction T D) (by simp) rfl (fun _ _ _ _ _ _ _ us its h1 h2 => match us, its, h1, h2 with | [_, _], [_], _, _ => ⟨_, rfl, rfl⟩) (hr.mono (by decide)) (by rfl) pass0 (pa_cons (pe_op o_add (pe_op o_mul (pe_ix ix_seq (pv 0) pe_int (fun _ _ => rfl)) (pe_ix ix_seq (pv 1) pe_int (fun _ _ => rfl))) (pe_op o_mul (pe_ix ix_seq (pv 1) pe_int (fun _ _ => rfl)) (pe_ix ix_seq (pv 0) pe_int (fun _ _ => rfl)))) (pa_cons (pe_op o_mul (pe_ix ix_seq (pv 0) pe_int (fun _ _ => rfl)) (pe_ix ix_seq (pv 1) pe_int (fun _ _ => rfl))) pa_nil)))))), ?_⟩
  walk_at "rd"
  rename_i z G hz sG gG
  exact q _ _ _ _ hz sG (FrAt.of gG h0 (sz_mono zn (by omega)) (sz_mono ze (by omega))) (wth_fr h0) (frB_pos h0) (fr_cross h0)
def sp_p_minus (K : PySem.W.Frag) : Sp := spFr (fun a b c e => a * e - c * b) (fun a b c e => b * e)
theorem ok_p_minus (T : Bi K mg) (D : Df K mg) : Cal P w K mg base CX0 4 "minus" s_p_minus ["one", "other"] (sp_p_minus K) := by
  refine Cal.mk' D.p_minus (fun _ _ _ _ _ _ us hl => match us, hl with | [_, _], _ => rfl) fun f fd F => F.ok sc_p_minus (fun vs H Q E h => ?_) (fun cdv A outer s H vs Q E hr h => ?_)
  · obtain ⟨_, _, _, _, _, _, _, _, rfl, _⟩ := h
    rfl
  obtain ⟨p, r, k1, k2, a, b, c, e, rfl, hp, hq, hk, h0, q⟩ := h
  have s1 := hp.s1
  have s2 := hp.s2
  have s3 := hq.s1
  have s4 := hq.s2
  have zd := sz_small (sz_mono (show sz _ (b * e) by walk_at "zz") (show _ ≤ 8000 by omega)) (Nat.le_refl _)
  have zn : sz ((k1 + k2) + (k2 + k1) + 1) (a * e - c * b) := by walk_at "zz"
  have ze : sz (k1 + k2) (b * e) := by walk_at "zz"
  refine ⟨_, (pss_cons (ps_expr (pe_own (ok_p_need_fractions T D) (hr.mono (by decide)) (by rfl) pass0 (pa_cons (pv 0) (pa_cons (pv 1) pa_nil))))
      (pss_one (ps_ret (pe_ownD 2 1 (ok_p_fraction T D) (by simp) rfl (fun _ _ _ _ _ _ _ us its h1 h2 => match us, its, h1, h2 with | [_, _], [_], _, _ => ⟨_, rfl, rfl⟩) (hr.mono (by decide)) (by rfl) pass0 (pa_cons (pe_op o_sub (pe_op o_mul (pe_ix ix_seq (pv 0) pe_int (fun _ _ => rfl)) (pe_ix ix_seq (pv 1) pe_int (fun _ _ => rfl))) (pe_op o_mul (pe_ix ix_seq (pv 1) pe_int (fun _ _ => rfl)) (pe_ix ix_seq (pv 0) pe_int (fun _ _ => rfl)))) (pa_cons (pe_op o_mul (pe_ix ix_seq (pv 0) pe_int (fun _ _ => rfl)) (pe_ix ix_seq (pv 1) pe_int (fun _ _ => rfl))) pa_nil)))))), ?_⟩
  walk_at "rd"
  rename_i z G hz sG gG
  exact q _ _ _ _ hz sG (FrAt.of gG h0 (sz_mono zn (by omega)) (sz_mono ze (by omega))) (wth_fr h0) (frB_pos h0) (fr_cross h0)
def sp_p_times (K : PySem.W.Frag) : Sp := spFr (fun a b c e => a * c) (fun a b c e => b * e)
theorem ok_p_times (T : Bi K mg) (D : Df K mg) : Cal P w K mg base CX0 4 "times" s_p_times ["one", "other"] (sp_p_times K) := by
  refine Cal.mk' D.p_times (fun _ _ _ _ _ _ us hl => match us, hl with | [_, _], _ => rfl) fun f fd F => F.ok sc_p_times (fun vs H Q E h => ?_) (fun cdv A outer s H vs Q E hr h => ?_)
  · obtain ⟨_, _, _, _, _, _, _, _, rfl, _⟩ := h
    rfl
  obtain ⟨p, r, k1, k2, a, b, c, e, rfl, hp, hq, hk, h0, q⟩ := h
  have s1 := hp.s1
  have s2 := hp.s2
  have s3 := hq.s1
  have s4 := hq.s2
  have zd := sz_small (sz_mono (show sz _ (b * e) by walk_at "zz") (show _ ≤ 8000 by omega)) (Nat.le_refl _)
  have zn : sz (k1 + k2) (a * c) := by walk_at "zz"
  have ze : sz (k1 + k2) (b * e) := by walk_at "zz"
  refine ⟨_, (pss_cons (ps_expr (pe_own (ok_p_need_fractions T D) (hr.mono (by decide)) (by rfl) pass0 (pa_cons (pv 0) (pa_cons (pv 1) pa_nil))))
      (pss_one (ps_ret (pe_ownD 2 1 (ok_p_fraction T D) (by simp) rfl (fun _ _ _ _ _ _ _ us its h1 h2 => match us, its, h1, h2 with | [_, _], [_], _, _ => ⟨_, rfl, rfl⟩) (hr.mono (by decide)) (by rfl) pass0 (pa_cons (pe_op o_mul (pe_ix ix_seq (pv 0) pe_int (fun _ _ => rfl)) (pe_ix ix_seq (pv 1) pe_int (fun _ _ => rfl))) (pa_cons (pe_op o_mul (pe_ix ix_seq (pv 0) pe_int (fun _ _ => rfl)) (pe_ix ix_seq (pv 1) pe_int (fun _ _ => rfl))) pa_nil)))))), ?_⟩
  walk_at "rd"
  rename_i z G hz sG gG
  exact q _ _ _ _ hz sG (FrAt.of gG h0 (sz_mono zn (by omega)) (sz_mono ze (by omega))) (wth_fr h0) (frB_pos h0) (fr_cross h0)
def sp_p_shared (K : PySem.W.Frag) : Sp := spFr (fun a b c e => a * e) (fun a b c e => b * c)
theorem ok_p_shared (T : Bi K mg) (D : Df K mg) : Cal P w K mg base CX0 4 "shared" s_p_shared ["one", "other"] (sp_p_shared K) := by
  refine Cal.mk' D.p_shared (fun _ _ _ _ _ _ us hl => match us, hl with | [_, _], _ => rfl) fun f fd F => F.ok sc_p_shared (fun vs H Q E h => ?_) (fun cdv A outer s H vs Q E hr h => ?_)
  · obtain ⟨_, _, _, _, _, _, _, _, rfl, _⟩ := h
    rfl
  obtain ⟨p, r, k1, k2, a, b, c, e, rfl, hp, hq, hk, h0, q⟩ := h
  have s1 := hp.s1
  have s2 := hp.s2
  have s3 := hq.s1
  have s4 := hq.s2
  have zd := sz_small (sz_mono (show sz _ (b * c) by walk_at "zz") (show _ ≤ 8000 by omega)) (Nat.le_refl _)
  have zn : sz (k1 + k2) (a * e) := by walk_at "zz"
  have ze : sz (k1 + k2) (b * c) := by walk_at "zz"
  refine ⟨_, (pss_cons (ps_expr (pe_own (ok_p_need_fractions T D) (hr.mono (by decide)) (by rfl) pass0 (pa_cons (pv 0) (pa_cons (pv 1) pa_nil))))
      (pss_one (ps_ret (pe_ownD 2 1 (ok_p_fraction T D) (by simp) rfl (fun _ _ _ _ _ _ _ us its h1 h2 => match us, its, h1, h2 with | [_, _], [_], _, _ => ⟨_, rfl, rfl⟩) (hr.mono (by decide)) (by rfl) pass0 (pa_cons (pe_op o_mul (pe_ix ix_seq (pv 0) pe_int (fun _ _ => rfl)) (pe_ix ix_seq (pv 1) pe_int (fun _ _ => rfl))) (pa_cons (pe_op o_mul (pe_ix ix_seq (pv 0) pe_int (fun _ _ => rfl)) (pe_ix ix_seq (pv 1) pe_int (fun _ _ => rfl))) pa_nil)))))), ?_⟩
  walk_at "rd"
  rename_i z G hz sG gG
  exact q _ _ _ _ hz sG (FrAt.of gG h0 (sz_mono zn (by omega)) (sz_mono ze (by omega))) (wth_fr h0) (frB_pos h0) (fr_cross h0)

def sp_worth (K : PySem.W.Frag) : Sp := fun vs H Q _ => ∃ (p : Addr) (k j1 j2 : Nat) (a b n d : Int), vs = [.ref p, .int n, .int d] ∧ FrAt H p k a b ∧ Wth a b n d ∧ sz j1 n ∧ sz j2 d ∧ k + j1 ≤ 100000 ∧ k + j2 ≤ 100000 ∧ Q (.bl true) H
theorem ok_worth (T : Bi K mg) (D : Df K mg) : Cal P w K mg base CX0 2 "_law_worth" s_worth ["_law_found", "_law_top", "_law_bottom"] (sp_worth K) := by
  refine Cal.mk' D.worth (fun _ _ _ _ _ _ us hl => match us, hl with | [_, _, _], _ => rfl) fun f fd F => F.ok sc_worth (fun vs H Q E h => ?_) (fun cdv A outer s H vs Q E hr h => ?_)
  · obtain ⟨_, _, _, _, _, _, _, _, rfl, _⟩ := h
    rfl
  obtain ⟨p, k, j1, j2, a, b, n, d, rfl, hp, hw, z1, z2, l1, l2, q⟩ := h
  have i1 := hp.fr.1
  have i2 := hp.fr.2
  have s1 := hp.s1
  have s2 := hp.s2
  refine ⟨_, (pss_cons (ps_if (PW.pt (pw_or (pt_not (pt_truth (pe_callB c_isinst (by rfl) T.b_isinstance (by decide +kernel) (pa_cons (pv 0) (pa_cons (pe_bltn (v := .ty "tuple") (by rfl) T.b_tuple (by decide +kernel) rfl) pa_nil))) (by intro _; rfl))) (pw_or (pt_cmpR (o_ne hr.units) (pe_callB call_len (by rfl) T.b_len (by decide +kernel) (pa_cons (pv 0) pa_nil)) pe_int (nomark _)) (pw_or (pt_not (pt_truth (pe_own (ok_whole T D) (hr.mono (by decide)) (by rfl) pass0 (pa_cons (pe_ix ix_seq (pv 0) pe_int (fun _ _ => rfl)) pa_nil)) (by intro _; rfl))) (pw_or1 (pt_not (pt_truth (pe_own (ok_whole T D) (hr.mono (by decide)) (by rfl) pass0 (pa_cons (pe_ix ix_seq (pv 0) pe_int (fun _ _ => rfl)) pa_nil)) (by intro _; rfl)))))))) (pss_one (ps_ret pe_bl)) pss_nil)
      (pss_cons (ps_if (PW.pt (pw_or (pt_cmpR op_lt (pe_ix ix_seq (pv 0) pe_int (fun _ _ => rfl)) pe_int (nomark _)) (pw_or1 (pt_cmpR (o_ne hr.units) (pe_own (ok_shared T D) (hr.mono (by decide)) (by rfl) pass0 (pa_cons (pe_ix ix_seq (pv 0) pe_int (fun _ _ => rfl)) (pa_cons (pe_ix ix_seq (pv 0) pe_int (fun _ _ => rfl)) pa_nil))) pe_int (nomark _))))) (pss_one (ps_ret pe_bl)) pss_nil)
      (pss_one (ps_ret (pe_cmpR (o_eq hr.units) (pe_op o_mul (pe_ix ix_seq (pv 0) pe_int (fun _ _ => rfl)) (pv 2)) (pe_op o_mul (pv 1) (pe_ix ix_seq (pv 0) pe_int (fun _ _ => rfl))) (nomark _)))))), ?_⟩
  walk_at "rd"
  refine ite2 (fun c => absurd (of_decide_eq_true c) (by omega)) (fun _ => ?_)
  walk_at "rd"
  refine iteNS (congrArg V.int i2) ?_
  walk_at "rd"
  have e2 : decide (V.int (a * d) = V.int (n * b)) = true := decide_eq_true (congrArg V.int hw.2.2)
  show Q (.bl (decide (V.int (a * d) = V.int (n * b)))) H
  rw [e2]
  exact q
def sp_fraction (K : PySem.W.Frag) : Sp := fun vs H Q _ => ∃ (l : Addr) (b : Int), vs = [.ref l, .int b] ∧ Wl H l ∧ 0 < b ∧ b < 1000 ∧ ∀ H' p x y, Ch l H H' → Wl H' l → H p = none → FrAt H' p 210 x y → Q (.ref p) H'
theorem ok_fraction (T : Bi K mg) (D : Df K mg) : Cal P w K mg base CX0 3 "_law_fraction" s_fraction ["_law_well_here", "_law_bottom"] (sp_fraction K) := by
  refine Cal.mk' D.fraction (fun _ _ _ _ _ _ us hl => match us, hl with | [_, _], _ => rfl) fun f fd F => F.ok sc_fraction (fun vs H Q E h => ?_) (fun cdv A outer s H vs Q E hr h => ?_)
  · obtain ⟨_, _, rfl, _⟩ := h
    rfl
  obtain ⟨l, b, rfl, hW, b0, b1, q⟩ := h
  refine ⟨_, (pss_cons (ps_set (i := 2) sc_fraction.nd rfl (by first | exact Or.inl rfl | exact Or.inr rfl) (pe_own (ok_number T D) (hr.mono (by decide)) (by rfl) pass0 (pa_cons (pv 0) (pa_cons (pe_op o_sub (pe_op o_pow pe_int pe_int) pe_int) pa_nil))))
      (C8.pss_cut (ps_if (pt_cmpR op_gt (pe_own (ok_draw T D) (hr.mono (by decide)) (by rfl) pass0 (pa_cons (pv 0) (pa_cons pe_int pa_nil))) pe_int (nomark _)) (pss_one (ps_set (i := 1) sc_fraction.nd rfl (by first | exact Or.inl rfl | exact Or.inr rfl) (pe_op o_add pe_int (pe_callB call_abs (by rfl) T.b_abs (by decide +kernel) (pa_cons (pe_own (ok_number T D) (hr.mono (by decide)) (by rfl) pass0 (pa_cons (pv 0) (pa_cons (pe_op o_pow pe_int pe_int) pa_nil))) pa_nil))))) pss_nil)
      (pss_one (ps_ret (pe_ownD 2 1 (ok_p_fraction T D) (by simp) rfl (fun _ _ _ _ _ _ _ us its h1 h2 => match us, its, h1, h2 with | [_, _], [_], _, _ => ⟨_, rfl, rfl⟩) (hr.mono (by decide)) (by rfl) pass0 (pa_cons (pv 2) (pa_cons (pv 1) pa_nil))))))), ?_⟩
  walk_at "rd"
  intro H1 t c1 w1 t1
  walk_at "rd"
  refine ⟨fun σ' H' => ∃ u : Int, σ' = [some (.ref l), some (.int u), some (.int t)] ∧ 0 < u ∧ u.natAbs ≤ 10 ^ 60 ∧ Ch l H H' ∧ Wl H' l, ?_, ?_⟩
  · walk_at "rd"
    intro H2 r c2 w2 r0 r1
    walk_at "rd"
    refine ite2 (fun c => ?_) (fun c => ?_)
    · walk_at "rd"
      intro H3 n c3 w3 n1
      walk_at "rd"
      exact ⟨by walk_at "ch", w3⟩
    · walk_at "rd"
      exact ⟨by walk_at "ch", w2⟩
  rintro σ' H2 ⟨u, rfl, u0, u1, c2, w2⟩
  have hu : u ≠ 0 := by omega
  have hs : small u := small_lt (k := 10 ^ 61) (by omega)
  walk_at "rd"
  rename_i z G hz sG gG
  obtain ⟨o, ho⟩ := w2.get
  exact q _ _ _ _ (c2.trans (Same.ch sG)) (w2.same sG) (c2.free ho hz) (FrAt.of gG hu (Nat.lt_of_lt_of_le t1 (by decide)) (Nat.lt_of_le_of_lt u1 (by decide)))

theorem pair_eq (a b c e x y : Int) (h : x * (b * e) = (a * c) * y) : (x * e) * b = a * (y * c) := by grind
def sp_pair (K : PySem.W.Frag) : Sp := fun vs H Q _ => ∃ (p r : Addr) (a b c e : Int), vs = [.ref p, .ref r] ∧ FrAt H p 210 a b ∧ FrAt H r 210 c e ∧ ∀ H', Same H H' → Q (.bl true) H'
theorem ok_pair (T : Bi K mg) (D : Df K mg) : Cal P w K mg base CX0 5 "_law_pair" s_pair ["_law_this", "_law_two"] (sp_pair K) := by
  refine Cal.mk' D.pair (fun _ _ _ _ _ _ us hl => match us, hl with | [_, _], _ => rfl) fun f fd F => F.ok sc_pair (fun vs H Q E h => ?_) (fun cdv A outer s H vs Q E hr h => ?_)
  · obtain ⟨_, _, _, _, _, _, rfl, _⟩ := h
    rfl
  obtain ⟨p, r, a, b, c, e, rfl, hp, hq, q⟩ := h
  refine ⟨_, (pss_cons (ps_asg (pv 0) (pg_any rfl (pgs_cons (pg_name (i := 2) sc_pair.nd rfl (by first | exact Or.inl rfl | exact Or.inr rfl)) (pgs_cons (pg_name (i := 3) sc_pair.nd rfl (by first | exact Or.inl rfl | exact Or.inr rfl)) pgs_nil))))
      (pss_cons (ps_asg (pv 1) (pg_any rfl (pgs_cons (pg_name (i := 4) sc_pair.nd rfl (by first | exact Or.inl rfl | exact Or.inr rfl)) (pgs_cons (pg_name (i := 5) sc_pair.nd rfl (by first | exact Or.inl rfl | exact Or.inr rfl)) pgs_nil))))
      (pss_cons (ps_if (PW.pt (pw_or (pt_not (pt_truth (pe_own (ok_worth T D) (hr.mono (by decide)) (by rfl) pass0 (pa_cons (pe_own (ok_p_plus T D) (hr.mono (by decide)) (by rfl) pass0 (pa_cons (pv 0) (pa_cons (pv 1) pa_nil))) (pa_cons (pe_op o_add (pe_op o_mul (pv 2) (pv 5)) (pe_op o_mul (pv 4) (pv 3))) (pa_cons (pe_op o_mul (pv 3) (pv 5)) pa_nil)))) (by intro _; rfl))) (pw_or1 (pt_cmpR (o_ne hr.units) (pe_ownK (ks := ["other", "one"]) (fun {_} l => match l with | [x0, x1] => [x1, x0] | _ => []) (ok_p_plus T D) (hr.mono (by decide)) (by rfl) pass0 (fun _ _ _ _ _ _ ws hl => match ws, hl with | [_, _], _ => rfl) (by walk_at "kw_len") (by walk_at "kw_rel") (pk_cons (pv 0) (pk_cons (pv 1) pk_nil))) (pe_own (ok_p_plus T D) (hr.mono (by decide)) (by rfl) pass0 (pa_cons (pv 0) (pa_cons (pv 1) pa_nil))) (nomark _))))) (pss_one (ps_ret pe_bl)) pss_nil)
      (pss_cons (ps_if (PW.pt (pw_or (pt_not (pt_truth (pe_own (ok_worth T D) (hr.mono (by decide)) (by rfl) pass0 (pa_cons (pe_own (ok_p_minus T D) (hr.mono (by decide)) (by rfl) pass0 (pa_cons (pv 0) (pa_cons (pv 1) pa_nil))) (pa_cons (pe_op o_sub (pe_op o_mul (pv 2) (pv 5)) (pe_op o_mul (pv 4) (pv 3))) (pa_cons (pe_op o_mul (pv 3) (pv 5)) pa_nil)))) (by intro _; rfl))) (pw_or1 (pt_cmpR (o_ne hr.units) (pe_own (ok_p_minus T D) (hr.mono (by decide)) (by rfl) pass0 (pa_cons (pe_own (ok_p_plus T D) (hr.mono (by decide)) (by rfl) pass0 (pa_cons (pv 0) (pa_cons (pv 1) pa_nil))) (pa_cons (pv 1) pa_nil))) (pv 0) (nomark _))))) (pss_one (ps_ret pe_bl)) pss_nil)
      (pss_cons (ps_if (PW.pt (pw_or (pt_not (pt_truth (pe_own (ok_worth T D) (hr.mono (by decide)) (by rfl) pass0 (pa_cons (pe_own (ok_p_times T D) (hr.mono (by decide)) (by rfl) pass0 (pa_cons (pv 0) (pa_cons (pv 1) pa_nil))) (pa_cons (pe_op o_mul (pv 2) (pv 4)) (pa_cons (pe_op o_mul (pv 3) (pv 5)) pa_nil)))) (by intro _; rfl))) (pw_or1 (pt_cmpR (o_ne hr.units) (pe_own (ok_p_times T D) (hr.mono (by decide)) (by rfl) pass0 (pa_cons (pv 1) (pa_cons (pv 0) pa_nil))) (pe_ownK (ks := ["other", "one"]) (fun {_} l => match l with | [x0, x1] => [x1, x0] | _ => []) (ok_p_times T D) (hr.mono (by decide)) (by rfl) pass0 (fun _ _ _ _ _ _ ws hl => match ws, hl with | [_, _], _ => rfl) (by walk_at "kw_len") (by walk_at "kw_rel") (pk_cons (pv 1) (pk_cons (pv 0) pk_nil))) (nomark _))))) (pss_one (ps_ret pe_bl)) pss_nil)
      (pss_cons (ps_if (pt_cmpR (o_eq hr.units) (pv 4) pe_int (nomark _)) (pss_one (ps_ret pe_bl)) pss_nil)
      (pss_cons (ps_if (PW.pt (pw_or (pt_not (pt_truth (pe_own (ok_worth T D) (hr.mono (by decide)) (by rfl) pass0 (pa_cons (pe_own (ok_p_shared T D) (hr.mono (by decide)) (by rfl) pass0 (pa_cons (pv 0) (pa_cons (pv 1) pa_nil))) (pa_cons (pe_op o_mul (pv 2) (pv 5)) (pa_cons (pe_op o_mul (pv 3) (pv 4)) pa_nil)))) (by intro _; rfl))) (pw_or1 (pt_cmpR (o_ne hr.units) (pe_own (ok_p_shared T D) (hr.mono (by decide)) (by rfl) pass0 (pa_cons (pe_own (ok_p_times T D) (hr.mono (by decide)) (by rfl) pass0 (pa_cons (pv 0) (pa_cons (pv 1) pa_nil))) (pa_cons (pv 1) pa_nil))) (pv 0) (nomark _))))) (pss_one (ps_ret pe_bl)) pss_nil)
      (pss_one (ps_ret (pe_andT (pe_cmpR (o_eq hr.units) (pe_ownK (ks := ["other", "one"]) (fun {_} l => match l with | [x0, x1] => [x1, x0] | _ => []) (ok_p_shared T D) (hr.mono (by decide)) (by rfl) pass0 (fun _ _ _ _ _ _ ws hl => match ws, hl with | [_, _], _ => rfl) (by walk_at "kw_len") (by walk_at "kw_rel") (pk_cons (pv 1) (pk_cons (pv 0) pk_nil))) (pe_own (ok_p_shared T D) (hr.mono (by decide)) (by rfl) pass0 (pa_cons (pv 0) (pa_cons (pv 1) pa_nil))) (nomark _)) (pe_one (pe_cmpR (o_eq hr.units) (pe_ownK (ks := ["other", "one"]) (fun {_} l => match l with | [x0, x1] => [x1, x0] | _ => []) (ok_p_minus T D) (hr.mono (by decide)) (by rfl) pass0 (fun _ _ _ _ _ _ ws hl => match ws, hl with | [_, _], _ => rfl) (by walk_at "kw_len") (by walk_at "kw_rel") (pk_cons (pv 1) (pk_cons (pv 0) pk_nil))) (pe_own (ok_p_minus T D) (hr.mono (by decide)) (by rfl) pass0 (pa_cons (pv 0) (pa_cons (pv 1) pa_nil))) (nomark _))))))))))))), ?_⟩
  have i1 := hp.fr.1
  have i2 := hq.fr.1
  have s1 := hp.s1
  have s2 := hp.s2
  have s3 := hq.s1
  have s4 := hq.s2
  have g1 := hp.get
  have g2 := hq.get
  have t1 := wth_self hp.fr
  have t2 := wth_self hq.fr
  walk_at "rdq"
  refine ite2 (fun z => ?_) (fun z => ?_)
  · walk_at "rdq"
    exact q _ (by walk_at "sm")
  · have hc : c ≠ 0 := fun e => z (by rw [e]; decide)
    walk_at "rdq"
    rename_i ra Ga xa ya ha sa fa wa va ea rb Gb xb yb hb sb fb wb vb eb
    refine iteNb (eqv_w wb t1 ?_) ?_
    · exact pair_eq a b c e xa ya ea
    walk_at "rdq"
    rename_i rc Gc xc yc hc' sc fc wc vc ec re Ge xe ye he se fe we ve ee
    show Q (.bl (PyData.eqv (.tuple [.int xc, .int yc]) (.tuple [.int xe, .int ye]))) _
    rw [eqv_w wc we rfl]
    exact q _ (by walk_at "sm")

theorem id1 (a b c d e f : Int) : (a * (c * f + e * d)) * ((b * d) * (b * f)) = ((a * c) * (b * f) + (a * e) * (b * d)) * (b * (d * f)) := by grind
theorem id2 (a b c d e f : Int) : ((a * d + c * b) * f + e * (b * d)) * (b * (d * f)) = (a * (d * f) + (c * f + e * d) * b) * ((b * d) * f) := by grind
theorem id3 (a b : Int) : (a * 1 + 0 * b) * b = a * (b * 1) := by grind
theorem id4 (a b c d e f : Int) : ((a * c) * e) * (b * (d * f)) = (a * (c * e)) * ((b * d) * f) := by grind
theorem id5 (a b : Int) : (a * 1) * b = a * (b * 1) := by grind
def sp_law := spLaw
theorem ok_law (T : Bi K mg) (D : Df K mg) : Cal P w K mg base CX0 6 "law" s_law ["_law_script"] (sp_law K) := by
  refine Cal.mk' D.law (fun _ _ _ _ _ _ us hl => match us, hl with | [_], _ => rfl) fun f fd F => F.ok sc_law (fun vs H Q E h => ?_) (fun cdv A outer s H vs Q E hr h => ?_)
  · obtain ⟨a, ns, rfl, _⟩ := h
    rfl
  obtain ⟨a, ns, rfl, hS, h63, q⟩ := h
  refine ⟨_, (pss_cons (ps_for PassesOwn.never rfl (pi_seq (pe_slice s_any (pe_op o_add (pv 0) (n_lst (pa_cons pe_int pa_nil))) po_none (po_some pe_int))) (pg_name (i := 1) sc_law.nd rfl (by first | exact Or.inl rfl | exact Or.inr rfl)) (pss_cons (ps_set (i := 2) sc_law.nd rfl (by first | exact Or.inl rfl | exact Or.inr rfl) (pe_own (ok_well T D) (hr.mono (by decide)) (by rfl) pass0 (pa_cons (pv 1) pa_nil)))
      (pss_cons (ps_set (i := 3) sc_law.nd rfl (by first | exact Or.inl rfl | exact Or.inr rfl) (pe_op o_add pe_int (pe_own (ok_draw T D) (hr.mono (by decide)) (by rfl) pass0 (pa_cons (pv 2) (pa_cons pe_int pa_nil)))))
      (pss_cons (ps_setLc (i := 4) (own := [("_law_k", 8)]) (by rfl) sc_law.nd rfl rfl (sw_true rfl rfl rfl (by decide +kernel)) (pi_range1 (by rfl) T.b_range (pa_cons pe_int pa_nil)) (blkOk_by (own := [("_law_k", 8)]) (N := N_law) (sc := defScope s_law) (by decide +kernel)) (fun _ _ _ _ _ => (pg_name (i := 8) sc_law.nd rfl (by first | exact Or.inl rfl | exact Or.inr rfl))) (fun _ _ _ _ _ => pts_nil) (fun _ _ _ _ _ => (pe_own (ok_fraction T D) (hr.mono (by decide)) (by rfl) pass0 (pa_cons (pv 2) (pa_cons (pv 3) pa_nil)))))
      (pss_cons (ps_for PassesOwn.never rfl (pi_seq (n_lst (pa_cons (n_tup (pa_cons (pe_ix ix_seq (pv 4) pe_int (fun _ _ => rfl)) (pa_cons (pe_ix ix_seq (pv 4) pe_int (fun _ _ => rfl)) pa_nil))) (pa_cons (n_tup (pa_cons (pe_ix ix_seq (pv 4) pe_int (fun _ _ => rfl)) (pa_cons (pe_ix ix_seq (pv 4) pe_int (fun _ _ => rfl)) pa_nil))) (pa_cons (n_tup (pa_cons (pe_ix ix_seq (pv 4) pe_int (fun _ _ => rfl)) (pa_cons (pe_ix ix_seq (pv 4) pe_int (fun _ _ => rfl)) pa_nil))) (pa_cons (n_tup (pa_cons (pe_ix ix_seq (pv 4) pe_int (fun _ _ => rfl)) (pa_cons (n_tup (pa_cons pe_int (pa_cons pe_int pa_nil))) pa_nil))) pa_nil)))))) (pg_any rfl (pgs_cons (pg_name (i := 5) sc_law.nd rfl (by first | exact Or.inl rfl | exact Or.inr rfl)) (pgs_cons (pg_name (i := 6) sc_law.nd rfl (by first | exact Or.inl rfl | exact Or.inr rfl)) pgs_nil))) (pss_one (ps_if (pt_not (pt_truth (pe_own (ok_pair T D) (hr.mono (by decide)) (by rfl) pass0 (pa_cons (pv 5) (pa_cons (pv 6) pa_nil))) (by intro _; rfl))) (pss_one (ps_ret pe_bl)) pss_nil)))
      (pss_cons (ps_asg (pv 4) (pg_any rfl (pgs_cons (pg_name (i := 5) sc_law.nd rfl (by first | exact Or.inl rfl | exact Or.inr rfl)) (pgs_cons (pg_name (i := 6) sc_law.nd rfl (by first | exact Or.inl rfl | exact Or.inr rfl)) (pgs_cons (pg_name (i := 7) sc_law.nd rfl (by first | exact Or.inl rfl | exact Or.inr rfl)) pgs_nil)))))
      (pss_cons (ps_if (pt_cmpR (o_ne hr.units) (pe_own (ok_p_times T D) (hr.mono (by decide)) (by rfl) pass0 (pa_cons (pv 5) (pa_cons (pe_own (ok_p_plus T D) (hr.mono (by decide)) (by rfl) pass0 (pa_cons (pv 6) (pa_cons (pv 7) pa_nil))) pa_nil))) (pe_own (ok_p_plus T D) (hr.mono (by decide)) (by rfl) pass0 (pa_cons (pe_own (ok_p_times T D) (hr.mono (by decide)) (by rfl) pass0 (pa_cons (pv 5) (pa_cons (pv 6) pa_nil))) (pa_cons (pe_own (ok_p_times T D) (hr.mono (by decide)) (by rfl) pass0 (pa_cons (pv 5) (pa_cons (pv 7) pa_nil))) pa_nil))) (nomark _)) (pss_one (ps_ret pe_bl)) pss_nil)
      (pss_cons (ps_if (PW.pt (pw_or (pt_cmpR (o_ne hr.units) (pe_own (ok_p_plus T D) (hr.mono (by decide)) (by rfl) pass0 (pa_cons (pe_own (ok_p_plus T D) (hr.mono (by decide)) (by rfl) pass0 (pa_cons (pv 5) (pa_cons (pv 6) pa_nil))) (pa_cons (pv 7) pa_nil))) (pe_own (ok_p_plus T D) (hr.mono (by decide)) (by rfl) pass0 (pa_cons (pv 5) (pa_cons (pe_own (ok_p_plus T D) (hr.mono (by decide)) (by rfl) pass0 (pa_cons (pv 6) (pa_cons (pv 7) pa_nil))) pa_nil))) (nomark _)) (pw_or1 (pt_cmpR (o_ne hr.units) (pe_own (ok_p_plus T D) (hr.mono (by decide)) (by rfl) pass0 (pa_cons (pv 5) (pa_cons (n_tup (pa_cons pe_int (pa_cons pe_int pa_nil))) pa_nil))) (pv 5) (nomark _))))) (pss_one (ps_ret pe_bl)) pss_nil)
      (pss_one (ps_if (PW.pt (pw_or (pt_cmpR (o_ne hr.units) (pe_own (ok_p_times T D) (hr.mono (by decide)) (by rfl) pass0 (pa_cons (pe_own (ok_p_times T D) (hr.mono (by decide)) (by rfl) pass0 (pa_cons (pv 5) (pa_cons (pv 6) pa_nil))) (pa_cons (pv 7) pa_nil))) (pe_own (ok_p_times T D) (hr.mono (by decide)) (by rfl) pass0 (pa_cons (pv 5) (pa_cons (pe_own (ok_p_times T D) (hr.mono (by decide)) (by rfl) pass0 (pa_cons (pv 6) (pa_cons (pv 7) pa_nil))) pa_nil))) (nomark _)) (pw_or1 (pt_cmpR (o_ne hr.units) (pe_own (ok_p_times T D) (hr.mono (by decide)) (by rfl) pass0 (pa_cons (pv 5) (pa_cons (n_tup (pa_cons pe_int (pa_cons pe_int pa_nil))) pa_nil))) (pv 5) (nomark _))))) (pss_one (ps_ret pe_bl)) pss_nil))))))))))
      (pss_one (ps_ret pe_bl))), ?_⟩
  walk_at "rd"
  rename_i p1 G1 hp1 s1 g1
  refine Or.inr (Or.inl ⟨_, _, _, _, rfl, rfl, s1.seq hS, SqL.of' g1, ?_, ?_⟩)
  · rw [List.length_map]
    exact Nat.le_trans (show ns.length + 1 ≤ 1000 by omega) (by decide)
  intro p2 G2 hp2 s2 g2
  walk_at "rd"
  refine Or.inl ⟨_, _, rfl, SqL.of' g2, ?_⟩
  intro p3 G3 hp3 s3 g3
  have e3 : ns.map V.int ++ [V.int 0] = (ns ++ [0]).map V.int := by simp
  rw [e3] at g3
  refine ⟨_, rfl, ⟨_, SqL.of' g3⟩, ?_⟩
  refine for_list (xs := cutV ((ns ++ [0]).map V.int) none (some 8)) (fun i σ' H' => ∃ x1 x2 x3 x4 x5 x6 x7 x8, σ' = [some (.ref a), x1, x2, x3, x4, x5, x6, x7, x8] ∧ Same G3 H') ?_ ?_ ?_ ?_
  · exact ⟨_, _, _, _, _, _, _, _, rfl, Same.refl _⟩
  · intro i σ' H' _ hP
    obtain ⟨_, _, _, _, _, _, _, _, rfl, sm⟩ := hP
    exact sm.seq (SqL.of' g3)
  rotate_left
  · intro σ' H' hP
    walk_at "rd"
    exact q _
  intro i x σ' H' hx hP
  obtain ⟨x1, x2, x3, x4, x5, x6, x7, x8, rfl, sm⟩ := hP
  obtain ⟨c, rfl⟩ := cutV_int hx
  walk_at "rd"
  intro H1 l sA nA w1
  walk_at "rd"
  intro H2 r c2 w2 r0 r1
  walk_at "rd"
  intro D hD
  have nD : H' D = none := sA.free (by obtain ⟨o, ho⟩ := w2.get; exact c2.free ho hD)
  have lD : l ≠ D := w2.ne hD
  refine lc_range (lo := 0) (n := 3) (fun i X => ∃ fs : List (Addr × Int × Int), fs.length = i ∧ X D = some (.lst (fs.map fun f => V.ref f.1)) ∧ (∀ f ∈ fs, FrAt X f.1 210 f.2.1 f.2.2) ∧ Wl X l ∧ Same H' X) ?_ ?_ ?_
  · exact ⟨[], rfl, upd_same, ⟨fun f hf => absurd hf (by simp), w2.new hD, (Ch.own sA nA c2).trans (same_new hD)⟩⟩
  · intro i X hi hP
    obtain ⟨fs, fl, fD, ff, wX, sX⟩ := hP
    refine ⟨rfl, ?_⟩
    walk_at "rd"
    intro X2 p x y cX wX2 hp fp
    have gD2 : X2 D = some (.lst (fs.map fun f => V.ref f.1)) := cX.get fD (Ne.symm lD)
    have hpD : p ≠ D := fun e => by rw [e, fD] at hp; cases hp
    refine ⟨_, gD2, ?_, fs ++ [(p, x, y)], by simp [fl], by rw [upd_same]; simp, ?_, ?_, ?_⟩
    · rw [List.length_map, fl]
      exact Nat.lt_of_lt_of_le (show i < 1000 by omega) (by decide)
    · intro f hf
      rw [List.mem_append, List.mem_singleton] at hf
      rcases hf with hf | rfl
      · exact ((ff f hf).ch cX wX).upd gD2
      · exact fp.upd gD2
    · obtain ⟨u1, u2, u3, u4, u5, u6⟩ := wX2.ex
      exact ⟨_, _, _, (upd_ne lD).trans u4, u5, u6⟩
    · exact fun b o hb => by
        have n1 : b ≠ D := ne_of_none hb nD
        have n2 : b ≠ l := ne_of_none hb nA
        rw [upd_ne n1]
        exact cX b o n2 (sX b o hb)
  · intro X hP
    obtain ⟨fs, fl, fD, ff, wX, sX⟩ := hP
    obtain ⟨⟨p5, a5, b5⟩, ⟨p6, a6, b6⟩, ⟨p7, a7, b7⟩, rfl⟩ : ∃ f g h, fs = [f, g, h] := by
      match fs, fl with
      | [f, g, h], _ => exact ⟨f, g, h, rfl⟩
    have f5 : FrAt X p5 210 a5 b5 := ff _ (List.mem_cons_self ..)
    have f6 : FrAt X p6 210 a6 b6 := ff _ (List.mem_cons_of_mem _ (List.mem_cons_self ..))
    have f7 : FrAt X p7 210 a7 b7 := ff _ (List.mem_cons_of_mem _ (List.mem_cons_of_mem _ (List.mem_cons_self ..)))
    have gD : X D = some (.lst [.ref p5, .ref p6, .ref p7]) := fD
    have i5 := f5.fr.1
    have i6 := f6.fr.1
    have i7 := f7.fr.1
    have t5 := wth_self f5.fr
    have t6 := wth_self f6.fr
    have t7 := wth_self f7.fr
    walk_at "rd"
    rename_i q1 Q1 hq1 u1 v1 q2 Q2 hq2 u2 v2 q3 Q3 hq3 u3 v3 q4 Q4 hq4 u4 v4 q5 Q5 hq5 u5 v5 q6 Q6 hq6 u6 v6
    refine ⟨⟨_, SqL.of' v6⟩, ?_⟩
    have z1 : Q6 q1 = some (.tup [.ref p5, .ref p6]) := by walk_at "hf"
    have z2 : Q6 q2 = some (.tup [.ref p6, .ref p5]) := by walk_at "hf"
    have z3 : Q6 q3 = some (.tup [.ref p7, .ref p7]) := by walk_at "hf"
    have z4 : Q6 q4 = some (.tup [.int 0, .int 1]) := by walk_at "hf"
    have z5 : Q6 q5 = some (.tup [.ref p7, .ref q4]) := by walk_at "hf"
    have F5 : FrAt Q6 p5 210 a5 b5 := by walk_at "fa"
    have F6 : FrAt Q6 p6 210 a6 b6 := by walk_at "fa"
    have F7 : FrAt Q6 p7 210 a7 b7 := by walk_at "fa"
    have F4 : FrAt Q6 q4 210 0 1 := (FrAt.lit z4 sz_lit).mono (by decide)
    have zD : Q6 D = some (.lst [.ref p5, .ref p6, .ref p7]) := by walk_at "hf"
    have sQ : Same G3 Q6 := by walk_at "sm"
    refine for_list (xs := [.ref q1, .ref q2, .ref q3, .ref q5]) (fun i σ' H' => ∃ y5 y6 y7 y8, σ' = [some (.ref a), some (.int c), some (.ref l), some (.int (1 + r)), some (.ref D), y5, y6, y7, y8] ∧ Same Q6 H') ?_ ?_ ?_ ?_
    · exact ⟨_, _, _, _, rfl, Same.refl _⟩
    · intro i σ' X _ hP
      obtain ⟨_, _, _, _, rfl, sX⟩ := hP
      exact sX.seq (SqL.of' v6)
    · intro i x σ' X hx hP
      obtain ⟨y5, y6, y7, y8, rfl, sX⟩ := hP
      have it : ∃ (t p r : Addr) (a b c e : Int), x = .ref t ∧ X t = some (.tup [.ref p, .ref r]) ∧ FrAt X p 210 a b ∧ FrAt X r 210 c e := by
        match i, hx with
        | 0, hx => cases hx; exact ⟨_, _, _, _, _, _, _, rfl, sX _ _ z1, F5.same sX, F6.same sX⟩
        | 1, hx => cases hx; exact ⟨_, _, _, _, _, _, _, rfl, sX _ _ z2, F6.same sX, F5.same sX⟩
        | 2, hx => cases hx; exact ⟨_, _, _, _, _, _, _, rfl, sX _ _ z3, F7.same sX, F7.same sX⟩
        | 3, hx => cases hx; exact ⟨_, _, _, _, _, _, _, rfl, sX _ _ z5, F7.same sX, F4.same sX⟩
        | i + 4, hx => simp at hx
      obtain ⟨t, p, r', a', b', c', e', rfl, gt, fp, fr⟩ := it
      walk_at "rd"
      intro X2 s2
      walk_at "rd"
      exact ⟨_, _, _, _, rfl, sX.trans s2⟩
    · intro σ' X hP
      obtain ⟨y5, y6, y7, y8, rfl, sX⟩ := hP
      have F5 := F5.same sX
      have F6 := F6.same sX
      have F7 := F7.same sX
      have zD := sX _ _ zD
      walk_at "rd"
      rename_i rA GA xA yA hA sA fA wA vA eA rB GB xB yB hB sB fB wB vB eB rC GC xC yC hC sC fC wC vC eC rE GE xE yE hE sE fE wE vE eE rF GF xF yF hF sF fF wF vF eF
      refine iteNb (eqv_w (w_times t5 wA wB) (w_plus wC wE wF) (id1 a5 b5 a6 b6 a7 b7)) ?_
      clear eA eB eC eE eF fA fB fC fE fF wA wB wC wE wF
      walk_at "rd"
      rename_i rA GA xA yA hA sA fA wA vA eA rB GB xB yB hB sB fB wB vB eB rC GC xC yC hC sC fC wC vC eC rE GE xE yE hE sE fE wE vE eE
      refine iteNb (eqv_w (w_plus wA t7 wB) (w_plus t5 wC wE) (id2 a5 b5 a6 b6 a7 b7)) ?_
      clear eA eB eC eE fA fB fC fE wA wB wC wE
      walk_at "rd"
      rename_i p Gp hp sGp gp rA GA xA yA hA sA fA wA vA eA
      refine iteNb (eqv_w wA t5 (id3 a5 b5)) ?_
      clear eA fA wA
      walk_at "rd"
      rename_i rA GA xA yA hA sA fA wA vA eA rB GB xB yB hB sB fB wB vB eB rC GC xC yC hC sC fC wC vC eC rE GE xE yE hE sE fE wE vE eE
      refine iteNb (eqv_w (w_times wA t7 wB) (w_times t5 wC wE) (id4 a5 b5 a6 b6 a7 b7)) ?_
      clear eA eB eC eE fA fB fC fE wA wB wC wE
      walk_at "rd"
      rename_i p' Gp' hp' sGp' gp' rA GA xA yA hA sA fA wA vA eA
      refine iteNb (eqv_w wA t5 (id5 a5 b5)) ?_
      walk_at "rd"
      exact ⟨_, _, _, _, _, _, _, _, rfl, by walk_at "sm"⟩
end
theorem all_mk {l : PySem.W.OpenLaw} {w : World} {K : PySem.W.Frag} {h : Heap} {mg : Str → Option Value} {fa : Addr} (X : K.In h) (G : h.Ns mainGlobals mg) (hfa : mg "law" = some (.ref fa))
    {f0 : Addr} {od0 an0 : Option Addr} {sl0 : Array (Option Value)} {oc0 kV0 dc0 pm0 cd0 ct0 : Value}
    (a0 : PySem.W.nsIn K mainGlobals "is_whole" = some (some (.ref f0))) (l0 : K.lookup f0 = some ⟨oc0, od0, .func (PySem.W.fnOf "is_whole" "is_whole" (defArgs s_p_is_whole) (defBody s_p_is_whole) (defScope s_p_is_whole) .none kV0 dc0 pm0 an0 cd0 ct0), sl0⟩) (c0 : PySem.W.codeIn K cd0 "is_whole" = true) (k0 : PySem.W.keepIn K (.ref f0) = true)
    {f1 Td1 : Addr} {od1 an1 odT1 : Option Addr} {sl1 slT1 : Array (Option Value)} {oc1 kV1 dc1 pm1 cd1 ct1 ocT1 : Value} {nT1 : Nat} {tk1_0 : Nat}
    (a1 : PySem.W.nsIn K mainGlobals "fraction" = some (some (.ref f1))) (l1 : K.lookup f1 = some ⟨oc1, od1, .func (PySem.W.fnOf "fraction" "fraction" (defArgs s_p_fraction) (defBody s_p_fraction) (defScope s_p_fraction) (.ref Td1) kV1 dc1 pm1 an1 cd1 ct1), sl1⟩) (c1 : PySem.W.codeIn K cd1 "fraction" = true) (k1 : PySem.W.keepIn K (.ref f1) = true)
    (t1 : K.lookup Td1 = some ⟨ocT1, odT1, .seq ([Value.int 1 tk1_0] : List Value).toArray nT1, slT1⟩)
    {f2 : Addr} {od2 an2 : Option Addr} {sl2 : Array (Option Value)} {oc2 kV2 dc2 pm2 cd2 ct2 : Value}
    (a2 : PySem.W.nsIn K mainGlobals "is_fraction" = some (some (.ref f2))) (l2 : K.lookup f2 = some ⟨oc2, od2, .func (PySem.W.fnOf "is_fraction" "is_fraction" (defArgs s_p_is_fraction) (defBody s_p_is_fraction) (defScope s_p_is_fraction) .none kV2 dc2 pm2 an2 cd2 ct2), sl2⟩) (c2 : PySem.W.codeIn K cd2 "is_fraction" = true) (k2 : PySem.W.keepIn K (.ref f2) = true)
    {f3 : Addr} {od3 an3 : Option Addr} {sl3 : Array (Option Value)} {oc3 kV3 dc3 pm3 cd3 ct3 : Value}
    (a3 : PySem.W.nsIn K mainGlobals "plus" = some (some (.ref f3))) (l3 : K.lookup f3 = some ⟨oc3, od3, .func (PySem.W.fnOf "plus" "plus" (defArgs s_p_plus) (defBody s_p_plus) (defScope s_p_plus) .none kV3 dc3 pm3 an3 cd3 ct3), sl3⟩) (c3 : PySem.W.codeIn K cd3 "plus" = true) (k3 : PySem.W.keepIn K (.ref f3) = true)
    {f4 : Addr} {od4 an4 : Option Addr} {sl4 : Array (Option Value)} {oc4 kV4 dc4 pm4 cd4 ct4 : Value}
    (a4 : PySem.W.nsIn K mainGlobals "minus" = some (some (.ref f4))) (l4 : K.lookup f4 = some ⟨oc4, od4, .func (PySem.W.fnOf "minus" "minus" (defArgs s_p_minus) (defBody s_p_minus) (defScope s_p_minus) .none kV4 dc4 pm4 an4 cd4 ct4), sl4⟩) (c4 : PySem.W.codeIn K cd4 "minus" = true) (k4 : PySem.W.keepIn K (.ref f4) = true)
    {f5 : Addr} {od5 an5 : Option Addr} {sl5 : Array (Option Value)} {oc5 kV5 dc5 pm5 cd5 ct5 : Value}
    (a5 : PySem.W.nsIn K mainGlobals "times" = some (some (.ref f5))) (l5 : K.lookup f5 = some ⟨oc5, od5, .func (PySem.W.fnOf "times" "times" (defArgs s_p_times) (defBody s_p_times) (defScope s_p_times) .none kV5 dc5 pm5 an5 cd5 ct5), sl5⟩) (c5 : PySem.W.codeIn K cd5 "times" = true) (k5 : PySem.W.keepIn K (.ref f5) = true)
    {f6 : Addr} {od6 an6 : Option Addr} {sl6 : Array (Option Value)} {oc6 kV6 dc6 pm6 cd6 ct6 : Value}
    (a6 : PySem.W.nsIn K mainGlobals "shared" = some (some (.ref f6))) (l6 : K.lookup f6 = some ⟨oc6, od6, .func (PySem.W.fnOf "shared" "shared" (defArgs s_p_shared) (defBody s_p_shared) (defScope s_p_shared) .none kV6 dc6 pm6 an6 cd6 ct6), sl6⟩) (c6 : PySem.W.codeIn K cd6 "shared" = true) (k6 : PySem.W.keepIn K (.ref f6) = true)
    {f7 : Addr} {od7 an7 : Option Addr} {sl7 : Array (Option Value)} {oc7 kV7 dc7 pm7 cd7 ct7 : Value}
    (a7 : PySem.W.nsIn K mainGlobals "_need_fractions" = some (some (.ref f7))) (l7 : K.lookup f7 = some ⟨oc7, od7, .func (PySem.W.fnOf "_need_fractions" "_need_fractions" (defArgs s_p_need_fractions) (defBody s_p_need_fractions) (defScope s_p_need_fractions) .none kV7 dc7 pm7 an7 cd7 ct7), sl7⟩) (c7 : PySem.W.codeIn K cd7 "_need_fractions" = true) (k7 : PySem.W.keepIn K (.ref f7) = true)
    {f8 : Addr} {od8 an8 : Option Addr} {sl8 : Array (Option Value)} {oc8 kV8 dc8 pm8 cd8 ct8 : Value}
    (a8 : PySem.W.nsIn K mainGlobals "_law_well" = some (some (.ref f8))) (l8 : K.lookup f8 = some ⟨oc8, od8, .func (PySem.W.fnOf "_law_well" "_law_well" (defArgs s_well) (defBody s_well) (defScope s_well) .none kV8 dc8 pm8 an8 cd8 ct8), sl8⟩) (c8 : PySem.W.codeIn K cd8 "_law_well" = true) (k8 : PySem.W.keepIn K (.ref f8) = true)
    {f9 : Addr} {od9 an9 : Option Addr} {sl9 : Array (Option Value)} {oc9 kV9 dc9 pm9 cd9 ct9 : Value}
    (a9 : PySem.W.nsIn K mainGlobals "_law_draw" = some (some (.ref f9))) (l9 : K.lookup f9 = some ⟨oc9, od9, .func (PySem.W.fnOf "_law_draw" "_law_draw" (defArgs s_draw) (defBody s_draw) (defScope s_draw) .none kV9 dc9 pm9 an9 cd9 ct9), sl9⟩) (c9 : PySem.W.codeIn K cd9 "_law_draw" = true) (k9 : PySem.W.keepIn K (.ref f9) = true)
    {f10 : Addr} {od10 an10 : Option Addr} {sl10 : Array (Option Value)} {oc10 kV10 dc10 pm10 cd10 ct10 : Value}
    (a10 : PySem.W.nsIn K mainGlobals "_law_number" = some (some (.ref f10))) (l10 : K.lookup f10 = some ⟨oc10, od10, .func (PySem.W.fnOf "_law_number" "_law_number" (defArgs s_number) (defBody s_number) (defScope s_number) .none kV10 dc10 pm10 an10 cd10 ct10), sl10⟩) (c10 : PySem.W.codeIn K cd10 "_law_number" = true) (k10 : PySem.W.keepIn K (.ref f10) = true)
    {f11 : Addr} {od11 an11 : Option Addr} {sl11 : Array (Option Value)} {oc11 kV11 dc11 pm11 cd11 ct11 : Value}
    (a11 : PySem.W.nsIn K mainGlobals "_law_shared" = some (some (.ref f11))) (l11 : K.lookup f11 = some ⟨oc11, od11, .func (PySem.W.fnOf "_law_shared" "_law_shared" (defArgs s_shared) (defBody s_shared) (defScope s_shared) .none kV11 dc11 pm11 an11 cd11 ct11), sl11⟩) (c11 : PySem.W.codeIn K cd11 "_law_shared" = true) (k11 : PySem.W.keepIn K (.ref f11) = true)
    {f12 : Addr} {od12 an12 : Option Addr} {sl12 : Array (Option Value)} {oc12 kV12 dc12 pm12 cd12 ct12 : Value}
    (a12 : PySem.W.nsIn K mainGlobals "_law_whole" = some (some (.ref f12))) (l12 : K.lookup f12 = some ⟨oc12, od12, .func (PySem.W.fnOf "_law_whole" "_law_whole" (defArgs s_whole) (defBody s_whole) (defScope s_whole) .none kV12 dc12 pm12 an12 cd12 ct12), sl12⟩) (c12 : PySem.W.codeIn K cd12 "_law_whole" = true) (k12 : PySem.W.keepIn K (.ref f12) = true)
    {f13 : Addr} {od13 an13 : Option Addr} {sl13 : Array (Option Value)} {oc13 kV13 dc13 pm13 cd13 ct13 : Value}
    (a13 : PySem.W.nsIn K mainGlobals "_law_worth" = some (some (.ref f13))) (l13 : K.lookup f13 = some ⟨oc13, od13, .func (PySem.W.fnOf "_law_worth" "_law_worth" (defArgs s_worth) (defBody s_worth) (defScope s_worth) .none kV13 dc13 pm13 an13 cd13 ct13), sl13⟩) (c13 : PySem.W.codeIn K cd13 "_law_worth" = true) (k13 : PySem.W.keepIn K (.ref f13) = true)
    {f14 : Addr} {od14 an14 : Option Addr} {sl14 : Array (Option Value)} {oc14 kV14 dc14 pm14 cd14 ct14 : Value}
    (a14 : PySem.W.nsIn K mainGlobals "_law_fraction" = some (some (.ref f14))) (l14 : K.lookup f14 = some ⟨oc14, od14, .func (PySem.W.fnOf "_law_fraction" "_law_fraction" (defArgs s_fraction) (defBody s_fraction) (defScope s_fraction) .none kV14 dc14 pm14 an14 cd14 ct14), sl14⟩) (c14 : PySem.W.codeIn K cd14 "_law_fraction" = true) (k14 : PySem.W.keepIn K (.ref f14) = true)
    {f15 : Addr} {od15 an15 : Option Addr} {sl15 : Array (Option Value)} {oc15 kV15 dc15 pm15 cd15 ct15 : Value}
    (a15 : PySem.W.nsIn K mainGlobals "_law_pair" = some (some (.ref f15))) (l15 : K.lookup f15 = some ⟨oc15, od15, .func (PySem.W.fnOf "_law_pair" "_law_pair" (defArgs s_pair) (defBody s_pair) (defScope s_pair) .none kV15 dc15 pm15 an15 cd15 ct15), sl15⟩) (c15 : PySem.W.codeIn K cd15 "_law_pair" = true) (k15 : PySem.W.keepIn K (.ref f15) = true)
    {f16 : Addr} {od16 an16 : Option Addr} {sl16 : Array (Option Value)} {oc16 kV16 dc16 pm16 cd16 ct16 : Value}
    (a16 : PySem.W.nsIn K mainGlobals "law" = some (some (.ref f16))) (l16 : K.lookup f16 = some ⟨oc16, od16, .func (PySem.W.fnOf "law" "law" (defArgs s_law) (defBody s_law) (defScope s_law) .none kV16 dc16 pm16 an16 cd16 ct16), sl16⟩) (c16 : PySem.W.codeIn K cd16 "law" = true) (k16 : PySem.W.keepIn K (.ref f16) = true)
    (z0 : PySem.W.nsIn K mainGlobals "abs" = some none)
    (z1 : PySem.W.nsIn K mainGlobals "bool" = some none)
    (z2 : PySem.W.nsIn K mainGlobals "divmod" = some none)
    (z3 : PySem.W.nsIn K mainGlobals "int" = some none)
    (z4 : PySem.W.nsIn K mainGlobals "isinstance" = some none)
    (z5 : PySem.W.nsIn K mainGlobals "len" = some none)
    (z6 : PySem.W.nsIn K mainGlobals "range" = some none)
    (z7 : PySem.W.nsIn K mainGlobals "tuple" = some none)
    (y0 : PySem.W.nsIn K mainGlobals "gcd" = some (some (.builtin "math.gcd"))) :
    ∃ fd : FuncData, (∀ (s : Shared) (v : Value), BindsTo s fd ⟨[v], []⟩ [("_law_script", v)]) ∧ ∀ base : Heap, K.In base → base.Ns mainGlobals mg → FnOk l.prog w K mg base CX0 6 fa fd ["_law_script"] (sp_law K) := by
  have e := hfa.symm.trans (PySem.W.mg_of X G a16)
  cases e
  have D : Df K mg := ⟨⟨f0, _, PySem.W.mg_of X G a0, fun_mk (st := s_p_is_whole) l0 c0 k0⟩, ⟨f1, _, PySem.W.mg_of X G a1, funD_mk (st := s_p_fraction) l1 c1 k1 t1 rfl (by simp) (.cons ⟨_, rfl⟩ .nil)⟩, ⟨f2, _, PySem.W.mg_of X G a2, fun_mk (st := s_p_is_fraction) l2 c2 k2⟩, ⟨f3, _, PySem.W.mg_of X G a3, fun_mk (st := s_p_plus) l3 c3 k3⟩, ⟨f4, _, PySem.W.mg_of X G a4, fun_mk (st := s_p_minus) l4 c4 k4⟩, ⟨f5, _, PySem.W.mg_of X G a5, fun_mk (st := s_p_times) l5 c5 k5⟩, ⟨f6, _, PySem.W.mg_of X G a6, fun_mk (st := s_p_shared) l6 c6 k6⟩, ⟨f7, _, PySem.W.mg_of X G a7, fun_mk (st := s_p_need_fractions) l7 c7 k7⟩, ⟨f8, _, PySem.W.mg_of X G a8, fun_mk (st := s_well) l8 c8 k8⟩, ⟨f9, _, PySem.W.mg_of X G a9, fun_mk (st := s_draw) l9 c9 k9⟩, ⟨f10, _, PySem.W.mg_of X G a10, fun_mk (st := s_number) l10 c10 k10⟩, ⟨f11, _, PySem.W.mg_of X G a11, fun_mk (st := s_shared) l11 c11 k11⟩, ⟨f12, _, PySem.W.mg_of X G a12, fun_mk (st := s_whole) l12 c12 k12⟩, ⟨f13, _, PySem.W.mg_of X G a13, fun_mk (st := s_worth) l13 c13 k13⟩, ⟨f14, _, PySem.W.mg_of X G a14, fun_mk (st := s_fraction) l14 c14 k14⟩, ⟨f15, _, PySem.W.mg_of X G a15, fun_mk (st := s_pair) l15 c15 k15⟩, ⟨fa, _, PySem.W.mg_of X G a16, fun_mk (st := s_law) l16 c16 k16⟩⟩
  have T : Bi K mg := ⟨PySem.W.mg_none_of X G z0, PySem.W.mg_none_of X G z1, PySem.W.mg_none_of X G z2, PySem.W.mg_none_of X G z3, PySem.W.mg_none_of X G z4, PySem.W.mg_none_of X G z5, PySem.W.mg_none_of X G z6, PySem.W.mg_none_of X G z7, PySem.W.mg_of X G y0⟩
  refine ⟨PySem.W.fnOf "law" "law" (defArgs s_law) (defBody s_law) (defScope s_law) .none kV16 dc16 pm16 an16 cd16 ct16, fun s v => .of_eq rfl, fun base _ _ => ?_⟩
  obtain ⟨f, fd, g, F, b, R⟩ := (ok_law (P := l.prog) (w := w) (base := base) T D).ex
  have e2 := g.symm.trans (PySem.W.mg_of X G a16)
  cases e2
  obtain ⟨_, _, _, _, _, _, _, _, _, rfl, lk, _⟩ := F.ex
  have e3 := lk.symm.trans l16
  cases e3
  exact R
end boughswap_k04_sums_and_products_of_fract
open PySem PySem.W PyProof.Rows
set_option maxHeartbeats 0 in
theorem PySem.Challenge.cw_boughswap_k04_sums_and_products_of_fract_holds : PySem.Challenge.rw_boughswap_k04_sums_and_products_of_fract.Holds := by
  w_on; o_law; k_head; (case hw => w_witness2)
  k_fill
  refine L2.walk_of (l := PySem.Challenge.rw_boughswap_k04_sums_and_products_of_fract) (n := 63) (k := 6) (x := "_law_script") (CX := fun _ => L2.CX0) (sp := fun w => boughswap_k04_sums_and_products_of_fract.sp_law _) rfl (by decide) rfl ⟨rfl, by decide, by decide⟩ (fun w h Y => PySem.W.kIn_of Y) ?F (fun _ _ a ns hl _ hS => ⟨a, ns, rfl, hS, hl, fun _ => rfl⟩) (fun _ _ _ _ _ h => h)
  case F =>
    intro w mg fa h KX G hmg
    refine' boughswap_k04_sums_and_products_of_fract.all_mk KX G hmg ?a0 ?l0 ?c0 ?k0 ?a1 ?l1 ?c1 ?k1 ?t1 ?a2 ?l2 ?c2 ?k2 ?a3 ?l3 ?c3 ?k3 ?a4 ?l4 ?c4 ?k4 ?a5 ?l5 ?c5 ?k5 ?a6 ?l6 ?c6 ?k6 ?a7 ?l7 ?c7 ?k7 ?a8 ?l8 ?c8 ?k8 ?a9 ?l9 ?c9 ?k9 ?a10 ?l10 ?c10 ?k10 ?a11 ?l11 ?c11 ?k11 ?a12 ?l12 ?c12 ?k12 ?a13 ?l13 ?c13 ?k13 ?a14 ?l14 ?c14 ?k14 ?a15 ?l15 ?c15 ?k15 ?a16 ?l16 ?c16 ?k16 ?z0 ?z1 ?z2 ?z3 ?z4 ?z5 ?z6 ?z7 ?y0
    (case a0 => k_is); (case l0 => k_is); (case c0 => k_is); (case k0 => k_is); (case a1 => k_is); (case l1 => k_is); (case c1 => k_is); (case k1 => k_is); (case t1 => k_is); (case a2 => k_is); (case l2 => k_is); (case c2 => k_is); (case k2 => k_is); (case a3 => k_is); (case l3 => k_is); (case c3 => k_is); (case k3 => k_is); (case a4 => k_is); (case l4 => k_is); (case c4 => k_is); (case k4 => k_is); (case a5 => k_is); (case l5 => k_is); (case c5 => k_is); (case k5 => k_is); (case a6 => k_is); (case l6 => k_is); (case c6 => k_is); (case k6 => k_is); (case a7 => k_is); (case l7 => k_is); (case c7 => k_is); (case k7 => k_is); (case a8 => k_is); (case l8 => k_is); (case c8 => k_is); (case k8 => k_is); (case a9 => k_is); (case l9 => k_is); (case c9 => k_is); (case k9 => k_is); (case a10 => k_is); (case l10 => k_is); (case c10 => k_is); (case k10 => k_is); (case a11 => k_is); (case l11 => k_is); (case c11 => k_is); (case k11 => k_is); (case a12 => k_is); (case l12 => k_is); (case c12 => k_is); (case k12 => k_is); (case a13 => k_is); (case l13 => k_is); (case c13 => k_is); (case k13 => k_is); (case a14 => k_is); (case l14 => k_is); (case c14 => k_is); (case k14 => k_is); (case a15 => k_is); (case l15 => k_is); (case c15 => k_is); (case k15 => k_is); (case a16 => k_is); (case l16 => k_is); (case c16 => k_is); (case k16 => k_is); (case z0 => k_is); (case z1 => k_is); (case z2 => k_is); (case z3 => k_is); (case z4 => k_is); (case z5 => k_is); (case z6 => k_is); (case z7 => k_is); (case y0 => k_is)

