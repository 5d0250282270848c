import PyProof.Rows.All
import Wide.All
import OpenK.AllK
import Wide.FinOn
import HandS.ForMost
import HandS.ForExc
import HandS.IsInst
import HandS.Style
import HandS.Flow
import HandS.Wide
import HandS.WideBits
import HandS.Gcd
import HandS.TupMul
import HandS.TupAny
import HandS.Conv
import HandS.Evl
import HandS.Codes
import HandS.Defaults
import HandS.Rev
import HandS.Zip
import KE.GoesEnumKw
import KE.GoesZip
import PyProof.FactsTree
import KE.GoesMore
import PyProof.Draws
import PyProof.EnumMake
import PyProof.EnumIter
import PySem.Challenge.RW_boughswap_k09_whole_quotients
set_option Elab.async false
set_option linter.all false
set_option maxRecDepth 100000
set_option maxHeartbeats 4000000
namespace BW
open PySem PySem.Spec PyProof.Rows L2

section
variable {P : Program} {w : World} {K : PySem.W.Frag} {mg : Str → Option Value} {base : Heap} {CX : CXT}
/-- a def stands at a name of the module -/
def At (K : PySem.W.Frag) (mg : Str → Option Value) (x : Str) (st : Stmt) : Prop := ∃ (f : Addr) (fd : FuncData), mg x = some (.ref f) ∧ Fun K x x st f fd
/-- a def that keeps its promise -/
structure Cal (P : Program) (w : World) (K : PySem.W.Frag) (mg : Str → Option Value) (base : Heap) (CX : CXT) (k : Nat) (x : Str) (st : Stmt) (ps : List Str) (sp : Sp) : Prop where
  ex : ∃ (f : Addr) (fd : FuncData), mg x = some (.ref f) ∧ Fun K x x st f fd ∧ Binds K fd ps [] ∧ FnOk P w K mg base CX k f fd ps sp
def BindH (x : Str) (st : Stmt) (ps : List Str) : Prop := ∀ (kV doc pm : Value) (an : Option Addr) (cdv ct : Value) (us : List Value), us.length = ps.length → bindArgs (PySem.W.fnOf x x (defArgs st) (defBody st) (defScope st) .none kV doc pm an cdv ct) ⟨us, []⟩ = pure (ps.zip us)
theorem Cal.mk' {k : Nat} {x : Str} {st : Stmt} {ps : List Str} {sp : Sp} (a : At K mg x st) (hb : BindH x st ps) (h : ∀ (f : Addr) (fd : FuncData), Fun K x x st f fd → FnOk P w K mg base CX k f fd ps sp) : Cal P w K mg base CX k x st ps sp := by
  obtain ⟨f, fd, g, F⟩ := a
  exact ⟨f, fd, g, F, F.binds hb, h f fd F⟩
theorem Cal.mono {j k : Nat} {x : Str} {st : Stmt} {ps : List Str} {sp : Sp} (a : Cal P w K mg base CX j x st ps sp) (h : j ≤ k) : Cal P w K mg base CX k x st ps sp := by
  obtain ⟨f, fd, g, F, b, G⟩ := a.ex
  exact ⟨f, fd, g, F, b, G.mono h⟩
end
section
variable {X : Cx} {CX : CXT} {k : Nat} {st : Stmt} {ps : List Str} {sp : Sp} {E : XK} {x : Str} {p pos : Pos} {e : Expr} {es : List Expr} {t : TA}
/-- f(e, ..) -/
theorem pe_own (C : Cal X.prog X.w X.K X.mg X.base CX k x st ps sp) (hr : Room k X.A) (hg : Gl X x) (hx : Passes CX X E)
    (ha : PA X (e :: es) t) (hdb : (x == ("__debug__" : Str)) = false := by decide) (he : starEach (e :: es) X.env = (false, eval e X.env) :: starEach es X.env := by rfl) (hpl : (backTo pos (starEach es X.env)).any (·.1) = false := by rfl) :
    PE X (.Call (.Name x p) (e :: es) [] pos) (tCall sp [] E t) := by
  obtain ⟨f, fd, g, F, b, G⟩ := C.ex
  exact pe_call G hr hg g F.kp b .nil hx ha hdb he hpl
theorem pe_own0 (C : Cal X.prog X.w X.K X.mg X.base CX k x st ps sp) (hr : Room k X.A) (hg : Gl X x) (hx : Passes CX X E)
    (hdb : (x == ("__debug__" : Str)) = false := by decide) :
    PE X (.Call (.Name x p) [] [] pos) (tCall sp [] E tNil) := by
  obtain ⟨f, fd, g, F, b, G⟩ := C.ex
  exact pe_call0 G hr hg g F.kp b .nil hx hdb
/-- f(k = v, ..), all by names -/
def tCallK0 (sp : Sp) (gV : List V → List V) (E : XK) (tk : TA) : TE := fun σ H Q => tk σ H fun zs H2 => sp (gV zs) H2 Q E
def KBindH (x : Str) (st : Stmt) (ps ks : List Str) (g : {α : Type} → List α → List α) : Prop := ∀ (kV doc pm : Value) (an : Option Addr) (cdv ct : Value) (ws : List Value), ws.length = ks.length → bindArgs (PySem.W.fnOf x x (defArgs st) (defBody st) (defScope st) .none kV doc pm an cdv ct) ⟨[], ks.zip ws⟩ = pure (ps.zip (g ws))
theorem pe_ownK {ks : List Str} {kws : List Keyword} {tk : TA} (g : {α : Type} → List α → List α) (C : Cal X.prog X.w X.K X.mg X.base CX k x st ps sp) (hr : Room k X.A) (hg : Gl X x) (hx : Passes CX X E)
    (hb : KBindH x st ps ks g) (hl : ∀ (α : Type) (ws : List α), (g ws).length = ps.length → ws.length = ks.length) (hrel : ∀ (zs : List V) (ws : List Value), Vals zs ws → Vals (g zs) (g ws))
    (hkw : PK X kws tk) (hall : (backToKw pos (keywordEach kws X.env)).all (·.1.isSome) = true := by rfl) (hks : (backToKw pos (keywordEach kws X.env)).filterMap (·.1) = ks := by rfl)
    (hdb : (x == ("__debug__" : Str)) = false := by decide) (hpl : ((backTo pos (starEach [] X.env)).any (·.1) || (backToKw pos (keywordEach kws X.env)).any (·.1.isNone)) = false := by rfl) :
    PE X (.Call (.Name x p) [] kws pos) (tCallK0 sp g E tk) := by
  obtain ⟨f, fd, gm, F, b, G⟩ := C.ex
  refine ⟨fun pins s σ H Q I h => ?_⟩
  refine wpAny_Call_Name_kw (ld_glob I hg gm ?_ hdb)
  refine PySem.W.callWith_KW0 (h₀ := X.base) I.ok.mod.kin F.kp hall ?_ hpl
  refine thn (hkw.run pos pins s σ H _ I h) fun ws s2 ⟨zs, H2, I2, rz, q2⟩ => ⟨I2.kIn, ?_⟩
  rw [hks]
  have r2 := hrel _ _ rz
  have hl2 : (g ws).length = ps.length := by rw [← r2.length]; exact G.len _ _ _ _ q2
  have bt : BindsTo s2 fd ⟨[], ks.zip ws⟩ (ps.zip (g ws)) := by
    obtain ⟨oc, od, kV, doc, pm, an, cdv, ct, osl, rfl, lk, hcd⟩ := F.ex
    exact .of_eq (hb kV doc pm an cdv ct ws (hl _ ws hl2))
  refine wpAny_call (codeAny_mono (G.run X.A X.stack s2 H2 ⟨[], ks.zip ws⟩ (g ws) (g zs) Q E hr I2.env0 bt r2 q2) fun r s' hq => ?_)
  cases r with
  | error e => exact hx pins σ H2 s2 e s' I2 hq
  | ok fl =>
    cases fl with
    | ret u => exact I2.after hq
    | next => exact False.elim hq
    | brk => exact False.elim hq
    | cont => exact False.elim hq
end
/-! ### defs with defaults -/
section
variable {P : Program} {w : World} {K : PySem.W.Frag} {mg : Str → Option Value} {base : Heap} {CX : CXT}
abbrev FunDs (K : PySem.W.Frag) (x : Str) (st : Stmt) (dvs : List V) (f : Addr) (fd : FuncData) : Prop := FunD K x x (defArgs st) (defBody st) (defScope st) dvs [] f fd
def AtD (K : PySem.W.Frag) (mg : Str → Option Value) (x : Str) (st : Stmt) (dvs : List V) : Prop := ∃ (f : Addr) (fd : FuncData), mg x = some (.ref f) ∧ FunDs K x st dvs f fd
structure CalD (P : Program) (w : World) (K : PySem.W.Frag) (mg : Str → Option Value) (base : Heap) (CX : CXT) (k : Nat) (x : Str) (st : Stmt) (dvs : List V) (ps : List Str) (sp : Sp) : Prop where
  ex : ∃ (f : Addr) (fd : FuncData), mg x = some (.ref f) ∧ FunDs K x st dvs f fd ∧ FnOk P w K mg base CX k f fd ps sp
theorem CalD.mk' {k : Nat} {x : Str} {st : Stmt} {dvs : List V} {ps : List Str} {sp : Sp} (a : AtD K mg x st dvs) (h : ∀ (f : Addr) (fd : FuncData), FunDs K x st dvs f fd → FnOk P w K mg base CX k f fd ps sp) : CalD P w K mg base CX k x st dvs ps sp := by
  obtain ⟨f, fd, g, F⟩ := a
  exact ⟨f, fd, g, F, h f fd F⟩
theorem funD_mk {x : Str} {st : Stmt} {f T : Addr} {oc : Value} {od an : Option Addr} {osl : Array (Option Value)} {kV doc pm cdv ct : Value} {o : Obj} {its : List Value} {n : Nat} {dvs : List V} (l : K.lookup f = some ⟨oc, od, .func (PySem.W.fnOf x x (defArgs st) (defBody st) (defScope st) (.ref T) kV doc pm an cdv ct), osl⟩)
    (c : PySem.W.codeIn K cdv x = true) (k : PySem.W.keepIn K (.ref f) = true) (lT : K.lookup T = some o) (oT : o.data = .seq its.toArray n) (hd : dvs ≠ []) (r : Vals dvs its) :
    FunDs K x st dvs f (PySem.W.fnOf x x (defArgs st) (defBody st) (defScope st) (.ref T) kV doc pm an cdv ct) :=
  ⟨⟨oc, od, .ref T, kV, doc, pm, an, cdv, ct, osl, rfl, l, c, .inr ⟨hd, T, o, its, n, rfl, lT, oT, r⟩, .inl rfl⟩, k⟩
end
section
variable {X : Cx} {CX : CXT} {k : Nat} {st : Stmt} {dvs : List V} {ps : List Str} {sp : Sp} {E : XK} {x : Str} {p pos : Pos} {e : Expr} {es : List Expr} {t : TA}
def BindD (x : Str) (st : Stmt) (ps : List Str) (n m j : Nat) : Prop := ∀ (T : Addr) (kV doc pm : Value) (an : Option Addr) (cdv ct : Value) (us its : List Value), us.length = n → its.length = m →
      ∃ k, bindArgs (PySem.W.fnOf x x (defArgs st) (defBody st) (defScope st) (.ref T) kV doc pm an cdv ct) ⟨us, []⟩ = seqItems? (.ref T) >>= k ∧ k (some its.toArray) = pure (ps.zip (us ++ its.drop j))
/-- f(e, ..), n values written, the defaults from the j-th on taken -/
theorem pe_ownD (n j : Nat) (C : CalD X.prog X.w X.K X.mg X.base CX k x st dvs ps sp) (hd : dvs ≠ []) (hn : n + (dvs.length - j) = ps.length) (hb : BindD x st ps n dvs.length j) (hr : Room k X.A) (hg : Gl X x) (hx : Passes CX X E)
    (ha : PA X (e :: es) t) (hdb : (x == ("__debug__" : Str)) = false := by decide) (he : starEach (e :: es) X.env = (false, eval e X.env) :: starEach es X.env := by rfl) (hpl : (backTo pos (starEach es X.env)).any (·.1) = false := by rfl) :
    PE X (.Call (.Name x p) (e :: es) [] pos) (tCall sp (dvs.drop j) E t) := by
  obtain ⟨f, fd, g, F, G⟩ := C.ex
  obtain ⟨ds, hv, b⟩ := FunD.binds1 (ps := ps) F n j hd hn hb
  exact pe_call G hr hg g F.kp b hv hx ha hdb he hpl
def KBindD (x : Str) (st : Stmt) (ps ks : List Str) (m : Nat) (g : {α : Type} → List α → List α) : Prop := ∀ (T : Addr) (kV doc pm : Value) (an : Option Addr) (cdv ct : Value) (ws its : List Value), ws.length = ks.length → its.length = m →
      ∃ k, bindArgs (PySem.W.fnOf x x (defArgs st) (defBody st) (defScope st) (.ref T) kV doc pm an cdv ct) ⟨[], ks.zip ws⟩ = seqItems? (.ref T) >>= k ∧ k (some its.toArray) = pure (ps.zip (g ws))
/-- f(k = v, ..), all parameters by names -/
theorem pe_ownDK {ks : List Str} {kws : List Keyword} {tk : TA} (g : {α : Type} → List α → List α) (C : CalD X.prog X.w X.K X.mg X.base CX k x st dvs ps sp) (hd : dvs ≠ []) (hr : Room k X.A) (hg : Gl X x) (hx : Passes CX X E)
    (hb : KBindD x st ps ks dvs.length g) (hl : ∀ (α : Type) (ws : List α), (g ws).length = ps.length → ws.length = ks.length) (hrel : ∀ (zs : List V) (ws : List Value), Vals zs ws → Vals (g zs) (g ws))
    (hkw : PK X kws tk) (hall : (backToKw pos (keywordEach kws X.env)).all (·.1.isSome) = true := by rfl) (hks : (backToKw pos (keywordEach kws X.env)).filterMap (·.1) = ks := by rfl)
    (hdb : (x == ("__debug__" : Str)) = false := by decide) (hpl : ((backTo pos (starEach [] X.env)).any (·.1) || (backToKw pos (keywordEach kws X.env)).any (·.1.isNone)) = false := by rfl) :
    PE X (.Call (.Name x p) [] kws pos) (tCallK0 sp g E tk) := by
  obtain ⟨f, fd, gm, F, G⟩ := C.ex
  refine ⟨fun pins s σ H Q I h => ?_⟩
  refine wpAny_Call_Name_kw (ld_glob I hg gm ?_ hdb)
  refine PySem.W.callWith_KW0 (h₀ := X.base) I.ok.mod.kin F.kp hall ?_ hpl
  refine thn (hkw.run pos pins s σ H _ I h) fun ws s2 ⟨zs, H2, I2, rz, q2⟩ => ⟨I2.kIn, ?_⟩
  rw [hks]
  have r2 := hrel _ _ rz
  have hl2 : (g ws).length = ps.length := by rw [← r2.length]; exact G.len _ _ _ _ q2
  have bt : BindsTo s2 fd ⟨[], ks.zip ws⟩ (ps.zip (g ws)) := by
    obtain ⟨oc, od, dV, kV, doc, pm, an, cdv, ct, osl, rfl, lk, hcd, hD, hK⟩ := F.ex
    rcases hD with ⟨e, _⟩ | ⟨_, T, o, its, m, rfl, lT, oT, rT⟩
    · exact absurd e hd
    · obtain ⟨k, e1, e2⟩ := hb T kV doc pm an cdv ct ws its (hl _ ws hl2) rT.length.symm
      refine BindsTo.of_looks fun M => ?_
      rw [e1]
      exact looks_items I2.kIn lT oT (.of_pure e2)
  refine wpAny_call (codeAny_mono (G.run X.A X.stack s2 H2 ⟨[], ks.zip ws⟩ (g ws) (g zs) Q E hr I2.env0 bt r2 q2) fun r s' hq => ?_)
  cases r with
  | error e => exact hx pins σ H2 s2 e s' I2 hq
  | ok fl =>
    cases fl with
    | ret u => exact I2.after hq
    | next => exact False.elim hq
    | brk => exact False.elim hq
    | cont => exact False.elim hq
/-- what a for walks: one of two -/
theorem PI.or {tg iter : Expr} {w1 w2 : TI} (h1 : PI X tg iter w1) (h2 : PI X tg iter w2) : PI X tg iter (fun σ H R => w1 σ H R ∨ w2 σ H R) :=
  ⟨fun pins s σ H R I h => h.elim (h1.run pins s σ H R I) (h2.run pins s σ H R I)⟩
/-- // by any great number but 0 -/
def CDivZ (_ j : Int) : Prop := j ≠ 0 ∧ j.natAbs.log2 < 9000
theorem op_fdivZ : OpR X (binaryOp .FloorDiv) (rI CDivZ fun i j => .int (i.fdiv j)) := opI fun i j _ _ _ _ _ hc q =>
  floordiv_int hc.1 q (.inl (PyProof.noPylong_of_log2 hc.2))

/-- list + list, written, locked or tracked -/
def rCatL (K : PySem.W.Frag) : R2 := fun x y H Q => ∃ l b xs zs, x = .ref l ∧ y = .ref b ∧ SqL K H l xs ∧ SqL K H b zs ∧ xs.length + zs.length ≤ sizeLine ∧ ∀ p, H p = none → Q (.ref p) (upd H p (.lst (xs ++ zs)))
theorem op_catL : OpR X (binaryOp .Add) (rCatL X.K) := by
  intro pins s σ H x y v u Q I rx ry h
  obtain ⟨l, b, xs, zs, rfl, rfl, hH, hB, hz, q⟩ := h
  cases rx
  cases ry
  obtain ⟨its, r, ⟨⟨cls, dd, data, sl⟩, n, ho, hc, hd, hs⟩, hl⟩ := I.list hH
  obtain ⟨its2, r2, ⟨⟨cls2, dd2, data2, sl2⟩, n2, ho2, hc2, hd2, hs2⟩, hl2⟩ := I.list hB
  simp only at hc hd hs hc2 hd2 hs2
  subst hc hd hs hc2 hd2 hs2
  have e : its.toArray ++ its2.toArray = (its ++ its2).toArray := by simp
  have l1 := r.length
  have l2 := r2.length
  refine concat_meets ⟨_, ho, rfl⟩ ⟨_, ho2, rfl⟩ noFill_list_add seq_list_add PySem.F.slot_list_add PySem.F.entry_list_add (PySem.F.args_list_add_2 _ _) (list_addW l b its.toArray its2.toArray n n2 none none sl sl2 (by simp only [List.size_toArray]; omega)) ⟨ho, ho2, ?_⟩
  rw [e]
  exact ⟨.ref _, _, I.lnew (t' := s.toks) (r.append r2) (by rw [List.length_append]; omega), rfl, q _ I.fresh⟩
end
/-! ### heaps -/
/-- all but what stands at l is as it was -/
def Ch (l : Addr) (H H' : Hp) : Prop := ∀ b o, b ≠ l → H b = some o → H' b = some o
theorem Ch.refl (l : Addr) (H : Hp) : Ch l H H := fun _ _ _ h => h
theorem Ch.trans {l : Addr} {H H1 H2 : Hp} (a : Ch l H H1) (b : Ch l H1 H2) : Ch l H H2 := fun c o n h => b c o n (a c o n h)
theorem Same.ch {l : Addr} {H H' : Hp} (e : Same H H') : Ch l H H' := fun b o _ h => e b o h
theorem same_new {H : Hp} {p : Addr} {o : HO} (h : H p = none) : Same H (upd H p o) := fun b u q => by rw [upd_ne (ne_of_none q h)]; exact q
theorem Ch.new {l : Addr} {H H' : Hp} {p : Addr} {o : HO} (e : Ch l H H') (h : H' p = none) : Ch l H (upd H' p o) := e.trans (Same.ch (same_new h))
theorem Ch.tr1 {l : Addr} {H H1 H2 : Hp} (b : Ch l H1 H2) (a : Ch l H H1) : Ch l H H2 := a.trans b
theorem Ch.tr2 {l : Addr} {H H1 H2 : Hp} (b : Same H1 H2) (a : Ch l H H1) : Ch l H H2 := a.trans (Same.ch b)
theorem Same.tr1 {H H1 H2 : Hp} (b : Same H1 H2) (a : Same H H1) : Same H H2 := a.trans b
theorem Ch.at {l : Addr} {H H' : Hp} {o : HO} (e : Ch l H H') : Ch l H (upd H' l o) := e.trans fun b u n q => by rw [upd_ne n]; exact q
/-- a new thing may change -/
theorem Ch.own {l : Addr} {H0 H H' : Hp} (e : Same H0 H) (n : H0 l = none) (c : Ch l H H') : Same H0 H' := fun b o q => c b o (ne_of_none q n) (e b o q)
theorem Ch.get {l p : Addr} {H H' : Hp} {o : HO} (c : Ch l H H') (h : H p = some o) (n : p ≠ l) : H' p = some o := c p o n h
theorem ne_new {H : Hp} {p q : Addr} {o : HO} (h : H q = some o) (n : H p = none) : q ≠ p := ne_of_none h n
theorem Same.none' {H H' : Hp} {p : Addr} (e : Same H H') (h : H' p = none) : H p = none := e.free h
theorem Ch.free {l p : Addr} {H H' : Hp} {o : HO} (e : Ch l H H') (hl : H' l = some o) (h : H' p = none) : H p = none := by
  cases q : H p with
  | none => rfl
  | some u =>
    by_cases n : p = l
    · subst n
      rw [h] at hl
      cases hl
    · rw [e p u n q] at h
      cases h
/-- a well: a list of three whole numbers, the middle one small -/
structure Wl (H : Hp) (l : Addr) : Prop where
  ex : ∃ a b z : Int, H l = some (.lst [.int a, .int b, .int z]) ∧ 0 ≤ b ∧ b < 2147483647
theorem Wl.same {H H' : Hp} {l : Addr} (e : Same H H') (h : Wl H l) : Wl H' l := by
  obtain ⟨a, b, z, q, r⟩ := h.ex
  exact ⟨a, b, z, e _ _ q, r⟩
theorem Wl.new {H : Hp} {l p : Addr} {o : HO} (h : Wl H l) (n : H p = none) : Wl (upd H p o) l := h.same (same_new n)
theorem Wl.get {H : Hp} {l : Addr} (h : Wl H l) : ∃ o, H l = some o := by
  obtain ⟨a, b, z, q, _⟩ := h.ex
  exact ⟨_, q⟩
theorem Wl.ne {H : Hp} {l p : Addr} (h : Wl H l) (n : H p = none) : l ≠ p := by
  obtain ⟨o, q⟩ := h.get
  exact ne_of_none q n
theorem ne_wl {H : Hp} {l p : Addr} (n : H p = none) (h : Wl H l) : p ≠ l := (h.ne n).symm
theorem SqL.of' {K : PySem.W.Frag} {H : Hp} {a : Addr} {xs : List V} (h : H a = some (.lst xs)) : SqL K H a xs := .inl (.inl h)
theorem SqT.of' {K : PySem.W.Frag} {H : Hp} {a : Addr} {xs : List V} (h : H a = some (.tup xs)) : SqT K H a xs := .inl (.inl h)
theorem Ch.seq {K : PySem.W.Frag} {l : Addr} {H H' : Hp} {a : Addr} {xs ys : List V} (e : Ch l H H') (hl : H l = some (.lst ys)) (hn : H a = none ∨ a ≠ l) (h : SqL K H a xs) : SqL K H' a xs := by
  have n : a ≠ l ∨ H a = none := by rcases hn with h | h; exact .inr h; exact .inl h
  rcases h with (h | ⟨o, h⟩) | h
  · rcases n with n | n
    · exact .inl (.inl (e _ _ n h))
    · rw [n] at h; cases h
  · rcases n with n | n
    · exact .inl (.inr ⟨o, e _ _ n h⟩)
    · rw [n] at h; cases h
  · exact .inr h
/-! ### new objects: the heap behind is told by what stands there -/
def New (H : Hp) (o : HO) (R : V → Hp → Prop) : Prop := ∀ p G, H p = none → Same H G → G p = some o → R (.ref p) G
theorem New.go {H : Hp} {o : HO} {R : V → Hp → Prop} (h : New H o R) : ∀ p, H p = none → R (.ref p) (upd H p o) := fun p hp => h p _ hp (same_new hp) upd_same
theorem New.intro {H : Hp} {o : HO} {R : V → Hp → Prop} (h : ∀ p G, H p = none → Same H G → G p = some o → R (.ref p) G) : New H o R := h
theorem sm_get {H G : Hp} {p : Addr} {o : HO} (e : Same H G) (h : H p = some o) : G p = some o := e _ _ h
theorem new_two {H : Hp} {p : Addr} {o o' : HO} {R : Hp → Prop} (hp : H p = none) (h : ∀ G, Same H G → G p = some o' → R G) : R (upd (upd H p o) p o') := h _ (fun b u q => by rw [upd_ne (ne_of_none q hp), upd_ne (ne_of_none q hp)]; exact q) upd_same
theorem pe_weak {X : Cx} {e : Expr} {t t' : TE} (h : PE X e t) (w : ∀ σ H Q, t' σ H Q → t σ H Q) : PE X e t' := ⟨fun pins s σ H Q I q => h.run pins s σ H Q I (w σ H Q q)⟩
theorem op_weak {X : Cx} {f : Value → Value → Sem Value} {r r' : R2} (h : OpR X f r) (w : ∀ x y H Q, r' x y H Q → r x y H Q) : OpR X f r' := fun pins s σ H x y v u Q I rx ry q => h pins s σ H x y v u Q I rx ry (w x y H Q q)
theorem call_weak {X : Cx} {f : Value} {r r' : List V → Hp → VK → Prop} (h : CallR X f r) (w : ∀ xs H Q, r' xs H Q → r xs H Q) : CallR X f r' := fun pins s σ H xs us Q I rs q => h pins s σ H xs us Q I rs (w xs H Q q)
theorem sl_weak {X : Cx} {r r' : V → Option Int → Option Int → Hp → VK → Prop} (h : SlR X r) (w : ∀ x lo hi H Q, r' x lo hi H Q → r x lo hi H Q) : SlR X r' := fun pins s σ H x v vl vu lo hi sl Q I rx hs pl pu q => h pins s σ H x v vl vu lo hi sl Q I rx hs pl pu (w x lo hi H Q q)
section
variable {X : Cx}
def nLst (t : TA) : TE := fun σ H Q => t σ H fun xs H1 => xs.length ≤ sizeLine ∧ New H1 (.lst xs) Q
def nTup (t : TA) : TE := fun σ H Q => t σ H fun xs H1 => xs.length ≤ sizeLine ∧ New H1 (.tup xs) Q
theorem n_tup {es : List Expr} {t : TA} {pos : Pos} {x1} (h : PA X es t) : PE X (.Tuple es x1 pos) (nTup t) := by
  refine ⟨fun pins s σ H Q I hq => ?_⟩
  refine wpAny_Tuple_spliced (thn (h.run pos pins s σ H _ I hq) fun us s1 ⟨xs, H1, I1, r, z, q⟩ => ⟨by rw [← r.length]; exact z, ?_⟩)
  have hf : H1 s1.heap.objs.size = none := I1.hok.fresh (Nat.le_refl _)
  refine ⟨.ref s1.heap.objs.size, upd H1 s1.heap.objs.size (.tup xs), I1.laid (t' := s1.toks) (fun b u e => Heap.get?_push_of_some _ e) (Nat.le_refl _) ?_, rfl, q.go _ hf⟩
  exact ⟨z, us, r, ⟨_, Heap.get?_push_size _ rfl, rfl, _, rfl⟩⟩
theorem n_lst {es : List Expr} {t : TA} {pos : Pos} (h : PA X es t) : PE X (.List es pos) (nLst t) := by
  refine ⟨fun pins s σ H Q I hq => ?_⟩
  refine wpAny_List_spliced (thn (h.run pos pins s σ H _ I hq) fun us s1 ⟨xs, H1, I1, r, z, q⟩ => ⟨by rw [← r.length]; exact z, ?_⟩)
  have hf : H1 s1.heap.objs.size = none := I1.hok.fresh (Nat.le_refl _)
  refine ⟨.ref s1.heap.objs.size, upd H1 s1.heap.objs.size (.lst xs), I1.laid (t' := s1.toks) (fun b u e => Heap.get?_push_of_some _ e) (Nat.le_refl _) ?_, rfl, q.go _ hf⟩
  exact ⟨z, us, 0, r, Heap.get?_push_size _ rfl⟩
def nDict : TE := fun _ H Q => New H (.dK []) Q
theorem n_dict {pos : Pos} : PE X (.Dict [] [] pos) nDict := pe_weak pe_dnewK fun _ _ _ q => q.go
/-! ### operators by any of their kinds -/
def rStrs : R2 := fun x y H Q => ∃ i j, x = .str i ∧ y = .str j ∧ i.length + j.length ≤ sizeLine ∧ Q (.str (i ++ j)) H
def nCat (K : PySem.W.Frag) : R2 := fun x y H Q => ∃ l b xs zs, x = .ref l ∧ y = .ref b ∧ SqL K H l xs ∧ SqL K H b zs ∧ xs.length + zs.length ≤ sizeLine ∧ New H (.lst (xs ++ zs)) Q
theorem n_cat : OpR X (binaryOp .Add) (nCat X.K) := op_weak op_catL fun _ _ _ _ ⟨l, b, xs, zs, h1, h2, h3, h4, h5, q⟩ => ⟨l, b, xs, zs, h1, h2, h3, h4, h5, q.go⟩
def nCatT (K : PySem.W.Frag) : R2 := fun x y H Q => ∃ a b xs ys, x = .ref a ∧ y = .ref b ∧ SqT K H a xs ∧ SqT K H b ys ∧ xs.length + ys.length ≤ sizeLine ∧
  (xs = [] → Q (.ref b) H) ∧ (xs ≠ [] → ys = [] → Q (.ref a) H) ∧ (xs ≠ [] → ys ≠ [] → New H (.tup (xs ++ ys)) Q)
theorem n_catT : OpR X (binaryOp .Add) (nCatT X.K) := op_weak op_catA fun _ _ _ _ ⟨l, b, xs, zs, h1, h2, h3, h4, h5, q0, q1, q⟩ => ⟨l, b, xs, zs, h1, h2, h3, h4, h5, q0, q1, fun a b => (q a b).go⟩
def rPlus (K : PySem.W.Frag) : R2 := fun x y H Q => (rI0 fun i j => .int (i + j)) x y H Q ∨ (nCat K x y H Q ∨ (nCatT K x y H Q ∨ rStrs x y H Q))
theorem o_add : OpR X (binaryOp .Add) (rPlus X.K) := op_add.or (n_cat.or (n_catT.or op_add_str))
def nRep : R2 := fun x y H Q => ∃ l k xs, x = .ref l ∧ y = .int k ∧ H l = some (.lst xs) ∧ -(2 ^ 63) ≤ k ∧ k < 2 ^ 63 ∧ xs.length * k.toNat ≤ sizeLine ∧ New H (.lst (List.replicate k.toNat xs).flatten) Q
theorem n_rep : OpR X (binaryOp .Mult) nRep := op_weak op_rep fun _ _ _ _ ⟨l, k, xs, h1, h2, h3, h4, h5, h6, q⟩ => ⟨l, k, xs, h1, h2, h3, h4, h5, h6, q.go⟩
def nRepT (K : PySem.W.Frag) : R2 := fun x y H Q => ∃ l k xs, x = .ref l ∧ y = .int k ∧ SqT K H l xs ∧ xs ≠ [] ∧ 2 ≤ k ∧ k ≤ 1000 ∧ xs.length ≤ 1000 ∧ New H (.tup (List.replicate k.toNat xs).flatten) Q
theorem n_repT : OpR X (binaryOp .Mult) (nRepT X.K) := op_weak op_repT fun _ _ _ _ ⟨l, k, xs, h1, h2, h3, h4, h5, h6, h7, q⟩ => ⟨l, k, xs, h1, h2, h3, h4, h5, h6, h7, q.go⟩
open PySem.AutoSeq1 (wpAny_loadPart')
/-! ### tuple * 1, tuple * 0 -/
theorem tup_mul1 (l : Addr) (items : Array Value) (n : Nat) (dd : Option Addr) (sl : Array (Option Value)) (u : Tok) :
    Meets (Builtin.«tuple.__mul__» ⟨[.ref l, .int 1 u], []⟩) (fun _ R s => s.heap.get? l = some { cls := .type "tuple", dict := dd, data := .seq items n, slots := sl } ∧ R (.ok (.ret (Value.ref l))) s) :=
  .of_wp fun prog w A R s h => by
    obtain ⟨hp, g, d, tk, os⟩ := s
    obtain ⟨hl, h⟩ := h
    have f1 := AutoSeq1.idx_int
    have c1 : (items.isEmpty || (1 : Int) == 1) = true := by simp
    wp_walk using wpAny_loadPart' hl
    repeat (first
      | (refine wpAny_ite_false (decide_eq_false (by decide)) ?_; wp_walk using wpAny_loadPart' hl)
      | (refine wpAny_ite_true (decide_eq_true c1) ?_; wp_walk using wpAny_loadPart' hl))
    exact ⟨_, rfl, h⟩
theorem tup_mul0 (l : Addr) (items : Array Value) (n : Nat) (dd : Option Addr) (sl : Array (Option Value)) (u : Tok) (c1 : (items.isEmpty || (0 : Int) == 1) = false) :
    Meets (Builtin.«tuple.__mul__» ⟨[.ref l, .int 0 u], []⟩) (fun _ R s => s.heap.get? l = some { cls := .type "tuple", dict := dd, data := .seq items n, slots := sl } ∧
      R (.ok (.ret (Value.ref s.heap.objs.size))) { s with heap := s.heap.push { cls := Value.type "tuple", data := Data.seq #[] }, toks := s.toks }) :=
  .of_wp fun prog w A R s h => by
    obtain ⟨hp, g, d, tk, os⟩ := s
    obtain ⟨hl, h⟩ := h
    have f1 := AutoSeq1.idx_int
    have c2 : (decide ((0 : Int) ≤ 0) || items.isEmpty) = true := by simp
    wp_walk using wpAny_loadPart' hl
    repeat (first
      | (refine wpAny_ite_false (decide_eq_false (by decide)) ?_; wp_walk using wpAny_loadPart' hl)
      | (refine wpAny_ite_false (decide_eq_false (by rw [c1]; exact Bool.false_ne_true)) ?_; wp_walk using wpAny_loadPart' hl)
      | (refine wpAny_ite_true (decide_eq_true c2) ?_; wp_walk using wpAny_loadPart' hl))
    exact ⟨_, rfl, h⟩
def rT1 (K : PySem.W.Frag) : R2 := fun x y H Q => ∃ l xs, x = .ref l ∧ y = .int 1 ∧ SqT K H l xs ∧ Q (.ref l) H
def rT0 (K : PySem.W.Frag) : R2 := fun x y H Q => ∃ l xs, x = .ref l ∧ y = .int 0 ∧ SqT K H l xs ∧ xs ≠ [] ∧ New H (.tup []) Q
theorem op_T1 {X : Cx} : OpR X (binaryOp .Mult) (rT1 X.K) := by
  intro pins s σ H x y v u Q I rx ry h
  obtain ⟨l, xs, rfl, rfl, hT, q⟩ := h
  cases rx
  obtain ⟨t, rfl⟩ := ry
  obtain ⟨its, r, ⟨⟨cls, dd, data, sl⟩, ho, hc, n, hd⟩, hs⟩ := I.tuple hT
  simp only at hc hd
  subst hc hd
  refine wpAny_binaryOp_repeat_ref (T := "tuple") (U := "int") (by decide) ⟨_, ho, rfl⟩ (fun s' => typeIs_int s' 1 t) noFill_tuple_mul F.fills_int_mul F.slot_int_rmul repeat_tuple F.slot_int_index.lookup
    (call_meets F.slot_int_rmul (typeIs_int s 1 t) F.entry_int_rmul (F.args_int_rmul_2 _ _) (int_rmul_tuple 1 t l its.toArray n dd sl)
      ⟨ho, rfl, ⟨_, ho, rfl⟩, call_meets F.slot_tuple_mul ⟨_, ho, rfl⟩ F.entry_tuple_mul (F.args_tuple_mul_2 _ _) (tup_mul1 l its.toArray n dd sl t) ⟨ho, ?_⟩⟩)
  exact ⟨.ref l, _, I, rfl, q⟩
theorem op_T0 {X : Cx} : OpR X (binaryOp .Mult) (rT0 X.K) := by
  intro pins s σ H x y v u Q I rx ry h
  obtain ⟨l, xs, rfl, rfl, hT, hne, q⟩ := h
  cases rx
  obtain ⟨t, rfl⟩ := ry
  obtain ⟨its, r, ⟨⟨cls, dd, data, sl⟩, ho, hc, n, hd⟩, hs⟩ := I.tuple hT
  simp only at hc hd
  subst hc hd
  have hle : its.length = xs.length := r.length.symm
  have hi : (its.toArray.isEmpty || (0 : Int) == 1) = false := by
    cases its with
    | nil => exact absurd (List.eq_nil_of_length_eq_zero hle.symm) hne
    | cons a b => rfl
  refine wpAny_binaryOp_repeat_ref (T := "tuple") (U := "int") (by decide) ⟨_, ho, rfl⟩ (fun s' => typeIs_int s' 0 t) noFill_tuple_mul F.fills_int_mul F.slot_int_rmul repeat_tuple F.slot_int_index.lookup
    (call_meets F.slot_int_rmul (typeIs_int s 0 t) F.entry_int_rmul (F.args_int_rmul_2 _ _) (int_rmul_tuple 0 t l its.toArray n dd sl)
      ⟨ho, rfl, ⟨_, ho, rfl⟩, call_meets F.slot_tuple_mul ⟨_, ho, rfl⟩ F.entry_tuple_mul (F.args_tuple_mul_2 _ _) (tup_mul0 l its.toArray n dd sl t hi) ⟨ho, ?_⟩⟩)
  refine ⟨.ref s.heap.objs.size, _, I.laid (t' := s.toks) (o := .tup []) (fun b ob q => Heap.get?_push_of_some _ q) (Nat.le_refl _) ?_, rfl, q.go _ (I.hok.fresh (Nat.le_refl _))⟩
  exact ⟨by decide, _, .nil, IsTup.new _ _⟩
def rMul (K : PySem.W.Frag) : R2 := fun x y H Q => (rI CMul fun i j => .int (i * j)) x y H Q ∨ ((rI CMulX fun i j => .int (i * j)) x y H Q ∨ (nRep x y H Q ∨ (nRepT K x y H Q ∨ (rT1 K x y H Q ∨ rT0 K x y H Q))))
theorem o_mul : OpR X (binaryOp .Mult) (rMul X.K) := op_mul.or (op_mulX.or (n_rep.or (n_repT.or (op_T1.or op_T0))))
def rFdv : R2 := fun x y H Q => (rI CDiv fun i j => .int (i / j)) x y H Q ∨ (rI CDivZ fun i j => .int (i.fdiv j)) x y H Q
theorem o_fdv : OpR X (binaryOp .FloorDiv) rFdv := op_fdiv.or op_fdivZ
def rMod : R2 := rI (fun _ j => 0 < j) fun i j => .int (i % j)
theorem o_mod : OpR X (binaryOp .Mod) rMod := op_mod
def rPow : R2 := rI CPow fun i j => .int (i ^ j.toNat)
theorem o_pow : OpR X (binaryOp .Pow) rPow := op_pow
def rSubt : R2 := rI0 fun i j => .int (i - j)
theorem o_sub : OpR X (binaryOp .Sub) rSubt := op_sub
def rEqq (K : PySem.W.Frag) : R2 := fun x y H Q => rEq x y H Q ∨ rEqD K x y H Q
theorem o_eq (hu : X.A.units + 64 < cLine) : OpR X (compareOp .Eq) (rEqq X.K) := op_eq.or (op_eqD hu)
def rNee (K : PySem.W.Frag) : R2 := fun x y H Q => rNe x y H Q ∨ rNeD K x y H Q
theorem o_ne (hu : X.A.units + 64 < cLine) : OpR X (compareOp .NotEq) (rNee X.K) := op_ne.or (op_neD hu)
def rIss : R2 := fun x y H Q => (y = .non ∧ Q (.bl (decide (x = .non))) H) ∨ rIsB x y H Q
theorem o_is : OpR X (compareOp .Is) rIss := op_isN.or op_isBl
def rIsn : R2 := fun x y H Q => (y = .non ∧ Q (.bl (!decide (x = .non))) H) ∨ rNotB x y H Q
theorem o_isn : OpR X (compareOp .IsNot) rIsn := op_notN.or op_notBl
def rIst (K : PySem.W.Frag) : List V → Hp → VK → Prop := fun xs H Q => rIsi K xs H Q ∨ rIsiT K xs H Q
theorem c_isinst : CallR X (.builtin "isinstance") (rIst X.K) := call_isi.or call_isiT
def nSlL (K : PySem.W.Frag) : V → Option Int → Option Int → Hp → VK → Prop := fun x lo hi H Q => ∃ a xs, x = .ref a ∧ SqL K H a xs ∧ New H (.lst (cutV xs lo hi)) Q
theorem n_slL : SlR X (nSlL X.K) := sl_weak sl_list fun _ _ _ _ _ ⟨a, xs, h1, h2, q⟩ => ⟨a, xs, h1, h2, q.go⟩
def nSlT (K : PySem.W.Frag) : V → Option Int → Option Int → Hp → VK → Prop := fun x lo hi H Q => ∃ a xs, x = .ref a ∧ SqT K H a xs ∧
  (HT.sIx xs.length 0 lo = 0 ∧ HT.sIx xs.length xs.length hi = xs.length → Q (.ref a) H) ∧ (¬ (HT.sIx xs.length 0 lo = 0 ∧ HT.sIx xs.length xs.length hi = xs.length) → New H (.tup (cutV xs lo hi)) Q)
theorem n_slT : SlR X (nSlT X.K) := sl_weak sl_tupA fun _ _ _ _ _ ⟨a, xs, h1, h2, q0, q⟩ => ⟨a, xs, h1, h2, q0, fun z => (q z).go⟩
def rSlc (K : PySem.W.Frag) : V → Option Int → Option Int → Hp → VK → Prop := fun x lo hi H Q => nSlL K x lo hi H Q ∨ (nSlT K x lo hi H Q ∨ rSlS x lo hi H Q)
theorem s_any : SlR X (rSlc X.K) := n_slL.or (n_slT.or sl_str)
def nDivm : List V → Hp → VK → Prop := fun xs H Q => ∃ i j, xs = [.int i, .int j] ∧ CDiv i j ∧ New H (.tup [.int (i / j), .int (i % j)]) Q
theorem c_divmod : CallR X (.builtin "divmod") nDivm := call_weak call_divmod fun _ _ _ ⟨i, j, h1, h2, q⟩ => ⟨i, j, h1, h2, q.go⟩
def nList (K : PySem.W.Frag) : List V → Hp → VK → Prop := fun xs H Q => ∃ p ys, xs = [.ref p] ∧ (SqL K H p ys ∨ SqT K H p ys) ∧ New H (.lst ys) Q
theorem c_list : CallR X (.type "list") (nList X.K) := call_weak call_list_of fun _ _ _ ⟨i, j, h1, h2, q⟩ => ⟨i, j, h1, h2, q.go⟩
def nTuple (K : PySem.W.Frag) : List V → Hp → VK → Prop := fun xs H Q => ∃ p ys, xs = [.ref p] ∧ ((SqL K H p ys ∧ New H (.tup ys) Q) ∨ (SqT K H p ys ∧ Q (.ref p) H))
theorem c_tuple : CallR X (.type "tuple") (nTuple X.K) := call_weak call_tuple_of fun _ _ _ ⟨i, j, h1, h2⟩ => ⟨i, j, h1, h2.imp (fun ⟨a, q⟩ => ⟨a, q.go⟩) id⟩
def iSeq (K : PySem.W.Frag) (tl : TE) : TI := fun σ H R => iList K tl σ H R ∨ iTup K tl σ H R
theorem pi_seq {tg l : Expr} {tl : TE} (h : PE X l tl) : PI X tg l (iSeq X.K tl) := PI.or (pi_list h) (pi_tup h)
end
theorem asg_val {te : TE} {g : TG} {D : Ends} {σ : L2.St} {H : Hp} (v : V) (h : ∀ R : VK, R v H → te σ H R) (q : g v σ H D.nx) : tAsg te g D σ H := h _ q
theorem seq_val {te : TE} {g : TG} {u : TS} {D : Ends} {σ : L2.St} {H : Hp} (v : V) (h : ∀ R : VK, R v H → te σ H R) (q : g v σ H (u D)) : tSeq (tAsg te g) u D σ H := h _ q
theorem cutV_int {ns : List Int} {lo hi : Option Int} {i : Nat} {x : V} (h : (cutV (ns.map V.int) lo hi)[i]? = some x) : ∃ c : Int, x = .int c := by
  unfold cutV at h
  rw [List.getElem?_take] at h
  split at h
  · rw [List.getElem?_drop, List.getElem?_map] at h
    cases e : ns[HT.sIx (ns.map V.int).length 0 lo + i]? with
    | none => rw [e] at h; cases h
    | some c =>
      rw [e] at h
      exact ⟨c, (Option.some.inj h).symm⟩
  · cases h
/-- what a law promises -/
def spLaw (K : PySem.W.Frag) : Sp := fun vs H Q _ => ∃ (a : Addr) (ns : List Int), vs = [.ref a] ∧ SqL K H a (ns.map V.int) ∧ ns.length ≤ 63 ∧ ∀ H', Q (.bl true) H'
/-! ### what is no whole number -/
def bV : Option Int → V
  | none => .non
  | some i => .int i
def inB (lo hi : Option Int) (n : Int) : Bool := (match lo with | none => true | some i => decide (i ≤ n)) && (match hi with | none => true | some i => decide (n ≤ i))
def Odd (K : PySem.W.Frag) (H : Hp) (x : V) : Prop := ∃ s : String, TyX K H x (.type s) ∧ ((kitB s "bool" = some true) ∨ (kitB s "bool" = some false ∧ kitB s "int" = some false))
def spWhole (K : PySem.W.Frag) : Sp := fun vs H Q _ => ∃ (x : V) (lo hi : Option Int), vs = [x, bV lo, bV hi] ∧ ((∃ n, x = .int n ∧ Q (.bl (inB lo hi n)) H) ∨ (Odd K H x ∧ Q (.bl false) H))
def spWell (K : PySem.W.Frag) : Sp := fun vs H Q _ => ∃ (c : Int), vs = [.int c] ∧ ∀ H' p, Same H H' → H p = none → Wl H' p → Q (.ref p) H'
def spDraw (K : PySem.W.Frag) : Sp := fun vs H Q _ => ∃ (l : Addr) (m : Int), vs = [.ref l, .int m] ∧ Wl H l ∧ 0 < m ∧ m < 1073741824 ∧ ∀ H' r, Ch l H H' → Wl H' l → 0 ≤ r → r < m → Q (.int r) H'
def spNumber (K : PySem.W.Frag) : Sp := fun vs H Q _ => ∃ (l : Addr) (m : Int), vs = [.ref l, .int m] ∧ Wl H l ∧ 0 ≤ m ∧ m < 10 ^ 60 ∧ ∀ H' (n : Int), Ch l H H' → Wl H' l → n.natAbs < 10 ^ 60 → Q (.int n) H'
theorem lvL {X : Cx} {x : Str} (h : X.env.scope.names.lookup x = some .local) : Loc X.env.scope x := .inl h
/-! ### fractions -/
def gcI (a b : Int) : Int := ((Nat.gcd a.natAbs b.natAbs : Nat) : Int)
def frC (t b : Int) : Int := if b < 0 then -gcI t b else gcI t b
def frT (t b : Int) : Int := t.fdiv (frC t b)
def frB (t b : Int) : Int := b.fdiv (frC t b)
theorem gcI_pos {t b : Int} (h : b ≠ 0) : 0 < gcI t b := by
  unfold gcI
  have : 0 < Nat.gcd t.natAbs b.natAbs := Nat.gcd_pos_of_pos_right _ (by omega)
  omega
theorem gcI_dl (t b : Int) : gcI t b ∣ t := Int.natAbs_dvd_natAbs.mp (by unfold gcI; rw [Int.natAbs_natCast]; exact Nat.gcd_dvd_left _ _)
theorem gcI_dr (t b : Int) : gcI t b ∣ b := Int.natAbs_dvd_natAbs.mp (by unfold gcI; rw [Int.natAbs_natCast]; exact Nat.gcd_dvd_right _ _)
theorem frC_ne {t b : Int} (h : b ≠ 0) : frC t b ≠ 0 := by
  have := gcI_pos (t := t) h
  unfold frC
  split <;> omega
theorem frC_abs (t b : Int) : (frC t b).natAbs = Nat.gcd t.natAbs b.natAbs := by
  unfold frC gcI
  split <;> omega
theorem frC_le {t b : Int} (h : b ≠ 0) : (frC t b).natAbs ≤ b.natAbs := by
  rw [frC_abs]
  exact Nat.le_of_dvd (by omega) (Nat.gcd_dvd_right _ _)
theorem fr_parts {t b : Int} (h : b ≠ 0) : t = frC t b * frT t b ∧ b = frC t b * frB t b := by
  have h0 := frC_ne (t := t) h
  have d1 : frC t b ∣ t := by unfold frC; split; exact Int.neg_dvd.mpr (gcI_dl t b); exact gcI_dl t b
  have d2 : frC t b ∣ b := by unfold frC; split; exact Int.neg_dvd.mpr (gcI_dr t b); exact gcI_dr t b
  obtain ⟨k, hk⟩ := d1
  obtain ⟨l, hl⟩ := d2
  constructor
  · unfold frT
    have e : t.fdiv (frC t b) = k := by
      conv => lhs; arg 1; rw [hk]
      exact Int.mul_fdiv_cancel_left _ h0
    rw [e]
    exact hk
  · unfold frB
    have e : b.fdiv (frC t b) = l := by
      conv => lhs; arg 1; rw [hl]
      exact Int.mul_fdiv_cancel_left _ h0
    rw [e]
    exact hl
theorem frB_pos {t b : Int} (h : b ≠ 0) : 0 < frB t b := by
  have h0 := gcI_pos (t := t) h
  have e := (fr_parts (t := t) h).2
  have hc : frC t b = if b < 0 then -gcI t b else gcI t b := rfl
  generalize frB t b = l at *
  generalize frC t b = c at *
  split at hc
  · have hc0 : c < 0 := by omega
    rcases Int.lt_trichotomy l 0 with hl | hl | hl
    · have := Int.mul_pos_of_neg_of_neg hc0 hl
      omega
    · subst hl
      omega
    · exact hl
  · have hc0 : 0 < c := by omega
    rcases Int.lt_trichotomy l 0 with hl | hl | hl
    · have := Int.mul_neg_of_pos_of_neg hc0 hl
      omega
    · subst hl
      omega
    · exact hl
theorem fr_one {t b : Int} (h : b ≠ 0) : gcI (frT t b) (frB t b) = 1 := by
  obtain ⟨e1, e2⟩ := fr_parts (t := t) h
  have ha := frC_abs t b
  have hp : 0 < Nat.gcd t.natAbs b.natAbs := Nat.gcd_pos_of_pos_right _ (by omega)
  have n1 : t.natAbs = (frC t b).natAbs * (frT t b).natAbs := by
    conv => lhs; rw [e1]
    exact Int.natAbs_mul _ _
  have n2 : b.natAbs = (frC t b).natAbs * (frB t b).natAbs := by
    conv => lhs; rw [e2]
    exact Int.natAbs_mul _ _
  have q : Nat.gcd t.natAbs b.natAbs = Nat.gcd t.natAbs b.natAbs * Nat.gcd (frT t b).natAbs (frB t b).natAbs := by
    conv => lhs; rw [n1, n2, Nat.gcd_mul_left, ha]
  unfold gcI
  have : Nat.gcd (frT t b).natAbs (frB t b).natAbs = 1 := by
    have q2 : Nat.gcd t.natAbs b.natAbs * 1 = Nat.gcd t.natAbs b.natAbs * Nat.gcd (frT t b).natAbs (frB t b).natAbs := by rw [Nat.mul_one]; exact q
    exact (Nat.eq_of_mul_eq_mul_left hp q2).symm
  rw [this]
  rfl
theorem fr_cross {t b : Int} (h : b ≠ 0) : frT t b * b = t * frB t b := by
  obtain ⟨e1, e2⟩ := fr_parts (t := t) h
  generalize frT t b = T at *
  generalize frB t b = B at *
  generalize frC t b = C at *
  subst e1
  subst e2
  rw [← Int.mul_assoc, Int.mul_comm T C]
/-- two fractions in lowest terms of one worth are one -/
theorem low_unique {t b u d : Int} (hb : 0 < b) (hd : 0 < d) (h1 : gcI t b = 1) (h2 : gcI u d = 1) (e : t * d = u * b) : t = u ∧ b = d := by
  have g1 : Nat.gcd t.natAbs b.natAbs = 1 := by unfold gcI at h1; omega
  have g2 : Nat.gcd u.natAbs d.natAbs = 1 := by unfold gcI at h2; omega
  have en : t.natAbs * d.natAbs = u.natAbs * b.natAbs := by rw [← Int.natAbs_mul, ← Int.natAbs_mul, e]
  have d1 : b.natAbs ∣ d.natAbs := (Nat.Coprime.dvd_of_dvd_mul_left (k := b.natAbs) (m := t.natAbs) (n := d.natAbs) (by rw [Nat.Coprime, Nat.gcd_comm]; exact g1) ⟨u.natAbs, by rw [en, Nat.mul_comm]⟩)
  have d2 : d.natAbs ∣ b.natAbs := (Nat.Coprime.dvd_of_dvd_mul_left (k := d.natAbs) (m := u.natAbs) (n := b.natAbs) (by rw [Nat.Coprime, Nat.gcd_comm]; exact g2) ⟨t.natAbs, by rw [← en, Nat.mul_comm]⟩)
  have eb : b.natAbs = d.natAbs := Nat.dvd_antisymm d1 d2
  have eb' : b = d := by omega
  subst eb'
  exact ⟨Int.eq_of_mul_eq_mul_right (by omega) e, rfl⟩
theorem fr_self {t b : Int} (hb : 0 < b) (h : gcI t b = 1) : frT t b = t ∧ frB t b = b :=
  low_unique (frB_pos (by omega)) hb (fr_one (by omega)) h (fr_cross (by omega))
theorem gcI_oneR (t : Int) : gcI t 1 = 1 := by
  unfold gcI
  rw [show (1 : Int).natAbs = 1 from rfl, Nat.gcd_one_right]
  rfl
/-- not too great for a product or a share -/
def small (b : Int) : Prop := b.natAbs < 2 ^ 8000
theorem small_mul {i j : Int} (h : small i) (k : small j) : CMulX i j := mulx_ok h k (by decide)
theorem small_le {n m : Int} (h : n.natAbs ≤ m.natAbs) (k : small m) : small n := Nat.lt_of_le_of_lt h k
theorem small_lt {n : Int} {k : Nat} (h : n.natAbs < k) (hk : k ≤ 2 ^ 8000 := by decide) : small n := Nat.lt_of_lt_of_le h hk
theorem small_frC {t b : Int} (h : b ≠ 0) (hs : small b) : CDivZ t (frC t b) := ⟨frC_ne h, Nat.lt_of_lt_of_le (PySem.Flt.log2_lt_of (k := 8000) (by decide) (Nat.lt_of_le_of_lt (frC_le h) hs)) (by decide)⟩
theorem frT_le {t b : Int} (h : b ≠ 0) : (frT t b).natAbs ≤ t.natAbs := by
  have e := (fr_parts (t := t) h).1
  have h0 := frC_ne (t := t) h
  have : t.natAbs = (frC t b).natAbs * (frT t b).natAbs := by
    conv => lhs; rw [e]
    exact Int.natAbs_mul _ _
  rw [this]
  exact Nat.le_mul_of_pos_left _ (by omega)
theorem frB_le {t b : Int} (h : b ≠ 0) : (frB t b).natAbs ≤ b.natAbs := by
  have e := (fr_parts (t := t) h).2
  have h0 := frC_ne (t := t) h
  have : b.natAbs = (frC t b).natAbs * (frB t b).natAbs := by
    conv => lhs; rw [e]
    exact Int.natAbs_mul _ _
  rw [this]
  exact Nat.le_mul_of_pos_left _ (by omega)
/-- a size in bits -/
def sz (k : Nat) (n : Int) : Prop := n.natAbs < 2 ^ k
theorem sz_mono {j k : Nat} {n : Int} (h : sz j n) (e : j ≤ k) : sz k n := Nat.lt_of_lt_of_le h (Nat.pow_le_pow_right (by decide) e)
theorem sz_mul {j k : Nat} {n m : Int} (h : sz j n) (e : sz k m) : sz (j + k) (n * m) := by
  unfold sz
  rw [Int.natAbs_mul, Nat.pow_add]
  exact Nat.mul_lt_mul'' h e
theorem sz_add {j k : Nat} {n m : Int} (h : sz j n) (e : sz k m) : sz (j + k + 1) (n + m) := by
  have h1 := sz_mono h (show j ≤ j + k by omega)
  have h2 := sz_mono e (show k ≤ j + k by omega)
  unfold sz at *
  have := Int.natAbs_add_le n m
  rw [Nat.pow_succ]
  omega
theorem sz_neg {j : Nat} {n : Int} (h : sz j n) : sz j (-n) := by
  unfold sz at *
  rw [Int.natAbs_neg]
  exact h
theorem sz_sub {j k : Nat} {n m : Int} (h : sz j n) (e : sz k m) : sz (j + k + 1) (n - m) := by
  rw [Int.sub_eq_add_neg]
  exact sz_add h (sz_neg e)
theorem sz_le {k : Nat} {n m : Int} (h : n.natAbs ≤ m.natAbs) (e : sz k m) : sz k n := Nat.lt_of_le_of_lt h e
theorem sz_mulx {j k : Nat} {n m : Int} (h : sz j n) (e : sz k m) (l : j + k ≤ 134217728) : CMulX n m := mulx_ok h e l
theorem sz_small {k : Nat} {n : Int} (h : sz k n) (l : k ≤ 8000) : small n := sz_mono h l
theorem sz_lit {k : Nat} {n : Int} (h : n.natAbs < 2 ^ k := by decide) : sz k n := h
/-! ### a fraction, and what it is worth -/
def IsFr (a b : Int) : Prop := 0 < b ∧ gcI a b = 1
def Wth (a b n d : Int) : Prop := IsFr a b ∧ d ≠ 0 ∧ a * d = n * b
theorem wth_unique {a b n d a' b' n' d' : Int} (h : Wth a b n d) (h' : Wth a' b' n' d') (e : n * d' = n' * d) : a = a' ∧ b = b' := by
  obtain ⟨⟨h1, h2⟩, h3, h4⟩ := h
  obtain ⟨⟨k1, k2⟩, k3, k4⟩ := h'
  refine low_unique h1 k1 h2 k2 ?_
  have z : d * d' ≠ 0 := Int.mul_ne_zero h3 k3
  refine Int.eq_of_mul_eq_mul_right z ?_
  grind
theorem wth_fr {n d : Int} (h : d ≠ 0) : Wth (frT n d) (frB n d) n d := ⟨⟨frB_pos h, fr_one h⟩, h, fr_cross h⟩
theorem wth_self {a b : Int} (h : IsFr a b) : Wth a b a b := ⟨h, by have := h.1; omega, rfl⟩
theorem wth_conv {x y n d n' d' : Int} (h : Wth x y n d) (h0 : d' ≠ 0) (e : n * d' = n' * d) : Wth x y n' d' := by
  refine ⟨h.1, h0, ?_⟩
  obtain ⟨_, h3, h4⟩ := h
  refine Int.eq_of_mul_eq_mul_right h3 ?_
  grind
theorem w_times {x y n d u v m f X Y : Int} (h1 : Wth x y n d) (h2 : Wth u v m f) (h : Wth X Y (x * u) (y * v)) : Wth X Y (n * m) (d * f) := by
  refine wth_conv h (Int.mul_ne_zero h1.2.1 h2.2.1) ?_
  have e1 := h1.2.2
  have e2 := h2.2.2
  clear h1 h2 h
  grind
theorem w_plus {x y n d u v m f X Y : Int} (h1 : Wth x y n d) (h2 : Wth u v m f) (h : Wth X Y (x * v + u * y) (y * v)) : Wth X Y (n * f + m * d) (d * f) := by
  refine wth_conv h (Int.mul_ne_zero h1.2.1 h2.2.1) ?_
  have e1 := h1.2.2
  have e2 := h2.2.2
  clear h1 h2 h
  grind
theorem isFr_int (n : Int) : IsFr n 1 := ⟨by decide, gcI_oneR n⟩
theorem eqv_ii (a b : Int) : PyData.eqv (.tuple [.int a, .int b]) (.tuple [.int a, .int b]) = true := PySem.SeqAt.eqv_refl _ rfl
/-- a fraction stands at p, its numbers not too great -/
structure FrAt (H : Hp) (p : Addr) (k : Nat) (a b : Int) : Prop where
  get : H p = some (.tup [.int a, .int b])
  fr : IsFr a b
  s1 : sz k a
  s2 : sz k b
theorem FrAt.same {H G : Hp} {p : Addr} {k : Nat} {a b : Int} (e : Same H G) (f : FrAt H p k a b) : FrAt G p k a b := ⟨e _ _ f.get, f.fr, f.s1, f.s2⟩
theorem FrAt.ch {H G : Hp} {l p : Addr} {k : Nat} {a b : Int} (e : Ch l H G) (w : Wl H l) (f : FrAt H p k a b) : FrAt G p k a b := by
  obtain ⟨x, y, z, q, _⟩ := w.ex
  refine ⟨e _ _ (fun n => ?_) f.get, f.fr, f.s1, f.s2⟩
  subst n
  have := q.symm.trans f.get
  cases this
theorem FrAt.upd {H : Hp} {l p : Addr} {k : Nat} {a b : Int} {xs ys : List V} (w : H l = some (.lst xs)) (f : FrAt H p k a b) : FrAt (upd H l (.lst ys)) p k a b := by
  refine ⟨?_, f.fr, f.s1, f.s2⟩
  rw [upd_ne]
  · exact f.get
  · intro n
    subst n
    have := w.symm.trans f.get
    cases this
theorem FrAt.of {H : Hp} {p : Addr} {k : Nat} {n d : Int} (g : H p = some (.tup [.int (frT n d), .int (frB n d)])) (h : d ≠ 0) (s1 : sz k n) (s2 : sz k d) : FrAt H p k (frT n d) (frB n d) :=
  ⟨g, (wth_fr h).1, sz_le (frT_le h) s1, sz_le (frB_le h) s2⟩
theorem FrAt.lit {H : Hp} {p : Addr} {n : Int} (g : H p = some (.tup [.int n, .int 1])) (s : sz 2 n) : FrAt H p 2 n 1 := ⟨g, isFr_int n, s, sz_lit⟩
theorem FrAt.mono {H : Hp} {p : Addr} {j k : Nat} {a b : Int} (f : FrAt H p j a b) (e : j ≤ k) : FrAt H p k a b := ⟨f.get, f.fr, sz_mono f.s1 e, sz_mono f.s2 e⟩
theorem eqv_w {a b n d a' b' n' d' : Int} (h : Wth a b n d) (h' : Wth a' b' n' d') (e : n * d' = n' * d) : PyData.eqv (.tuple [.int a, .int b]) (.tuple [.int a', .int b']) = true := by
  obtain ⟨e1, e2⟩ := wth_unique h h' e
  rw [e1, e2]
  exact eqv_ii _ _
theorem itePb {b : Bool} {A B : Prop} (h : b = true) (q : A) : if b = true then A else B := by
  rw [h]
  exact iteT q
def gSeq (K : PySem.W.Frag) (n : Nat) (t : TGs) : TG := fun v σ H Q => gTup K n t v σ H Q ∨ gLst K n t v σ H Q
theorem pg_any {X : Cx} {pos : Pos} {es : List Expr} {k : Nat} {t : TGs} {n : Nat} (hc : X.calm = true) (h : PGs X es t)
    (hn : (assignEach es X.env).length = n := by rfl) (hst : (assignEach es X.env).findIdx? (·.1) = none := by rfl) : PG X (.Tuple es k pos) (gSeq X.K n t) :=
  ⟨fun pins s σ H v u Q I r hw => hw.elim ((pg_tup hc h hn hst).run pins s σ H v u Q I r) ((pg_lst hc h hn hst).run pins s σ H v u Q I r)⟩
theorem iteNb {b : Bool} {A B : Prop} (h : b = true) (q : B) : if (!b) = true then A else B := by
  rw [h]
  exact iteF q
/-! ### polynomials -/
theorem TyX.same {K : PySem.W.Frag} {H G : Hp} {x : V} {t : Value} (e : Same H G) (h : TyX K H x t) : TyX K G x t := by
  cases h with
  | base b =>
    refine .base ?_
    cases b with
    | non => exact .non
    | bl y => exact .bl y
    | int y => exact .int y
    | str y => exact .str y
    | flt y => exact .flt y
    | lst h => exact .lst (e _ _ h)
    | frz h => exact .frz (e _ _ h)
    | tup h => exact .tup (e _ _ h)
    | dK h => exact .dK (e _ _ h)
    | dT h => exact .dT (e _ _ h)
    | ins h a b c d f => exact .ins (e _ _ h) a b c d f
  | byt b => exact .byt b
  | set h => exact .set (e _ _ h)
  | kList h c => exact .kList h c
  | kTuple h c => exact .kTuple h c
  | kDict h c => exact .kDict h c
  | fTuple h => exact .fTuple (e _ _ h)
  | fDict h => exact .fDict (e _ _ h)
theorem Odd.same {K : PySem.W.Frag} {H G : Hp} {x : V} (e : Same H G) (h : Odd K H x) : Odd K G x := by
  obtain ⟨s, t, q⟩ := h
  exact ⟨s, TyX.same e t, q⟩
theorem Same.tupS {K : PySem.W.Frag} {H H' : Hp} {a : Addr} {xs : List V} (e : Same H H') (h : SqT K H a xs) : SqT K H' a xs := by
  rcases h with (h | ⟨o, h⟩) | h
  · exact .inl (.inl (e _ _ h))
  · exact .inl (.inr ⟨o, e _ _ h⟩)
  · exact .inr h
def isI : V → Bool
  | .int _ => true
  | _ => false
/-- a whole number, or another thing -/
def PartV (K : PySem.W.Frag) (H : Hp) (x : V) : Prop := (∃ n : Int, x = .int n) ∨ (Odd K H x ∧ isI x = false)
theorem PartV.same {K : PySem.W.Frag} {H G : Hp} {x : V} (e : Same H G) (h : PartV K H x) : PartV K G x := h.imp id fun ⟨a, b⟩ => ⟨Odd.same e a, b⟩
/-- noughts at the end left out -/
def bare (ns : List Int) : List Int := (ns.reverse.dropWhile (· == 0)).reverse
theorem bare_nil : bare [] = [] := rfl
theorem bare_zero (l : List Int) : bare (l ++ [0]) = bare l := by
  unfold bare
  rw [List.reverse_append]
  rfl
theorem bare_last (l : List Int) {x : Int} (h : x ≠ 0) : bare (l ++ [x]) = l ++ [x] := by
  unfold bare
  rw [List.reverse_append]
  show (List.dropWhile (· == 0) (x :: l.reverse)).reverse = l ++ [x]
  rw [List.dropWhile_cons_of_neg (by simpa using h)]
  simp
theorem bare_len (l : List Int) : (bare l).length ≤ l.length := by
  unfold bare
  rw [List.length_reverse]
  have := (List.dropWhile_sublist (p := (· == (0 : Int))) (l := l.reverse)).length_le
  rw [List.length_reverse] at this
  exact this
/-- the last number isn't 0 -/
def Bare (ns : List Int) : Prop := ∀ x, ns.getLast? = some x → x ≠ 0
theorem bare_bare (l : List Int) : Bare (bare l) := by
  intro x h
  unfold bare at h
  rw [List.getLast?_reverse] at h
  cases e : l.reverse.dropWhile (· == 0) with
  | nil => rw [e] at h; cases h
  | cons y t =>
    rw [e] at h
    have hy := List.head_dropWhile_not (p := (· == (0 : Int))) (l := l.reverse) (by rw [e]; simp)
    simp only [e, List.head_cons] at hy
    have : y = x := Option.some.inj h
    subst this
    simpa using hy
theorem bare_self {l : List Int} (h : Bare l) : bare l = l := by
  cases e : l.getLast? with
  | none => rw [List.getLast?_eq_none_iff] at e; subst e; rfl
  | some x =>
    obtain ⟨r, hr⟩ := List.getLast?_eq_some_iff.mp e
    rw [hr]
    exact bare_last r (h x e)
/-- a polynomial stands at p -/
structure PolyAt (H : Hp) (p : Addr) (ns : List Int) : Prop where
  get : H p = some (.tup (ns.map V.int))
  bare : Bare ns
theorem PolyAt.same {H G : Hp} {p : Addr} {ns : List Int} (e : Same H G) (h : PolyAt H p ns) : PolyAt G p ns := ⟨e _ _ h.get, h.bare⟩
/-! ### xs[i] op= e of a list -/
def rGetL (K : PySem.W.Frag) : V → V → Hp → VK → Prop := fun x y H Q => ∃ (p : Addr) (xs : List V) (i : Int) (v : V), x = .ref p ∧ y = .int i ∧ SqL K H p xs ∧ 0 ≤ i ∧ xs[i.toNat]? = some v ∧ Q v H
theorem get_list {X : Cx} : PGet X (rGetL X.K) := by
  intro pins s σ H o i ov iv Q I ro ri h
  obtain ⟨p, xs, k, z, rfl, rfl, hq, h0, he, q⟩ := h
  cases ro
  obtain ⟨t, rfl⟩ := ri
  obtain ⟨its, r, pl, hz⟩ := I.list hq
  obtain ⟨w, ew, rw'⟩ := r.get he
  have hl := r.length
  have hn := line63
  have hlt := (List.getElem?_eq_some_iff.mp he).1
  exact wpAny_getItem_list pl.isList h0 (by omega) (by simpa using ew) ⟨z, H, I, rw', q⟩
/-- x *= e of whole numbers -/
def ipMul : TIp := fun x y H Q => ∃ i j, x = .int i ∧ y = .int j ∧ CMulX i j ∧ Q (.int (i * j)) H
theorem ip_mulW {X : Cx} : PIp X .Mult ipMul := by
  intro pins s σ H x y v u Q I rx ry h
  obtain ⟨i, j, rfl, rfl, hc, q⟩ := h
  obtain ⟨t, rfl⟩ := rx
  obtain ⟨t', rfl⟩ := ry
  exact imul_int ⟨.int _, H, I.tok _, ⟨_, rfl⟩, q⟩ hc.ok
/-! ### comprehensions of one for over whole numbers, no object made in a turn -/
theorem lc_mapT {K : PySem.W.Frag} {a D : Addr} {ns : List Int} {g : TG} {tt : TT} {te : TE} {vs : List Nat} {σ : L2.St} {H : Hp} {Qd : Hp → Prop} (f : Int → V) (hS : SqT K H a (ns.map V.int)) (hD : H D = none) (hl : ns.length ≤ 100000)
    (hs : ∀ (n : Int) (X : Hp) (R : VK) (P : Hp → Prop), n ∈ ns → Same H X → R (f n) X → g (.int n) (wipe σ vs) X fun σ2 H2 => wipe σ2 vs = wipe σ vs ∧ tt σ2 H2 fun b H3 => if b = true then te σ2 H3 R else P H3)
    (hd : ∀ X, Same H X → X D = some (.lst (ns.map f)) → Qd X) :
    ∃ W : Nat → Nat → Hp → Prop, (∃ m, W 0 m (upd H D (.lst []))) ∧ ∀ i m X, W i m X →
      ((Itt K a).stop i X ∧ Qd X) ∨ ((Itt K a).go i X ∧ ∃ Nx : Hp → Prop, (∀ H', Nx H' → ∃ m', m' < m ∧ W (i + 1) m' H') ∧ ∀ x H', (Itt K a).yld i X x H' → g x (wipe σ vs) H' fun σ2 H2 => wipe σ2 vs = wipe σ vs ∧ tt σ2 H2 fun b H3 =>
        if b = true then te σ2 H3 fun y H4 => ∃ acc, H4 D = some (.lst acc) ∧ acc.length < sizeLine ∧ Nx (upd H4 D (.lst (acc ++ [y]))) else Nx H3) := by
  refine lc_tup (xs := ns.map V.int) (fun i X => X D = some (.lst ((ns.take i).map f)) ∧ Same H X) ⟨upd_same, same_new hD⟩ (fun i X _ hP => Same.tupS hP.2 hS) ?_ (fun X hP => ?_)
  · intro i x X hi hP
    obtain ⟨gD, sX⟩ := hP
    rw [List.getElem?_map] at hi
    obtain ⟨n, hn, rfl⟩ := Option.map_eq_some_iff.mp hi
    have hlt := (List.getElem?_eq_some_iff.mp hn).1
    refine hs n X (fun y H4 => ∃ acc, H4 D = some (.lst acc) ∧ acc.length < sizeLine ∧ (upd H4 D (.lst (acc ++ [y])) D = some (.lst ((ns.take (i + 1)).map f)) ∧ Same H (upd H4 D (.lst (acc ++ [y]))))) _ (List.mem_of_getElem? hn) sX ?_
    refine ⟨_, gD, ?_, ?_, fun b o hb => ?_⟩
    · rw [List.length_map]
      exact Nat.lt_of_le_of_lt (List.length_take_le _ _) (Nat.lt_of_lt_of_le (show i < 100001 by omega) (by decide))
    · rw [upd_same, List.take_add_one, hn, List.map_append]
      rfl
    · rw [upd_ne (ne_of_none hb hD)]
      exact sX b o hb
  · refine hd X hP.2 ?_
    have e := hP.1
    rw [List.length_map, List.take_length] at e
    exact e
theorem lc_mapL {K : PySem.W.Frag} {a D : Addr} {ns : List Int} {g : TG} {tt : TT} {te : TE} {vs : List Nat} {σ : L2.St} {H : Hp} {Qd : Hp → Prop} (f : Int → V) (hS : SqL K H a (ns.map V.int)) (hD : H D = none) (hl : ns.length ≤ 100000)
    (hs : ∀ (n : Int) (X : Hp) (R : VK) (P : Hp → Prop), n ∈ ns → Same H X → R (f n) X → g (.int n) (wipe σ vs) X fun σ2 H2 => wipe σ2 vs = wipe σ vs ∧ tt σ2 H2 fun b H3 => if b = true then te σ2 H3 R else P H3)
    (hd : ∀ X, Same H X → X D = some (.lst (ns.map f)) → Qd X) :
    ∃ W : Nat → Nat → Hp → Prop, (∃ m, W 0 m (upd H D (.lst []))) ∧ ∀ i m X, W i m X →
      ((Itl K a).stop i X ∧ Qd X) ∨ ((Itl K a).go i X ∧ ∃ Nx : Hp → Prop, (∀ H', Nx H' → ∃ m', m' < m ∧ W (i + 1) m' H') ∧ ∀ x H', (Itl K a).yld i X x H' → g x (wipe σ vs) H' fun σ2 H2 => wipe σ2 vs = wipe σ vs ∧ tt σ2 H2 fun b H3 =>
        if b = true then te σ2 H3 fun y H4 => ∃ acc, H4 D = some (.lst acc) ∧ acc.length < sizeLine ∧ Nx (upd H4 D (.lst (acc ++ [y]))) else Nx H3) := by
  refine lc_list (xs := ns.map V.int) (fun i X => X D = some (.lst ((ns.take i).map f)) ∧ Same H X) ⟨upd_same, same_new hD⟩ (fun i X _ hP => hP.2.seq hS) ?_ (fun X hP => ?_)
  · intro i x X hi hP
    obtain ⟨gD, sX⟩ := hP
    rw [List.getElem?_map] at hi
    obtain ⟨n, hn, rfl⟩ := Option.map_eq_some_iff.mp hi
    have hlt := (List.getElem?_eq_some_iff.mp hn).1
    refine hs n X (fun y H4 => ∃ acc, H4 D = some (.lst acc) ∧ acc.length < sizeLine ∧ (upd H4 D (.lst (acc ++ [y])) D = some (.lst ((ns.take (i + 1)).map f)) ∧ Same H (upd H4 D (.lst (acc ++ [y]))))) _ (List.mem_of_getElem? hn) sX ?_
    refine ⟨_, gD, ?_, ?_, fun b o hb => ?_⟩
    · rw [List.length_map]
      exact Nat.lt_of_le_of_lt (List.length_take_le _ _) (Nat.lt_of_lt_of_le (show i < 100001 by omega) (by decide))
    · rw [upd_same, List.take_add_one, hn, List.map_append]
      rfl
    · rw [upd_ne (ne_of_none hb hD)]
      exact sX b o hb
  · refine hd X hP.2 ?_
    have e := hP.1
    rw [List.length_map, List.take_length] at e
    exact e
end BW
namespace BW
open PySem PySem.Spec PyProof.Rows L2
open PySem.AutoSeq1 (wpAny_loadPart')
/-! ### enumerate of a tuple -/
theorem draws_tuple {prog : Program} {w : World} {A : Around} (hh : A.handled = none) (it t : Addr) (hne : t ≠ it) (items : Array Value) :
    Draws prog w A it [it, t] items.size (fun i v => items[i]? = some v) (fun i h => h.IsTupleIter it t i ∧ h.IsTuple t items) where
  live := fun _ _ st => by
    obtain ⟨o, ho, _⟩ := st.1
    exact ⟨o, ho⟩
  frame := fun _ _ _ st hk => ⟨st.1.at fun o e => hk it (by simp) o e, by
    obtain ⟨o, ho, r⟩ := st.2
    exact ⟨o, hk t (by simp) o ho, r⟩⟩
  item := fun i s Q E hi st hQ => by
    refine wpAny_nextOf_tuple_item st.1 st.2 (x := items[i]) (by simp [hi]) fun h' hit' hs' => ?_
    refine hQ _ h' s.toks (by simp [hi]) ⟨hit', ?_⟩ hs'
    obtain ⟨o, ho, r⟩ := st.2
    exact ⟨o, hs'.extBut _ _ hne ho, r⟩
  done := fun s Q E st hE => wpAny_nextOf_tuple_end hh st.1 st.2 (by simp) hE
theorem draws_tuple_end {prog : Program} {w : World} {A : Around} (hh : A.handled = none) (it t : Addr) (items : Array Value) (n : Nat) (hn : items.size ≤ n) :
    Draws prog w A it [it, t] n (fun _ _ => False) (fun j h => j = n ∧ h.IsTupleIter it t j ∧ h.IsTuple t items) where
  live := fun _ _ st => by
    obtain ⟨o, ho, _⟩ := st.2.1
    exact ⟨o, ho⟩
  frame := fun _ _ _ st hk => ⟨st.1, st.2.1.at fun o e => hk it (by simp) o e, by
    obtain ⟨o, ho, r⟩ := st.2.2
    exact ⟨o, hk t (by simp) o ho, r⟩⟩
  item := fun i s Q E hi st hQ => by
    have := st.1
    omega
  done := fun s Q E st hE => wpAny_nextOf_tuple_end hh st.2.1 st.2.2 (by simp; omega) hE
set_option maxHeartbeats 4000000 in
theorem meets_enumT (l : Addr) (items : Array Value) (n : Nat) (dct : Option Addr) (sl : Array (Option Value)) :
    Meets (Builtin.«enumerate.__new__» ⟨[.type "enumerate", .ref l], []⟩) (fun _ R s => s.heap.get? l = some { cls := .type "tuple", dict := dct, data := .seq items n, slots := sl } ∧
      R (.ok (.ret (.ref (s.heap.push { cls := .type "tuple_iterator", data := .fields #[.ref l, .int 0 0] }).objs.size)))
        { s with heap := (s.heap.push { cls := .type "tuple_iterator", data := .fields #[.ref l, .int 0 0] }).push { cls := .type "enumerate", data := .fields #[.none, .bool false, .ref s.heap.objs.size, rawInt 0, .none, .none] } }) :=
  .of_wp fun prog w A R s h => by
    obtain ⟨hp, g, d, tk, os⟩ := s; obtain ⟨hl, h⟩ := h
    have hsub := sub_enumerate
    have hL : Heap.IsTuple (Shared.heap ⟨hp, g, d, tk, os⟩) l items := ⟨_, hl, rfl, n, rfl⟩
    wp_walk using wpAny_loadPart' hl
    refine wpAny_stack_any fun st => wpAny_pure ?_
    split
    · rename_i c _ _ _ _ _
      cases (c == Value.type "enumerate")
      · wp_walk using wpAny_loadPart' hl, wpAny_pyIter_tuple hL
        exact ⟨_, rfl, h⟩
      · wp_walk using wpAny_loadPart' hl, wpAny_pyIter_tuple hL
        exact ⟨_, rfl, h⟩
    · wp_walk using wpAny_loadPart' hl, wpAny_pyIter_tuple hL
      exact ⟨_, rfl, h⟩
theorem call_enumT {prog : Program} {w : World} {A : Around} {E : Value → Shared → Prop} {s : Shared} {l : Addr} {items : Array Value} {Q : Value → Shared → Prop} (hL : s.heap.IsTuple l items)
    (h : ∀ h', IsEnum h' (s.heap.objs.size + 1) s.heap.objs.size 0 .none → h'.IsTupleIter s.heap.objs.size l 0 → (∀ b o, s.heap.get? b = some o → h'.get? b = some o) → Q (.ref (s.heap.objs.size + 1)) { s with heap := h' }) :
    wpAny (model prog w) A (call (.type "enumerate") [.ref l]) Q E s := by
  obtain ⟨⟨c, dct, dt, sl⟩, hl, hc, n, hd⟩ := hL
  obtain rfl : c = .type "tuple" := hc
  obtain rfl : dt = .seq items n := hd
  refine callType_new F.called_enumerate (by decide) (F.typeCall_enumerate_1 _) (F.newCall_enumerate_1 _) (fun o => F.args_object_init_2 o _) F.entry_enumerate_new (meets_enumT l items n dct sl) ⟨hl, ?_⟩
  have z1 : (s.heap.push { cls := .type "tuple_iterator", data := .fields #[.ref l, .int 0 0] }).objs.size = s.heap.objs.size + 1 := Heap.size_push ..
  have e1 := Heap.get?_push_size (s.heap.push { cls := .type "tuple_iterator", data := .fields #[.ref l, .int 0 0] }) (o := { cls := .type "enumerate", data := .fields #[.none, .bool false, .ref s.heap.objs.size, rawInt 0, .none, .none] }) rfl
  rw [z1] at e1
  show _ ∧ _
  rw [z1]
  exact ⟨⟨_, e1, rfl⟩, h _ e1 ⟨_, Heap.get?_push_of_some _ (Heap.get?_push_size _ rfl), rfl, rfl⟩ fun b o x => Heap.get?_push_of_some _ (Heap.get?_push_of_some _ x)⟩
/-- the tuple at a as it stands at each turn, each item in a new pair -/
def IteT (K : PySem.W.Frag) (a : Addr) : It where
  go := fun i H => ∃ (xs : List V) (x : V), SqT K H a xs ∧ xs[i]? = some x
  yld := fun i H v H' => ∃ T x, v = .ref T ∧ H T = none ∧ H' = upd H T (.tup [.int (i : Nat), x]) ∧ ∀ xs, SqT K H a xs → xs[i]? = some x
  stop := fun i H => ∃ xs : List V, SqT K H a xs ∧ xs.length ≤ i
theorem turn_enumT {P : Program} {w : World} {K : PySem.W.Frag} {elts : List Expr} {kk : Nat} {tpos : Pos} (a e it : Addr) :
    Turn P w K (.Tuple elts kk tpos) (IteT K a) [e, it] e (fun i h => (∃ old, IsEnum h e it ((i : Nat) : Int) old) ∧ h.IsTupleIter it a i ∧ e ≠ it) where
  mem := by simp
  obj := fun i h st b hb => by
    obtain ⟨⟨old, he⟩, ⟨o, ho, hc, hd⟩, _⟩ := st
    rcases (by simpa using hb : b = e ∨ b = it) with rfl | rfl
    · exact ⟨_, he, fun v q => nomatch q⟩
    · exact ⟨o, ho, fun v q => by rw [hd] at q; cases q⟩
  keep := fun i h h' st k => by
    obtain ⟨⟨old, he⟩, hi, hne⟩ := st
    exact ⟨⟨old, k e (by simp) _ he⟩, hi.at fun o q => k it (by simp) o q, hne⟩
  item := by
    intro X hP hw hK hc i pins s σ H E I hf st hg
    subst hP hw hK
    obtain ⟨⟨old, he⟩, hit, hne⟩ := st
    obtain ⟨xs, x, hq, hx⟩ := hg
    obtain ⟨its, rv, p, hz⟩ := I.tuple hq
    obtain ⟨u, hu, ru⟩ := rv.get hx
    have pt : s.heap.IsTuple a its.toArray := p
    have hel : e < s.heap.objs.size := Heap.lt_size he
    have hil : it < s.heap.objs.size := by obtain ⟨_, q, _⟩ := hit; exact Heap.lt_size q
    have ae : e ≠ a := fun z => by
      obtain ⟨o, ho, hcl, _⟩ := pt
      rw [← z, he] at ho
      cases ho
      exact absurd (Value.type.inj (show Value.type "enumerate" = Value.type "tuple" from hcl)) (by decide)
    have ai : a ≠ it := fun z => by
      obtain ⟨o, ho, hcl, _⟩ := pt
      obtain ⟨o', ho', hcl', _⟩ := hit
      rw [z, ho'] at ho
      cases ho
      rw [hcl'] at hcl
      exact absurd hcl (by decide)
    have hin : i < its.toArray.size := by
      have := (List.getElem?_eq_some_iff.mp hu).1
      simpa using this
    refine wpAny_pyNext_enum_itemD (draws_tuple (A := X.A.in1) (I.ok.hd hc) it a ai its.toArray) he ⟨hit, pt⟩ hin hne (by simp [hne, ae]) fun y h' tk hy ho st' hT hsz hk => ?_
    have ey : y = u := by
      have : its.toArray[i]? = some u := by simpa using hu
      rw [this] at hy
      exact (Option.some.inj hy).symm
    subst ey
    refine ⟨_, rfl, wpAny_letOwnedTupleGo_enum (s := { s with heap := h', toks := tk + 1 }) ho fun h2 he2 sb => ?_⟩
    have hT2 : h2.get? s.heap.objs.size = some { cls := .type "tuple", data := .seq #[.int i tk, y] } := (sb.2 _ (Nat.ne_of_gt hel)).trans hT
    have new : ObjOk X.prog X.w (upd H s.heap.objs.size (.tup [.int (i : Nat), x])) h2 s.heap.objs.size (.tup [.int (i : Nat), x]) :=
      ⟨by show 2 ≤ sizeLine; decide, [.int i tk, y], .cons ⟨_, rfl⟩ (.cons ru .nil), ⟨_, hT2, rfl, _, rfl⟩⟩
    have I1 : Inv X pins σ (upd H s.heap.objs.size (.tup [.int (i : Nat), x])) { s with heap := h2, toks := tk + 1 } :=
      I.turnedNew (ch := [e, it]) (fun b ob hb q => (sb.2 b (fun z => hb (by simp [z]))).trans (hk b ob (fun z => hb (by simp [z])) (fun z => hb (by simp [z])) q)) hf (Nat.le_refl _) new
    refine ⟨.ref s.heap.objs.size, _, I1, rfl, ⟨_, x, rfl, I.hok.fresh (Nat.le_refl _), rfl, fun ys hy => by rw [I.tuple_inj hy hq]; exact hx⟩, ⟨⟨y, ?_⟩, st'.1.at fun o q => (sb.2 it (Ne.symm hne)).trans q, hne⟩, fun b hb => ?_⟩
    · rw [show ((i + 1 : Nat) : Int) = (i : Int) + 1 by omega]
      exact he2
    · have hb' : b < s.heap.objs.size := by
        rcases (by simpa using hb : b = e ∨ b = it) with rfl | rfl
        · exact hel
        · exact hil
      rw [upd_ne (Nat.ne_of_lt hb')]
      exact (hf b hb).1
  done := by
    intro X hP hw hK hc i pins s σ H E I hf st hg
    subst hP hw hK
    obtain ⟨⟨old, he⟩, hit, hne⟩ := st
    obtain ⟨xs, hq, hx⟩ := hg
    obtain ⟨its, rv, p, hz⟩ := I.tuple hq
    obtain ⟨f0, f1, f2, f3, f4, f5⟩ := hf it (by simp)
    have hl := rv.length
    have hn : its.toArray.size ≤ i := by simp; omega
    exact wpAny_pyNext_enum_endD (draws_tuple_end (A := X.A.in1) (I.ok.hd hc) it a its.toArray i hn) he ⟨rfl, hit, p⟩ fun h' eb => ⟨rfl, I.turned (t' := s.toks) (fun b o hb q => eb b o hb q) f0 f1 f3 f4 f5⟩
  self := fun A i s Q E st h => by
    obtain ⟨⟨_, he⟩, _⟩ := st
    exact wpAny_pyIter_enum he h
/-- enumerate of a list or of a tuple -/
def iEnumA (K : PySem.W.Frag) (ta : TA) : TI := fun σ H R => ta σ H fun vs H1 => ∃ a xs, vs = [.ref a] ∧ ((SqL K H1 a xs ∧ R (Ite K a) H1) ∨ (SqT K H1 a xs ∧ R (IteT K a) H1))
theorem pi_enumA {X : Cx} {e : Expr} {ta : TA} {p pos tpos : Pos} {elts : List Expr} {kk : Nat} (hg : Gl X "enumerate") (hm : X.mg "enumerate" = none) (ha : PA X [e] ta) (hs : starEach [e] X.env = [(false, eval e X.env)] := by rfl) :
    PI X (.Tuple elts kk tpos) (.Call (.Name "enumerate" p) [e] [] pos) (iEnumA X.K ta) := by
  refine ⟨fun pins s σ H R I h => ?_⟩
  refine Call_ (ld_blt I hg hm boot_enumerate (PyProof.Rows.callWith_type1 (thn (ha.run pos pins s σ H _ I h) fun us s1 ⟨vs, H1, I1, r1, q1⟩ => ?_) hs rfl))
  obtain ⟨a, xs, rfl, q⟩ := q1
  obtain ⟨u, rfl, ru⟩ := vals1 r1
  cases ru
  have fp : ∀ b ∈ [s1.heap.objs.size + 1, s1.heap.objs.size], FpOk X pins H1 b := fun b hb => by
    have hle : s1.heap.objs.size ≤ b := by
      rcases (by simpa using hb : b = s1.heap.objs.size + 1 ∨ b = s1.heap.objs.size) with rfl | rfl
      · exact Nat.le_add_right _ _
      · exact Nat.le_refl _
    exact I1.fpOk hle (I1.hok.fresh hle)
  rcases q with ⟨hq, q⟩ | ⟨hq, q⟩
  · obtain ⟨its, rv, p', hz⟩ := I1.list hq
    refine call_enumerate_list p'.isList fun h' he hit hsz hk => wpAny_pyIter_enum he ?_
    exact ⟨s1.heap.objs.size + 1, [s1.heap.objs.size + 1, s1.heap.objs.size], _, _, H1, rfl, I1.kept (t' := s1.toks) hk, turn_enum a (s1.heap.objs.size + 1) s1.heap.objs.size, ⟨⟨.none, he⟩, hit, Nat.succ_ne_self _⟩, fp, q⟩
  · obtain ⟨its, rv, p', hz⟩ := I1.tuple hq
    refine call_enumT (items := its.toArray) p' fun h' he hit hk => wpAny_pyIter_enum he ?_
    exact ⟨s1.heap.objs.size + 1, [s1.heap.objs.size + 1, s1.heap.objs.size], _, _, H1, rfl, I1.kept (t' := s1.toks) hk, turn_enumT a (s1.heap.objs.size + 1) s1.heap.objs.size, ⟨⟨.none, he⟩, hit, Nat.succ_ne_self _⟩, fp, q⟩
theorem for_enumT {K : PySem.W.Frag} {a : Addr} {xs : List V} {g : TG} {tb : TS} {D : Ends} {σ : L2.St} {H : Hp} (Pv : Nat → L2.St → Hp → Prop) (h0 : Pv 0 σ H) (hl : ∀ i σ H, i ≤ xs.length → Pv i σ H → SqT K H a xs)
    (hs : ∀ i x σ H T G, xs[i]? = some x → Pv i σ H → H T = none → Same H G → G T = some (.tup [.int (i : Nat), x]) → g (.ref T) σ G fun σ2 H2 => tb { D with nx := Pv (i + 1), ct := Pv (i + 1), bk := D.nx } σ2 H2) (hd : ∀ σ H, Pv xs.length σ H → D.nx σ H) :
    ∃ W : Nat → Nat → L2.St → Hp → Prop, (∃ m, W 0 m σ H) ∧ ∀ i m σ H, W i m σ H →
      ((IteT K a).stop i H ∧ D.nx σ H) ∨ ((IteT K a).go i H ∧ ∃ N : L2.St → Hp → Prop, (∀ σ' H', N σ' H' → ∃ m', m' < m ∧ W (i + 1) m' σ' H') ∧ ∀ x H', (IteT K a).yld i H x H' → g x σ H' fun σ2 H2 => tb { D with nx := N, ct := N, bk := D.nx } σ2 H2) := by
  refine ⟨fun i m σ H => m = xs.length - i ∧ i ≤ xs.length ∧ Pv i σ H, ⟨xs.length, by simp, Nat.zero_le _, h0⟩, ?_⟩
  rintro i m σ H ⟨rfl, hi, p⟩
  have q := hl i σ H hi p
  by_cases hlt : i < xs.length
  · refine .inr ⟨⟨xs, xs[i], q, by simp [hlt]⟩, Pv (i + 1), fun σ' H' p' => ⟨xs.length - (i + 1), by omega, rfl, hlt, p'⟩, fun x H' y => ?_⟩
    obtain ⟨T, z, rfl, hT, rfl, e⟩ := y
    exact hs i z σ H T _ (e xs q) p hT (same_new hT) upd_same
  · have ei : i = xs.length := by omega
    subst ei
    exact .inl ⟨⟨xs, q, Nat.le_refl _⟩, hd σ H p⟩
end BW
namespace BW
open PySem PySem.Spec PyProof.Rows L2
/-! ### zip_longest of two tuples -/
namespace ZL
theorem owner : Manifest.owners.lookup (String.ofList ['t', 's', 'e', 'g', 'n', 'o', 'l', '_', 'p', 'i', 'z', '.', 's', 'l', 'o', 'o', 't', 'r', 'e', 't', 'i'].reverse) = some Manifest.sig_itertools_zip_longest := by kernel_rfl
theorem slot_next : Slot "itertools.zip_longest" "__next__" "itertools.zip_longest.__next__" :=
  .of (owner := "itertools.zip_longest") (n := "__next__") (by rw [typeLookup_type, builtinLookup_eq_fast]; kernel_rfl) (by decide +kernel) (by decide +kernel) (by decide +kernel)
    (by first | exact .inl (by decide +kernel) | exact .inr (by decide +kernel)) (by rw [isSubtype_type]; kernel_rfl)
theorem slot_iter : Slot "itertools.zip_longest" "__iter__" "itertools.zip_longest.__iter__" :=
  .of (owner := "itertools.zip_longest") (n := "__iter__") (by rw [typeLookup_type, builtinLookup_eq_fast]; kernel_rfl) (by decide +kernel) (by decide +kernel) (by decide +kernel)
    (by first | exact .inl (by decide +kernel) | exact .inr (by decide +kernel)) (by rw [isSubtype_type]; kernel_rfl)
theorem slot_init : Slot "itertools.zip_longest" "__init__" "object.__init__" :=
  .of (owner := "object") (n := "__init__") (by rw [typeLookup_type, builtinLookup_eq_fast]; kernel_rfl) (by decide +kernel) (by decide +kernel) (by decide +kernel)
    (by first | exact .inl (by decide +kernel) | exact .inr (by decide +kernel)) (by rw [isSubtype_type]; kernel_rfl)
theorem entry_next : entryFor table "itertools.zip_longest.__next__" = some Builtin.«itertools.zip_longest.__next__» := entryFor_of_tree (by kernel_rfl)
theorem entry_new : entryFor table "itertools.zip_longest.__new__" = some Builtin.«itertools.zip_longest.__new__» := entryFor_of_tree (by kernel_rfl)
theorem entry_iter : entryFor table "itertools.zip_longest.__iter__" = some Builtin.«dict_keyiterator.__iter__» :=
  entryFor_alias (id' := "dict_keyiterator.__iter__") (by kernel_rfl) (by first | rfl | decide +kernel | (unfold String.splitOn; simp +decide [String.splitOnAux])) (by decide +kernel) (by kernel_rfl)
theorem args_next (a : Value) : argsOk "itertools.zip_longest.__next__" ⟨[a], []⟩ := by
  unfold argsOk; rw [signature?_of (id := "itertools.zip_longest.__next__") (n := ['_', '_', 't', 'x', 'e', 'n', '_', '_']) (o := ['t', 's', 'e', 'g', 'n', 'o', 'l', '_', 'p', 'i', 'z', '.', 's', 'l', 'o', 'o', 't', 'r', 'e', 't', 'i']) (by kernel_rfl) owner]; kernel_rfl
theorem args_iter (a : Value) : argsOk "itertools.zip_longest.__iter__" ⟨[a], []⟩ := by
  unfold argsOk; rw [signature?_of (id := "itertools.zip_longest.__iter__") (n := ['_', '_', 'r', 'e', 't', 'i', '_', '_']) (o := ['t', 's', 'e', 'g', 'n', 'o', 'l', '_', 'p', 'i', 'z', '.', 's', 'l', 'o', 'o', 't', 'r', 'e', 't', 'i']) (by kernel_rfl) owner]; kernel_rfl
theorem mro : mroOf (.type "itertools.zip_longest") = pure [.type "itertools.zip_longest", .type "object"] := by rw [mroOf_type]; kernel_rfl
theorem lookup_new : typeLookup (.type "itertools.zip_longest") "__new__" = pure (some (.builtin "itertools.zip_longest.__new__")) := by rw [typeLookup_type, builtinLookup_eq_fast]; kernel_rfl
theorem called : TypeCalled "itertools.zip_longest" "itertools.zip_longest.__new__" "object.__init__" :=
  ⟨by decide +kernel, by decide +kernel, ⟨_, _, mro⟩, madeBy_type mro lookup_new (by decide +kernel), by decide +kernel, by rw [isSubtype_type]; kernel_rfl, slot_init⟩
theorem typeCall (a b c : Value) : checkTypeCall "itertools.zip_longest" ⟨[a, b], [(Str.ofString "fillvalue", c)]⟩ = pure () := by kernel_rfl
theorem newCall (a b c : Value) : checkBuiltinCall "itertools.zip_longest.__new__" ⟨[.type "itertools.zip_longest", a, b], [(Str.ofString "fillvalue", c)]⟩ = pure () := by kernel_rfl
theorem args_init (o a b c : Value) : argsOk "object.__init__" ⟨[o, a, b], [(Str.ofString "fillvalue", c)]⟩ := by unfold argsOk; kernel_rfl
theorem sub : isSubtype (.type "itertools.zip_longest") (.type "itertools.zip_longest") = pure true := by rw [isSubtype_type]; kernel_rfl
abbrev Is (h : Heap) (z TI TO : Addr) (f0 fill : Value) (run : Int) : Prop :=
  h.get? z = some { cls := .type "itertools.zip_longest", dict := none, data := .fields #[f0, .bool false, fill, rawInt run, .ref TI, .ref TO], slots := #[] }
section
variable {prog : Program} {w : World} {A : Around} {E : Value → Shared → Prop} {s : Shared}
theorem pool {a : Addr} {x y : Value} {Q : Array Value → Shared → Prop} (h : IsPair s.heap a x y) (q : Q #[x, y] s) : wpAny (model prog w) A (Builtin.Itertools.itPoolItems (.ref a)) Q E s := by
  unfold Builtin.Itertools.itPoolItems
  exact wpAny_bind (wpAny_seqItems h rfl (wpAny_pure q))
theorem intf {z TI TO : Addr} {f0 fill : Value} {run : Int} {Q : Int → Shared → Prop} (h : Is s.heap z TI TO f0 fill run) (q : Q run s) : wpAny (model prog w) A (Builtin.Itertools.itIntField (.ref z) 3) Q E s := by
  unfold Builtin.Itertools.itIntField
  exact wpAny_bind (wpAny_field h rfl (x := rawInt run) rfl (wpAny_pure q))
/-- what is left of a tuple's iterator at its end -/
theorem tuple_end {it t : Addr} {i : Nat} {items : Array Value} {Q : Option Value → Shared → Prop} (hh : A.handled = none)
    (hit : s.heap.IsTupleIter it t i) (ht : s.heap.IsTuple t items) (hx : items[i]? = none)
    (hQ : ∀ h', Heap.ExtBut it s.heap h' → (∃ o, h'.get? it = some o ∧ ∀ c, o.data ≠ .cell c) → s.heap.objs.size ≤ h'.objs.size → Q none { s with heap := h' }) : wpAny (model prog w) A (pyNext (.ref it)) Q E s := by
  obtain ⟨o, ho, hc, hd⟩ := id hit
  obtain ⟨ol, hol, _, nl, hdl⟩ := ht
  unfold pyNext
  refine wpAny_bind (wpAny_attempt (wpAny_callSpecial?_slot (name := Str.ofString "__next__") hit.typeIs F.slot_tuple_iterator_next
    (wpAny_call_entry F.slot_tuple_iterator_next hit.typeIs F.entry_tuple_iterator_next ?_ (F.args_tuple_iterator_next_1 _))))
  show wpAny _ _ (field (.ref it) 0 >>= _) _ _ s
  refine wpAny_bind (wpAny_field ho hd (x := .ref t) rfl ?_)
  show wpAny _ _ (if (Value.ref t == Value.none) = true then _ else _) _ _ s
  rw [if_neg (show ¬ ((Value.ref t == Value.none) = true) from Bool.false_ne_true)]
  show wpAny _ _ (field (.ref it) 1 >>= _) _ _ s
  refine wpAny_bind (wpAny_field ho hd (x := .int i 0) rfl ?_)
  show wpAny _ _ (seqItems? (.ref t) >>= _) _ _ s
  refine wpAny_bind (wpAny_seqItems hol hdl ?_)
  simp only [Int.toNat_natCast, hx]
  refine wpAny_bind (wpAny_rule (wpAny_bind (wpAny_setField ho hd (by simp) ?_)))
  show wpAny _ _ (newExc (.type "StopIteration") [] >>= _) _ _ _
  refine wpAny_bind ?_
  simp only [newExc, newTuple]
  refine wpAny_bind (wpAny_newObj_type ?_ (by size_fits))
  refine wpAny_bind (m := firstArgMember _ _) (wpAny_of_eq (a := Value.none) (by first | rfl | (simp only [firstArgMember]; rfl)) ?_)
  refine wpAny_newObj_type ?_ (by size_fits)
  simp only [raiseNew]
  refine wpAny_bind (wpAny_handled ?_)
  first | rw [show A.in1.handled = none from hh] | rw [hh]
  refine wpAny_bind (wpAny_pure (wpAny_throw ?_))
  refine wpAny_bind (wpAny_isInstance (T := "StopIteration") (b := true) ⟨_, Heap.get?_push_size _ rfl, rfl⟩ isSubtype_stop ?_)
  refine wpAny_pure (hQ _ (((Heap.SameBut.update ..).extBut.push _).push _) ⟨_, Heap.get?_push_of_some _ (Heap.get?_push_of_some _ (Heap.get?_update_self _ ho (Obj.isFreed_of_fields (Obj.data_mapFields hd _)))), fun c q => ?_⟩ ?_)
  · rw [Obj.data_mapFields hd] at q
    cases q
  · rw [Heap.size_push, Heap.size_push, (Heap.SameBut.update _ it _).1]
    omega
end
/-- a column: its iterator, or nothing behind its end -/
def Col (h : Heap) (it t : Addr) (n i : Nat) (v : Value) : Prop := (i ≤ n ∧ v = .ref it ∧ h.IsTupleIter it t i) ∨ (n < i ∧ v = .none ∧ ∃ o, h.get? it = some o ∧ ∀ c, o.data ≠ .cell c)
theorem Col.to {h h' : Heap} {it t : Addr} {n i : Nat} {v : Value} (c : Col h it t n i v) (e : ∀ o, h.get? it = some o → h'.get? it = some o) : Col h' it t n i v := by
  rcases c with ⟨a, b, d⟩ | ⟨a, b, o, d, f⟩
  · exact .inl ⟨a, b, d.at e⟩
  · exact .inr ⟨a, b, o, e o d, f⟩
theorem Col.ob {h : Heap} {it t : Addr} {n i : Nat} {v : Value} (c : Col h it t n i v) : ∃ o, h.get? it = some o ∧ ∀ c, o.data ≠ .cell c := by
  rcases c with ⟨_, _, o, d, _, f⟩ | ⟨_, _, o, d, f⟩
  · exact ⟨o, d, fun c q => by rw [f] at q; cases q⟩
  · exact ⟨o, d, f⟩
def live (n i : Nat) : Int := if i ≤ n then 1 else 0
structure Apart (z TI TO i1 i2 a b : Addr) : Prop where
  TIz : TI ≠ z
  TOz : TO ≠ z
  i1z : i1 ≠ z
  i2z : i2 ≠ z
  TITO : TI ≠ TO
  TIi1 : TI ≠ i1
  TIi2 : TI ≠ i2
  TOi1 : TO ≠ i1
  TOi2 : TO ≠ i2
  i12 : i1 ≠ i2
  az : a ≠ z
  aTI : a ≠ TI
  aTO : a ≠ TO
  ai1 : a ≠ i1
  ai2 : a ≠ i2
  bz : b ≠ z
  bTI : b ≠ TI
  bTO : b ≠ TO
  bi1 : b ≠ i1
  bi2 : b ≠ i2
end ZL
end BW
namespace BW
open PySem PySem.Spec PyProof.Rows L2
namespace ZL
section
variable {prog : Program} {w : World} {A : Around} {E : Value → Shared → Prop} {s : Shared} {z TI TO i1 i2 a b : Addr} {n1 n2 i : Nat} {xs ys : Array Value} {fill v1 v2 x0 y0 : Value}
theorem live_step {n i : Nat} (h : i < n) : live n (i + 1) = live n i := by
  unfold live
  rw [if_pos (by omega), if_pos (by omega)]
theorem live_end {n i : Nat} (h : i = n) : live n (i + 1) = live n i - 1 := by
  unfold live
  rw [if_neg (by omega), if_pos (by omega)]
  rfl
theorem live_dead {n i : Nat} (h : n < i) : live n (i + 1) = live n i := by
  unfold live
  rw [if_neg (by omega), if_neg (by omega)]
theorem next_item {Q : Value → Shared → Prop} (hh : A.handled = none) (D : Apart z TI TO i1 i2 a b) (h1 : xs.size = n1) (h2 : ys.size = n2)
    (hz : Is s.heap z TI TO .none fill (live n1 i + live n2 i)) (hTI : IsPair s.heap TI v1 v2) (hTO : IsPair s.heap TO x0 y0) (c1 : Col s.heap i1 a n1 i v1) (c2 : Col s.heap i2 b n2 i v2)
    (ha : s.heap.IsTuple a xs) (hb : s.heap.IsTuple b ys) (hlt : i < n1 ∨ i < n2)
    (hQ : ∀ h' T u1 u2, s.heap.objs.size ≤ T → Is h' z TI TO (rawInt T) fill (live n1 (i + 1) + live n2 (i + 1)) → IsPair h' TI u1 u2 → IsPair h' TO (xs.getD i fill) (ys.getD i fill) → Col h' i1 a n1 (i + 1) u1 → Col h' i2 b n2 (i + 1) u2 →
      IsPair h' T (xs.getD i fill) (ys.getD i fill) → (∀ c o, c ≠ z → c ≠ TI → c ≠ TO → c ≠ i1 → c ≠ i2 → s.heap.get? c = some o → h'.get? c = some o) → Q (.ref T) { s with heap := h' }) :
    wpAny (model prog w) A (Builtin.«itertools.zip_longest.__next__» ⟨[.ref z], []⟩) (fun fin s' => ∃ v, fin = .done (.ret v) ∧ Q v s') E s := by
  have r0 : ((live n1 i + live n2 i : Int) == 0) = false := by
    unfold live
    rcases hlt with h | h
    · rw [if_pos (by omega)]
      split <;> rfl
    · rw [if_pos (show i ≤ n2 by omega)]
      split <;> rfl
  show wpAny _ _ (Builtin.Itertools.itIntField (.ref z) 3 >>= _) _ _ _
  refine wpAny_bind (intf hz ?_)
  show wpAny _ _ (if ((live n1 i + live n2 i : Int) == 0) = true then _ else _) _ _ _
  rw [r0]
  show wpAny _ _ (field (.ref z) 4 >>= _) _ _ _
  refine wpAny_bind (wpAny_field hz rfl (x := .ref TI) rfl ?_)
  show wpAny _ _ (Builtin.Itertools.itPoolItems (.ref TI) >>= _) _ _ _
  refine wpAny_bind (pool hTI ?_)
  show wpAny _ _ (Builtin.Itertools.itOwnedIsFree (.ref z) >>= _) _ _ _
  refine wpAny_bind ?_
  unfold Builtin.Itertools.itOwnedIsFree
  refine wpAny_bind (wpAny_field hz rfl (x := .none) rfl (wpAny_pure ?_))
  simp only [if_true]
  refine wpAny_bind (wpAny_rule ?_)
  refine wpAny_bind (wpAny_field hz rfl (x := .ref TO) rfl ?_)
  refine wpAny_bind (wpAny_setField_rec hz (by simp) fun g0 hz0 hs0 => ?_)
  replace hz0 : Is g0 z TI TO .ellipsis fill (live n1 i + live n2 i) := hz0
  refine wpAny_bind ?_
  rw [show List.range (#[v1, v2] : Array Value).size = [0, 1] from rfl]
  simp only [List.forIn_cons, List.forIn_nil]
  have hTI0 : IsPair g0 TI v1 v2 := hs0.extBut _ _ D.TIz hTI
  have hTO0 : IsPair g0 TO x0 y0 := hs0.extBut _ _ D.TOz hTO
  have c10 : Col g0 i1 a n1 i v1 := c1.to fun o e => hs0.extBut _ _ D.i1z e
  have c20 : Col g0 i2 b n2 i v2 := c2.to fun o e => hs0.extBut _ _ D.i2z e
  have ha0 : g0.IsTuple a xs := ha.extBut hs0.extBut D.az
  have hb0 : g0.IsTuple b ys := hb.extBut hs0.extBut D.bz
  refine wpAny_bind (wpAny_bind (wpAny_onRaise ?_))
  refine wpAny_mono (Q := fun r s' => ∃ g1 u1, r = some (xs.getD i fill) ∧ s' = { s with heap := g1 } ∧ Is g1 z TI TO .ellipsis fill (live n1 (i + 1) + live n2 i) ∧ IsPair g1 TI u1 v2 ∧ Col g1 i1 a n1 (i + 1) u1 ∧
      s.heap.objs.size ≤ g1.objs.size ∧ ∀ c o, c ≠ z → c ≠ TI → c ≠ i1 → g0.get? c = some o → g1.get? c = some o) ?_ (fun r s' hr => ?_) (fun _ _ x => x)
  · show wpAny _ _ (field (.ref z) 4 >>= _) _ _ _
    refine wpAny_bind (wpAny_field hz0 rfl (x := .ref TI) rfl ?_)
    show wpAny _ _ (Builtin.Itertools.itPoolItems (.ref TI) >>= _) _ _ _
    refine wpAny_bind (pool hTI0 ?_)
    refine wpAny_bind (wpAny_field hz0 rfl (x := fill) rfl ?_)
    show wpAny _ _ (if (v1 == Value.none) = true then _ else _) _ _ _
    rcases c10 with ⟨hi, rfl, hit⟩ | ⟨hi, rfl, ob⟩
    · rw [if_neg (show ¬ ((Value.ref i1 == Value.none) = true) from Bool.false_ne_true)]
      by_cases hlt1 : i < n1
      · refine wpAny_bind (wpAny_onRaise (wpAny_pyNext_tuple_item hit ha0 (x := xs[i]'(by omega)) (by first | (simp; done) | (simp; omega)) fun g1 hit1 hs1 => wpAny_pure ?_))
        refine ⟨g1, .ref i1, by rw [Array.getD_eq_getD_getElem?, Array.getElem?_eq_getElem (by omega)]; rfl, rfl, ?_, hs1.extBut _ _ D.TIi1 hTI0, .inl ⟨by omega, rfl, hit1⟩, by rw [hs1.1, hs0.1]; exact Nat.le_refl _, fun c o _ _ c3 e => hs1.extBut _ _ c3 e⟩
        rw [live_step hlt1]
        exact hs1.extBut _ _ D.i1z.symm hz0
      · have ei : i = n1 := by omega
        refine wpAny_bind (wpAny_onRaise (tuple_end hh hit ha0 (by first | (simp; done) | (simp; omega)) fun g1 hs1 ob sz1 => ?_))
        have hz1 : Is g1 z TI TO .ellipsis fill (live n1 i + live n2 i) := hs1 _ _ D.i1z.symm hz0
        have hTI1 : IsPair g1 TI (.ref i1) v2 := hs1 _ _ D.TIi1 hTI0
        show wpAny _ _ (Builtin.Itertools.itPoolItems (.ref TI) >>= _) _ _ _
        refine wpAny_bind (pool hTI1 ?_)
        show wpAny _ _ (if (Value.ref i1 == Value.none) = true then _ else _) _ _ _
        rw [if_neg (show ¬ ((Value.ref i1 == Value.none) = true) from Bool.false_ne_true)]
        show wpAny _ _ (Builtin.Itertools.itIntField (.ref z) 3 >>= _) _ _ _
        refine wpAny_bind (intf hz1 ?_)
        refine wpAny_bind (wpAny_setField_rec hz1 (by simp) fun g2 hz2 hs2 => ?_)
        show wpAny _ _ (if ((live n1 i + live n2 i : Int) == 1) = true then _ else _) _ _ _
        rw [if_neg (show ¬ (((live n1 i + live n2 i : Int) == 1) = true) by unfold live; rw [if_pos hi, if_pos (show i ≤ n2 by omega)]; decide)]
        refine wpAny_bind (wpAny_rule ?_)
        have hTI2 : IsPair g2 TI (.ref i1) v2 := hs2.extBut _ _ D.TIz hTI1
        refine wpAny_bind (wpAny_updateSeq_pair hTI2 fun g3 hTI3 hs3 => ?_)
        refine wpAny_bind (wpAny_letGo (wpAny_pure ?_))
        obtain ⟨o, ho, hoc⟩ := ob
        refine ⟨g3, .none, ?_, rfl, ?_, hTI3, .inr ⟨by omega, rfl, o, hs3.extBut _ _ D.TIi1.symm (hs2.extBut _ _ D.i1z ho), hoc⟩, ?_, fun c o c1 c2 c3 e => hs3.extBut _ _ c2 (hs2.extBut _ _ c1 (hs1 _ _ c3 e))⟩
        · rw [Array.getD_eq_getD_getElem?, Array.getElem?_eq_none (by omega)]
          rfl
        · rw [live_end ei, show live n1 i - 1 + live n2 i = live n1 i + live n2 i - 1 by omega]
          exact hs3.extBut _ _ D.TIz.symm hz2
        · rw [hs3.1, hs2.1, ← hs0.1]
          exact sz1
    · rw [if_pos (by rfl)]
      refine wpAny_pure ⟨g0, .none, ?_, rfl, ?_, hTI0, .inr ⟨by omega, rfl, ob⟩, by rw [hs0.1]; exact Nat.le_refl _, fun c o _ _ _ e => e⟩
      · rw [Array.getD_eq_getD_getElem?, Array.getElem?_eq_none (by omega)]
        rfl
      · rw [live_dead hi]
        exact hz0
  · obtain ⟨g1, u1, rfl, rfl, hz1, hTI1, c11, sz1, fr1⟩ := hr
    have hTO1 : IsPair g1 TO x0 y0 := fr1 _ _ D.TOz D.TITO.symm D.TOi1 hTO0
    show wpAny _ _ (Builtin.Itertools.itPoolItems (.ref TO) >>= _) _ _ _
    refine wpAny_bind (pool hTO1 ?_)
    refine wpAny_bind (wpAny_updateSeq_pair hTO1 fun g2 hTO2 hs2 => ?_)
    replace hTO2 : IsPair g2 TO (xs.getD i fill) y0 := hTO2
    refine wpAny_bind (wpAny_letGo (wpAny_pure ?_))
    have hz2 : Is g2 z TI TO .ellipsis fill (live n1 (i + 1) + live n2 i) := hs2.extBut _ _ D.TOz.symm hz1
    have hTI2 : IsPair g2 TI u1 v2 := hs2.extBut _ _ D.TITO hTI1
    have c12 : Col g2 i1 a n1 (i + 1) u1 := c11.to fun o e => hs2.extBut _ _ D.TOi1.symm e
    have c22 : Col g2 i2 b n2 i v2 := c20.to fun o e => hs2.extBut _ _ D.TOi2.symm (fr1 _ _ D.i2z D.TIi2.symm D.i12.symm e)
    have hb2 : g2.IsTuple b ys := hb0.at fun o e => hs2.extBut _ _ D.bTO (fr1 _ _ D.bz D.bTI D.bi1 e)
    refine wpAny_bind (wpAny_bind (wpAny_onRaise ?_))
    refine wpAny_mono (Q := fun r s' => ∃ g3 u2, r = some (ys.getD i fill) ∧ s' = { s with heap := g3 } ∧ Is g3 z TI TO .ellipsis fill (live n1 (i + 1) + live n2 (i + 1)) ∧ IsPair g3 TI u1 u2 ∧ Col g3 i2 b n2 (i + 1) u2 ∧
      s.heap.objs.size ≤ g3.objs.size ∧ ∀ c o, c ≠ z → c ≠ TI → c ≠ i2 → g2.get? c = some o → g3.get? c = some o) ?_ (fun r s' hr => ?_) (fun _ _ x => x)
    · show wpAny _ _ (field (.ref z) 4 >>= _) _ _ _
      refine wpAny_bind (wpAny_field hz2 rfl (x := .ref TI) rfl ?_)
      show wpAny _ _ (Builtin.Itertools.itPoolItems (.ref TI) >>= _) _ _ _
      refine wpAny_bind (pool hTI2 ?_)
      refine wpAny_bind (wpAny_field hz2 rfl (x := fill) rfl ?_)
      show wpAny _ _ (if (v2 == Value.none) = true then _ else _) _ _ _
      have sz2 : s.heap.objs.size ≤ g2.objs.size := by rw [hs2.1]; exact sz1
      rcases c22 with ⟨hi, rfl, hit⟩ | ⟨hi, rfl, ob⟩
      · rw [if_neg (show ¬ ((Value.ref i2 == Value.none) = true) from Bool.false_ne_true)]
        by_cases hlt2 : i < n2
        · refine wpAny_bind (wpAny_onRaise (wpAny_pyNext_tuple_item hit hb2 (x := ys[i]'(by omega)) (by first | (simp; done) | (simp; omega)) fun g3 hit3 hs3 => wpAny_pure ?_))
          refine ⟨g3, .ref i2, by rw [Array.getD_eq_getD_getElem?, Array.getElem?_eq_getElem (by omega)]; rfl, rfl, ?_, hs3.extBut _ _ D.TIi2 hTI2, .inl ⟨by omega, rfl, hit3⟩, by rw [hs3.1]; exact sz2, fun c o _ _ c3 e => hs3.extBut _ _ c3 e⟩
          rw [live_step hlt2]
          exact hs3.extBut _ _ D.i2z.symm hz2
        · have ei : i = n2 := by omega
          have hi1 : i < n1 := by omega
          refine wpAny_bind (wpAny_onRaise (tuple_end hh hit hb2 (by first | (simp; done) | (simp; omega)) fun g3 hs3 ob sz3 => ?_))
          have hz3 : Is g3 z TI TO .ellipsis fill (live n1 (i + 1) + live n2 i) := hs3 _ _ D.i2z.symm hz2
          have hTI3 : IsPair g3 TI u1 (.ref i2) := hs3 _ _ D.TIi2 hTI2
          show wpAny _ _ (Builtin.Itertools.itPoolItems (.ref TI) >>= _) _ _ _
          refine wpAny_bind (pool hTI3 ?_)
          show wpAny _ _ (if (Value.ref i2 == Value.none) = true then _ else _) _ _ _
          rw [if_neg (show ¬ ((Value.ref i2 == Value.none) = true) from Bool.false_ne_true)]
          show wpAny _ _ (Builtin.Itertools.itIntField (.ref z) 3 >>= _) _ _ _
          refine wpAny_bind (intf hz3 ?_)
          refine wpAny_bind (wpAny_setField_rec hz3 (by simp) fun g4 hz4 hs4 => ?_)
          show wpAny _ _ (if ((live n1 (i + 1) + live n2 i : Int) == 1) = true then _ else _) _ _ _
          rw [if_neg (show ¬ (((live n1 (i + 1) + live n2 i : Int) == 1) = true) by unfold live; rw [if_pos hi, if_pos (show i + 1 ≤ n1 by omega)]; decide)]
          refine wpAny_bind (wpAny_rule ?_)
          have hTI4 : IsPair g4 TI u1 (.ref i2) := hs4.extBut _ _ D.TIz hTI3
          refine wpAny_bind (wpAny_updateSeq_pair hTI4 fun g5 hTI5 hs5 => ?_)
          refine wpAny_bind (wpAny_letGo (wpAny_pure ?_))
          obtain ⟨o, ho, hoc⟩ := ob
          refine ⟨g5, .none, ?_, rfl, ?_, hTI5, .inr ⟨by omega, rfl, o, hs5.extBut _ _ D.TIi2.symm (hs4.extBut _ _ D.i2z ho), hoc⟩, ?_, fun c o c1 c2 c3 e => hs5.extBut _ _ c2 (hs4.extBut _ _ c1 (hs3 _ _ c3 e))⟩
          · rw [Array.getD_eq_getD_getElem?, Array.getElem?_eq_none (by omega)]
            rfl
          · rw [live_end ei, show live n1 (i + 1) + (live n2 i - 1) = live n1 (i + 1) + live n2 i - 1 by omega]
            exact hs5.extBut _ _ D.TIz.symm hz4
          · rw [hs5.1, hs4.1]
            exact Nat.le_trans sz2 sz3
      · rw [if_pos (by rfl)]
        refine wpAny_pure ⟨g2, .none, ?_, rfl, ?_, hTI2, .inr ⟨by omega, rfl, ob⟩, sz2, fun c o _ _ _ e => e⟩
        · rw [Array.getD_eq_getD_getElem?, Array.getElem?_eq_none (by omega)]
          rfl
        · rw [live_dead hi]
          exact hz2
    · obtain ⟨g3, u2, rfl, rfl, hz3, hTI3, c23, sz3, fr3⟩ := hr
      have hTO3 : IsPair g3 TO (xs.getD i fill) y0 := fr3 _ _ D.TOz D.TITO.symm D.TOi2 hTO2
      show wpAny _ _ (Builtin.Itertools.itPoolItems (.ref TO) >>= _) _ _ _
      refine wpAny_bind (pool hTO3 ?_)
      refine wpAny_bind (wpAny_updateSeq_pair hTO3 fun g4 hTO4 hs4 => ?_)
      replace hTO4 : IsPair g4 TO (xs.getD i fill) (ys.getD i fill) := hTO4
      refine wpAny_bind (wpAny_letGo (wpAny_pure (wpAny_pure ?_)))
      show wpAny _ _ (Builtin.Itertools.itPoolItems (.ref TO) >>= _) _ _ _
      refine wpAny_bind (pool hTO4 ?_)
      refine wpAny_bind (wpAny_newTuple ?_)
      have hz4 : Is g4 z TI TO .ellipsis fill (live n1 (i + 1) + live n2 (i + 1)) := hs4.extBut _ _ D.TOz.symm hz3
      have hTI4 : IsPair g4 TI u1 u2 := hs4.extBut _ _ D.TITO hTI3
      have c14 : Col g4 i1 a n1 (i + 1) u1 := c12.to fun o e => hs4.extBut _ _ D.TOi1.symm (fr3 _ _ D.i1z D.TIi1.symm D.i12 e)
      have c24 : Col g4 i2 b n2 (i + 1) u2 := c23.to fun o e => hs4.extBut _ _ D.TOi2.symm e
      have fr : ∀ c o, c ≠ z → c ≠ TI → c ≠ TO → c ≠ i1 → c ≠ i2 → s.heap.get? c = some o → g4.get? c = some o := fun c o q1 q2 q3 q4 q5 e =>
        hs4.extBut _ _ q3 (fr3 _ _ q1 q2 q5 (hs2.extBut _ _ q3 (fr1 _ _ q1 q2 q4 (hs0.extBut _ _ q1 e))))
      have sz4 : s.heap.objs.size ≤ g4.objs.size := by rw [hs4.1]; exact sz3
      have zlt : z < g4.objs.size := Heap.lt_size hz4
      show wpAny _ _ (Builtin.Itertools.itOwnedHandOut (.ref z) (.ref g4.objs.size) >>= _) _ _ _
      refine wpAny_bind ?_
      unfold Builtin.Itertools.itOwnedHandOut
      have hz5 : Is (g4.push { cls := .type "tuple", data := .seq #[xs.getD i fill, ys.getD i fill] }) z TI TO .ellipsis fill (live n1 (i + 1) + live n2 (i + 1)) := Heap.get?_push_of_some _ hz4
      refine wpAny_bind (wpAny_setField_rec hz5 (by simp) fun g6 hz6 hs6 => ?_)
      replace hz6 : Is g6 z TI TO (rawInt g4.objs.size) fill (live n1 (i + 1) + live n2 (i + 1)) := hz6
      refine wpAny_setField_rec hz6 (by simp) fun g7 hz7 hs7 => ?_
      replace hz7 : Is g7 z TI TO (rawInt g4.objs.size) fill (live n1 (i + 1) + live n2 (i + 1)) := hz7
      have up : ∀ c o, c ≠ z → g4.get? c = some o → g7.get? c = some o := fun c o q e => hs7.extBut _ _ q (hs6.extBut _ _ q (Heap.get?_push_of_some _ e))
      have hT : IsPair g7 g4.objs.size (xs.getD i fill) (ys.getD i fill) := hs7.extBut _ _ (Nat.ne_of_gt zlt) (hs6.extBut _ _ (Nat.ne_of_gt zlt) (Heap.get?_push_size _ rfl))
      refine wpAny_pure ⟨_, rfl, ?_⟩
      exact hQ g7 g4.objs.size u1 u2 sz4 hz7 (up _ _ D.TIz hTI4) (up _ _ D.TOz hTO4) (c14.to fun o e => up _ _ D.i1z e) (c24.to fun o e => up _ _ D.i2z e) hT fun c o q1 q2 q3 q4 q5 e => up _ _ q1 (fr c o q1 q2 q3 q4 q5 e)
theorem stops {α : Type} {Q : α → Shared → Prop} (hh : A.handled = none)
    (hE : ∀ h' e, (∀ c o, s.heap.get? c = some o → h'.get? c = some o) → (∃ o, h'.get? e = some o ∧ o.cls = .type "StopIteration") → E (.ref e) { s with heap := h' }) :
    wpAny (model prog w) A (Builtin.Itertools.itStop : Sem α) Q E s := by
  unfold Builtin.Itertools.itStop
  refine wpAny_bind ?_
  simp only [newExc, newTuple]
  refine wpAny_bind (wpAny_newObj_type ?_ (by size_fits))
  refine wpAny_bind (m := firstArgMember _ _) (wpAny_of_eq (a := Value.none) (by first | rfl | (simp only [firstArgMember]; rfl)) ?_)
  refine wpAny_newObj_type ?_ (by size_fits)
  simp only [raiseNew]
  refine wpAny_bind (wpAny_handled ?_)
  rw [hh]
  refine wpAny_bind (wpAny_pure (wpAny_throw ?_))
  exact hE _ _ (fun c o e => Heap.get?_push_of_some _ (Heap.get?_push_of_some _ e)) ⟨_, Heap.get?_push_size _ rfl, rfl⟩
theorem next_end {Q : Fin → Shared → Prop} (hh : A.handled = none) (D : Apart z TI TO i1 i2 a b) (h1 : xs.size = n1) (h2 : ys.size = n2)
    (hz : Is s.heap z TI TO .none fill (live n1 i + live n2 i)) (hTI : IsPair s.heap TI v1 v2) (hTO : IsPair s.heap TO x0 y0) (c1 : Col s.heap i1 a n1 i v1) (c2 : Col s.heap i2 b n2 i v2)
    (ha : s.heap.IsTuple a xs) (hb : s.heap.IsTuple b ys) (hend : i = max n1 n2)
    (hE : ∀ h' e, (∀ c o, c ≠ z → c ≠ TI → c ≠ TO → c ≠ i1 → c ≠ i2 → s.heap.get? c = some o → h'.get? c = some o) → (∃ o, h'.get? e = some o ∧ o.cls = .type "StopIteration") → E (.ref e) { s with heap := h' }) :
    wpAny (model prog w) A (Builtin.«itertools.zip_longest.__next__» ⟨[.ref z], []⟩) Q E s := by
  have hmax : n1 ≤ i ∧ n2 ≤ i ∧ (i = n1 ∨ i = n2) := by omega
  obtain ⟨l1, l2, l3⟩ := hmax
  have r0 : ((live n1 i + live n2 i : Int) == 0) = false := by
    unfold live
    rcases l3 with h | h
    · rw [if_pos (by omega)]
      split <;> rfl
    · rw [if_pos (show i ≤ n2 by omega)]
      split <;> rfl
  show wpAny _ _ (Builtin.Itertools.itIntField (.ref z) 3 >>= _) _ _ _
  refine wpAny_bind (intf hz ?_)
  show wpAny _ _ (if ((live n1 i + live n2 i : Int) == 0) = true then _ else _) _ _ _
  rw [r0]
  show wpAny _ _ (field (.ref z) 4 >>= _) _ _ _
  refine wpAny_bind (wpAny_field hz rfl (x := .ref TI) rfl ?_)
  show wpAny _ _ (Builtin.Itertools.itPoolItems (.ref TI) >>= _) _ _ _
  refine wpAny_bind (pool hTI ?_)
  show wpAny _ _ (Builtin.Itertools.itOwnedIsFree (.ref z) >>= _) _ _ _
  refine wpAny_bind ?_
  unfold Builtin.Itertools.itOwnedIsFree
  refine wpAny_bind (wpAny_field hz rfl (x := .none) rfl (wpAny_pure ?_))
  simp only [if_true]
  refine wpAny_bind (wpAny_rule ?_)
  refine wpAny_bind (wpAny_field hz rfl (x := .ref TO) rfl ?_)
  refine wpAny_bind (wpAny_setField_rec hz (by simp) fun g0 hz0 hs0 => ?_)
  replace hz0 : Is g0 z TI TO .ellipsis fill (live n1 i + live n2 i) := hz0
  refine wpAny_bind ?_
  rw [show List.range (#[v1, v2] : Array Value).size = [0, 1] from rfl]
  simp only [List.forIn_cons, List.forIn_nil]
  have hTI0 : IsPair g0 TI v1 v2 := hs0.extBut _ _ D.TIz hTI
  have hTO0 : IsPair g0 TO x0 y0 := hs0.extBut _ _ D.TOz hTO
  have c10 : Col g0 i1 a n1 i v1 := c1.to fun o e => hs0.extBut _ _ D.i1z e
  have c20 : Col g0 i2 b n2 i v2 := c2.to fun o e => hs0.extBut _ _ D.i2z e
  have ha0 : g0.IsTuple a xs := ha.extBut hs0.extBut D.az
  have hb0 : g0.IsTuple b ys := hb.extBut hs0.extBut D.bz
  refine wpAny_bind (wpAny_bind (wpAny_onRaise ?_))
  refine wpAny_mono (Q := fun r s' => ∃ g1 f1 u1, s' = { s with heap := g1 } ∧ Is g1 z TI TO .ellipsis fill f1 ∧ IsPair g1 TI u1 v2 ∧ (∀ c o, c ≠ z → c ≠ TI → c ≠ i1 → g0.get? c = some o → g1.get? c = some o) ∧
      (r = none ∨ (r = some fill ∧ i = n2 ∧ f1 = 1))) ?_ (fun r s' hr => ?_) (fun _ _ x => x)
  · show wpAny _ _ (field (.ref z) 4 >>= _) _ _ _
    refine wpAny_bind (wpAny_field hz0 rfl (x := .ref TI) rfl ?_)
    show wpAny _ _ (Builtin.Itertools.itPoolItems (.ref TI) >>= _) _ _ _
    refine wpAny_bind (pool hTI0 ?_)
    refine wpAny_bind (wpAny_field hz0 rfl (x := fill) rfl ?_)
    show wpAny _ _ (if (v1 == Value.none) = true then _ else _) _ _ _
    rcases c10 with ⟨hi, rfl, hit⟩ | ⟨hi, rfl, ob⟩
    · rw [if_neg (show ¬ ((Value.ref i1 == Value.none) = true) from Bool.false_ne_true)]
      have ei : i = n1 := by omega
      refine wpAny_bind (wpAny_onRaise (tuple_end hh hit ha0 (by first | (simp; done) | (simp; omega)) fun g1 hs1 ob sz1 => ?_))
      have hz1 : Is g1 z TI TO .ellipsis fill (live n1 i + live n2 i) := hs1 _ _ D.i1z.symm hz0
      have hTI1 : IsPair g1 TI (.ref i1) v2 := hs1 _ _ D.TIi1 hTI0
      show wpAny _ _ (Builtin.Itertools.itPoolItems (.ref TI) >>= _) _ _ _
      refine wpAny_bind (pool hTI1 ?_)
      show wpAny _ _ (if (Value.ref i1 == Value.none) = true then _ else _) _ _ _
      rw [if_neg (show ¬ ((Value.ref i1 == Value.none) = true) from Bool.false_ne_true)]
      show wpAny _ _ (Builtin.Itertools.itIntField (.ref z) 3 >>= _) _ _ _
      refine wpAny_bind (intf hz1 ?_)
      refine wpAny_bind (wpAny_setField_rec hz1 (by simp) fun g2 hz2 hs2 => ?_)
      replace hz2 : Is g2 z TI TO .ellipsis fill (live n1 i + live n2 i - 1) := hz2
      have hTI2 : IsPair g2 TI (.ref i1) v2 := hs2.extBut _ _ D.TIz hTI1
      show wpAny _ _ (if ((live n1 i + live n2 i : Int) == 1) = true then _ else _) _ _ _
      by_cases hd : n2 < i
      · rw [if_pos (by unfold live; rw [if_pos hi, if_neg (by omega)]; decide)]
        exact wpAny_pure ⟨g2, _, _, rfl, hz2, hTI2, fun c o q1 q2 q3 e => hs2.extBut _ _ q1 (hs1 _ _ q3 e), .inl rfl⟩
      · rw [if_neg (by unfold live; rw [if_pos hi, if_pos (by omega)]; decide)]
        refine wpAny_bind (wpAny_rule ?_)
        refine wpAny_bind (wpAny_updateSeq_pair hTI2 fun g3 hTI3 hs3 => ?_)
        refine wpAny_bind (wpAny_letGo (wpAny_pure ?_))
        refine ⟨g3, _, .none, rfl, hs3.extBut _ _ D.TIz.symm hz2, hTI3, fun c o q1 q2 q3 e => hs3.extBut _ _ q2 (hs2.extBut _ _ q1 (hs1 _ _ q3 e)), .inr ⟨rfl, by omega, ?_⟩⟩
        unfold live
        rw [if_pos hi, if_pos (by omega)]
        rfl
    · rw [if_pos (by rfl)]
      refine wpAny_pure ⟨g0, _, .none, rfl, hz0, hTI0, fun c o _ _ _ e => e, .inr ⟨rfl, by omega, ?_⟩⟩
      unfold live
      rw [if_neg (by omega), if_pos (by omega)]
      rfl
  · obtain ⟨g1, f1, u1, rfl, hz1, hTI1, fr1, hr⟩ := hr
    rcases hr with rfl | ⟨rfl, ei, rfl⟩
    · refine wpAny_bind (wpAny_setField_rec hz1 (by simp) fun g2 hz2 hs2 => ?_)
      first
        | exact stops hh fun h' e k1 k2 => hE h' e (fun c o q1 q2 q3 q4 q5 x => k1 _ _ (hs2.extBut _ _ q1 (fr1 _ _ q1 q2 q4 (hs0.extBut _ _ q1 x)))) k2
        | exact wpAny_bind (stops hh fun h' e k1 k2 => hE h' e (fun c o q1 q2 q3 q4 q5 x => k1 _ _ (hs2.extBut _ _ q1 (fr1 _ _ q1 q2 q4 (hs0.extBut _ _ q1 x)))) k2)
    · have hTO1 : IsPair g1 TO x0 y0 := fr1 _ _ D.TOz D.TITO.symm D.TOi1 hTO0
      show wpAny _ _ (Builtin.Itertools.itPoolItems (.ref TO) >>= _) _ _ _
      refine wpAny_bind (pool hTO1 ?_)
      refine wpAny_bind (wpAny_updateSeq_pair hTO1 fun g2 hTO2 hs2 => ?_)
      replace hTO2 : IsPair g2 TO fill y0 := hTO2
      refine wpAny_bind (wpAny_letGo (wpAny_pure ?_))
      have hz2 : Is g2 z TI TO .ellipsis fill 1 := hs2.extBut _ _ D.TOz.symm hz1
      have hTI2 : IsPair g2 TI u1 v2 := hs2.extBut _ _ D.TITO hTI1
      have c22 : Col g2 i2 b n2 i v2 := c20.to fun o e => hs2.extBut _ _ D.TOi2.symm (fr1 _ _ D.i2z D.TIi2.symm D.i12.symm e)
      have hb2 : g2.IsTuple b ys := hb0.at fun o e => hs2.extBut _ _ D.bTO (fr1 _ _ D.bz D.bTI D.bi1 e)
      refine wpAny_bind (wpAny_bind (wpAny_onRaise ?_))
      refine wpAny_mono (Q := fun r s' => ∃ g3, r = none ∧ s' = { s with heap := g3 } ∧ Is g3 z TI TO .ellipsis fill 0 ∧ ∀ c o, c ≠ z → c ≠ TI → c ≠ i2 → g2.get? c = some o → g3.get? c = some o) ?_ (fun r s' hr => ?_) (fun _ _ x => x)
      · show wpAny _ _ (field (.ref z) 4 >>= _) _ _ _
        refine wpAny_bind (wpAny_field hz2 rfl (x := .ref TI) rfl ?_)
        show wpAny _ _ (Builtin.Itertools.itPoolItems (.ref TI) >>= _) _ _ _
        refine wpAny_bind (pool hTI2 ?_)
        refine wpAny_bind (wpAny_field hz2 rfl (x := fill) rfl ?_)
        show wpAny _ _ (if (v2 == Value.none) = true then _ else _) _ _ _
        rcases c22 with ⟨hi, rfl, hit⟩ | ⟨hi, rfl, ob⟩
        · rw [if_neg (show ¬ ((Value.ref i2 == Value.none) = true) from Bool.false_ne_true)]
          refine wpAny_bind (wpAny_onRaise (tuple_end hh hit hb2 (by first | (simp; done) | (simp; omega)) fun g3 hs3 ob sz3 => ?_))
          have hz3 : Is g3 z TI TO .ellipsis fill 1 := hs3 _ _ D.i2z.symm hz2
          have hTI3 : IsPair g3 TI u1 (.ref i2) := hs3 _ _ D.TIi2 hTI2
          show wpAny _ _ (Builtin.Itertools.itPoolItems (.ref TI) >>= _) _ _ _
          refine wpAny_bind (pool hTI3 ?_)
          show wpAny _ _ (if (Value.ref i2 == Value.none) = true then _ else _) _ _ _
          rw [if_neg (show ¬ ((Value.ref i2 == Value.none) = true) from Bool.false_ne_true)]
          show wpAny _ _ (Builtin.Itertools.itIntField (.ref z) 3 >>= _) _ _ _
          refine wpAny_bind (intf hz3 ?_)
          refine wpAny_bind (wpAny_setField_rec hz3 (by simp) fun g4 hz4 hs4 => ?_)
          show wpAny _ _ (if ((1 : Int) == 1) = true then _ else _) _ _ _
          rw [if_pos (by decide)]
          exact wpAny_pure ⟨g4, rfl, rfl, hz4, fun c o q1 q2 q3 e => hs4.extBut _ _ q1 (hs3 _ _ q3 e)⟩
        · omega
      · obtain ⟨g3, rfl, rfl, hz3, fr3⟩ := hr
        refine wpAny_bind (wpAny_setField_rec hz3 (by simp) fun g4 hz4 hs4 => ?_)
        have fr : ∀ c o, c ≠ z → c ≠ TI → c ≠ TO → c ≠ i1 → c ≠ i2 → s.heap.get? c = some o → g4.get? c = some o := fun c o q1 q2 q3 q4 q5 x =>
          hs4.extBut _ _ q1 (fr3 _ _ q1 q2 q5 (hs2.extBut _ _ q3 (fr1 _ _ q1 q2 q4 (hs0.extBut _ _ q1 x))))
        first
          | exact stops hh fun h' e k1 k2 => hE h' e (fun c o q1 q2 q3 q4 q5 x => k1 _ _ (fr c o q1 q2 q3 q4 q5 x)) k2
          | exact wpAny_bind (stops hh fun h' e k1 k2 => hE h' e (fun c o q1 q2 q3 q4 q5 x => k1 _ _ (fr c o q1 q2 q3 q4 q5 x)) k2)
/-- the cells of a walk at a turn -/
def St (z TI TO i1 i2 a b : Addr) (n1 n2 : Nat) (fill : Value) (i : Nat) (h : Heap) : Prop :=
  ∃ v1 v2 x y, Is h z TI TO .none fill (live n1 i + live n2 i) ∧ IsPair h TI v1 v2 ∧ IsPair h TO x y ∧ Col h i1 a n1 i v1 ∧ Col h i2 b n2 i v2
theorem pyNext_item {Q : Option Value → Shared → Prop} (hh : A.handled = none) (D : Apart z TI TO i1 i2 a b) (st : St z TI TO i1 i2 a b xs.size ys.size fill i s.heap)
    (ha : s.heap.IsTuple a xs) (hb : s.heap.IsTuple b ys) (hlt : i < xs.size ∨ i < ys.size)
    (hQ : ∀ h' T u1 u2 x y, s.heap.objs.size ≤ T → Is h' z TI TO (rawInt T) fill (live xs.size (i + 1) + live ys.size (i + 1)) → IsPair h' TI u1 u2 → IsPair h' TO x y → Col h' i1 a xs.size (i + 1) u1 → Col h' i2 b ys.size (i + 1) u2 →
      IsPair h' T (xs.getD i fill) (ys.getD i fill) → (∀ c o, c ≠ z → c ≠ TI → c ≠ TO → c ≠ i1 → c ≠ i2 → s.heap.get? c = some o → h'.get? c = some o) → Q (some (.ref T)) { s with heap := h' }) :
    wpAny (model prog w) A (pyNext (.ref z)) Q E s := by
  obtain ⟨v1, v2, x0, y0, hz, hTI, hTO, c1, c2⟩ := st
  have hT : s.TypeIs (.ref z) "itertools.zip_longest" := ⟨_, hz, rfl⟩
  unfold pyNext
  exact wpAny_bind (wpAny_attempt (wpAny_callSpecial?_slot (name := Str.ofString "__next__") hT slot_next
    (wpAny_call_entry slot_next hT entry_next (next_item hh D rfl rfl hz hTI hTO c1 c2 ha hb hlt fun h' T u1 u2 a0 a1 a2 a3 a4 a5 a6 a7 => wpAny_pure (hQ h' T u1 u2 _ _ a0 a1 a2 a3 a4 a5 a6 a7)) (args_next _))))
theorem pyNext_end {Q : Option Value → Shared → Prop} (hh : A.handled = none) (D : Apart z TI TO i1 i2 a b) (st : St z TI TO i1 i2 a b xs.size ys.size fill i s.heap)
    (ha : s.heap.IsTuple a xs) (hb : s.heap.IsTuple b ys) (hend : i = max xs.size ys.size)
    (hQ : ∀ h', (∀ c o, c ≠ z → c ≠ TI → c ≠ TO → c ≠ i1 → c ≠ i2 → s.heap.get? c = some o → h'.get? c = some o) → Q none { s with heap := h' }) :
    wpAny (model prog w) A (pyNext (.ref z)) Q E s := by
  obtain ⟨v1, v2, x0, y0, hz, hTI, hTO, c1, c2⟩ := st
  have hT : s.TypeIs (.ref z) "itertools.zip_longest" := ⟨_, hz, rfl⟩
  unfold pyNext
  refine wpAny_bind (wpAny_attempt (wpAny_callSpecial?_slot (name := Str.ofString "__next__") hT slot_next
    (wpAny_call_entry slot_next hT entry_next (next_end hh D rfl rfl hz hTI hTO c1 c2 ha hb hend fun h' e hk he => ?_) (args_next _))))
  obtain ⟨o, ho, hc⟩ := he
  refine wpAny_bind (wpAny_isInstance (T := "StopIteration") (b := true) ⟨o, ho, hc⟩ isSubtype_stop ?_)
  exact wpAny_pure (hQ _ hk)
theorem letGoes {elts : List Expr} {x1} {pos : Pos} {T : Addr} {run : Int} {Q : Unit → Shared → Prop} (hz : Is s.heap z TI TO (rawInt T) fill run)
    (hQ : ∀ h', Is h' z TI TO .none fill run → Heap.SameBut z s.heap h' → Q () { s with heap := h' }) :
    wpAny (model prog w) A (letOwnedTupleGo (.Tuple elts x1 pos) (.ref z) (.ref T)) Q E s := by
  unfold letOwnedTupleGo
  refine wpAny_bind (wpAny_load hz ?_)
  show wpAny _ _ (if (["enumerate", "zip", "dict_itemiterator", "dict_reverseitemiterator", "odict_iterator", "itertools.zip_longest", "itertools.pairwise"].contains "itertools.zip_longest" &&
      (#[rawInt T, .bool false, fill, rawInt run, .ref TI, .ref TO] : Array Value)[0]? == some (rawInt T)) = true then _ else _) Q E s
  rw [if_pos (by simp)]
  refine wpAny_bind (wpAny_rule ?_)
  show wpAny _ _ (setField (.ref z) 0 .none) Q E s
  exact wpAny_setField_rec hz (by simp) fun h' hz' hs' => hQ h' hz' hs'
theorem pyIters {f0 : Value} {run : Int} {Q : Value → Shared → Prop} (hz : Is s.heap z TI TO f0 fill run) (h : Q (.ref z) s) : wpAny (model prog w) A (pyIter (.ref z)) Q E s := by
  have hT : s.TypeIs (.ref z) "itertools.zip_longest" := ⟨_, hz, rfl⟩
  refine wpAny_pyIter_slot hT slot_iter (wpAny_call_entry slot_iter hT entry_iter ?_ (args_iter _))
  show wpAny _ _ (ret (.ref z)) _ _ s
  exact wpAny_pure ⟨_, rfl, "itertools.zip_longest", _, hT, slot_next.lookup, h⟩
end
abbrev H1 (h : Heap) (l1 : Addr) : Heap := h.push { cls := .type "tuple_iterator", data := .fields #[.ref l1, .int 0 0] }
abbrev H2 (h : Heap) (l1 l2 : Addr) : Heap := (H1 h l1).push { cls := .type "tuple_iterator", data := .fields #[.ref l2, .int 0 0] }
abbrev H3 (h : Heap) (l1 l2 : Addr) : Heap := (H2 h l1 l2).push { cls := .type "tuple", data := .seq #[.ref h.objs.size, .ref (H1 h l1).objs.size] }
abbrev H4 (h : Heap) (l1 l2 : Addr) : Heap := (H3 h l1 l2).push { cls := .type "tuple", data := .seq #[.none, .none] }
abbrev H5 (h : Heap) (l1 l2 : Addr) (f : Value) : Heap := (H4 h l1 l2).push { cls := .type "itertools.zip_longest", data := .fields #[.none, .bool false, f, rawInt 2, .ref (H2 h l1 l2).objs.size, .ref (H3 h l1 l2).objs.size] }
theorem meets_new (l1 l2 : Addr) (xs ys : Array Value) (f : Value) :
    Meets (Builtin.«itertools.zip_longest.__new__» ⟨[.type "itertools.zip_longest", .ref l1, .ref l2], [(Str.ofString "fillvalue", f)]⟩) (fun _ R s => s.heap.IsTuple l1 xs ∧ s.heap.IsTuple l2 ys ∧
      R (.ok (.ret (.ref (H4 s.heap l1 l2).objs.size))) { s with heap := H5 s.heap l1 l2 f }) :=
  .of_wp fun prog w A R s h => by
    obtain ⟨hp, g, d, tk, os⟩ := s; obtain ⟨hl1, hl2, h⟩ := h
    have hsub : isSubtype (.type "itertools.zip_longest") (.type ("itertools." ++ "zip_longest")) = pure true := by
      rw [show ("itertools." ++ "zip_longest" : String) = "itertools.zip_longest" by decide]
      exact sub
    have hdict : typeHasDict (.type "itertools.zip_longest") = false := by decide +kernel
    have hL1 : Heap.IsTuple (Shared.heap ⟨hp, g, d, tk, os⟩) l1 xs := hl1
    have hL2 : Heap.IsTuple (Shared.heap ⟨hp.push { cls := .type "tuple_iterator", data := .fields #[.ref l1, .int 0 0] }, g, d, tk, os⟩) l2 ys := hl2.at fun o e => Heap.get?_push_of_some _ e
    have e1 : (Str.ofString "fillvalue" == ("fillvalue" : Str)) = true := by decide +kernel
    wp_walk using wpAny_pyIter_tuple hL1, wpAny_pyIter_tuple hL2

    exact ⟨_, rfl, h⟩
end ZL
end BW
namespace BW
open PySem PySem.Spec PyProof.Rows L2
namespace ZL
theorem apart (n a b : Nat) (la : a < n) (lb : b < n) : Apart (n + 4) (n + 2) (n + 3) n (n + 1) a b := by
  constructor <;> (show @Ne Nat _ _; omega)
theorem callZL {prog : Program} {w : World} {A : Around} {E : Value → Shared → Prop} {s : Shared} {l1 l2 : Addr} {xs ys : Array Value} {f : Value} {Q : Value → Shared → Prop} (hl1 : s.heap.IsTuple l1 xs) (hl2 : s.heap.IsTuple l2 ys)
    (h : ∀ h', St (s.heap.objs.size + 4) (s.heap.objs.size + 2) (s.heap.objs.size + 3) s.heap.objs.size (s.heap.objs.size + 1) l1 l2 xs.size ys.size f 0 h' →
      (∀ c o, s.heap.get? c = some o → h'.get? c = some o) → Q (.ref (s.heap.objs.size + 4)) { s with heap := h' }) :
    wpAny (model prog w) A (call (.type "itertools.zip_longest") [.ref l1, .ref l2] [(Str.ofString "fillvalue", f)]) Q E s := by
  refine callType_newKw called (by decide) (typeCall _ _ _) (newCall _ _ _) (fun obj => args_init obj _ _ _) entry_new (meets_new l1 l2 xs ys f) ⟨hl1, hl2, ?_⟩
  have z1 : (H1 s.heap l1).objs.size = s.heap.objs.size + 1 := Heap.size_push ..
  have z2 : (H2 s.heap l1 l2).objs.size = s.heap.objs.size + 2 := by rw [Heap.size_push, z1]
  have z3 : (H3 s.heap l1 l2).objs.size = s.heap.objs.size + 3 := by rw [Heap.size_push, z2]
  have z4 : (H4 s.heap l1 l2).objs.size = s.heap.objs.size + 4 := by rw [Heap.size_push, z3]
  have g5 : (H5 s.heap l1 l2 f).get? (H4 s.heap l1 l2).objs.size = some _ := Heap.get?_push_size _ rfl
  have g4 : (H5 s.heap l1 l2 f).get? (H3 s.heap l1 l2).objs.size = some _ := Heap.get?_push_of_some _ (Heap.get?_push_size _ rfl)
  have g3 : (H5 s.heap l1 l2 f).get? (H2 s.heap l1 l2).objs.size = some _ := Heap.get?_push_of_some _ (Heap.get?_push_of_some _ (Heap.get?_push_size _ rfl))
  have g2 : (H5 s.heap l1 l2 f).get? (H1 s.heap l1).objs.size = some _ := Heap.get?_push_of_some _ (Heap.get?_push_of_some _ (Heap.get?_push_of_some _ (Heap.get?_push_size _ rfl)))
  have g1 : (H5 s.heap l1 l2 f).get? s.heap.objs.size = some _ := Heap.get?_push_of_some _ (Heap.get?_push_of_some _ (Heap.get?_push_of_some _ (Heap.get?_push_of_some _ (Heap.get?_push_size _ rfl))))
  show _ ∧ _
  rw [z2, z3, z4] at g5
  rw [z1, z2] at g3
  rw [z3] at g4
  rw [z1] at g2
  rw [z4]
  refine ⟨⟨_, g5, rfl⟩, h _ ⟨_, _, _, _, ?_, g3, g4, .inl ⟨Nat.zero_le _, rfl, _, g1, rfl, rfl⟩, .inl ⟨Nat.zero_le _, rfl, _, g2, rfl, rfl⟩⟩ fun c o x =>
    Heap.get?_push_of_some _ (Heap.get?_push_of_some _ (Heap.get?_push_of_some _ (Heap.get?_push_of_some _ (Heap.get?_push_of_some _ x))))⟩
  unfold live
  rw [if_pos (Nat.zero_le _), if_pos (Nat.zero_le _)]
  exact g5
theorem callWith_typeK {M : Model} {A : Around} {E : Value → Shared → Prop} {s : Shared} {env : Env} {pos : Pos} {T : String} {e : Expr} {rest : List Expr} {kws : List Keyword} {Q : Value → Shared → Prop}
    (h : wpAny M A (spliced (backTo pos (starEach (e :: rest) env))) (fun vs s₁ => wpAny M A (evalAll ((backToKw pos (keywordEach kws env)).map (·.2)))
      (fun kvs s₂ => wpAny M A (call (.type T) vs (((backToKw pos (keywordEach kws env)).filterMap (·.1)).zip kvs)) Q E s₂) E s₁) E s)
    (he : backTo pos (starEach (e :: rest) env) = (false, eval e env) :: backTo pos (starEach rest env) := by rfl)
    (hplain : (backTo pos (starEach (e :: rest) env)).any (·.1) = false := by rfl)
    (hall : (backToKw pos (keywordEach kws env)).all (·.1.isSome) = true := by rfl)
    (hkw : (backToKw pos (keywordEach kws env)).any (·.1.isNone) = false := by rfl) :
    wpAny M A (callWith pos (.type T) [] (backTo pos (starEach (e :: rest) env)) (backToKw pos (keywordEach kws env))) Q E s := by
  have h' : wpAny M A (evalArgs (.type T) true (backTo pos (starEach (e :: rest) env)) (backToKw pos (keywordEach kws env))) (fun a s₁ => wpAny M A (call (.type T) ([] ++ a.pos) a.kw) Q E s₁) E s := by
    rw [he] at h ⊢
    exact evalArgs_kwB hall h
  unfold callWith
  refine wpAny_bind (wpAny_holding (wpAny_mono h' (fun a s₁ h₁ => wpAny_bind (wpAny_standAt ?_)) fun _ _ x => x))
  simp only [hplain, hkw, Bool.or_false]
  refine wpAny_bind (wpAny_pure ?_)
  exact wpAny_bind (wpAny_mono h₁ (fun r s₂ hr => wpAny_bind (wpAny_holding (wpAny_point (wpAny_pure hr)))) fun _ _ x => x)
end ZL
/-- two tuples as they stood at the first turn, side by side, the shorter one filled up -/
def Itzl (K : PySem.W.Frag) (a b : Addr) (xs ys : List V) (f : V) : It where
  go := fun i H => SqT K H a xs ∧ SqT K H b ys ∧ (i < xs.length ∨ i < ys.length)
  yld := fun i H v H' => ∃ T, v = .ref T ∧ H T = none ∧ H' = upd H T (.tup [xs.getD i f, ys.getD i f])
  stop := fun i H => SqT K H a xs ∧ SqT K H b ys ∧ i = max xs.length ys.length
theorem vals_getD {xs : List V} {its : List Value} {f : V} {u : Value} (r : Vals xs its) (rf : RelV f u) (i : Nat) : RelV (xs.getD i f) (its.toArray.getD i u) := by
  rw [List.getD_eq_getElem?_getD, Array.getD_eq_getD_getElem?]
  cases h : xs[i]? with
  | some x =>
    obtain ⟨v, hv, rv⟩ := r.get h
    have : its.toArray[i]? = some v := by simpa using hv
    rw [this]
    exact rv
  | none =>
    have l := r.length
    have h2 := List.getElem?_eq_none_iff.mp h
    have : its.toArray[i]? = none := by simp; omega
    rw [this]
    exact rf
theorem turn_zl {P : Program} {w : World} {K : PySem.W.Frag} {elts : List Expr} {kk : Nat} {tpos : Pos} {a b z TI TO i1 i2 : Addr} {xs ys : List V} {f : V} {fill : Value} (D : ZL.Apart z TI TO i1 i2 a b) (rf : RelV f fill) :
    Turn P w K (.Tuple elts kk tpos) (Itzl K a b xs ys f) [z, TI, TO, i1, i2] z (ZL.St z TI TO i1 i2 a b xs.length ys.length fill) where
  mem := by simp
  obj := fun i h st c hc => by
    obtain ⟨v1, v2, x, y, hz, hTI, hTO, c1, c2⟩ := st
    have e' : c = z ∨ c = TI ∨ c = TO ∨ c = i1 ∨ c = i2 := by simpa using hc
    rcases e' with q | q | q | q | q
    · rw [q]; exact ⟨_, hz, fun v q => nomatch q⟩
    · rw [q]; exact ⟨_, hTI, fun v q => nomatch q⟩
    · rw [q]; exact ⟨_, hTO, fun v q => nomatch q⟩
    · rw [q]; exact c1.ob
    · rw [q]; exact c2.ob
  keep := fun i h h' st k => by
    obtain ⟨v1, v2, x, y, hz, hTI, hTO, c1, c2⟩ := st
    exact ⟨v1, v2, x, y, k z (by simp) _ hz, k TI (by simp) _ hTI, k TO (by simp) _ hTO, c1.to fun o q => k i1 (by simp) o q, c2.to fun o q => k i2 (by simp) o q⟩
  item := by
    intro X hP hw hK hc i pins s σ H E I hf st hg
    subst hP hw hK
    obtain ⟨hqx, hqy, hlt⟩ := hg
    obtain ⟨its, rv, p, _⟩ := I.tuple hqx
    obtain ⟨its2, rv2, p2, _⟩ := I.tuple hqy
    have e1 : its.toArray.size = xs.length := by rw [List.size_toArray]; exact rv.length.symm
    have e2 : its2.toArray.size = ys.length := by rw [List.size_toArray]; exact rv2.length.symm
    have ob : ∀ c ∈ [z, TI, TO, i1, i2], c < s.heap.objs.size := fun c hc => by
      obtain ⟨v1, v2, x, y, hz, hTI, hTO, c1, c2⟩ := st
      have e' : c = z ∨ c = TI ∨ c = TO ∨ c = i1 ∨ c = i2 := by simpa using hc
      rcases e' with q | q | q | q | q
      · rw [q]; exact Heap.lt_size hz
      · rw [q]; exact Heap.lt_size hTI
      · rw [q]; exact Heap.lt_size hTO
      · rw [q]; obtain ⟨_, e, _⟩ := c1.ob; exact Heap.lt_size e
      · rw [q]; obtain ⟨_, e, _⟩ := c2.ob; exact Heap.lt_size e
    have hzl := ob z (by simp)
    have pa : s.heap.IsTuple a its.toArray := p
    have pb : s.heap.IsTuple b its2.toArray := p2
    refine ZL.pyNext_item (I.ok.hd hc) D (xs := its.toArray) (ys := its2.toArray) (fill := fill) (i := i) (by rw [e1, e2]; exact st) pa pb (by rw [e1, e2]; exact hlt) fun h' T u1 u2 x y hle hz' hTI' hTO' c1' c2' hT fr => ?_
    refine ⟨_, rfl, ZL.letGoes (s := { s with heap := h' }) hz' fun h'' z'' sb => ?_⟩
    have hTz : T ≠ z := Nat.ne_of_gt (Nat.lt_of_lt_of_le hzl hle)
    have hT2 : h''.get? T = some { cls := .type "tuple", data := .seq #[its.toArray.getD i fill, its2.toArray.getD i fill] } := (sb.2 _ hTz).trans hT
    have new : ObjOk X.prog X.w (upd H T (.tup [xs.getD i f, ys.getD i f])) h'' T (.tup [xs.getD i f, ys.getD i f]) :=
      ⟨by show 2 ≤ sizeLine; decide, [its.toArray.getD i fill, its2.toArray.getD i fill], .cons (vals_getD rv rf i) (.cons (vals_getD rv2 rf i) .nil), ⟨_, hT2, rfl, _, rfl⟩⟩
    have I1 : Inv X pins σ (upd H T (.tup [xs.getD i f, ys.getD i f])) { s with heap := h'' } :=
      I.turnedNew (t' := s.toks) (ch := [z, TI, TO, i1, i2]) (fun c o hb q => (sb.2 c (fun q' => hb (by simp [q']))).trans (fr c o (fun q' => hb (by simp [q'])) (fun q' => hb (by simp [q'])) (fun q' => hb (by simp [q'])) (fun q' => hb (by simp [q'])) (fun q' => hb (by simp [q'])) q)) hf hle new
    refine ⟨.ref T, _, I1, rfl, ⟨T, rfl, I.hok.fresh hle, rfl⟩, ⟨u1, u2, x, y, ?_, ?_, ?_, ?_, ?_⟩, fun c hcm => ?_⟩
    · rw [← e1, ← e2]; exact z''
    · exact (sb.2 _ D.TIz).trans hTI'
    · exact (sb.2 _ D.TOz).trans hTO'
    · rw [← e1]; exact c1'.to fun o q => (sb.2 _ D.i1z).trans q
    · rw [← e2]; exact c2'.to fun o q => (sb.2 _ D.i2z).trans q
    · rw [upd_ne (Nat.ne_of_lt (Nat.lt_of_lt_of_le (ob c hcm) hle))]
      exact (hf c hcm).1
  done := by
    intro X hP hw hK hc i pins s σ H E I hf st hg
    subst hP hw hK
    obtain ⟨hqx, hqy, hend⟩ := hg
    obtain ⟨its, rv, p, _⟩ := I.tuple hqx
    obtain ⟨its2, rv2, p2, _⟩ := I.tuple hqy
    have e1 : its.toArray.size = xs.length := by rw [List.size_toArray]; exact rv.length.symm
    have e2 : its2.toArray.size = ys.length := by rw [List.size_toArray]; exact rv2.length.symm
    have pa : s.heap.IsTuple a its.toArray := p
    have pb : s.heap.IsTuple b its2.toArray := p2
    exact ZL.pyNext_end (I.ok.hd hc) D (xs := its.toArray) (ys := its2.toArray) (fill := fill) (i := i) (by rw [e1, e2]; exact st) pa pb (by rw [e1, e2]; exact hend) fun h' fr => ⟨rfl, I.turnedL (t' := s.toks) (ch := [z, TI, TO, i1, i2]) (fun c o hb q =>
      fr c o (fun q' => hb (by simp [q'])) (fun q' => hb (by simp [q'])) (fun q' => hb (by simp [q'])) (fun q' => hb (by simp [q'])) (fun q' => hb (by simp [q'])) q) hf⟩
  self := fun A i s Q E st h => by
    obtain ⟨v1, v2, x, y, hz, _⟩ := st
    exact ZL.pyIters hz h
def iZl (K : PySem.W.Frag) (ta : TA) (tf : TE) : TI := fun σ H R => ta σ H fun vs H1 => tf σ H1 fun f H2 => ∃ a b xs ys, vs = [.ref a, .ref b] ∧ SqT K H2 a xs ∧ SqT K H2 b ys ∧ R (Itzl K a b xs ys f) H2
theorem pi_zl {X : Cx} {e e2 fe : Expr} {ta : TA} {tf : TE} {p pos tpos kp : Pos} {elts : List Expr} {kk : Nat} (hg : Gl X "zip_longest") (hm : X.mg "zip_longest" = some (.type "itertools.zip_longest")) (ha : PA X [e, e2] ta) (hk : PE X fe tf)
    (he : backTo pos (starEach [e, e2] X.env) = (false, eval e X.env) :: backTo pos (starEach [e2] X.env) := by rfl) (hpl : (backTo pos (starEach [e, e2] X.env)).any (·.1) = false := by rfl) :
    PI X (.Tuple elts kk tpos) (.Call (.Name "zip_longest" p) [e, e2] [⟨some "fillvalue", fe, kp⟩] pos) (iZl X.K ta tf) := by
  refine ⟨fun pins s σ H R I h => ?_⟩
  refine wpAny_Call_Name_kw (ld_glob I hg hm ?_ (by decide))
  refine ZL.callWith_typeK (thn (ha.run pos pins s σ H _ I h) fun us s1 ⟨vs, H1, I1, r1, q1⟩ => ?_) he hpl
  refine thn ((pk_cons hk pk_nil).run pos pins s1 σ H1 (fun ws H2 => ∃ f, ws = [f] ∧ ∃ a b xs ys, vs = [.ref a, .ref b] ∧ SqT X.K H2 a xs ∧ SqT X.K H2 b ys ∧ R (Itzl X.K a b xs ys f) H2) I1 ?_) fun kvs s2 ⟨ws, H2, I2, r2, q2⟩ => ?_
  · show tf σ H1 _
    exact (by simpa [tCons, tNil] using q1)
  obtain ⟨f, rfl, a, b, xs, ys, rfl, hqx, hqy, q⟩ := q2
  obtain ⟨fv, rfl, rf⟩ := vals1 r2
  cases r1 with
  | cons r rr =>
    cases rr with
    | cons r' rr =>
      cases rr
      cases r
      cases r'
      obtain ⟨its, rv, p1, _⟩ := I2.tuple hqx
      obtain ⟨its2, rv2, p2, _⟩ := I2.tuple hqy
      have pa : s2.heap.IsTuple a its.toArray := p1
      have pb : s2.heap.IsTuple b its2.toArray := p2
      have la : a < s2.heap.objs.size := by obtain ⟨_, e, _⟩ := pa; exact Heap.lt_size e
      have lb : b < s2.heap.objs.size := by obtain ⟨_, e, _⟩ := pb; exact Heap.lt_size e
      have e1 : its.toArray.size = xs.length := by rw [List.size_toArray]; exact rv.length.symm
      have e2 : its2.toArray.size = ys.length := by rw [List.size_toArray]; exact rv2.length.symm
      show wpAny _ _ (call (.type "itertools.zip_longest") [.ref a, .ref b] [(Str.ofString "fillvalue", fv)]) _ _ _
      refine ZL.callZL pa pb fun h' st hk => ?_
      rw [e1, e2] at st
      have hz := st
      obtain ⟨v1, v2, x, y, hz, _⟩ := hz
      refine ZL.pyIters hz ?_
      have I3 : Inv X pins σ H2 { s2 with heap := h' } := I2.kept (t' := s2.toks) hk
      refine ⟨s2.heap.objs.size + 4, [s2.heap.objs.size + 4, s2.heap.objs.size + 2, s2.heap.objs.size + 3, s2.heap.objs.size, s2.heap.objs.size + 1], _, _, H2, rfl, I3, turn_zl (ZL.apart s2.heap.objs.size a b la lb) rf, st, fun c hcm => ?_, q⟩
      have e' : c = s2.heap.objs.size + 4 ∨ c = s2.heap.objs.size + 2 ∨ c = s2.heap.objs.size + 3 ∨ c = s2.heap.objs.size ∨ c = s2.heap.objs.size + 1 := by simpa using hcm
      have hle : s2.heap.objs.size ≤ c := by
        rcases e' with z | z | z | z | z
        · rw [z]; exact Nat.le_add_right _ _
        · rw [z]; exact Nat.le_add_right _ _
        · rw [z]; exact Nat.le_add_right _ _
        · rw [z]; exact Nat.le_refl _
        · rw [z]; exact Nat.le_add_right _ _
      exact I2.fpOk hle (I2.hok.fresh hle)
end BW

/-! ### zip of a list and a tuple -/
namespace BW
open PySem PySem.Spec PyProof.Rows L2
namespace ZM
abbrev G1 (h : Heap) (l1 : Addr) : Heap := h.push { cls := .type "list_iterator", data := .fields #[.ref l1, .int 0 0] }
abbrev G2 (h : Heap) (l1 l2 : Addr) : Heap := (G1 h l1).push { cls := .type "tuple_iterator", data := .fields #[.ref l2, .int 0 0] }
abbrev G3 (h : Heap) (l1 l2 : Addr) : Heap := (G2 h l1 l2).push { cls := .type "tuple", data := .seq #[.ref h.objs.size, .ref (G1 h l1).objs.size] }
abbrev G4 (h : Heap) (l1 l2 : Addr) : Heap := (G3 h l1 l2).push { cls := .type "tuple", data := .seq #[.none, .none] }
abbrev G5 (h : Heap) (l1 l2 : Addr) : Heap := (G4 h l1 l2).push { cls := .type "zip", data := .fields #[.none, .bool false, .bool false, .ref (G2 h l1 l2).objs.size, .ref (G3 h l1 l2).objs.size] }
set_option maxHeartbeats 4000000 in
theorem meets (l1 l2 : Addr) (xs ys : Array Value) :
    Meets (Builtin.«zip.__new__» ⟨[.type "zip", .ref l1, .ref l2], []⟩) (fun _ R s => s.heap.IsList l1 xs ∧ s.heap.IsTuple l2 ys ∧
      R (.ok (.ret (.ref (G4 s.heap l1 l2).objs.size))) { s with heap := G5 s.heap l1 l2 }) :=
  .of_wp fun prog w A R s h => by
    obtain ⟨hp, g, d, tk, os⟩ := s; obtain ⟨hl1, hl2, h⟩ := h
    have hsub := sub_zip
    have hL1 : Heap.IsList (Shared.heap ⟨hp, g, d, tk, os⟩) l1 xs := hl1
    have hL2 : Heap.IsTuple (Shared.heap ⟨hp.push { cls := .type "list_iterator", data := .fields #[.ref l1, .int 0 0] }, g, d, tk, os⟩) l2 ys := hl2.at fun o e => Heap.get?_push_of_some _ e
    wp_walk using wpAny_pyIter_list hL1, wpAny_pyIter_tuple hL2
    exact ⟨_, rfl, h⟩
def St (z TI TO i1 i2 a b : Addr) (i : Nat) (h : Heap) : Prop :=
  IsZip h z TI TO .none ∧ IsTupOf2 h TI (.ref i1) (.ref i2) ∧ (∃ x y, IsTupOf2 h TO x y) ∧ h.IsListIter i1 a i ∧ h.IsTupleIter i2 b i
theorem callZM {prog : Program} {w : World} {A : Around} {E : Value → Shared → Prop} {s : Shared} {l1 l2 : Addr} {xs ys : Array Value} {Q : Value → Shared → Prop} (hl1 : s.heap.IsList l1 xs) (hl2 : s.heap.IsTuple l2 ys)
    (h : ∀ h', St (s.heap.objs.size + 4) (s.heap.objs.size + 2) (s.heap.objs.size + 3) s.heap.objs.size (s.heap.objs.size + 1) l1 l2 0 h' →
      (∀ c o, s.heap.get? c = some o → h'.get? c = some o) → Q (.ref (s.heap.objs.size + 4)) { s with heap := h' }) :
    wpAny (model prog w) A (call (.type "zip") [.ref l1, .ref l2]) Q E s := by
  refine callType_new F.called_zip (by decide) (F.typeCall_zip_2 _ _) (F.newCall_zip_2 _ _) (fun obj => F.args_object_init_3 obj _ _) F.entry_zip_new (meets l1 l2 xs ys) ⟨hl1, hl2, ?_⟩
  have z1 : (G1 s.heap l1).objs.size = s.heap.objs.size + 1 := Heap.size_push ..
  have z2 : (G2 s.heap l1 l2).objs.size = s.heap.objs.size + 2 := by rw [Heap.size_push, z1]
  have z3 : (G3 s.heap l1 l2).objs.size = s.heap.objs.size + 3 := by rw [Heap.size_push, z2]
  have z4 : (G4 s.heap l1 l2).objs.size = s.heap.objs.size + 4 := by rw [Heap.size_push, z3]
  have g5 : (G5 s.heap l1 l2).get? (G4 s.heap l1 l2).objs.size = some _ := Heap.get?_push_size _ rfl
  have g4 : (G5 s.heap l1 l2).get? (G3 s.heap l1 l2).objs.size = some _ := Heap.get?_push_of_some _ (Heap.get?_push_size _ rfl)
  have g3 : (G5 s.heap l1 l2).get? (G2 s.heap l1 l2).objs.size = some _ := Heap.get?_push_of_some _ (Heap.get?_push_of_some _ (Heap.get?_push_size _ rfl))
  have g2 : (G5 s.heap l1 l2).get? (G1 s.heap l1).objs.size = some _ := Heap.get?_push_of_some _ (Heap.get?_push_of_some _ (Heap.get?_push_of_some _ (Heap.get?_push_size _ rfl)))
  have g1 : (G5 s.heap l1 l2).get? s.heap.objs.size = some _ := Heap.get?_push_of_some _ (Heap.get?_push_of_some _ (Heap.get?_push_of_some _ (Heap.get?_push_of_some _ (Heap.get?_push_size _ rfl))))
  show _ ∧ _
  rw [z2, z3, z4] at g5
  rw [z1, z2] at g3
  rw [z3] at g4
  rw [z1] at g2
  rw [z4]
  exact ⟨⟨_, g5, rfl⟩, h _ ⟨g5, g3, ⟨_, _, g4⟩, ⟨_, g1, rfl, rfl⟩, ⟨_, g2, rfl, rfl⟩⟩ fun c o x =>
    Heap.get?_push_of_some _ (Heap.get?_push_of_some _ (Heap.get?_push_of_some _ (Heap.get?_push_of_some _ (Heap.get?_push_of_some _ x))))⟩
theorem sep {z TI TO i1 i2 a b : Addr} (D : ZL.Apart z TI TO i1 i2 a b) : ZipSep2 z TI TO i1 i2 [i1, a] [i2, b] :=
  ⟨D.TIz, D.TOz, D.TITO, D.TIi1, by simp, by simp [D.i1z.symm, D.az.symm], by simp [D.TOi1, D.aTO.symm], D.TIi2, by simp, by simp [D.i2z.symm, D.bz.symm], by simp [D.TOi2, D.bTO.symm], by simp [D.i12, D.bi1.symm], by simp [D.i12.symm, D.ai2.symm]⟩
end ZM
/-- a list and a tuple as they stood at the first turn, side by side -/
def Itzm (K : PySem.W.Frag) (a b : Addr) (xs ys : List V) : It where
  go := fun i H => SqL K H a xs ∧ SqT K H b ys ∧ i < xs.length ∧ i < ys.length
  yld := fun i H v H' => ∃ T x y, v = .ref T ∧ H T = none ∧ H' = upd H T (.tup [x, y]) ∧ xs[i]? = some x ∧ ys[i]? = some y
  stop := fun i H => SqL K H a xs ∧ SqT K H b ys ∧ i = min xs.length ys.length
theorem turn_zm {P : Program} {w : World} {K : PySem.W.Frag} {elts : List Expr} {kk : Nat} {tpos : Pos} {a b z TI TO i1 i2 : Addr} {xs ys : List V} (D : ZL.Apart z TI TO i1 i2 a b) :
    Turn P w K (.Tuple elts kk tpos) (Itzm K a b xs ys) [z, TI, TO, i1, i2] z (ZM.St z TI TO i1 i2 a b) where
  mem := by simp
  obj := fun i h st c hc => by
    obtain ⟨hz, hTI, ⟨x, y, hTO⟩, ⟨o1, e1, _, d1⟩, ⟨o2, e2, _, d2⟩⟩ := st
    have e' : c = z ∨ c = TI ∨ c = TO ∨ c = i1 ∨ c = i2 := by simpa using hc
    rcases e' with q | q | q | q | q
    · rw [q]; exact ⟨_, hz, fun v q => nomatch q⟩
    · rw [q]; exact ⟨_, hTI, fun v q => nomatch q⟩
    · rw [q]; exact ⟨_, hTO, fun v q => nomatch q⟩
    · rw [q]; exact ⟨o1, e1, fun v q => by rw [d1] at q; cases q⟩
    · rw [q]; exact ⟨o2, e2, fun v q => by rw [d2] at q; cases q⟩
  keep := fun i h h' st k => by
    obtain ⟨hz, hTI, ⟨x, y, hTO⟩, h1, h2⟩ := st
    exact ⟨k z (by simp) _ hz, k TI (by simp) _ hTI, ⟨x, y, k TO (by simp) _ hTO⟩, h1.at fun o q => k i1 (by simp) o q, h2.at fun o q => k i2 (by simp) o q⟩
  item := by
    intro X hP hw hK hc i pins s σ H E I hf st hg
    subst hP hw hK
    obtain ⟨hz, hTI, ⟨x0, y0, hTO⟩, h1, h2⟩ := st
    obtain ⟨hqx, hqy, l1, l2⟩ := hg
    obtain ⟨its, rv, p, _⟩ := I.list hqx
    obtain ⟨its2, rv2, p2, _⟩ := I.tuple hqy
    have pa : s.heap.IsList a its.toArray := p.isList
    have pb : s.heap.IsTuple b its2.toArray := p2
    have e1 : its.toArray.size = xs.length := by rw [List.size_toArray]; exact rv.length.symm
    have e2 : its2.toArray.size = ys.length := by rw [List.size_toArray]; exact rv2.length.symm
    obtain ⟨x, hx⟩ : ∃ x, xs[i]? = some x := ⟨_, List.getElem?_eq_getElem l1⟩
    obtain ⟨y, hy⟩ : ∃ y, ys[i]? = some y := ⟨_, List.getElem?_eq_getElem l2⟩
    obtain ⟨u, hu, ru⟩ := rv.get hx
    obtain ⟨u2, hu2, ru2⟩ := rv2.get hy
    have hzl : z < s.heap.objs.size := Heap.lt_size hz
    refine wpAny_pyNext_zipD2_item (ZM.sep D) (Draws.list (A := X.A.in1) (I.ok.hd hc) i1 a D.ai1 its.toArray) (draws_tuple (A := X.A.in1) (I.ok.hd hc) i2 b D.bi2 its2.toArray) hz hTI hTO ⟨h1, pa⟩ ⟨h2, pb⟩ (by rw [e1]; exact l1) (by rw [e2]; exact l2) fun v1 v2 h' tk y1 y2 z' TO' s1' s2' hT hsz fr => ?_
    have ev1 : v1 = u := by
      have : its.toArray[i]? = some u := by simpa using hu
      rw [this] at y1
      exact (Option.some.inj y1).symm
    have ev2 : v2 = u2 := by
      have : its2.toArray[i]? = some u2 := by simpa using hu2
      rw [this] at y2
      exact (Option.some.inj y2).symm
    subst ev1 ev2
    refine ⟨_, rfl, wpAny_letOwnedTupleGo_zip (s := { s with heap := h', toks := tk }) z' fun h'' z'' sb => ?_⟩
    have hT2 : h''.get? s.heap.objs.size = some { cls := .type "tuple", data := .seq #[v1, v2] } := (sb.2 _ (Nat.ne_of_gt hzl)).trans hT
    have new : ObjOk X.prog X.w (upd H s.heap.objs.size (.tup [x, y])) h'' s.heap.objs.size (.tup [x, y]) :=
      ⟨by show 2 ≤ sizeLine; decide, [v1, v2], .cons ru (.cons ru2 .nil), ⟨_, hT2, rfl, _, rfl⟩⟩
    have I1 : Inv X pins σ (upd H s.heap.objs.size (.tup [x, y])) { s with heap := h'', toks := tk } :=
      I.turnedNew (t' := tk) (ch := [z, TI, TO, i1, i2]) (fun c o hb q => (sb.2 c (fun q' => hb (by simp [q']))).trans (fr c o (fun q' => hb (by simp [q'])) (fun q' => hb (by simp [q'])) (fun q' => hb (by simp [q'])) (fun q' => hb (by simp [q'])) q)) hf (Nat.le_refl _) new
    refine ⟨.ref s.heap.objs.size, _, I1, rfl, ⟨_, x, y, rfl, I.hok.fresh (Nat.le_refl _), rfl, hx, hy⟩, ⟨z'', ?_, ⟨v1, v2, ?_⟩, ?_, ?_⟩, fun c hcm => ?_⟩
    · exact (sb.2 _ D.TIz).trans (fr _ _ D.TIz D.TITO D.TIi1 D.TIi2 hTI)
    · exact (sb.2 _ D.TOz).trans TO'
    · exact s1'.1.at fun o q => (sb.2 _ D.i1z).trans q
    · exact s2'.1.at fun o q => (sb.2 _ D.i2z).trans q
    · have hlt : c < s.heap.objs.size := by
        have e' : c = z ∨ c = TI ∨ c = TO ∨ c = i1 ∨ c = i2 := by simpa using hcm
        rcases e' with q | q | q | q | q
        · rw [q]; exact hzl
        · rw [q]; exact Heap.lt_size hTI
        · rw [q]; exact Heap.lt_size hTO
        · rw [q]; obtain ⟨_, e, _⟩ := h1; exact Heap.lt_size e
        · rw [q]; obtain ⟨_, e, _⟩ := h2; exact Heap.lt_size e
      rw [upd_ne (Nat.ne_of_lt hlt)]
      exact (hf c hcm).1
  done := by
    intro X hP hw hK hc i pins s σ H E I hf st hg
    subst hP hw hK
    obtain ⟨hz, hTI, ⟨x0, y0, hTO⟩, h1, h2⟩ := st
    obtain ⟨hqx, hqy, hend⟩ := hg
    obtain ⟨its, rv, p, _⟩ := I.list hqx
    obtain ⟨its2, rv2, p2, _⟩ := I.tuple hqy
    have pa : s.heap.IsList a its.toArray := p.isList
    have pb : s.heap.IsTuple b its2.toArray := p2
    have e1 : its.toArray.size = xs.length := by rw [List.size_toArray]; exact rv.length.symm
    have e2 : its2.toArray.size = ys.length := by rw [List.size_toArray]; exact rv2.length.symm
    exact wpAny_pyNext_zipD2_end (ZM.sep D) (Draws.list (A := X.A.in1) (I.ok.hd hc) i1 a D.ai1 its.toArray) (draws_tuple (A := X.A.in1) (I.ok.hd hc) i2 b D.bi2 its2.toArray) hz hTI hTO ⟨h1, pa⟩ ⟨h2, pb⟩ (by rw [e1]; omega) (by rw [e2]; omega) (by rw [e1, e2]; omega) fun h' tk fr => ⟨rfl, I.turnedL (t' := tk) (ch := [z, TI, TO, i1, i2]) (fun c o hb q =>
      fr c o (fun q' => hb (by simp [q'])) (fun q' => hb (by simp [q'])) (fun q' => hb (by simp [q'])) (fun q' => hb (by simp [q'])) q) hf⟩
  self := fun A i s Q E st h => wpAny_pyIter_zip st.1 h
def iZm (K : PySem.W.Frag) (ta : TA) : TI := fun σ H R => ta σ H fun vs H1 => ∃ a b xs ys, vs = [.ref a, .ref b] ∧ SqL K H1 a xs ∧ SqT K H1 b ys ∧ R (Itzm K a b xs ys) H1
theorem pi_zm {X : Cx} {e e2 : Expr} {ta : TA} {p pos tpos : Pos} {elts : List Expr} {kk : Nat} (hg : Gl X "zip") (hm : X.mg "zip" = none) (ha : PA X [e, e2] ta)
    (hs : starEach [e, e2] X.env = (false, eval e X.env) :: starEach [e2] X.env := by rfl) (hpl : (backTo pos (starEach [e2] X.env)).any (·.1) = false := by rfl) :
    PI X (.Tuple elts kk tpos) (.Call (.Name "zip" p) [e, e2] [] pos) (iZm X.K ta) := by
  refine ⟨fun pins s σ H R I h => ?_⟩
  refine Call_ (ld_blt I hg hm PyProof.Rows.boot_zip (PyProof.Rows.callWith_type1 (thn (ha.run pos pins s σ H _ I h) fun us s1 ⟨vs, H1, I1, r1, q1⟩ => ?_) hs hpl))
  obtain ⟨a, b, xs, ys, rfl, hqx, hqy, q⟩ := q1
  cases r1 with
  | cons r rr =>
    cases rr with
    | cons r' rr =>
      cases rr
      cases r
      cases r'
      obtain ⟨its, rv, p1, _⟩ := I1.list hqx
      obtain ⟨its2, rv2, p2, _⟩ := I1.tuple hqy
      have pa : s1.heap.IsList a its.toArray := p1.isList
      have pb : s1.heap.IsTuple b its2.toArray := p2
      have la : a < s1.heap.objs.size := p1.lt
      have lb : b < s1.heap.objs.size := by obtain ⟨_, e, _⟩ := pb; exact Heap.lt_size e
      refine ZM.callZM pa pb fun h' st hk => wpAny_pyIter_zip st.1 ?_
      have I2 : Inv X pins σ H1 { s1 with heap := h' } := I1.kept (t' := s1.toks) hk
      refine ⟨s1.heap.objs.size + 4, [s1.heap.objs.size + 4, s1.heap.objs.size + 2, s1.heap.objs.size + 3, s1.heap.objs.size, s1.heap.objs.size + 1], _, _, H1, rfl, I2, turn_zm (ZL.apart s1.heap.objs.size a b la lb), st, fun c hcm => ?_, q⟩
      have e' : c = s1.heap.objs.size + 4 ∨ c = s1.heap.objs.size + 2 ∨ c = s1.heap.objs.size + 3 ∨ c = s1.heap.objs.size ∨ c = s1.heap.objs.size + 1 := by simpa using hcm
      have hle : s1.heap.objs.size ≤ c := by
        rcases e' with z | z | z | z | z
        · rw [z]; exact Nat.le_add_right _ _
        · rw [z]; exact Nat.le_add_right _ _
        · rw [z]; exact Nat.le_add_right _ _
        · rw [z]; exact Nat.le_refl _
        · rw [z]; exact Nat.le_add_right _ _
      exact I1.fpOk hle (I1.hok.fresh hle)
end BW

/-! ### comprehensions of one for, over anything that is walked -/
namespace BW
open PySem PySem.Spec PyProof.Rows L2
theorem lc_J {J : It} {D : Addr} {g : TG} {tt : TT} {te : TE} {vs : List Nat} {σ : L2.St} {H : Hp} {Qd : Hp → Prop} (N : Nat) (Pv : Nat → Hp → Prop) (h0 : Pv 0 (upd H D (.lst [])))
    (hgo : ∀ i X, i < N → Pv i X → J.go i X) (hst : ∀ X, Pv N X → J.stop N X)
    (hs : ∀ i x X X', i < N → Pv i X → J.yld i X x X' → g x (wipe σ vs) X' fun σ2 H2 => wipe σ2 vs = wipe σ vs ∧ tt σ2 H2 fun b H3 =>
      if b = true then te σ2 H3 fun y H4 => ∃ acc, H4 D = some (.lst acc) ∧ acc.length < sizeLine ∧ Pv (i + 1) (upd H4 D (.lst (acc ++ [y]))) else Pv (i + 1) H3)
    (hd : ∀ X, Pv N X → Qd X) :
    ∃ W : Nat → Nat → Hp → Prop, (∃ m, W 0 m (upd H D (.lst []))) ∧ ∀ i m X, W i m X →
      (J.stop i X ∧ Qd X) ∨ (J.go i X ∧ ∃ Nx : Hp → Prop, (∀ H', Nx H' → ∃ m', m' < m ∧ W (i + 1) m' H') ∧ ∀ x H', J.yld i X x H' → g x (wipe σ vs) H' fun σ2 H2 => wipe σ2 vs = wipe σ vs ∧ tt σ2 H2 fun b H3 =>
        if b = true then te σ2 H3 fun y H4 => ∃ acc, H4 D = some (.lst acc) ∧ acc.length < sizeLine ∧ Nx (upd H4 D (.lst (acc ++ [y]))) else Nx H3) := by
  refine ⟨fun i m X => m = N - i ∧ i ≤ N ∧ Pv i X, ⟨N, rfl, Nat.zero_le _, h0⟩, ?_⟩
  rintro i m X ⟨rfl, hi, p⟩
  by_cases hlt : i < N
  · exact .inr ⟨hgo i X hlt p, fun X => Pv (i + 1) X, fun H' q => ⟨N - (i + 1), by omega, rfl, hlt, q⟩, fun x H' y => hs i x X H' hlt p y⟩
  · have ei : i = N := by omega
    subst ei
    exact .inl ⟨hst X p, hd X p⟩
/-- over two rows of whole numbers, the shorter one filled up by nought, nothing made in a turn but the pair -/
theorem lc_zl {K : PySem.W.Frag} {a b D : Addr} {ns ms : List Int} {g : TG} {tt : TT} {te : TE} {vs : List Nat} {σ : L2.St} {H : Hp} {Qd : Hp → Prop} (f : Int → Int → Int) (ha : SqT K H a (ns.map V.int)) (hb : SqT K H b (ms.map V.int)) (hD : H D = none) (hl : max ns.length ms.length ≤ 100000)
    (hs : ∀ (n m : Int) (T : Addr) (G : Hp) (R : VK) (P : Hp → Prop), G T = some (.tup [.int n, .int m]) → R (.int (f n m)) G → g (.ref T) (wipe σ vs) G fun σ2 H2 => wipe σ2 vs = wipe σ vs ∧ tt σ2 H2 fun b H3 => if b = true then te σ2 H3 R else P H3)
    (hd : ∀ X, Same H X → X D = some (.lst (((List.range (max ns.length ms.length)).map fun k => f (ns.getD k 0) (ms.getD k 0)).map V.int)) → Qd X) :
    ∃ W : Nat → Nat → Hp → Prop, (∃ m, W 0 m (upd H D (.lst []))) ∧ ∀ i m X, W i m X →
      ((Itzl K a b (ns.map V.int) (ms.map V.int) (.int 0)).stop i X ∧ Qd X) ∨ ((Itzl K a b (ns.map V.int) (ms.map V.int) (.int 0)).go i X ∧ ∃ Nx : Hp → Prop, (∀ H', Nx H' → ∃ m', m' < m ∧ W (i + 1) m' H') ∧ ∀ x H', (Itzl K a b (ns.map V.int) (ms.map V.int) (.int 0)).yld i X x H' → g x (wipe σ vs) H' fun σ2 H2 => wipe σ2 vs = wipe σ vs ∧ tt σ2 H2 fun b H3 =>
        if b = true then te σ2 H3 fun y H4 => ∃ acc, H4 D = some (.lst acc) ∧ acc.length < sizeLine ∧ Nx (upd H4 D (.lst (acc ++ [y]))) else Nx H3) := by
  refine lc_J (max ns.length ms.length) (fun i X => X D = some (.lst (((List.range i).map fun k => f (ns.getD k 0) (ms.getD k 0)).map V.int)) ∧ Same H X) ⟨upd_same, same_new hD⟩ (fun i X hi p => ⟨Same.tupS p.2 ha, Same.tupS p.2 hb, by simp; omega⟩) (fun X p => ⟨Same.tupS p.2 ha, Same.tupS p.2 hb, by simp⟩) ?_ (fun X p => hd X p.2 p.1)
  rintro i x X X' hi ⟨gD, sX⟩ ⟨T, rfl, hT, rfl⟩
  have dT : D ≠ T := ne_of_none gD hT
  have e1 : (ns.map V.int).getD i (V.int 0) = V.int (ns.getD i 0) := by
    rw [List.getD_eq_getElem?_getD, List.getElem?_map, List.getD_eq_getElem?_getD]
    cases ns[i]? <;> rfl
  have e2 : (ms.map V.int).getD i (V.int 0) = V.int (ms.getD i 0) := by
    rw [List.getD_eq_getElem?_getD, List.getElem?_map, List.getD_eq_getElem?_getD]
    cases ms[i]? <;> rfl
  rw [e1, e2]
  refine hs _ _ T _ (fun y H4 => ∃ acc, H4 D = some (.lst acc) ∧ acc.length < sizeLine ∧ (upd H4 D (.lst (acc ++ [y])) D = some (.lst (((List.range (i + 1)).map fun k => f (ns.getD k 0) (ms.getD k 0)).map V.int)) ∧ Same H (upd H4 D (.lst (acc ++ [y]))))) _ upd_same ?_
  refine ⟨_, (upd_ne dT).trans gD, ?_, ?_, fun b o hb => ?_⟩
  · rw [List.length_map, List.length_map, List.length_range]
    exact Nat.lt_of_lt_of_le (show i < 100001 by omega) (by decide)
  · rw [upd_same, List.range_succ, List.map_append, List.map_append]
    rfl
  · rw [upd_ne (ne_of_none hb hD), upd_ne (ne_of_none (sX b o hb) hT)]
    exact sX b o hb
end BW
/-! short words for proofs -/
local macro_rules | `(tactic| walk_at "v") => `(tactic| refine ⟨_, rfl, ?_⟩)
local macro_rules | `(tactic| walk_at "sd") => `(tactic| first | omega | decide | exact Or.inr ⟨by decide, by decide⟩ | exact Or.inl ⟨by decide, by decide⟩ | (simp only [L2.CMul, L2.CDiv, L2.CPow, BW.CDivZ]; omega) | exact ⟨by decide, by decide, by decide⟩ | (refine ⟨by decide, by decide, ?_⟩; omega))
local macro_rules | `(tactic| walk_at "sz") => `(tactic| (simp only [List.length_cons, List.length_nil]; decide))
local macro_rules | `(tactic| walk_at "wl") => `(tactic| first | assumption | (refine BW.Wl.same (by assumption) ?_; walk_at "wl"))
local macro_rules | `(tactic| walk_at "ne") => `(tactic| first | assumption | exact Ne.symm (by assumption) | exact BW.ne_wl (by assumption) (by walk_at "wl"))
local macro_rules | `(tactic| walk_at "hf") => `(tactic| first
  | assumption
  | exact L2.upd_same
  | (refine BW.sm_get (by assumption) ?_; walk_at "hf")
  | (refine BW.same_new (by assumption) _ _ ?_; walk_at "hf")
  | (refine (L2.upd_ne (by walk_at "ne")).trans ?_; walk_at "hf")
  | exact BW.FrAt.get (by assumption)
  | (refine BW.Ch.get (by assumption) ?_ (by walk_at "ne"); walk_at "hf"))
local macro_rules | `(tactic| walk_at "fa") => `(tactic| first | assumption | exact BW.FrAt.lit (by assumption) (BW.sz_lit (by decide)) | exact BW.FrAt.same (by assumption) (by walk_at "fa"))
local macro_rules | `(tactic| walk_at "nz") => `(tactic| ((with_reducible show (_ : Int) ≠ 0); first | assumption | omega | exact Int.mul_ne_zero (by walk_at "nz") (by walk_at "nz")))
local macro_rules | `(tactic| walk_at "zz") => `(tactic| first | assumption | exact BW.sz_mul (by walk_at "zz") (by walk_at "zz") | exact BW.sz_add (by walk_at "zz") (by walk_at "zz") | exact BW.sz_sub (by walk_at "zz") (by walk_at "zz"))
local macro_rules | `(tactic| walk_at "nc") => `(tactic| fail_if_success (first | (with_reducible show L2.CDiv _ _ ∧ _) | (with_reducible show L2.CMul _ _ ∧ _) | (with_reducible show L2.CPow _ _ ∧ _)))
local macro_rules | `(tactic| walk_at "ch") => `(tactic| first | assumption | exact BW.Ch.refl _ _ | (refine BW.Ch.tr2 (by assumption) ?_; walk_at "ch") | (refine BW.Ch.tr1 (by assumption) ?_; walk_at "ch"))
local macro_rules | `(tactic| walk_at "sm") => `(tactic| first | assumption | exact L2.Same.refl _ | (refine BW.Same.tr1 (by assumption) ?_; walk_at "sm"))
local macro_rules | `(tactic| walk_at "mx") => `(tactic| first | exact BW.small_mul (by assumption) (by assumption) | exact BW.sz_mulx (by walk_at "zz") (by walk_at "zz") (by omega))
local macro_rules | `(tactic| walk_at "dp") => `(tactic| first | exact .int _ | exact .bl _ | exact .non | exact .str _ | exact .tup (BW.SqT.of' (by walk_at "hf")) (by walk_at "dps") | exact .lst (BW.SqL.of' (by walk_at "hf")) (by walk_at "dps"))
local macro_rules | `(tactic| walk_at "dps") => `(tactic| first | exact .nil | exact .cons (by walk_at "dp") (by walk_at "dps"))
local macro_rules | `(tactic| walk_at "r1") => `(tactic| first
  | refine ⟨_, rfl, ?_⟩
  | refine ⟨_, _, rfl, rfl, And.intro (by walk_at "sd") ?_⟩
  | refine Or.inl ⟨_, _, rfl, rfl, And.intro (by walk_at "sd") ?_⟩
  | (refine ⟨_, _, rfl, rfl, ?_⟩; walk_at "nc")
  | (refine Or.inl ⟨_, _, rfl, rfl, ?_⟩; walk_at "nc")
  | refine Or.inl ⟨rfl, ?_⟩
  | refine Or.inr ⟨_, _, rfl, rfl, ?_⟩
  | refine L2.iteT ?_
  | refine L2.iteF ?_
  | refine Or.inl ⟨_, _, _, _, rfl, rfl, BW.SqL.of' (by walk_at "hf"), rfl, ?_⟩
  | refine Or.inr (Or.inl ⟨_, _, _, _, rfl, rfl, BW.SqT.of' (by walk_at "hf"), rfl, ?_⟩)
  | refine Or.inr (Or.inl ⟨_, _, _, _, rfl, rfl, BW.SqL.of' (by walk_at "hf"), BW.SqL.of' (by walk_at "hf"), by walk_at "sz", ?_⟩)
  | refine Or.inl ⟨_, _, _, _, false, rfl, .ty _, .base (.int _), L2.kit_ty (by decide +kernel), ?_⟩
  | refine Or.inl ⟨_, _, _, _, true, rfl, .ty _, .base (.int _), L2.kit_ty (by decide +kernel), ?_⟩
  | refine Or.inl ⟨_, _, _, _, true, rfl, .ty _, .base (.tup (by walk_at "hf")), L2.kit_ty (by decide +kernel), ?_⟩
  | refine Or.inl ⟨_, _, _, _, false, rfl, .ty _, .base (.tup (by walk_at "hf")), L2.kit_ty (by decide +kernel), ?_⟩
  | refine ⟨_, _, rfl, Or.inr ⟨_, BW.SqT.of' (by walk_at "hf"), rfl⟩, ?_⟩
  | refine ⟨_, _, rfl, Or.inl ⟨_, BW.SqL.of' (by walk_at "hf"), rfl⟩, ?_⟩
  | refine And.intro (by walk_at "sz") (fun p G hp sG gp => ?_)
  | (intro p G hp sG gp; have z := (hp : (_ : Option L2.HO) = none); clear z)
  | refine Or.inl ⟨_, rfl, ?_⟩
  | refine Or.inr ⟨_, rfl, ?_⟩
  | refine ⟨_, _, rfl, by walk_at "sd", fun p G hp sG gp => ?_⟩
  | refine Or.inl ⟨_, _, rfl, BW.SqT.of' (by walk_at "hf"), rfl, ?_⟩
  | refine Or.inr ⟨_, _, rfl, BW.SqL.of' (by walk_at "hf"), rfl, ?_⟩
  | refine ⟨_, _, _, _, rfl, rfl, by walk_at "hf", rfl, ?_⟩
  | refine ⟨_, _, rfl, ?_⟩
  | refine ⟨_, _, _, rfl, ?_⟩
  | refine ⟨_, none, none, rfl, ?_⟩
  | refine ⟨_, some _, none, rfl, ?_⟩
  | refine ⟨_, some _, some _, rfl, ?_⟩
  | refine And.intro rfl ?_
  | refine Or.inr (And.intro (by assumption) ?_)
  | refine Or.inr (Or.inl ⟨_, _, rfl, rfl, And.intro (by walk_at "mx") ?_⟩)
  | refine Or.inr ⟨_, _, by walk_at "dp", by walk_at "dp", rfl, rfl, ?_⟩
  | refine Or.inl ⟨_, _, _, rfl, And.intro (by walk_at "hf") ?_⟩
  | refine ⟨_, _, _, rfl, And.intro (by walk_at "hf") ?_⟩
  | refine ⟨_, _, _, _, rfl, And.intro (by walk_at "wl") (And.intro (by walk_at "hf") ?_)⟩
  | refine And.intro (by walk_at "wl") ?_
  | refine And.intro (by walk_at "hf") ?_
  | refine And.intro (by walk_at "sd") ?_
  | refine ⟨_, _, _, _, _, _, _, _, rfl, And.intro (by walk_at "fa") (And.intro (by walk_at "fa") ?_)⟩
  | refine ⟨_, _, _, _, _, _, _, _, rfl, And.intro (by walk_at "fa") (And.intro (by assumption) (And.intro (by walk_at "zz") (And.intro (by walk_at "zz") ?_)))⟩
  | refine ⟨_, _, _, _, rfl, And.intro (by walk_at "fa") ?_⟩
  | refine ⟨_, _, _, _, _, _, rfl, And.intro (by walk_at "fa") (And.intro (by walk_at "fa") ?_)⟩
  | (intro r G x y hr sG fG wG yG eG; have z := (fG : BW.FrAt _ _ _ _ _); clear z)
  | refine And.intro (by walk_at "nz") ?_)
local macro_rules | `(tactic| walk_at "rd") => `(tactic| repeat (walk_at "r1"))
local macro_rules | `(tactic| walk_at "rq") => `(tactic| first
  | walk_at "r1"
  | refine BW.iteNb (BW.eqv_w (by assumption) (by assumption) (by grind)) ?_
  | refine BW.itePb (BW.eqv_w (by assumption) (by assumption) (by grind)) ?_)
local macro_rules | `(tactic| walk_at "rdq") => `(tactic| repeat (walk_at "rq"))
local macro_rules | `(tactic| walk_at "kw_len") => `(tactic| (intro α ws h; rcases ws with _ | ⟨a, _ | ⟨b, _ | ⟨c, _ | ⟨d, t⟩⟩⟩⟩ <;> first | rfl | exact absurd h (by simp)))
local macro_rules | `(tactic| walk_at "kw_rel") => `(tactic| (intro zs ws h; rcases h with _ | ⟨r1, _ | ⟨r2, _ | ⟨r3, _ | ⟨r4, t⟩⟩⟩⟩ <;> (repeat' first | assumption | constructor)))

local macro_rules | `(tactic| walk_at "r1") => `(tactic| refine Or.inr ⟨_, rfl, _, rfl, ⟨_, BW.SqT.of' (by walk_at "hf")⟩, ?_⟩)
local macro_rules | `(tactic| walk_at "hf") => `(tactic| exact BW.PolyAt.get (by assumption))
local macro_rules | `(tactic| walk_at "ri") => `(tactic| repeat ((fail_if_success (with_reducible show L2.tLc _ _ _ _ _ _ _ _)); walk_at "r1"))
namespace boughswap_k09_whole_quotients
open PySem PySem.Spec PyProof.Rows L2 BW
def topS (i : Nat) : Stmt := PySem.Challenge.pw_boughswap_k09_whole_quotients.main.body.getD i (.Pass ⟨0, 0, 0, 0⟩)
abbrev s_p_is_whole : Stmt := topS 6
abbrev N_p_is_whole : List Str := ["thing", "low", "high"]
theorem sc_p_is_whole : FnScope N_p_is_whole ["thing", "low", "high"] (defScope s_p_is_whole) := ⟨rfl, rfl, rfl, by decide +kernel, rfl, by decide +kernel, by decide +kernel⟩
abbrev s_p_fraction : Stmt := topS 8
abbrev N_p_fraction : List Str := ["top", "bottom", "common"]
theorem sc_p_fraction : FnScope N_p_fraction ["top", "bottom"] (defScope s_p_fraction) := ⟨rfl, rfl, rfl, by decide +kernel, rfl, by decide +kernel, by decide +kernel⟩
abbrev s_p_is_poly : Stmt := topS 10
abbrev N_p_is_poly : List Str := ["thing"]
theorem sc_p_is_poly : FnScope N_p_is_poly ["thing"] (defScope s_p_is_poly) := ⟨rfl, rfl, rfl, by decide +kernel, rfl, by decide +kernel, by decide +kernel⟩
abbrev s_p_divided : Stmt := topS 11
abbrev N_p_divided : List Str := ["one", "other", "left", "scale", "falling", "common", "factor", "share", "rest", "number"]
theorem sc_p_divided : FnScope N_p_divided ["one", "other"] (defScope s_p_divided) := ⟨rfl, rfl, rfl, by decide +kernel, rfl, by decide +kernel, by decide +kernel⟩
abbrev s_p_whole_quotient : Stmt := topS 12
abbrev N_p_whole_quotient : List Str := ["one", "other", "quotient", "rest", "top", "bottom"]
theorem sc_p_whole_quotient : FnScope N_p_whole_quotient ["one", "other"] (defScope s_p_whole_quotient) := ⟨rfl, rfl, rfl, by decide +kernel, rfl, by decide +kernel, by decide +kernel⟩
abbrev s_p_lead_taken_off : Stmt := topS 13
abbrev N_p_lead_taken_off : List Str := ["left", "factor", "share", "other", "ahead", "numbers", "x", "y", "number"]
theorem sc_p_lead_taken_off : FnScope N_p_lead_taken_off ["left", "factor", "share", "other"] (defScope s_p_lead_taken_off) := ⟨rfl, rfl, rfl, by decide +kernel, rfl, by decide +kernel, by decide +kernel⟩
abbrev s_p_are_whole : Stmt := topS 14
abbrev N_p_are_whole : List Str := ["things", "thing"]
theorem sc_p_are_whole : FnScope N_p_are_whole ["things"] (defScope s_p_are_whole) := ⟨rfl, rfl, rfl, by decide +kernel, rfl, by decide +kernel, by decide +kernel⟩
abbrev s_p_need_poly : Stmt := topS 15
abbrev N_p_need_poly : List Str := ["thing"]
theorem sc_p_need_poly : FnScope N_p_need_poly ["thing"] (defScope s_p_need_poly) := ⟨rfl, rfl, rfl, by decide +kernel, rfl, by decide +kernel, by decide +kernel⟩
abbrev s_p_without_noughts : Stmt := topS 16
abbrev N_p_without_noughts : List Str := ["numbers", "many"]
theorem sc_p_without_noughts : FnScope N_p_without_noughts ["numbers"] (defScope s_p_without_noughts) := ⟨rfl, rfl, rfl, by decide +kernel, rfl, by decide +kernel, by decide +kernel⟩
abbrev s_well : Stmt := topS 18
abbrev N_well : List Str := ["_law_cell"]
theorem sc_well : FnScope N_well ["_law_cell"] (defScope s_well) := ⟨rfl, rfl, rfl, by decide +kernel, rfl, by decide +kernel, by decide +kernel⟩
abbrev s_draw : Stmt := topS 19
abbrev N_draw : List Str := ["_law_well_here", "_law_many", "_law_found", "_law_this"]
theorem sc_draw : FnScope N_draw ["_law_well_here", "_law_many"] (defScope s_draw) := ⟨rfl, rfl, rfl, by decide +kernel, rfl, by decide +kernel, by decide +kernel⟩
abbrev s_number : Stmt := topS 20
abbrev N_number : List Str := ["_law_well_here", "_law_most", "_law_kind", "_law_sign", "_law_number_here", "_law_k"]
theorem sc_number : FnScope N_number ["_law_well_here", "_law_most"] (defScope s_number) := ⟨rfl, rfl, rfl, by decide +kernel, rfl, by decide +kernel, by decide +kernel⟩
abbrev s_bare : Stmt := topS 21
abbrev N_bare : List Str := ["_law_numbers", "_law_size", "_law_k", "_law_number_here"]
theorem sc_bare : FnScope N_bare ["_law_numbers"] (defScope s_bare) := ⟨rfl, rfl, rfl, by decide +kernel, rfl, by decide +kernel, by decide +kernel⟩
abbrev s_quotient : Stmt := topS 22
abbrev N_quotient : List Str := ["_law_well_here", "_law_many", "_law_k"]
theorem sc_quotient : FnScope N_quotient ["_law_well_here"] (defScope s_quotient) := ⟨rfl, rfl, rfl, by decide +kernel, rfl, by decide +kernel, by decide +kernel⟩
abbrev s_divisor : Stmt := topS 23
abbrev N_divisor : List Str := ["_law_well_here", "_law_many", "_law_last", "_law_ahead", "_law_k", "_law_number_here"]
theorem sc_divisor : FnScope N_divisor ["_law_well_here", "_law_many"] (defScope s_divisor) := ⟨rfl, rfl, rfl, by decide +kernel, rfl, by decide +kernel, by decide +kernel⟩
abbrev s_product : Stmt := topS 24
abbrev N_product : List Str := ["_law_this", "_law_two", "_law_found", "_law_k", "_law_j"]
theorem sc_product : FnScope N_product ["_law_this", "_law_two"] (defScope s_product) := ⟨rfl, rfl, rfl, by decide +kernel, rfl, by decide +kernel, by decide +kernel⟩
abbrev s_share : Stmt := topS 25
abbrev N_share : List Str := ["_law_this", "_law_that", "_law_left", "_law_found", "_law_share_here", "_law_k", "_law_at"]
theorem sc_share : FnScope N_share ["_law_this", "_law_that"] (defScope s_share) := ⟨rfl, rfl, rfl, by decide +kernel, rfl, by decide +kernel, by decide +kernel⟩
abbrev s_common : Stmt := topS 26
abbrev N_common : List Str := ["_law_numbers", "_law_found", "_law_number_here", "_law_this"]
theorem sc_common : FnScope N_common ["_law_numbers"] (defScope s_common) := ⟨rfl, rfl, rfl, by decide +kernel, rfl, by decide +kernel, by decide +kernel⟩
abbrev s_same : Stmt := topS 27
abbrev N_same : List Str := ["_law_found", "_law_due", "_law_number_here"]
theorem sc_same : FnScope N_same ["_law_found", "_law_due"] (defScope s_same) := ⟨rfl, rfl, rfl, by decide +kernel, rfl, by decide +kernel, by decide +kernel⟩
abbrev s_none_right : Stmt := topS 28
abbrev N_none_right : List Str := ["_law_this", "_law_that", "_law_quotient_here", "_law_rest", "_law_top", "_law_bottom"]
theorem sc_none_right : FnScope N_none_right ["_law_this", "_law_that"] (defScope s_none_right) := ⟨rfl, rfl, rfl, by decide +kernel, rfl, by decide +kernel, by decide +kernel⟩
abbrev s_law : Stmt := topS 29
abbrev N_law : List Str := ["_law_script", "_law_cell", "_law_well_here", "_law_way", "_law_many", "_law_that", "_law_quotient_here", "_law_this", "_law_near", "_law_at", "_law_due", "_law_number_here"]
theorem sc_law : FnScope N_law ["_law_script"] (defScope s_law) := ⟨rfl, rfl, rfl, by decide +kernel, rfl, by decide +kernel, by decide +kernel⟩
def tTrK (K : PySem.W.Frag) (ta : TE) : TT := fun σ H Q => ta σ H fun x H1 => ∃ k, TruV K x H1 k ∧ Q k H1
theorem pe_globI {X : Cx} {x : Str} {i : Int} {pos : Pos} (hg : Gl X x) (hm : ∃ t, X.mg x = some (.int i t)) (hd : (x == ("__debug__" : Str)) = false := by decide) : PE X (.Name x pos) (tC (.int i)) := by
  obtain ⟨t, h⟩ := hm
  exact pe_glob hg h ⟨t, rfl⟩ hd
/-- the names of built-ins that no def of the text takes -/
structure Bi (K : PySem.W.Frag) (mg : Str → Option Value) : Prop where
  b_abs : mg "abs" = none
  b_all : mg "all" = none
  b_any : mg "any" = none
  b_bool : mg "bool" = none
  b_divmod : mg "divmod" = none
  b_enumerate : mg "enumerate" = none
  b_int : mg "int" = none
  b_isinstance : mg "isinstance" = none
  b_len : mg "len" = none
  b_list : mg "list" = none
  b_max : mg "max" = none
  b_range : mg "range" = none
  b_tuple : mg "tuple" = none
  b_zip : mg "zip" = none
  i_gcd : mg "gcd" = some (.builtin "math.gcd")
/-- the defs of the text as they stand behind its top -/
structure Df (K : PySem.W.Frag) (mg : Str → Option Value) : Prop where
  p_is_whole : At K mg "is_whole" s_p_is_whole
  p_fraction : AtD K mg "fraction" s_p_fraction [.int 1]
  p_is_poly : At K mg "is_poly" s_p_is_poly
  p_divided : At K mg "divided" s_p_divided
  p_whole_quotient : At K mg "whole_quotient" s_p_whole_quotient
  p_lead_taken_off : At K mg "_lead_taken_off" s_p_lead_taken_off
  p_are_whole : At K mg "_are_whole" s_p_are_whole
  p_need_poly : At K mg "_need_poly" s_p_need_poly
  p_without_noughts : At K mg "_without_noughts" s_p_without_noughts
  well : At K mg "_law_well" s_well
  draw : At K mg "_law_draw" s_draw
  number : At K mg "_law_number" s_number
  bare : At K mg "_law_bare" s_bare
  quotient : At K mg "_law_quotient" s_quotient
  divisor : At K mg "_law_divisor" s_divisor
  product : At K mg "_law_product" s_product
  share : At K mg "_law_share" s_share
  common : At K mg "_law_common" s_common
  same : At K mg "_law_same" s_same
  none_right : At K mg "_law_none_right" s_none_right
  law : At K mg "law" s_law
section
variable {P : Program} {w : World} {K : PySem.W.Frag} {mg : Str → Option Value} {base : Heap}
def sp_p_is_whole := spWhole
theorem ok_p_is_whole (T : Bi K mg) (D : Df K mg) : Cal P w K mg base CX0 1 "is_whole" s_p_is_whole ["thing", "low", "high"] (sp_p_is_whole K) := by
  refine Cal.mk' D.p_is_whole (fun _ _ _ _ _ _ us hl => match us, hl with | [_, _, _], _ => rfl) fun f fd F => F.ok sc_p_is_whole (fun vs H Q E h => ?_) (fun cdv A outer s H vs Q E hr h => ?_)
  · obtain ⟨x, lo, hi, rfl, _⟩ := h
    rfl
  obtain ⟨x, lo, hi, rfl, h⟩ := h
  refine ⟨_, (pss_cons (ps_if (PW.pt (pw_or (pt_truth (pe_callB c_isinst (by rfl) T.b_isinstance (by decide +kernel) (pa_cons (pv 0) (pa_cons (pe_bltn (v := .ty "bool") (by rfl) T.b_bool (by decide +kernel) rfl) pa_nil))) (by intro _; rfl)) (pw_or1 (pt_not (pt_truth (pe_callB c_isinst (by rfl) T.b_isinstance (by decide +kernel) (pa_cons (pv 0) (pa_cons (pe_bltn (v := .ty "int") (by rfl) T.b_int (by decide +kernel) rfl) pa_nil))) (by intro _; rfl)))))) (pss_one (ps_ret pe_bl)) pss_nil)
      (pss_cons (ps_if (PW.pt (pw_and (pt_cmpR o_isn (pv 1) pe_non (nomark _)) (pw_and1 (pt_cmpR op_lt (pv 0) (pv 1) (nomark _))))) (pss_one (ps_ret pe_bl)) pss_nil)
      (pss_one (ps_ret (pe_orT (pe_cmpR o_is (pv 2) pe_non (nomark _)) (pe_one (pe_cmpR op_le (pv 0) (pv 2) (nomark _)))))))), ?_⟩
  rcases h with ⟨n, rfl, q⟩ | ⟨⟨s, ty, hs⟩, q⟩
  · refine ⟨_, rfl, Or.inl ⟨_, _, _, _, false, rfl, .ty _, .base (.int n), kit_ty (by decide +kernel), _, rfl, ?_⟩⟩
    refine iteF ?_
    refine ⟨_, rfl, Or.inl ⟨_, _, _, _, true, rfl, .ty _, .base (.int n), kit_ty (by decide +kernel), _, rfl, ?_⟩⟩
    refine iteF ?_
    cases lo with
    | none =>
      walk_at "rd"
      cases hi with
      | none =>
        walk_at "rd"
        exact q
      | some u =>
        walk_at "rd"
        exact q
    | some l =>
      walk_at "rd"
      refine ite2 (fun c => ?_) (fun c => ?_)
      · have e : inB (some l) hi n = false := by simp [inB] at c ⊢; intro; omega
        rw [e] at q
        exact q
      · cases hi with
        | none =>
          walk_at "rd"
          have e : inB (some l) none n = true := by simp [inB] at c ⊢; omega
          rw [e] at q
          exact q
        | some u =>
          walk_at "rd"
          have e : inB (some l) (some u) n = decide (n ≤ u) := by simp [inB] at c ⊢; intro; omega
          rw [e] at q
          exact q
  · rcases hs with hb | ⟨hb, hi⟩
    · refine ⟨_, rfl, Or.inl ⟨_, _, _, _, true, rfl, .ty _, ty, kit_ty hb, _, rfl, ?_⟩⟩
      exact iteT q
    · refine ⟨_, rfl, Or.inl ⟨_, _, _, _, false, rfl, .ty _, ty, kit_ty hb, _, rfl, ?_⟩⟩
      refine iteF ?_
      refine ⟨_, rfl, Or.inl ⟨_, _, _, _, false, rfl, .ty _, ty, kit_ty hi, _, rfl, ?_⟩⟩
      exact iteT q
def sp_p_are_whole (K : PySem.W.Frag) : Sp := fun vs H Q _ => ∃ (p : Addr) (xs : List V), vs = [.ref p] ∧ (SqL K H p xs ∨ SqT K H p xs) ∧ (∀ x ∈ xs, PartV K H x) ∧ xs.length ≤ 100000 ∧ ∀ H', Same H H' → Q (.bl (xs.all isI)) H'
theorem ok_p_are_whole (T : Bi K mg) (D : Df K mg) : Cal P w K mg base CX0 2 "_are_whole" s_p_are_whole ["things"] (sp_p_are_whole K) := by
  refine Cal.mk' D.p_are_whole (fun _ _ _ _ _ _ us hl => match us, hl with | [_], _ => rfl) fun f fd F => F.ok sc_p_are_whole (fun vs H Q E h => ?_) (fun cdv A outer s H vs Q E hr h => ?_)
  · obtain ⟨_, _, rfl, _⟩ := h
    rfl
  obtain ⟨p, xs, rfl, hS, hx, hl, q⟩ := h
  refine ⟨_, (pss_one (ps_ret (pe_callB (cr_all rfl) (by rfl) T.b_all (by decide +kernel) (pa_cons (pe_lc (own := [("thing", 1)]) (by rfl) sc_p_are_whole.nd (pi_seq (pv 0)) (blkOk_by (own := [("thing", 1)]) (N := N_p_are_whole) (sc := defScope s_p_are_whole) (by decide +kernel)) (fun _ _ _ _ _ => (pg_name (i := 1) sc_p_are_whole.nd rfl (by first | exact Or.inl rfl | exact Or.inr rfl))) (fun _ _ _ _ _ => pts_nil) (fun _ _ _ _ _ => (pe_own (ok_p_is_whole T D) (hr.mono (by decide)) (by rfl) pass0 (pa_cons (pv 1) (pa_cons pe_non (pa_cons pe_non pa_nil)))))) pa_nil)))), ?_⟩
  have turn : ∀ (D : Addr) (hD : H D = none) (i : Nat) (x : V) (X : Hp), xs[i]? = some x → (X D = some (.lst ((xs.take i).map fun y => V.bl (isI y))) ∧ Same H X) → ∀ R : VK,
      (∀ X2, Same H X2 → X2 D = some (.lst ((xs.take i).map fun y => V.bl (isI y))) → R (.bl (isI x)) X2) → spWhole K [x, .non, .non] X R E0 := by
    intro D hD i x X hi hP R k
    obtain ⟨gD, sX⟩ := hP
    have hm : x ∈ xs := List.mem_of_getElem? hi
    rcases hx x hm with ⟨n, rfl⟩ | ⟨o, e⟩
    · exact ⟨_, none, none, rfl, .inl ⟨n, rfl, k X sX gD⟩⟩
    · refine ⟨_, none, none, rfl, .inr ⟨Odd.same sX o, ?_⟩⟩
      rw [e] at k
      exact k X sX gD
  have next : ∀ (D : Addr) (hD : H D = none) (i : Nat) (x : V) (X : Hp), xs[i]? = some x → Same H X → X D = some (.lst ((xs.take i).map fun y => V.bl (isI y))) →
      ∃ acc, X D = some (.lst acc) ∧ acc.length < sizeLine ∧ (upd X D (.lst (acc ++ [V.bl (isI x)])) D = some (.lst ((xs.take (i + 1)).map fun y => V.bl (isI y))) ∧ Same H (upd X D (.lst (acc ++ [V.bl (isI x)])))) := by
    intro D hD i x X hi sX gD
    refine ⟨_, gD, ?_, ?_, fun b o hb => ?_⟩
    · rw [List.length_map]
      exact Nat.lt_of_le_of_lt (List.length_take_le _ _) (Nat.lt_of_lt_of_le (show i < 100001 by have := (List.getElem?_eq_some_iff.mp hi).1; omega) (by decide))
    · rw [upd_same, List.take_add_one, hi, List.map_append]
      rfl
    · rw [upd_ne (ne_of_none hb hD)]
      exact sX b o hb
  have fin : ∀ (D : Addr) (X : Hp), X D = some (.lst ((xs.take xs.length).map fun y => V.bl (isI y))) → Same H X → rAll K [.ref D] X Q := by
    intro D X gD sX
    refine ⟨D, xs.map isI, rfl, SqL.of' ?_, ?_⟩
    · rw [gD, List.take_length, List.map_map]
      rfl
    · have e : (xs.map isI).all id = xs.all isI := by rw [List.all_map]; rfl
      rw [e]
      exact q X sX
  rcases hS with hS | hS
  · refine Or.inl ⟨_, rfl, _, rfl, ⟨_, hS⟩, ?_⟩
    intro D hD
    refine lc_list (xs := xs) (fun i X => X D = some (.lst ((xs.take i).map fun y => V.bl (isI y))) ∧ Same H X) ⟨upd_same, same_new hD⟩ (fun i X _ hP => hP.2.seq hS) ?_ (fun X hP => fin D X hP.1 hP.2)
    intro i x X hi hP
    refine ⟨rfl, ?_⟩
    simp only [tYes, ↓reduceIte]
    exact ⟨_, rfl, turn D hD i x X hi hP (fun y H4 => ∃ acc, H4 D = some (.lst acc) ∧ acc.length < sizeLine ∧ (upd H4 D (.lst (acc ++ [y])) D = some (.lst ((xs.take (i + 1)).map fun y => V.bl (isI y))) ∧ Same H (upd H4 D (.lst (acc ++ [y]))))) (fun X2 s2 g2 => next D hD i x X2 hi s2 g2)⟩
  · refine Or.inr ⟨_, rfl, _, rfl, ⟨_, hS⟩, ?_⟩
    intro D hD
    refine lc_tup (xs := xs) (fun i X => X D = some (.lst ((xs.take i).map fun y => V.bl (isI y))) ∧ Same H X) ⟨upd_same, same_new hD⟩ (fun i X _ hP => Same.tupS hP.2 hS) ?_ (fun X hP => fin D X hP.1 hP.2)
    intro i x X hi hP
    refine ⟨rfl, ?_⟩
    simp only [tYes, ↓reduceIte]
    exact ⟨_, rfl, turn D hD i x X hi hP (fun y H4 => ∃ acc, H4 D = some (.lst acc) ∧ acc.length < sizeLine ∧ (upd H4 D (.lst (acc ++ [y])) D = some (.lst ((xs.take (i + 1)).map fun y => V.bl (isI y))) ∧ Same H (upd H4 D (.lst (acc ++ [y]))))) (fun X2 s2 g2 => next D hD i x X2 hi s2 g2)⟩
theorem all_ints (ns : List Int) : (ns.map V.int).all isI = true := by
  rw [List.all_map]
  exact List.all_eq_true.mpr fun _ _ => rfl
theorem part_ints {K : PySem.W.Frag} {H : Hp} (ns : List Int) : ∀ x ∈ ns.map V.int, PartV K H x := fun x hx => by
  obtain ⟨n, _, rfl⟩ := List.mem_map.mp hx
  exact .inl ⟨n, rfl⟩
/-- is_poly of a polynomial -/
def sp_p_is_poly (K : PySem.W.Frag) : Sp := fun vs H Q _ => ∃ (p : Addr) (ns : List Int), vs = [.ref p] ∧ PolyAt H p ns ∧ ns.length ≤ 100000 ∧ ∀ H', Same H H' → Q (.bl true) H'
theorem ok_p_is_poly (T : Bi K mg) (D : Df K mg) : Cal P w K mg base CX0 3 "is_poly" s_p_is_poly ["thing"] (sp_p_is_poly K) := by
  refine Cal.mk' D.p_is_poly (fun _ _ _ _ _ _ us hl => match us, hl with | [_], _ => rfl) fun f fd F => F.ok sc_p_is_poly (fun vs H Q E h => ?_) (fun cdv A outer s H vs Q E hr h => ?_)
  · obtain ⟨_, _, rfl, _⟩ := h
    rfl
  obtain ⟨p, ns, rfl, hp, hl, q⟩ := h
  have gp := hp.get
  refine ⟨_, (pss_cons (ps_if (PW.pt (pw_or (pt_not (pt_truth (pe_callB c_isinst (by rfl) T.b_isinstance (by decide +kernel) (pa_cons (pv 0) (pa_cons (pe_bltn (v := .ty "tuple") (by rfl) T.b_tuple (by decide +kernel) rfl) pa_nil))) (by intro _; rfl))) (pw_or1 (pt_not (pt_truth (pe_own (ok_p_are_whole T D) (hr.mono (by decide)) (by rfl) pass0 (pa_cons (pv 0) pa_nil)) (by intro _; rfl)))))) (pss_one (ps_ret pe_bl)) pss_nil)
      (pss_one (ps_ret (pe_orT (pe_cmpR (o_eq hr.units) (pe_callB call_len (by rfl) T.b_len (by decide +kernel) (pa_cons (pv 0) pa_nil)) pe_int (nomark _)) (pe_one (pe_cmpR (o_ne hr.units) (pe_ix ix_seq (pv 0) (pe_un un_neg pe_int) (fun _ _ => rfl)) pe_int (nomark _))))))), ?_⟩
  walk_at "rd"
  refine ⟨p, _, rfl, .inr (SqT.of' gp), part_ints ns, by rw [List.length_map]; exact hl, fun H1 s1 => ?_⟩
  rw [all_ints]
  walk_at "rd"
  refine ite2 (fun c => ?_) (fun c => ?_)
  · show Q (.bl (decide (V.int ((ns.map V.int).length : Int) = V.int 0))) H1
    rw [c]
    exact q _ s1
  · have hne : ns ≠ [] := fun e => c (by rw [e]; rfl)
    have er : ns = ns.dropLast ++ [ns.getLast hne] := (List.dropLast_concat_getLast hne).symm
    have hz : ns.getLast hne ≠ 0 := hp.bare _ (List.getLast?_eq_getLast hne)
    have ea : atI (ns.map V.int) (-1) = some (V.int (ns.getLast hne)) := by
      conv => lhs; rw [er, List.map_append]
      exact atI_last _ _
    walk_at "rd"
    refine Or.inr (Or.inl ⟨_, _, _, _, rfl, rfl, SqT.of' (s1 _ _ gp), ea, ?_⟩)
    walk_at "rd"
    show Q (.bl (!decide (V.int (ns.getLast hne) = V.int 0))) H1
    rw [decide_eq_false (fun e => hz (V.int.inj e))]
    exact q _ s1
def sp_p_need_poly (K : PySem.W.Frag) : Sp := fun vs H Q _ => ∃ (p : Addr) (ns : List Int), vs = [.ref p] ∧ PolyAt H p ns ∧ ns.length ≤ 100000 ∧ ∀ H', Same H H' → Q .non H'
theorem ok_p_need_poly (T : Bi K mg) (D : Df K mg) : Cal P w K mg base CX0 4 "_need_poly" s_p_need_poly ["thing"] (sp_p_need_poly K) := by
  refine Cal.mk' D.p_need_poly (fun _ _ _ _ _ _ us hl => match us, hl with | [_], _ => rfl) fun f fd F => F.ok sc_p_need_poly (fun vs H Q E h => ?_) (fun cdv A outer s H vs Q E hr h => ?_)
  · obtain ⟨_, _, rfl, _⟩ := h
    rfl
  obtain ⟨p, ns, rfl, hp, hl, q⟩ := h
  refine ⟨_, (pss_one (ps_if (pt_not (pt_truth (pe_own (ok_p_is_poly T D) (hr.mono (by decide)) (by rfl) pass0 (pa_cons (pv 0) pa_nil)) (by intro _; rfl))) (pss_one ps_never) pss_nil)), ?_⟩
  walk_at "rd"
  refine ⟨p, ns, rfl, hp, hl, fun H1 s1 => ?_⟩
  walk_at "rd"
  exact q _ s1
/-- _without_noughts of a list or tuple of whole numbers -/
def sp_p_without_noughts (K : PySem.W.Frag) : Sp := fun vs H Q _ => ∃ (p : Addr) (ns : List Int), vs = [.ref p] ∧ (SqL K H p (ns.map V.int) ∨ H p = some (.tup (ns.map V.int))) ∧ ns.length ≤ 100000 ∧ ∀ H' r, Same H H' → PolyAt H' r (bare ns) → Q (.ref r) H'
theorem ok_p_without_noughts (T : Bi K mg) (D : Df K mg) : Cal P w K mg base CX0 1 "_without_noughts" s_p_without_noughts ["numbers"] (sp_p_without_noughts K) := by
  refine Cal.mk' D.p_without_noughts (fun _ _ _ _ _ _ us hl => match us, hl with | [_], _ => rfl) fun f fd F => F.ok sc_p_without_noughts (fun vs H Q E h => ?_) (fun cdv A outer s H vs Q E hr h => ?_)
  · obtain ⟨_, _, rfl, _⟩ := h
    rfl
  obtain ⟨p, ns, rfl, hS, hl, q⟩ := h
  refine ⟨_, (pss_cons (ps_set (i := 1) sc_p_without_noughts.nd rfl (by first | exact Or.inl rfl | exact Or.inr rfl) (pe_callB call_len (by rfl) T.b_len (by decide +kernel) (pa_cons (pv 0) pa_nil)))
      (pss_cons (ps_while PassesOwn.never (PW.pt (pw_and (pt_cmpR op_gt (pv 1) pe_int (nomark _)) (pw_and1 (pt_cmpR (o_eq hr.units) (pe_ix ix_seq (pv 0) (pe_op o_sub (pv 1) pe_int) (fun _ _ => rfl)) pe_int (nomark _))))) (pss_one (ps_aug (i := 1) sc_p_without_noughts.nd rfl (by first | exact Or.inl rfl | exact Or.inr rfl) pe_int ip_sub)))
      (pss_one (ps_ret (pe_callTy c_tuple (by rfl) T.b_tuple (by decide +kernel) (pa_cons (pe_slice s_any (pv 0) po_none (po_some (pv 1))) pa_nil)))))), ?_⟩
  walk_at "rd"
  refine ⟨_, (ns.map V.int).length, rfl, hS.imp (fun h => ⟨_, h, rfl⟩) (fun h => ⟨_, SqT.of' h, rfl⟩), ?_⟩
  rw [List.length_map]
  refine ⟨fun m σ X => σ = [some (.ref p), some (.int m)] ∧ X = H ∧ m ≤ ns.length ∧ bare ns = bare (ns.take m), ⟨ns.length, rfl, rfl, Nat.le_refl _, by rw [List.take_length]⟩, ?_⟩
  rintro m σ X ⟨rfl, rfl, hm, hb⟩
  have fin : bare ns = ns.take m → tRet (tCB (nTuple K) (tCons (tSl (rSlc K) (tVar 0) tNoPart (tPart (tVar 1))) tNil)) { nx := fun _ H' => Q .non H', rt := Q } [some (.ref p), some (.int m)] X := by
    intro e
    have ec : cutV (ns.map V.int) none (some (m : Int)) = (ns.take m).map V.int := by
      unfold cutV
      rw [HT.sIx_nat, HT.sIx_none, List.length_map, Nat.min_eq_left hm, Nat.sub_zero, List.drop_zero, List.map_take]
    have done : ∀ (G : Hp) (r : Addr), Same X G → G r = some (.tup ((ns.take m).map V.int)) → Q (.ref r) G := fun G r sG gr => q G r sG ⟨by rw [e]; exact gr, bare_bare ns⟩
    walk_at "rd"
    rcases hS with hS | hS
    · refine Or.inl ⟨_, _, rfl, hS, ?_⟩
      intro z G hz sG gz
      rw [ec] at gz
      refine ⟨_, _, rfl, .inl ⟨SqL.of' gz, ?_⟩⟩
      intro z2 G2 hz2 sG2 gz2
      exact done _ _ (sG.trans sG2) gz2
    · refine Or.inr (Or.inl ⟨_, _, rfl, SqT.of' hS, fun hw => ?_, fun hw => ?_⟩)
      · have hm2 : m = ns.length := by
          have h2 := hw.2
          rw [HT.sIx_nat, List.length_map, Nat.min_eq_left hm] at h2
          exact h2
        refine ⟨_, _, rfl, .inr ⟨SqT.of' hS, done X p (Same.refl _) ?_⟩⟩
        rw [hm2, List.take_length]
        exact hS
      · intro z G hz sG gz
        rw [ec] at gz
        exact ⟨_, _, rfl, .inr ⟨SqT.of' gz, done _ _ sG gz⟩⟩
  walk_at "rd"
  refine ite2 (fun c => ?_) (fun c => ?_)
  · have c' : 0 < (m : Int) := of_decide_eq_true c
    obtain ⟨k, rfl⟩ : ∃ k, m = k + 1 := ⟨m - 1, by omega⟩
    have hk : k < ns.length := by omega
    have ea : atI (ns.map V.int) (((k + 1 : Nat) : Int) - 1) = some (V.int ns[k]) := at_of (j := k) (by omega) (by rw [List.getElem?_map, List.getElem?_eq_getElem hk]; rfl)
    have et : ns.take (k + 1) = ns.take k ++ [ns[k]] := by rw [List.take_add_one, List.getElem?_eq_getElem hk]; rfl
    walk_at "rd"
    have rest : ∀ R : VK, R (V.int ns[k]) X → rIx K (V.ref p) (V.int (((k + 1 : Nat) : Int) - 1)) X R := fun R r => hS.elim (fun h => Or.inl ⟨_, _, _, _, rfl, rfl, h, ea, r⟩) (fun h => Or.inr (Or.inl ⟨_, _, _, _, rfl, rfl, SqT.of' h, ea, r⟩))
    refine rest _ ?_
    walk_at "rd"
    refine ite2 (fun z => ?_) (fun z => ?_)
    · have z' : ns[k] = 0 := V.int.inj (of_decide_eq_true z)
      refine ⟨fun σ' X' => σ' = [some (.ref p), some (.int (k : Int))] ∧ X' = X, ?_, ?_⟩
      · rintro σ' X' ⟨rfl, rfl⟩
        exact ⟨k, by omega, rfl, rfl, by omega, by rw [hb, et, z', bare_zero]⟩
      · walk_at "rd"
        have ek : ((k + 1 : Nat) : Int) - 1 = (k : Int) := by omega
        show [some (V.ref p), some (V.int (((k + 1 : Nat) : Int) - 1))] = [some (V.ref p), some (V.int (k : Int))] ∧ X = X
        rw [ek]
        exact ⟨rfl, rfl⟩
    · have z' : ns[k] ≠ 0 := fun e => z (by show decide (V.int ns[k] = V.int 0) = true; rw [e]; decide)
      refine fin ?_
      rw [hb, et, bare_last _ z']
  · have c' : ¬ 0 < (m : Int) := fun z => c (decide_eq_true z)
    have m0 : m = 0 := by omega
    subst m0
    refine fin ?_
    rw [hb, List.take_zero]
    rfl
def sp_p_fraction (K : PySem.W.Frag) : Sp := fun vs H Q _ => ∃ (t b : Int), vs = [.int t, .int b] ∧ b ≠ 0 ∧ small b ∧ New H (.tup [.int (frT t b), .int (frB t b)]) Q
theorem ok_p_fraction (T : Bi K mg) (D : Df K mg) : CalD P w K mg base CX0 2 "fraction" s_p_fraction [.int 1] ["top", "bottom"] (sp_p_fraction K) := by
  refine CalD.mk' D.p_fraction fun f fd F => FunD.ok F sc_p_fraction (fun vs H Q E h => ?_) (fun cdv A outer s H vs Q E hr h => ?_)
  · obtain ⟨x, y, rfl, _⟩ := h
    rfl
  obtain ⟨t, b, rfl, hb, hs, q⟩ := h
  refine ⟨_, PSs.nox (pss_cons (ps_if (PW.pt (pw_or (pt_not (pt_truth (pe_own (ok_p_is_whole T D) (hr.mono (by decide)) (by rfl) pass0 (pa_cons (pv 0) (pa_cons pe_non (pa_cons pe_non pa_nil)))) (by intro _; rfl))) (pw_or1 (pt_not (pt_truth (pe_own (ok_p_is_whole T D) (hr.mono (by decide)) (by rfl) pass0 (pa_cons (pv 1) (pa_cons pe_non (pa_cons pe_non pa_nil)))) (by intro _; rfl)))))) (pss_one ps_never) pss_nil)
      (pss_cons (ps_if (pt_cmpR (o_eq hr.units) (pv 1) pe_int (nomark _)) (pss_one ps_never) pss_nil)
      (pss_cons (ps_set (i := 2) sc_p_fraction.nd rfl (by first | exact Or.inl rfl | exact Or.inr rfl) (pe_callBfun cr_gcd (by rfl) T.i_gcd (pa_cons (pv 0) (pa_cons (pv 1) pa_nil))))
      (C8.pss_cut (ps_if (pt_cmpR op_lt (pv 1) pe_int (nomark _)) (pss_one (ps_set (i := 2) sc_p_fraction.nd rfl (by first | exact Or.inl rfl | exact Or.inr rfl) (pe_un un_neg (pv 2)))) pss_nil)
      (pss_one (ps_ret (n_tup (pa_cons (pe_op o_fdv (pv 0) (pv 2)) (pa_cons (pe_op o_fdv (pv 1) (pv 2)) pa_nil))))))))), ?_⟩
  walk_at "rd"
  refine ite2 (fun c => ?_) (fun c => ?_)
  · exact absurd (V.int.inj (of_decide_eq_true c)) hb
  walk_at "rd"
  refine ⟨fun σ' H' => σ' = [some (.int t), some (.int b), some (.int (frC t b))] ∧ H' = H, ?_, ?_⟩
  · walk_at "rd"
    refine ite2 (fun c2 => ?_) (fun c2 => ?_)
    · have c3 : b < 0 := of_decide_eq_true c2
      have ec : -((Nat.gcd t.natAbs b.natAbs : Nat) : Int) = frC t b := by
        unfold frC gcI
        rw [if_pos c3]
      rw [← ec]
      walk_at "rd"
      first | rfl | exact ⟨rfl, rfl⟩
    · have c3 : ¬ b < 0 := fun z => c2 (decide_eq_true z)
      have ec : ((Nat.gcd t.natAbs b.natAbs : Nat) : Int) = frC t b := by
        unfold frC gcI
        rw [if_neg c3]
      rw [← ec]
      walk_at "rd"
      first | rfl | exact ⟨rfl, rfl⟩
  · rintro σ' H' ⟨rfl, rfl⟩
    have z := small_frC (t := t) hb hs
    walk_at "rd"
    rename_i p G hp sG gp
    exact q p G hp sG gp
theorem for_J {J : It} {g : TG} {tb : TS} {D : Ends} {σ : L2.St} {H : Hp} (N : Nat) (Pv : Nat → L2.St → Hp → Prop) (h0 : Pv 0 σ H) (hgo : ∀ i σ X, i < N → Pv i σ X → J.go i X) (hst : ∀ σ X, Pv N σ X → J.stop N X)
    (hs : ∀ i x σ X X', i < N → Pv i σ X → J.yld i X x X' → g x σ X' fun σ2 H2 => tb { D with nx := Pv (i + 1), ct := Pv (i + 1), bk := D.nx } σ2 H2) (hd : ∀ σ H, Pv N σ H → D.nx σ H) :
    ∃ W : Nat → Nat → L2.St → Hp → Prop, (∃ m, W 0 m σ H) ∧ ∀ i m σ H, W i m σ H →
      (J.stop i H ∧ D.nx σ H) ∨ (J.go i H ∧ ∃ N : L2.St → Hp → Prop, (∀ σ' H', N σ' H' → ∃ m', m' < m ∧ W (i + 1) m' σ' H') ∧ ∀ x H', J.yld i H x H' → g x σ H' fun σ2 H2 => tb { D with nx := N, ct := N, bk := D.nx } σ2 H2) := by
  refine ⟨fun i m σ X => m = N - i ∧ i ≤ N ∧ Pv i σ X, ⟨N, rfl, Nat.zero_le _, h0⟩, ?_⟩
  rintro i m σ X ⟨rfl, hi, p⟩
  by_cases hlt : i < N
  · exact .inr ⟨hgo i σ X hlt p, fun σ X => Pv (i + 1) σ X, fun σ' H' q => ⟨N - (i + 1), by omega, rfl, hlt, q⟩, fun x H' y => hs i x σ X H' hlt p y⟩
  · have ei : i = N := by omega
    subst ei
    exact .inl ⟨hst σ X p, hd σ X p⟩
/-- what is left of a row when a multiple of another one is taken off under its end -/
def leadP (ls : List Int) (f s : Int) (ms : List Int) : List Int := (List.range (ls.length - 1)).map fun k => ls.getD k 0 * f - (if k < ls.length - ms.length then 0 else ms.getD (k - (ls.length - ms.length)) 0) * s
/-- a row of whole numbers, a list or a tuple -/
def Seq (K : PySem.W.Frag) (H : Hp) (p : Addr) (xs : List V) : Prop := SqL K H p xs ∨ H p = some (.tup xs)
theorem Seq.same {K : PySem.W.Frag} {H G : Hp} {p : Addr} {xs : List V} (e : Same H G) (h : Seq K H p xs) : Seq K G p xs := h.imp e.seq (e _ _)
def sp_p_lead_taken_off (K : PySem.W.Frag) : Sp := fun vs H Q _ => ∃ (p r : Addr) (ls ms : List Int) (f s : Int), vs = [.ref p, .int f, .int s, .ref r] ∧ Seq K H p (ls.map V.int) ∧ H r = some (.tup (ms.map V.int)) ∧ 0 < ms.length ∧ ms.length ≤ ls.length ∧ ls.length ≤ 1000 ∧
  (∀ n ∈ ls, CMulX n f) ∧ (∀ n ∈ ms, CMulX n s) ∧ ∀ H' z, Same H H' → H z = none → H' z = some (.lst ((leadP ls f s ms).map V.int)) → Q (.ref z) H'
theorem ok_p_lead_taken_off (T : Bi K mg) (D : Df K mg) : Cal P w K mg base CX0 1 "_lead_taken_off" s_p_lead_taken_off ["left", "factor", "share", "other"] (sp_p_lead_taken_off K) := by
  refine Cal.mk' D.p_lead_taken_off (fun _ _ _ _ _ _ us hl => match us, hl with | [_, _, _, _], _ => rfl) fun f fd F => F.ok sc_p_lead_taken_off (fun vs H Q E h => ?_) (fun cdv A outer s H vs Q E hr h => ?_)
  · obtain ⟨_, _, _, _, _, _, rfl, _⟩ := h
    rfl
  obtain ⟨p, r, ls, ms, fa, sh, rfl, hp, hq, h0, h1, h2, z1, z2, q⟩ := h
  refine ⟨_, (pss_cons (ps_set (i := 4) sc_p_lead_taken_off.nd rfl (by first | exact Or.inl rfl | exact Or.inr rfl) (pe_op o_sub (pe_callB call_len (by rfl) T.b_len (by decide +kernel) (pa_cons (pv 0) pa_nil)) (pe_callB call_len (by rfl) T.b_len (by decide +kernel) (pa_cons (pv 3) pa_nil))))
      (pss_cons (ps_setLc (i := 5) (own := [("number", 8)]) (by rfl) sc_p_lead_taken_off.nd rfl rfl (sw_true rfl rfl rfl (by decide +kernel)) (pi_seq (pe_slice s_any (pv 0) po_none (po_some (pv 4)))) (blkOk_by (own := [("number", 8)]) (N := N_p_lead_taken_off) (sc := defScope s_p_lead_taken_off) (by decide +kernel)) (fun _ _ _ _ _ => (pg_name (i := 8) sc_p_lead_taken_off.nd rfl (by first | exact Or.inl rfl | exact Or.inr rfl))) (fun _ _ _ _ _ => pts_nil) (fun _ _ _ _ _ => (pe_op (show OpR _ _ (rMul K) from o_mul) (pv 8) (pv 1))))
      (pss_cons (ps_for PassesOwn.never rfl (PI.or (RZ.pi_zipA (by rfl) T.b_zip (pa_cons (pe_slice s_any (pv 0) (po_some (pv 4)) (po_some (pe_un un_neg pe_int))) (pa_cons (pv 3) pa_nil))) (pi_zm (by rfl) T.b_zip (pa_cons (pe_slice s_any (pv 0) (po_some (pv 4)) (po_some (pe_un un_neg pe_int))) (pa_cons (pv 3) pa_nil)))) (pg_any rfl (pgs_cons (pg_name (i := 6) sc_p_lead_taken_off.nd rfl (by first | exact Or.inl rfl | exact Or.inr rfl)) (pgs_cons (pg_name (i := 7) sc_p_lead_taken_off.nd rfl (by first | exact Or.inl rfl | exact Or.inr rfl)) pgs_nil))) (pss_one (ps_expr (pe_bm PySem.F.plainAttrs_list PySem.F.slot_list_append PySem.F.type_list_append mt_append (pv 5) (pa_cons (pe_op o_sub (pe_op o_mul (pv 6) (pv 1)) (pe_op o_mul (pv 7) (pv 2))) pa_nil)))))
      (pss_one (ps_ret (pv 5)))))), ?_⟩
  have hS : Seq K H p (ls.map V.int) := hp
  have el : ((List.map V.int ls).length : Int) - ((List.map V.int ms).length : Int) = ((ls.length - ms.length : Nat) : Int) := by
    rw [List.length_map, List.length_map]
    omega
  refine ⟨_, rfl, _, _, rfl, hS.imp (fun h => ⟨_, h, rfl⟩) (fun h => ⟨_, SqT.of' h, rfl⟩), _, rfl, _, _, rfl, .inr ⟨_, SqT.of' hq, rfl⟩, _, _, rfl, rfl, ?_⟩
  rw [show ((fun i j => V.int (i - j)) ((List.map V.int ls).length : Int) ((List.map V.int ms).length : Int)) = V.int ((ls.length - ms.length : Nat) : Int) from congrArg V.int el]
  have c1 : cutV (ls.map V.int) none (some ((ls.length - ms.length : Nat) : Int)) = (ls.take (ls.length - ms.length)).map V.int := by
    unfold cutV
    rw [HT.sIx_nat, HT.sIx_none, List.length_map, Nat.min_eq_left (by omega), Nat.sub_zero, List.drop_zero, List.map_take]
  have c2 : cutV (ls.map V.int) (some ((ls.length - ms.length : Nat) : Int)) (some (-1)) = ((ls.drop (ls.length - ms.length)).take (ms.length - 1)).map V.int := by
    unfold cutV
    have e1 : HT.sIx (ls.map V.int).length (ls.map V.int).length (some (-1)) = ls.length - 1 := by
      show (if (-1 : Int) < 0 then ((-1 : Int) + ((ls.map V.int).length : Int)).toNat else min (-1 : Int).toNat (ls.map V.int).length) = ls.length - 1
      rw [if_pos (by decide), List.length_map]
      omega
    rw [e1, HT.sIx_nat, List.length_map, Nat.min_eq_left (by omega), show ls.length - 1 - (ls.length - ms.length) = ms.length - 1 by omega, ← List.map_drop, ← List.map_take]
  have first : (ls.take (ls.length - ms.length)).map (fun n => n * fa) = (List.range (ls.length - ms.length)).map fun k => ls.getD k 0 * fa - (if k < ls.length - ms.length then 0 else ms.getD (k - (ls.length - ms.length)) 0) * sh := by
    apply List.ext_getElem
    · rw [List.length_map, List.length_map, List.length_take, List.length_range]
      omega
    · intro i h3 h4
      rw [List.length_map, List.length_range] at h4
      simp only [List.getElem_map, List.getElem_take, List.getElem_range]
      rw [if_pos h4, Int.zero_mul, Int.sub_zero, List.getD_eq_getElem?_getD, List.getElem?_eq_getElem (by omega)]
      rfl
  have step : ∀ i, i < ms.length - 1 → ((List.range (ls.length - ms.length + (i + 1))).map fun k => ls.getD k 0 * fa - (if k < ls.length - ms.length then 0 else ms.getD (k - (ls.length - ms.length)) 0) * sh) = ((List.range (ls.length - ms.length + i)).map fun k => ls.getD k 0 * fa - (if k < ls.length - ms.length then 0 else ms.getD (k - (ls.length - ms.length)) 0) * sh) ++ [ls.getD (ls.length - ms.length + i) 0 * fa - ms.getD i 0 * sh] := by
    intro i hi
    rw [show ls.length - ms.length + (i + 1) = ls.length - ms.length + i + 1 by omega, List.range_succ, List.map_append, List.map_cons, List.map_nil, if_neg (by omega), show ls.length - ms.length + i - (ls.length - ms.length) = i by omega]
  have lastP : ls.length - ms.length + (ms.length - 1) = ls.length - 1 := by omega
  have gx : ∀ i, i < ms.length - 1 → ((((ls.drop (ls.length - ms.length)).take (ms.length - 1)).map V.int))[i]? = some (V.int (ls.getD (ls.length - ms.length + i) 0)) := by
    intro i hi
    rw [List.getElem?_map, List.getElem?_take, if_pos hi, List.getElem?_drop, List.getD_eq_getElem?_getD, List.getElem?_eq_getElem (by omega)]
    rfl
  have gy : ∀ i, i < ms.length - 1 → (ms.map V.int)[i]? = some (V.int (ms.getD i 0)) := by
    intro i hi
    rw [List.getElem?_map, List.getD_eq_getElem?_getD, List.getElem?_eq_getElem (by omega)]
    rfl
  have lx : ((((ls.drop (ls.length - ms.length)).take (ms.length - 1)).map V.int)).length = ms.length - 1 := by
    rw [List.length_map, List.length_take, List.length_drop]
    omega
  rcases hS with hL | hT
  · refine Or.inl ⟨_, rfl, _, rfl, _, rfl, Or.inl ⟨_, _, rfl, hL, fun zz1 K1 hz1 t1 g1 => ?_⟩⟩
    rw [c1] at g1
    refine ⟨zz1, rfl, ⟨_, SqL.of' g1⟩, ?_⟩
    intro D hD
    refine lc_mapL (fun n => V.int (n * fa)) (SqL.of' g1) hD (by rw [List.length_take]; omega) (fun n X R P hn sX r => ⟨rfl, ?_⟩) (fun X sX gX => ?_)
    · exact ⟨_, rfl, _, rfl, Or.inr (Or.inl ⟨_, _, rfl, rfl, z1 n (List.mem_of_mem_take hn), r⟩)⟩
    have gX' : X D = some (.lst (((List.range (ls.length - ms.length + 0)).map fun k => ls.getD k 0 * fa - (if k < ls.length - ms.length then 0 else ms.getD (k - (ls.length - ms.length)) 0) * sh).map V.int)) := by
      rw [gX, Nat.add_zero, ← first, List.map_map]
      rfl
    have sH1 : Same H X := t1.trans sX
    have nD : H D = none := t1.free hD
    refine Or.inr ⟨_, rfl, _, rfl, _, rfl, _, rfl, _, rfl, Or.inl ⟨_, _, rfl, sH1.seq hL, fun zz2 K2 hz2 t2 g2 => ?_⟩⟩
    rw [c2] at g2
    have nzD : zz2 ≠ D := fun e => by rw [e] at hz2; rw [hz2] at gX'; cases gX'
    have sH2 : Same H K2 := sH1.trans t2
    have gD2 := t2 _ _ gX'
    refine ⟨_, rfl, zz2, r, _, _, rfl, SqL.of' g2, SqT.of' (sH2 _ _ hq), ?_⟩
    refine for_J (ms.length - 1) (fun i σ Y => ∃ y6 y7 y8, σ = [some (.ref p), some (.int fa), some (.int sh), some (.ref r), some (.int ((ls.length - ms.length : Nat) : Int)), some (.ref D), y6, y7, y8] ∧ Same H Y ∧ Y zz2 = some (HO.lst (((ls.drop (ls.length - ms.length)).take (ms.length - 1)).map V.int)) ∧
      Y D = some (.lst (((List.range (ls.length - ms.length + i)).map fun k => ls.getD k 0 * fa - (if k < ls.length - ms.length then 0 else ms.getD (k - (ls.length - ms.length)) 0) * sh).map V.int))) ?_ ?_ ?_ ?_ ?_
    · exact ⟨_, _, _, rfl, sH2, g2, gD2⟩
    · rintro i σ Y hi ⟨y6, y7, y8, rfl, sY, gz, gD⟩
      exact ⟨SqL.of' gz, SqT.of' (sY _ _ hq), by rw [lx]; exact hi, by rw [List.length_map]; omega⟩
    · rintro σ Y ⟨y6, y7, y8, rfl, sY, gz, gD⟩
      exact ⟨SqL.of' gz, SqT.of' (sY _ _ hq), by rw [lx, List.length_map]; omega⟩
    · rintro i x σ Y Y' hi ⟨y6, y7, y8, rfl, sY, gz, gD⟩ ⟨T, x', y', rfl, hT', eY, ex, ey⟩
      rw [gx i hi] at ex
      rw [gy i hi] at ey
      obtain rfl := Option.some.inj ex
      obtain rfl := Option.some.inj ey
      have sY' : Same H Y' := sY.trans (by rw [eY]; exact same_new hT')
      have gD' := (show Y' D = Y D by rw [eY]; exact upd_ne (ne_of_none gD hT')).trans gD
      have gz' := (show Y' zz2 = Y zz2 by rw [eY]; exact upd_ne (ne_of_none gz hT')).trans gz
      have gT : Y' T = some (.tup [.int (ls.getD (ls.length - ms.length + i) 0), .int (ms.getD i 0)]) := by rw [eY]; exact upd_same
      have m1 : ls.getD (ls.length - ms.length + i) 0 ∈ ls := by
        rw [List.getD_eq_getElem?_getD, List.getElem?_eq_getElem (by omega)]
        exact List.getElem_mem _
      have m2 : ms.getD i 0 ∈ ms := by
        rw [List.getD_eq_getElem?_getD, List.getElem?_eq_getElem (by omega)]
        exact List.getElem_mem _
      refine Or.inl ⟨T, _, rfl, SqT.of' gT, rfl, _, _, rfl, _, _, rfl, rfl, ?_⟩
      refine ⟨_, rfl, .inl ⟨rfl, _, SqL.of' gD'⟩, ?_⟩
      refine ⟨_, rfl, _, rfl, Or.inr (Or.inl ⟨_, _, rfl, rfl, z1 _ m1, ?_⟩)⟩
      refine ⟨_, rfl, _, rfl, Or.inr (Or.inl ⟨_, _, rfl, rfl, z2 _ m2, ?_⟩)⟩
      refine ⟨_, _, rfl, rfl, ?_⟩
      refine ⟨D, _, _, rfl, rfl, gD', ?_, ?_⟩
      · rw [List.length_map, List.length_map, List.length_range]
        exact Nat.lt_of_lt_of_le (show ls.length - ms.length + i < 100000 by omega) (by decide)
      · refine ⟨_, _, _, rfl, fun b o hb => ?_, (upd_ne nzD).trans gz', ?_⟩
        · rw [upd_ne (ne_of_none hb nD)]
          exact sY' b o hb
        · rw [upd_same, step i hi, List.map_append]
          rfl
    · rintro σ Y ⟨y6, y7, y8, rfl, sY, gz, gD⟩
      refine ⟨_, rfl, q Y D sY nD ?_⟩
      rw [gD, lastP]
      rfl
  · refine Or.inr ⟨_, rfl, _, rfl, _, rfl, Or.inr (Or.inl ⟨_, _, rfl, SqT.of' hT, fun hw => ?_, fun _ zz1 K1 hz1 t1 g1 => ?_⟩)⟩
    · have h5 := hw.2
      rw [HT.sIx_nat, List.length_map, Nat.min_eq_left (by omega)] at h5
      omega
    rw [c1] at g1
    refine ⟨zz1, rfl, ⟨_, SqT.of' g1⟩, ?_⟩
    intro D hD
    refine lc_mapT (fun n => V.int (n * fa)) (SqT.of' g1) hD (by rw [List.length_take]; omega) (fun n X R P hn sX r => ⟨rfl, ?_⟩) (fun X sX gX => ?_)
    · exact ⟨_, rfl, _, rfl, Or.inr (Or.inl ⟨_, _, rfl, rfl, z1 n (List.mem_of_mem_take hn), r⟩)⟩
    have gX' : X D = some (.lst (((List.range (ls.length - ms.length + 0)).map fun k => ls.getD k 0 * fa - (if k < ls.length - ms.length then 0 else ms.getD (k - (ls.length - ms.length)) 0) * sh).map V.int)) := by
      rw [gX, Nat.add_zero, ← first, List.map_map]
      rfl
    have sH1 : Same H X := t1.trans sX
    have nD : H D = none := t1.free hD
    refine Or.inl ⟨_, rfl, _, rfl, _, rfl, _, rfl, _, rfl, Or.inr (Or.inl ⟨_, _, rfl, SqT.of' (sH1 _ _ hT), fun hw => ?_, fun _ zz2 K2 hz2 t2 g2 => ?_⟩)⟩
    · have h5 := hw.2
      have e1 : HT.sIx (ls.map V.int).length (ls.map V.int).length (some (-1)) = ls.length - 1 := by
        show (if (-1 : Int) < 0 then ((-1 : Int) + ((ls.map V.int).length : Int)).toNat else min (-1 : Int).toNat (ls.map V.int).length) = ls.length - 1
        rw [if_pos (by decide), List.length_map]
        omega
      rw [e1, List.length_map] at h5
      omega
    rw [c2] at g2
    have nzD : zz2 ≠ D := fun e => by rw [e] at hz2; rw [hz2] at gX'; cases gX'
    have sH2 : Same H K2 := sH1.trans t2
    have gD2 := t2 _ _ gX'
    refine ⟨_, rfl, zz2, r, _, _, rfl, Or.inr ⟨SqT.of' g2, SqT.of' (sH2 _ _ hq), ?_⟩⟩
    refine for_J (ms.length - 1) (fun i σ Y => ∃ y6 y7 y8, σ = [some (.ref p), some (.int fa), some (.int sh), some (.ref r), some (.int ((ls.length - ms.length : Nat) : Int)), some (.ref D), y6, y7, y8] ∧ Same H Y ∧ Y zz2 = some (HO.tup (((ls.drop (ls.length - ms.length)).take (ms.length - 1)).map V.int)) ∧
      Y D = some (.lst (((List.range (ls.length - ms.length + i)).map fun k => ls.getD k 0 * fa - (if k < ls.length - ms.length then 0 else ms.getD (k - (ls.length - ms.length)) 0) * sh).map V.int))) ?_ ?_ ?_ ?_ ?_
    · exact ⟨_, _, _, rfl, sH2, g2, gD2⟩
    · rintro i σ Y hi ⟨y6, y7, y8, rfl, sY, gz, gD⟩
      exact ⟨_, _, _, _, SqT.of' gz, SqT.of' (sY _ _ hq), gx i hi, gy i hi⟩
    · rintro σ Y ⟨y6, y7, y8, rfl, sY, gz, gD⟩
      exact ⟨_, _, SqT.of' gz, SqT.of' (sY _ _ hq), .inl (by rw [lx]; exact Nat.le_refl _)⟩
    · rintro i x σ Y Y' hi ⟨y6, y7, y8, rfl, sY, gz, gD⟩ ⟨T, x', y', rfl, hT', eY, ex, ey⟩
      have ex := ex _ (SqT.of' gz)
      have ey := ey _ (SqT.of' (sY _ _ hq))
      rw [gx i hi] at ex
      rw [gy i hi] at ey
      obtain rfl := Option.some.inj ex
      obtain rfl := Option.some.inj ey
      have sY' : Same H Y' := sY.trans (by rw [eY]; exact same_new hT')
      have gD' := (show Y' D = Y D by rw [eY]; exact upd_ne (ne_of_none gD hT')).trans gD
      have gz' := (show Y' zz2 = Y zz2 by rw [eY]; exact upd_ne (ne_of_none gz hT')).trans gz
      have gT : Y' T = some (.tup [.int (ls.getD (ls.length - ms.length + i) 0), .int (ms.getD i 0)]) := by rw [eY]; exact upd_same
      have m1 : ls.getD (ls.length - ms.length + i) 0 ∈ ls := by
        rw [List.getD_eq_getElem?_getD, List.getElem?_eq_getElem (by omega)]
        exact List.getElem_mem _
      have m2 : ms.getD i 0 ∈ ms := by
        rw [List.getD_eq_getElem?_getD, List.getElem?_eq_getElem (by omega)]
        exact List.getElem_mem _
      refine Or.inl ⟨T, _, rfl, SqT.of' gT, rfl, _, _, rfl, _, _, rfl, rfl, ?_⟩
      refine ⟨_, rfl, .inl ⟨rfl, _, SqL.of' gD'⟩, ?_⟩
      refine ⟨_, rfl, _, rfl, Or.inr (Or.inl ⟨_, _, rfl, rfl, z1 _ m1, ?_⟩)⟩
      refine ⟨_, rfl, _, rfl, Or.inr (Or.inl ⟨_, _, rfl, rfl, z2 _ m2, ?_⟩)⟩
      refine ⟨_, _, rfl, rfl, ?_⟩
      refine ⟨D, _, _, rfl, rfl, gD', ?_, ?_⟩
      · rw [List.length_map, List.length_map, List.length_range]
        exact Nat.lt_of_lt_of_le (show ls.length - ms.length + i < 100000 by omega) (by decide)
      · refine ⟨_, _, _, rfl, fun b o hb => ?_, (upd_ne nzD).trans gz', ?_⟩
        · rw [upd_ne (ne_of_none hb nD)]
          exact sY' b o hb
        · rw [upd_same, step i hi, List.map_append]
          rfl
    · rintro σ Y ⟨y6, y7, y8, rfl, sY, gz, gD⟩
      refine ⟨_, rfl, q Y D sY nD ?_⟩
      rw [gD, lastP]
      rfl
def lastI (l : List Int) : Int := l.getD (l.length - 1) 0
def fP (ls ms : List Int) : Int := (lastI ms).fdiv (gcI (lastI ls) (lastI ms))
def sP (ls ms : List Int) : Int := (lastI ls).fdiv (gcI (lastI ls) (lastI ms))
/-- the steps of a division: what falls off, the scale and what is left -/
def runP (ms : List Int) : Nat → Int → List Int → List (Int × Int) × Int × List Int
  | 0, S, ls => ([], S, ls)
  | n + 1, S, ls => ((sP ls ms, S * fP ls ms) :: (runP ms n (S * fP ls ms) (leadP ls (fP ls ms) (sP ls ms) ms)).1, (runP ms n (S * fP ls ms) (leadP ls (fP ls ms) (sP ls ms) ms)).2)
/-- fractions of tops and bottoms stand one by one -/
def FrsAt (H : Hp) : List Addr → List (Int × Int) → Prop
  | [], [] => True
  | p :: ps, x :: xs => H p = some (.tup [.int (frT x.1 x.2), .int (frB x.1 x.2)]) ∧ FrsAt H ps xs
  | _, _ => False
theorem FrsAt.same {H G : Hp} (e : Same H G) : ∀ {ps : List Addr} {xs : List (Int × Int)}, FrsAt H ps xs → FrsAt G ps xs
  | [], [], _ => True.intro
  | _ :: _, _ :: _, h => ⟨e _ _ h.1, FrsAt.same e h.2⟩
theorem FrsAt.snoc {H : Hp} {p : Addr} {x : Int × Int} (g : H p = some (.tup [.int (frT x.1 x.2), .int (frB x.1 x.2)])) : ∀ {ps : List Addr} {xs : List (Int × Int)}, FrsAt H ps xs → FrsAt H (ps ++ [p]) (xs ++ [x])
  | [], [], _ => ⟨g, True.intro⟩
  | _ :: _, _ :: _, h => ⟨h.1, FrsAt.snoc g h.2⟩
theorem FrsAt.rev {H : Hp} : ∀ {ps : List Addr} {xs : List (Int × Int)}, FrsAt H ps xs → FrsAt H ps.reverse xs.reverse
  | [], [], _ => True.intro
  | _ :: _, _ :: _, h => by
    rw [List.reverse_cons, List.reverse_cons]
    exact FrsAt.snoc h.1 (FrsAt.rev h.2)
theorem FrsAt.upd {H : Hp} {F : Addr} {o : HO} {us : List V} (hF : H F = some (.lst us)) : ∀ {ps : List Addr} {xs : List (Int × Int)}, FrsAt H ps xs → FrsAt (upd H F o) ps xs
  | [], [], _ => True.intro
  | p :: _, _ :: _, h => by
    have n : p ≠ F := fun e => by
      have := h.1
      rw [e, hF] at this
      cases this
    exact ⟨(upd_ne n).trans h.1, FrsAt.upd hF h.2⟩
theorem FrsAt.len {H : Hp} : ∀ {ps : List Addr} {xs : List (Int × Int)}, FrsAt H ps xs → ps.length = xs.length
  | [], [], _ => rfl
  | _ :: _, _ :: _, h => by rw [List.length_cons, List.length_cons, FrsAt.len h.2]
theorem sz_sub2 {j : Nat} {n m : Int} (h : sz j n) (e : sz j m) : sz (j + 1) (n - m) := by
  unfold sz at *
  rw [Nat.pow_succ]
  omega
theorem at_last {ls : List Int} (h : 0 < ls.length) : atI (ls.map V.int) (-1) = some (V.int (lastI ls)) := by
  have e : (ls.map V.int)[ls.length - 1]? = some (V.int (lastI ls)) := by
    unfold lastI
    rw [List.getElem?_map, List.getD_eq_getElem?_getD, List.getElem?_eq_getElem (by omega)]
    rfl
  unfold atI ixN
  rw [if_neg (by decide), if_pos (by rw [List.length_map]; omega)]
  show (ls.map V.int)[((-1 : Int) + ((ls.map V.int).length : Int)).toNat]? = _
  rw [show ((-1 : Int) + ((ls.map V.int).length : Int)).toNat = ls.length - 1 by rw [List.length_map]; omega]
  exact e
theorem sz_zero0 (k : Nat) : sz k 0 := by
  show (0 : Int).natAbs < 2 ^ k
  exact Nat.pow_pos (by decide)
theorem getD_sz0 {ns : List Int} {a : Nat} (h : ∀ n ∈ ns, sz a n) (i : Nat) : sz a (ns.getD i 0) := by
  rw [List.getD_eq_getElem?_getD]
  cases e : ns[i]? with
  | none => exact sz_zero0 a
  | some n => exact h n (List.mem_of_getElem? e)
theorem fdiv_part {b c : Int} (hc : 0 < c) (hd : c ∣ b) : b = c * b.fdiv c ∧ (b.fdiv c).natAbs ≤ b.natAbs := by
  obtain ⟨q, rfl⟩ := hd
  rw [Int.mul_fdiv_cancel_left _ (by omega)]
  refine ⟨rfl, ?_⟩
  rw [Int.natAbs_mul]
  exact Nat.le_mul_of_pos_left _ (by omega)
theorem sz_leadP {ls ms : List Int} {f s : Int} {a k : Nat} (h1 : ∀ n ∈ ls, sz a n) (h2 : ∀ n ∈ ms, sz k n) (hf : sz k f) (hs : sz a s) : ∀ n ∈ leadP ls f s ms, sz (a + (k + 1)) n := by
  intro n hn
  unfold leadP at hn
  obtain ⟨j, _, rfl⟩ := List.mem_map.mp hn
  refine sz_mono (sz_sub2 (sz_mul (getD_sz0 h1 j) hf) ?_) (show a + k + 1 ≤ a + (k + 1) by omega)
  split
  · rw [Int.zero_mul]
    exact sz_zero0 _
  · rw [Nat.add_comm a k]
    exact sz_mul (getD_sz0 h2 _) hs
theorem leadP_len (ls : List Int) (f s : Int) (ms : List Int) : (leadP ls f s ms).length = ls.length - 1 := by
  unfold leadP
  rw [List.length_map, List.length_range]
theorem lastI_mem {l : List Int} (h : 0 < l.length) : lastI l ∈ l := by
  unfold lastI
  rw [List.getD_eq_getElem?_getD, List.getElem?_eq_getElem (by omega)]
  exact List.getElem_mem _
theorem lastI_ne {l : List Int} (h : 0 < l.length) (hb : Bare l) : lastI l ≠ 0 := by
  refine hb _ ?_
  unfold lastI
  rw [List.getLast?_eq_getElem?, List.getD_eq_getElem?_getD, List.getElem?_eq_getElem (by omega)]
  rfl
def sp_p_divided (K : PySem.W.Frag) : Sp := fun vs H Q _ => ∃ (p r : Addr) (ns ms : List Int) (k : Nat), vs = [.ref p, .ref r] ∧ PolyAt H p ns ∧ PolyAt H r ms ∧ 0 < ms.length ∧ ns.length ≤ 100 ∧ ms.length ≤ 100 ∧ (∀ n ∈ ns, sz k n) ∧ (∀ n ∈ ms, sz k n) ∧ k + (ns.length + 1) * (k + 1) ≤ 7900 ∧
  ∀ H' z q' r' fs rs, Same H H' → H' z = some (.tup [.ref q', .ref r']) → H' q' = some (.tup (fs.map V.ref)) → H' r' = some (.tup (rs.map V.ref)) → FrsAt H' fs (runP ms (ns.length + 1 - ms.length) 1 ns).1.reverse →
    FrsAt H' rs ((bare (runP ms (ns.length + 1 - ms.length) 1 ns).2.2).map fun n => (n, (runP ms (ns.length + 1 - ms.length) 1 ns).2.1)) → Q (.ref z) H'
theorem ok_p_divided (T : Bi K mg) (D : Df K mg) : Cal P w K mg base CX0 5 "divided" s_p_divided ["one", "other"] (sp_p_divided K) := by
  refine Cal.mk' D.p_divided (fun _ _ _ _ _ _ us hl => match us, hl with | [_, _], _ => rfl) fun f fd F => F.ok sc_p_divided (fun vs H Q E h => ?_) (fun cdv A outer s H vs Q E hr h => ?_)
  · obtain ⟨_, _, _, _, _, rfl, _⟩ := h
    rfl
  obtain ⟨p, r, ns, ms, k, rfl, hp, hq, h0, h1, h2, z1, z2, hk, q⟩ := h
  refine ⟨_, (pss_cons (ps_expr (pe_own (ok_p_need_poly T D) (hr.mono (by decide)) (by rfl) pass0 (pa_cons (pv 0) pa_nil)))
      (pss_cons (ps_expr (pe_own (ok_p_need_poly T D) (hr.mono (by decide)) (by rfl) pass0 (pa_cons (pv 1) pa_nil)))
      (pss_cons (ps_if (pt_not (pt_truth (pv 1) (by intro _; rfl))) (pss_one ps_never) pss_nil)
      (pss_cons (ps_set (i := 2) sc_p_divided.nd rfl (by first | exact Or.inl rfl | exact Or.inr rfl) (pv 0))
      (pss_cons (ps_set (i := 3) sc_p_divided.nd rfl (by first | exact Or.inl rfl | exact Or.inr rfl) pe_int)
      (pss_cons (ps_set (i := 4) sc_p_divided.nd rfl (by first | exact Or.inl rfl | exact Or.inr rfl) (n_lst pa_nil))
      (pss_cons (ps_while PassesOwn.never (pt_cmpR op_ge (pe_callB call_len (by rfl) T.b_len (by decide +kernel) (pa_cons (pv 2) pa_nil)) (pe_callB call_len (by rfl) T.b_len (by decide +kernel) (pa_cons (pv 1) pa_nil)) (nomark _)) (pss_cons (ps_set (i := 5) sc_p_divided.nd rfl (by first | exact Or.inl rfl | exact Or.inr rfl) (pe_callBfun cr_gcd (by rfl) T.i_gcd (pa_cons (pe_ix ix_seq (pv 2) (pe_un un_neg pe_int) (fun _ _ => rfl)) (pa_cons (pe_ix ix_seq (pv 1) (pe_un un_neg pe_int) (fun _ _ => rfl)) pa_nil))))
      (pss_cons (ps_set (i := 6) sc_p_divided.nd rfl (by first | exact Or.inl rfl | exact Or.inr rfl) (pe_op o_fdv (pe_ix ix_seq (pv 1) (pe_un un_neg pe_int) (fun _ _ => rfl)) (pv 5)))
      (pss_cons (ps_set (i := 7) sc_p_divided.nd rfl (by first | exact Or.inl rfl | exact Or.inr rfl) (pe_op o_fdv (pe_ix ix_seq (pv 2) (pe_un un_neg pe_int) (fun _ _ => rfl)) (pv 5)))
      (pss_cons (ps_aug (i := 3) sc_p_divided.nd rfl (by first | exact Or.inl rfl | exact Or.inr rfl) (pv 6) ip_mulW)
      (pss_cons (ps_expr (pe_bm PySem.F.plainAttrs_list PySem.F.slot_list_append PySem.F.type_list_append mt_append (pv 4) (pa_cons (pe_ownD 2 1 (ok_p_fraction T D) (by simp) rfl (fun _ _ _ _ _ _ _ us its h1 h2 => match us, its, h1, h2 with | [_, _], [_], _, _ => ⟨_, rfl, rfl⟩) (hr.mono (by decide)) (by rfl) pass0 (pa_cons (pv 7) (pa_cons (pv 3) pa_nil))) pa_nil)))
      (pss_one (ps_set (i := 2) sc_p_divided.nd rfl (by first | exact Or.inl rfl | exact Or.inr rfl) (pe_own (ok_p_lead_taken_off T D) (hr.mono (by decide)) (by rfl) pass0 (pa_cons (pv 2) (pa_cons (pv 6) (pa_cons (pv 7) (pa_cons (pv 1) pa_nil)))))))))))))
      (pss_cons (ps_setLc (i := 8) (own := [("number", 9)]) (by rfl) sc_p_divided.nd rfl rfl (sw_true rfl rfl rfl (by decide +kernel)) (pi_seq (pe_own (ok_p_without_noughts T D) (hr.mono (by decide)) (by rfl) pass0 (pa_cons (pv 2) pa_nil))) (blkOk_by (own := [("number", 9)]) (N := N_p_divided) (sc := defScope s_p_divided) (by decide +kernel)) (fun _ _ _ _ _ => (pg_name (i := 9) sc_p_divided.nd rfl (by first | exact Or.inl rfl | exact Or.inr rfl))) (fun _ _ _ _ _ => pts_nil) (fun _ _ _ _ _ => (pe_ownD 2 1 (ok_p_fraction T D) (by simp) rfl (fun _ _ _ _ _ _ _ us its h1 h2 => match us, its, h1, h2 with | [_, _], [_], _, _ => ⟨_, rfl, rfl⟩) (hr.mono (by decide)) (by rfl) pass0 (pa_cons (pv 9) (pa_cons (pv 3) pa_nil)))))
      (pss_one (ps_ret (n_tup (pa_cons (pe_callTy c_tuple (by rfl) T.b_tuple (by decide +kernel) (pa_cons (pe_revL (pv 4)) pa_nil)) (pa_cons (pe_callTy c_tuple (by rfl) T.b_tuple (by decide +kernel) (pa_cons (pv 8) pa_nil)) pa_nil))))))))))))), ?_⟩
  refine ⟨_, rfl, ⟨p, ns, rfl, hp, by omega, fun H1 s1 => ?_⟩⟩
  refine ⟨_, rfl, ⟨r, ms, rfl, hq.same s1, by omega, fun H2 s2 => ?_⟩⟩
  have hp2 := hp.same (s1.trans s2)
  have hq2 := hq.same (s1.trans s2)
  refine ⟨_, rfl, !(ms.map V.int).isEmpty, .inr (.inl ⟨_, SqT.of' hq2.get, rfl⟩), ?_⟩
  have e : (ms.map V.int).isEmpty = false := by
    cases ms with
    | nil => exact absurd h0 (by decide)
    | cons a b => rfl
  rw [e]
  refine iteF ?_
  refine ⟨_, rfl, ?_⟩
  refine ⟨by walk_at "sz", fun F G hF0 sG gF => ?_⟩
  have lm := lastI_ne h0 hq.bare
  have hTT : (ns.length + 1 - ms.length) * (k + 1) ≤ (ns.length + 1) * (k + 1) := Nat.mul_le_mul_right _ (by omega)
  obtain ⟨T', hT'⟩ : ∃ t, t = ns.length + 1 - ms.length := ⟨_, rfl⟩
  rw [← hT'] at hTT q
  obtain ⟨W, hW⟩ : ∃ W : Nat → L2.St → Hp → Prop, W = fun m σ X => ∃ (L : Addr) (ls : List Int) (S : Int) (fs : List Addr) (done : List (Int × Int)) (y5 y6 y7 y8 y9 : Option V), σ = [some (.ref p), some (.ref r), some (.ref L), some (.int S), some (.ref F), y5, y6, y7, y8, y9] ∧ Seq K X L (ls.map V.int) ∧ X F = some (.lst (fs.map V.ref)) ∧ FrsAt X fs done ∧ Same H X ∧
    m ≤ T' ∧ ls.length + T' = ns.length + m ∧ S ≠ 0 ∧ sz (1 + (T' - m) * k) S ∧ (∀ n ∈ ls, sz (k + (T' - m) * (k + 1)) n) ∧ runP ms T' 1 ns = (done ++ (runP ms m S ls).1, (runP ms m S ls).2) ∧ fs.length + m = T' ∧ L ≠ F := ⟨_, rfl⟩
  refine ⟨W, ⟨T', ?_⟩, ?_⟩
  · rw [hW]
    refine ⟨p, ns, 1, [], [], _, _, _, _, _, rfl, .inr ((hp2.same sG).get), gF, True.intro, (s1.trans s2).trans sG, Nat.le_refl _, rfl, by decide, ?_, ?_, rfl, by simp, fun e => ?_⟩
    · rw [Nat.sub_self, Nat.zero_mul]
      exact sz_lit
    · rw [Nat.sub_self, Nat.zero_mul]
      exact z1
    · have g := (hp2.same sG).get
      rw [e, gF] at g
      cases g
  intro m σ X hw
  rw [hW] at hw
  obtain ⟨L, ls, S, fs, done, y5, y6, y7, y8, y9, rfl, hS, gX, hF, sX, hm, hl, hS0, zS, zl, hrun, hfs, hLF⟩ := hw
  have hqX := hq.same sX
  refine ⟨_, rfl, _, _, rfl, hS.imp (fun h => ⟨_, h, rfl⟩) (fun h => ⟨_, SqT.of' h, rfl⟩), _, rfl, _, _, rfl, .inr ⟨_, SqT.of' hqX.get, rfl⟩, _, _, rfl, rfl, ?_⟩
  rw [List.length_map, List.length_map]
  refine ⟨_, rfl, ite2 (fun c => ?_) (fun c => ?_)⟩
  · have c' : (ms.length : Int) ≤ ls.length := of_decide_eq_true c
    obtain ⟨m', rfl⟩ : ∃ m', m = m' + 1 := ⟨m - 1, by omega⟩
    refine ⟨W m', fun σ' X' h => ⟨m', Nat.lt_succ_self _, h⟩, ?_⟩
    have l0 : 0 < ls.length := by omega
    have hc := gcI_pos (t := lastI ls) lm
    have d1 := fdiv_part hc (gcI_dl (lastI ls) (lastI ms))
    have d2 := fdiv_part hc (gcI_dr (lastI ls) (lastI ms))
    have sub : T' - m' = T' - (m' + 1) + 1 := by omega
    have e1 : (T' - m') * (k + 1) = (T' - (m' + 1)) * (k + 1) + (k + 1) := by rw [sub, Nat.add_mul, Nat.one_mul]
    have e2 : (T' - m') * k = (T' - (m' + 1)) * k + k := by rw [sub, Nat.add_mul, Nat.one_mul]
    have b1 : (T' - m') * (k + 1) ≤ T' * (k + 1) := Nat.mul_le_mul_right _ (by omega)
    have b2 : (T' - m') * k ≤ (T' - m') * (k + 1) := Nat.mul_le_mul_left _ (by omega)
    have zf : sz k (fP ls ms) := sz_le d2.2 (z2 _ (lastI_mem h0))
    have zs : sz (k + (T' - (m' + 1)) * (k + 1)) (sP ls ms) := sz_le d1.2 (zl _ (lastI_mem l0))
    have sc : small (gcI (lastI ls) (lastI ms)) := by
      refine small_le ?_ (sz_small (z2 _ (lastI_mem h0)) (by omega))
      unfold gcI
      rw [Int.natAbs_natCast]
      exact Nat.gcd_le_right _ (Int.natAbs_pos.mpr lm)
    have hf0 : fP ls ms ≠ 0 := fun z => lm (by rw [d2.1]; show gcI (lastI ls) (lastI ms) * fP ls ms = 0; rw [z, Int.mul_zero])
    have ixS : ∀ R : VK, R (V.int (lastI ls)) X → rIx K (V.ref L) (V.int (-1)) X R := fun R hr => hS.elim (fun h => Or.inl ⟨_, _, _, _, rfl, rfl, h, at_last l0, hr⟩) (fun h => Or.inr (Or.inl ⟨_, _, _, _, rfl, rfl, SqT.of' h, at_last l0, hr⟩))
    have ixM : ∀ R : VK, R (V.int (lastI ms)) X → rIx K (V.ref r) (V.int (-1)) X R := fun R hr => Or.inr (Or.inl ⟨_, _, _, _, rfl, rfl, SqT.of' hqX.get, at_last h0, hr⟩)
    refine ⟨_, rfl, _, rfl, ixS _ ?_⟩
    refine ⟨_, rfl, _, rfl, ixM _ ?_⟩
    refine ⟨_, _, rfl, ?_⟩
    refine ⟨_, rfl, _, rfl, ixM _ ?_⟩
    have cd : ∀ i, CDivZ i (gcI (lastI ls) (lastI ms)) := fun i => ⟨by omega, Nat.lt_of_lt_of_le (PySem.Flt.log2_lt_of (k := 8000) (by decide) sc) (by decide)⟩
    refine ⟨_, rfl, Or.inr ⟨_, _, rfl, rfl, cd _, ?_⟩⟩
    refine ⟨_, rfl, _, rfl, ixS _ ?_⟩
    refine ⟨_, rfl, Or.inr ⟨_, _, rfl, rfl, cd _, ?_⟩⟩
    have hS1 : S * fP ls ms ≠ 0 := Int.mul_ne_zero hS0 hf0
    have zS1 : sz (1 + (T' - m') * k) (S * fP ls ms) := sz_mono (sz_mul zS zf) (by omega)
    refine ⟨_, rfl, _, rfl, ⟨_, _, rfl, rfl, sz_mulx zS zf (by omega), ?_⟩⟩
    refine ⟨_, rfl, .inl ⟨rfl, _, SqL.of' gX⟩, ?_⟩
    refine ⟨_, rfl, _, rfl, ⟨sP ls ms, S * fP ls ms, rfl, hS1, sz_small zS1 (by omega), fun u Gu hu su gu => ?_⟩⟩
    have gXu := su _ _ gX
    refine ⟨F, _, _, rfl, rfl, gXu, ?_, ?_⟩
    · rw [List.length_map]
      exact Nat.lt_of_lt_of_le (show fs.length < 1000 by omega) (by decide)
    have uF : u ≠ F := fun e => by rw [e] at hu; rw [hu] at gX; cases gX
    have hFH : H F = none := ((s1.trans s2).free hF0)
    have cY : Ch F Gu (upd Gu F (.lst (fs.map V.ref ++ [V.ref u]))) := (Ch.refl F Gu).at
    have sY : Same H (upd Gu F (.lst (fs.map V.ref ++ [V.ref u]))) := fun b o hb => by
      rw [upd_ne (ne_of_none hb hFH)]
      exact su _ _ (sX b o hb)
    have seqY : Seq K (upd Gu F (.lst (fs.map V.ref ++ [V.ref u]))) L (ls.map V.int) := (Seq.same su hS).imp (fun h => cY.seq gXu (.inr hLF) h) (fun h => (upd_ne hLF).trans h)
    refine ⟨_, rfl, _, rfl, _, rfl, _, rfl, ⟨L, r, ls, ms, fP ls ms, sP ls ms, rfl, seqY, (hq.same sY).get, h0, by omega, by omega, fun n hn => sz_mulx (zl n hn) zf (by omega), fun n hn => sz_mulx (z2 n hn) zs (by omega), fun H' L' s' nL gL => ?_⟩⟩
    show W m' _ H'
    rw [hW]
    refine ⟨L', leadP ls (fP ls ms) (sP ls ms) ms, S * fP ls ms, fs ++ [u], done ++ [(sP ls ms, S * fP ls ms)], _, _, _, _, _, rfl, .inl (SqL.of' gL), ?_, ?_, sY.trans s', by omega, ?_, hS1, zS1, ?_, ?_, ?_, ?_⟩
    · rw [s' _ _ upd_same, List.map_append]
      rfl
    · exact (FrsAt.snoc ((upd_ne uF).trans gu) (FrsAt.upd gXu (hF.same su))).same s'
    · rw [leadP_len]
      omega
    · intro n hn
      refine sz_mono (sz_leadP zl z2 zf zs n hn) ?_
      omega
    · rw [hrun]
      show (done ++ ((sP ls ms, S * fP ls ms) :: _), _) = _
      rw [List.append_assoc]
      rfl
    · rw [List.length_append, List.length_singleton]
      omega
    · intro e
      rw [e, upd_same] at nL
      cases nL
  · have c' : ¬ (ms.length : Int) ≤ ls.length := fun h => c (decide_eq_true h)
    obtain rfl : m = 0 := by omega
    have hrun0 : (runP ms T' 1 ns).1 = done ∧ (runP ms T' 1 ns).2.1 = S ∧ (runP ms T' 1 ns).2.2 = ls := by
      rw [hrun]
      exact ⟨List.append_nil _, rfl, rfl⟩
    have bT : T' * k ≤ T' * (k + 1) := Nat.mul_le_mul_left _ (by omega)
    have smS : small S := sz_small zS (by rw [Nat.sub_zero]; omega)
    refine Or.inr ⟨_, rfl, ⟨L, ls, rfl, hS.imp id id, by omega, fun X1 b1 t1 B1 => ?_⟩⟩
    refine ⟨b1, rfl, ⟨_, SqT.of' B1.get⟩, ?_⟩
    intro D hD
    have lb := bare_len ls
    refine lc_tup (xs := (bare ls).map V.int) (fun i Y => ∃ rs : List Addr, Y D = some (.lst (rs.map V.ref)) ∧ FrsAt Y rs (((bare ls).take i).map fun n => (n, S)) ∧ Same X1 Y) ⟨[], upd_same, True.intro, same_new hD⟩ ?_ ?_ ?_
    · rintro i Y hi ⟨rs, gD, fD, tY⟩
      exact SqT.of' (B1.same tY).get
    · rintro i x Y hx ⟨rs, gD, fD, tY⟩
      rw [List.getElem?_map] at hx
      obtain ⟨n, hn, rfl⟩ := Option.map_eq_some_iff.mp hx
      have hi := (List.getElem?_eq_some_iff.mp hn).1
      have en : (bare ls)[i] = n := (List.getElem?_eq_some_iff.mp hn).2
      have lr := fD.len
      rw [List.length_map, List.length_take] at lr
      refine ⟨rfl, ⟨_, rfl, _, rfl, ⟨n, S, rfl, hS0, smS, fun u Gu hu su gu => ?_⟩⟩⟩
      refine ⟨_, su _ _ gD, ?_, rs ++ [u], ?_, ?_, ?_⟩
      · rw [List.length_map]
        exact Nat.lt_of_lt_of_le (show rs.length < 1000 by omega) (by decide)
      · rw [upd_same, List.map_append]
        rfl
      · have et : (bare ls).take (i + 1) = (bare ls).take i ++ [n] := by
          rw [List.take_add_one, List.getElem?_eq_getElem hi, en]
          rfl
        rw [et, List.map_append]
        have uD : u ≠ D := fun e => by rw [e] at hu; rw [hu] at gD; cases gD
        exact FrsAt.snoc ((upd_ne uD).trans gu) (FrsAt.upd (su _ _ gD) (fD.same su))
      · exact fun b o hb => by
          rw [upd_ne (ne_of_none hb hD)]
          exact su _ _ (tY b o hb)
    · rintro Y ⟨rs, gD, fD, tY⟩
      rw [List.length_map, List.take_length] at fD
      have sY := t1.trans tY
      have gFY := sY _ _ gX
      refine ⟨_, rfl, F, _, rfl, SqL.of' gFY, fun v hv => ?_⟩
      have sv : Same Y (upd Y v (.lst (fs.map V.ref).reverse)) := same_new hv
      refine ⟨v, _, rfl, .inl ⟨SqL.of' upd_same, fun w Gw hw sw gw => ?_⟩⟩
      refine ⟨_, rfl, D, _, rfl, .inl ⟨SqL.of' (sw _ _ (sv _ _ gD)), fun x Gx hx sx gx => ?_⟩⟩
      refine ⟨by walk_at "sz", fun z Gz hz sz' gz => ?_⟩
      have sA : Same Y Gz := sv.trans (sw.trans (sx.trans sz'))
      refine q Gz z w x fs.reverse rs (sX.trans (sY.trans sA)) gz ?_ (sz' _ _ gx) ?_ ?_
      · rw [sz' _ _ (sx _ _ gw), List.map_reverse]
      · rw [hrun0.1]
        exact (hF.same (sY.trans sA)).rev
      · rw [hrun0.2.1, hrun0.2.2]
        exact fD.same sA
theorem gD_lt {l : List Int} {k : Nat} (h : l.length ≤ k) : l.getD k 0 = 0 := by
  rw [List.getD_eq_getElem?_getD, List.getElem?_eq_none h]
  rfl
theorem leadP_get (ls : List Int) (f s : Int) (ms : List Int) {k : Nat} (h : k < ls.length - 1) : (leadP ls f s ms).getD k 0 = ls.getD k 0 * f - (if k < ls.length - ms.length then 0 else ms.getD (k - (ls.length - ms.length)) 0) * s := by
  unfold leadP
  rw [List.getD_eq_getElem?_getD, List.getElem?_map, List.getElem?_range h]
  rfl
/-- the number of a row at a place, moved up -/
def upI (ms : List Int) (d k : Nat) : Int := if d ≤ k then ms.getD (k - d) 0 else 0
theorem lead_id {ls ms : List Int} {f s : Int} (h0 : 0 < ms.length) (h1 : ms.length ≤ ls.length) (e : f * lastI ls = s * lastI ms) (k : Nat) : f * ls.getD k 0 = (leadP ls f s ms).getD k 0 + s * upI ms (ls.length - ms.length) k := by
  unfold upI
  by_cases hk : k < ls.length - 1
  · rw [leadP_get ls f s ms hk]
    by_cases h2 : k < ls.length - ms.length
    · rw [if_pos h2, if_neg (by omega)]
      grind
    · rw [if_neg h2, if_pos (by omega)]
      grind
  · rw [gD_lt (l := leadP ls f s ms) (by rw [leadP_len]; omega), Int.zero_add]
    by_cases h3 : k = ls.length - 1
    · subst h3
      rw [if_pos (by omega), show ls.length - 1 - (ls.length - ms.length) = ms.length - 1 by omega]
      exact e
    · rw [gD_lt (l := ls) (by omega), if_pos (by omega), gD_lt (l := ms) (by omega), Int.mul_zero, Int.mul_zero]
theorem step_id {ls ms : List Int} (h0 : 0 < ms.length) (lm : lastI ms ≠ 0) : fP ls ms * lastI ls = sP ls ms * lastI ms := by
  have hc := gcI_pos (t := lastI ls) lm
  have d1 := (fdiv_part hc (gcI_dl (lastI ls) (lastI ms))).1
  have d2 := (fdiv_part hc (gcI_dr (lastI ls) (lastI ms))).1
  show (lastI ms).fdiv (gcI (lastI ls) (lastI ms)) * lastI ls = (lastI ls).fdiv (gcI (lastI ls) (lastI ms)) * lastI ms
  generalize (lastI ms).fdiv (gcI (lastI ls) (lastI ms)) = x at *
  generalize (lastI ls).fdiv (gcI (lastI ls) (lastI ms)) = y at *
  generalize gcI (lastI ls) (lastI ms) = c at *
  rw [d1, d2]
  grind
theorem fP_dvd {ls ms : List Int} (lm : lastI ms ≠ 0) : fP ls ms ∣ lastI ms := by
  have hc := gcI_pos (t := lastI ls) lm
  have d2 := (fdiv_part hc (gcI_dr (lastI ls) (lastI ms))).1
  exact ⟨gcI (lastI ls) (lastI ms), by rw [Int.mul_comm]; exact d2⟩
theorem fP_ne {ls ms : List Int} (lm : lastI ms ≠ 0) : fP ls ms ≠ 0 := fun z => lm (by
  obtain ⟨w, e⟩ := fP_dvd (ls := ls) lm
  rw [e, z, Int.zero_mul])
/-- what fell off, times the divisor, at a place, over one bottom -/
def qAt (B : Int) (ms : List Int) : List (Int × Int) → Nat → Int
  | [], _ => 0
  | x :: t, k => B / x.2 * x.1 * upI ms t.length k + qAt B ms t k
theorem run_len (ms : List Int) : ∀ (m : Nat) (S : Int) (ls : List Int), (runP ms m S ls).1.length = m
  | 0, _, _ => rfl
  | m + 1, S, ls => by
    show ((_ :: (runP ms m _ _).1 : List (Int × Int))).length = m + 1
    rw [List.length_cons, run_len ms m]
theorem run_left {ms : List Int} : ∀ (m : Nat) (S : Int) (ls : List Int), (runP ms m S ls).2.2.length = ls.length - m
  | 0, _, _ => rfl
  | m + 1, S, ls => by
    show (runP ms m _ _).2.2.length = ls.length - (m + 1)
    rw [run_left m, leadP_len]
    omega
theorem run_scale {ms : List Int} (lm : lastI ms ≠ 0) : ∀ (m : Nat) (S : Int) (ls : List Int), S ≠ 0 → (runP ms m S ls).2.1 ≠ 0 ∧ S ∣ (runP ms m S ls).2.1 ∧ (runP ms m S ls).2.1 ∣ S * lastI ms ^ m ∧ ∀ x ∈ (runP ms m S ls).1, x.2 ≠ 0 ∧ x.2 ∣ (runP ms m S ls).2.1
  | 0, S, ls, h => ⟨h, Int.dvd_refl _, by rw [Int.pow_zero, Int.mul_one]; exact Int.dvd_refl _, fun x hx => absurd hx (by simp [runP])⟩
  | m + 1, S, ls, h => by
    have hs : S * fP ls ms ≠ 0 := Int.mul_ne_zero h (fP_ne lm)
    obtain ⟨a, b, c, d⟩ := run_scale lm m (S * fP ls ms) (leadP ls (fP ls ms) (sP ls ms) ms) hs
    refine ⟨a, Int.dvd_trans (Int.dvd_mul_right ..) b, Int.dvd_trans c ?_, fun x hx => ?_⟩
    · rw [Int.pow_succ, Int.mul_comm (lastI ms ^ m), ← Int.mul_assoc]
      exact Int.mul_dvd_mul (Int.mul_dvd_mul (Int.dvd_refl _) (fP_dvd lm)) (Int.dvd_refl _)
    · rcases List.mem_cons.mp hx with rfl | hx
      · exact ⟨hs, b⟩
      · exact d x hx
theorem div_step {B S f : Int} (h : S * f ∣ B) (hs : S ≠ 0) (hf : f ≠ 0) : B / S = f * (B / (S * f)) := by
  obtain ⟨w, rfl⟩ := h
  rw [Int.mul_ediv_cancel_left _ (Int.mul_ne_zero hs hf), Int.mul_assoc, Int.mul_ediv_cancel_left _ hs]
theorem run_sum {ms : List Int} (h0 : 0 < ms.length) (lm : lastI ms ≠ 0) (B : Int) (k : Nat) : ∀ (m : Nat) (S : Int) (ls : List Int), S ≠ 0 → (m = 0 ∨ ls.length + 1 = ms.length + m) → (runP ms m S ls).2.1 ∣ B →
    B / S * ls.getD k 0 = qAt B ms (runP ms m S ls).1 k + B / (runP ms m S ls).2.1 * (runP ms m S ls).2.2.getD k 0
  | 0, S, ls, _, _, _ => by
    show _ = 0 + _
    rw [Int.zero_add]
    rfl
  | m + 1, S, ls, h, hl, hB => by
    have hl' : ls.length + 1 = ms.length + (m + 1) := by omega
    have hs : S * fP ls ms ≠ 0 := Int.mul_ne_zero h (fP_ne lm)
    have sc := run_scale lm m (S * fP ls ms) (leadP ls (fP ls ms) (sP ls ms) ms) hs
    have ih := run_sum h0 lm B k m (S * fP ls ms) (leadP ls (fP ls ms) (sP ls ms) ms) hs (by rw [leadP_len]; omega) hB
    show B / S * ls.getD k 0 = (B / (S * fP ls ms) * sP ls ms * upI ms (runP ms m (S * fP ls ms) (leadP ls (fP ls ms) (sP ls ms) ms)).1.length k + qAt B ms (runP ms m (S * fP ls ms) (leadP ls (fP ls ms) (sP ls ms) ms)).1 k) + _
    have e1 := div_step (Int.dvd_trans sc.2.1 hB) h (fP_ne lm)
    have e2 := lead_id (f := fP ls ms) (s := sP ls ms) h0 (by omega) (step_id h0 lm) k
    rw [run_len, show m = ls.length - ms.length by omega]
    rw [show ls.length - ms.length = m by omega] at e2 ⊢
    rw [e1]
    show _ = _ + B / (runP ms m (S * fP ls ms) (leadP ls (fP ls ms) (sP ls ms) ms)).2.1 * (runP ms m (S * fP ls ms) (leadP ls (fP ls ms) (sP ls ms) ms)).2.2.getD k 0
    rw [Int.add_assoc, ← ih]
    generalize B / (S * fP ls ms) = w at *
    generalize ls.getD k 0 = a at *
    generalize (leadP ls (fP ls ms) (sP ls ms) ms).getD k 0 = b at *
    generalize upI ms m k = u at *
    generalize fP ls ms = f at *
    generalize sP ls ms = s at *
    grind
def cvI (q : Nat → Int) (ms : List Int) : Nat → Nat → Int
  | 0, _ => 0
  | m + 1, k => cvI q ms m k + q m * upI ms m k
theorem cvI_top (q : Nat → Int) (ms : List Int) {K : Nat} : ∀ m, m + ms.length ≤ K + 1 → (∀ j, j < m → cvI q ms m K = 0) → cvI q ms m K = 0
  | 0, _, _ => rfl
  | m + 1, h, g => g m (Nat.lt_succ_self m)
theorem cvI_high (q : Nat → Int) (ms : List Int) {K : Nat} : ∀ m, m + ms.length ≤ K + 1 → cvI q ms m K = 0
  | 0, _ => rfl
  | m + 1, h => by
    show cvI q ms m K + q m * upI ms m K = 0
    rw [cvI_high q ms m (by omega)]
    unfold upI
    rw [if_pos (by omega), gD_lt (by omega), Int.mul_zero]
    rfl
theorem fr_whole {b q : Int} (h : b ≠ 0) : frT (b * q) b = q ∧ frB (b * q) b = 1 := by
  have c := fr_cross (t := b * q) h
  have e : frT (b * q) b = q * frB (b * q) b := by
    refine Int.eq_of_mul_eq_mul_left h ?_
    rw [← Int.mul_assoc, ← c, Int.mul_comm]
  refine low_unique (frB_pos h) (by decide) (fr_one h) (gcI_oneR q) ?_
  rw [Int.mul_one]
  exact e
/-- a division of what is put together tells what it was put together of -/
theorem run_exact {ms : List Int} (h0 : 0 < ms.length) (lm : lastI ms ≠ 0) (q r : Nat → Int) (hr : ∀ k, ms.length ≤ k + 1 → r k = 0) : ∀ (m : Nat) (S : Int) (ls : List Int), S ≠ 0 → (m = 0 ∨ ls.length + 1 = ms.length + m) → (∀ k, ls.getD k 0 = S * (cvI q ms m k + r k)) →
    (runP ms m S ls).1.map (fun x => (frT x.1 x.2, frB x.1 x.2)) = ((List.range m).reverse.map fun j => (q j, (1 : Int))) ∧ ∀ k, (runP ms m S ls).2.2.getD k 0 = (runP ms m S ls).2.1 * r k
  | 0, S, ls, _, _, hk => ⟨rfl, fun k => by
      have e := hk k
      rw [show cvI q ms 0 k = 0 from rfl, Int.zero_add] at e
      exact e⟩
  | m + 1, S, ls, hS, hl, hk => by
    have hl' : ls.length + 1 = ms.length + (m + 1) := by omega
    have hf := fP_ne (ls := ls) lm
    have hs : S * fP ls ms ≠ 0 := Int.mul_ne_zero hS hf
    have top : lastI ls = S * (q m * lastI ms) := by
      unfold lastI
      rw [hk, show ls.length - 1 = ms.length + m - 1 by omega]
      show S * ((cvI q ms m (ms.length + m - 1) + q m * upI ms m (ms.length + m - 1)) + r (ms.length + m - 1)) = _
      rw [cvI_high q ms m (by omega), hr _ (by omega)]
      unfold upI
      rw [if_pos (by omega), show ms.length + m - 1 - m = ms.length - 1 by omega, Int.zero_add, Int.add_zero]
    have es : sP ls ms = S * fP ls ms * q m := by
      have e := step_id (ls := ls) h0 lm
      rw [top] at e
      refine Int.eq_of_mul_eq_mul_right lm ?_
      rw [← e]
      generalize fP ls ms = f
      generalize lastI ms = l
      grind
    have ih := run_exact h0 lm q r hr m (S * fP ls ms) (leadP ls (fP ls ms) (sP ls ms) ms) hs (by rw [leadP_len]; omega) (fun k => by
      have e2 := lead_id (f := fP ls ms) (s := sP ls ms) h0 (by omega) (step_id h0 lm) k
      rw [show ls.length - ms.length = m by omega, hk k] at e2
      rw [show cvI q ms (m + 1) k = cvI q ms m k + q m * upI ms m k from rfl] at e2
      rw [es] at e2 ⊢
      generalize (leadP ls (fP ls ms) (S * fP ls ms * q m) ms).getD k 0 = b at *
      generalize fP ls ms = f at *
      generalize upI ms m k = u at *
      generalize cvI q ms m k = c at *
      generalize r k = rk at *
      generalize q m = qm at *
      grind)
    refine ⟨?_, ih.2⟩
    show (frT (sP ls ms) (S * fP ls ms), frB (sP ls ms) (S * fP ls ms)) :: (runP ms m _ _).1.map _ = _
    rw [ih.1, List.range_succ, List.reverse_append, List.reverse_cons, List.reverse_nil, List.nil_append, List.singleton_append, List.map_cons, es, (fr_whole hs).1, (fr_whole hs).2]
def sp_well := spWell
theorem ok_well (T : Bi K mg) (D : Df K mg) : Cal P w K mg base CX0 1 "_law_well" s_well ["_law_cell"] (sp_well K) := by
  refine Cal.mk' D.well (fun _ _ _ _ _ _ us hl => match us, hl with | [_], _ => rfl) fun f fd F => F.ok sc_well (fun vs H Q E h => ?_) (fun cdv A outer s H vs Q E hr h => ?_)
  · obtain ⟨x, rfl, _⟩ := h
    rfl
  obtain ⟨x, rfl, q⟩ := h
  refine ⟨_, (pss_one (ps_ret (n_lst (pa_cons (pe_op o_mul (pv 0) (pe_callTy call_int1 (by rfl) T.b_int (by decide +kernel) (pa_cons (pe_cmpR op_ge (pv 0) (pe_op o_pow pe_int pe_int) (nomark _)) pa_nil))) (pa_cons (pe_op o_mod (pv 0) pe_int) (pa_cons pe_int pa_nil)))))), ?_⟩
  walk_at "rd"
  rename_i p G hp sG gp
  exact q _ p sG hp ⟨_, _, _, gp, Int.emod_nonneg _ (by omega), Int.emod_lt_of_pos _ (by omega)⟩
def sp_draw := spDraw
theorem ok_draw (T : Bi K mg) (D : Df K mg) : Cal P w K mg base CX0 1 "_law_draw" s_draw ["_law_well_here", "_law_many"] (sp_draw K) := by
  refine Cal.mk' D.draw (fun _ _ _ _ _ _ us hl => match us, hl with | [_, _], _ => rfl) fun f fd F => F.ok sc_draw (fun vs H Q E h => ?_) (fun cdv A outer s H vs Q E hr h => ?_)
  · obtain ⟨l, m, rfl, _⟩ := h
    rfl
  obtain ⟨l, m, rfl, ⟨⟨a, b, z, hl, hb0, hb1⟩⟩, h0, h1, q⟩ := h
  refine ⟨_, (pss_cons (ps_if (pt_cmpR op_gt (pe_ix ix_seq (pv 0) pe_int (fun _ _ => rfl)) pe_int (nomark _)) (pss_cons (ps_asg (pe_callB c_divmod (by rfl) T.b_divmod (by decide +kernel) (pa_cons (pe_ix ix_seq (pv 0) pe_int (fun _ _ => rfl)) (pa_cons (pv 1) pa_nil))) (pg_any rfl (pgs_cons (pg_sub (pv 0) pe_int set_list) (pgs_cons (pg_name (i := 2) sc_draw.nd rfl (by first | exact Or.inl rfl | exact Or.inr rfl)) pgs_nil))))
      (pss_one (ps_ret (pv 2)))) pss_nil)
      (pss_cons (ps_asg (pe_op o_add (pe_ix ix_seq (pv 0) pe_int (fun _ _ => rfl)) pe_int) (pg_sub (pv 0) pe_int set_list))
      (pss_cons (ps_set (i := 3) sc_draw.nd rfl (by first | exact Or.inl rfl | exact Or.inr rfl) (pe_op o_mod (pe_op o_add (pe_op o_add (pe_op o_mul (pe_ix ix_seq (pv 0) pe_int (fun _ _ => rfl)) (pe_op o_add (pe_op o_mul pe_int (pe_ix ix_seq (pv 0) pe_int (fun _ _ => rfl))) pe_int)) (pe_op o_mul pe_int (pe_ix ix_seq (pv 0) pe_int (fun _ _ => rfl)))) pe_int) pe_int))
      (pss_cons (ps_set (i := 3) sc_draw.nd rfl (by first | exact Or.inl rfl | exact Or.inr rfl) (pe_op o_mod (pe_op o_pow (pv 3) pe_int) pe_int))
      (pss_cons (ps_set (i := 3) sc_draw.nd rfl (by first | exact Or.inl rfl | exact Or.inr rfl) (pe_op o_mod (pe_op o_mul (pv 3) (pe_op o_add (pe_op o_fdv (pv 3) pe_int) pe_int)) pe_int))
      (pss_one (ps_ret (pe_op o_mod (pe_op o_fdv (pv 3) pe_int) (pv 1))))))))), ?_⟩
  walk_at "rd"
  refine ite2 (fun c => ?_) (fun c => ?_)
  · walk_at "rd"
    rename_i p G hp sG gp
    exact q _ _ ((Same.ch sG).at) ⟨_, _, _, upd_same, hb0, hb1⟩ (Int.emod_nonneg _ (by omega)) (Int.emod_lt_of_pos _ h0)
  · walk_at "rd"
    exact q _ _ ((Ch.refl l H).at) ⟨_, _, _, upd_same, hb0, hb1⟩ (Int.emod_nonneg _ (by omega)) (Int.emod_lt_of_pos _ h0)
def sp_number := spNumber
theorem ok_number (T : Bi K mg) (D : Df K mg) : Cal P w K mg base CX0 2 "_law_number" s_number ["_law_well_here", "_law_most"] (sp_number K) := by
  refine Cal.mk' D.number (fun _ _ _ _ _ _ us hl => match us, hl with | [_, _], _ => rfl) fun f fd F => F.ok sc_number (fun vs H Q E h => ?_) (fun cdv A outer s H vs Q E hr h => ?_)
  · obtain ⟨l, m, rfl, _⟩ := h
    rfl
  obtain ⟨l, m, rfl, hW, h0, h1, q⟩ := h
  refine ⟨_, (pss_cons (ps_set (i := 2) sc_number.nd rfl (by first | exact Or.inl rfl | exact Or.inr rfl) (pe_own (ok_draw T D) (hr.mono (by decide)) (by rfl) pass0 (pa_cons (pv 0) (pa_cons pe_int pa_nil))))
      (pss_cons (ps_set (i := 3) sc_number.nd rfl (by first | exact Or.inl rfl | exact Or.inr rfl) (pe_ix ix_seq (n_lst (pa_cons pe_int (pa_cons (pe_un un_neg pe_int) pa_nil))) (pe_own (ok_draw T D) (hr.mono (by decide)) (by rfl) pass0 (pa_cons (pv 0) (pa_cons pe_int pa_nil))) (fun _ _ => rfl)))
      (pss_cons (ps_if (pt_cmpR op_lt (pv 2) pe_int (nomark _)) (pss_one (ps_ret (pe_op o_mul (pv 3) (pe_own (ok_draw T D) (hr.mono (by decide)) (by rfl) pass0 (pa_cons (pv 0) (pa_cons (pe_ix ix_seq (n_lst (pa_cons pe_int (pa_cons pe_int (pa_cons pe_int pa_nil)))) (pv 2) (fun _ _ => rfl)) pa_nil)))))) pss_nil)
      (pss_cons (ps_if (pt_cmpR (o_eq hr.units) (pv 2) pe_int (nomark _)) (pss_one (ps_ret (pe_op o_mul (pe_op o_mul (pv 3) pe_int) (pe_own (ok_draw T D) (hr.mono (by decide)) (by rfl) pass0 (pa_cons (pv 0) (pa_cons pe_int pa_nil)))))) pss_nil)
      (pss_cons (ps_if (pt_cmpR (o_eq hr.units) (pv 2) pe_int (nomark _)) (pss_one (ps_ret (pe_op o_mul (pv 3) (pe_op o_sub (pv 1) (pe_own (ok_draw T D) (hr.mono (by decide)) (by rfl) pass0 (pa_cons (pv 0) (pa_cons pe_int pa_nil))))))) pss_nil)
      (pss_cons (ps_set (i := 4) sc_number.nd rfl (by first | exact Or.inl rfl | exact Or.inr rfl) pe_int)
      (pss_cons (ps_for PassesOwn.never rfl (pi_range1 (by rfl) T.b_range (pa_cons (pe_op o_add pe_int (pe_own (ok_draw T D) (hr.mono (by decide)) (by rfl) pass0 (pa_cons (pv 0) (pa_cons pe_int pa_nil)))) pa_nil)) (pg_name (i := 5) sc_number.nd rfl (by first | exact Or.inl rfl | exact Or.inr rfl)) (pss_one (ps_set (i := 4) sc_number.nd rfl (by first | exact Or.inl rfl | exact Or.inr rfl) (pe_op o_add (pe_op o_mul (pv 4) (pe_op o_pow pe_int pe_int)) (pe_own (ok_draw T D) (hr.mono (by decide)) (by rfl) pass0 (pa_cons (pv 0) (pa_cons (pe_op o_pow pe_int pe_int) pa_nil)))))))
      (pss_one (ps_ret (pe_op o_mul (pv 3) (pv 4))))))))))), ?_⟩
  walk_at "rd"
  intro H1 k c1 w1 k0 k1
  walk_at "rd"
  rename_i p G hp sG gp
  intro H2 g c2 w2 g0 g1
  have sg : ∃ e : Int, (e = 1 ∨ e = -1) ∧ atI [V.int 1, V.int (-1)] g = some (V.int e) := by
    rcases (by omega : g = 0 ∨ g = 1) with rfl | rfl
    · exact ⟨1, .inl rfl, rfl⟩
    · exact ⟨-1, .inr rfl, rfl⟩
  obtain ⟨e, he, ae⟩ := sg
  have c12 := (c1.trans (Same.ch sG)).trans c2
  refine Or.inl ⟨_, _, _, _, rfl, rfl, SqL.of' (c2.get gp (ne_wl hp w1)), ae, ?_⟩
  walk_at "rd"
  refine ite2 (fun c => ?_) (fun c => ?_)
  · have c' := of_decide_eq_true c
    walk_at "rd"
    rename_i p3 G3 hp3 s3 g3
    have sk : ∃ v : Int, 0 < v ∧ v < 2000 ∧ atI [V.int 1, V.int 13, V.int 1009] k = some (V.int v) := by
      rcases (by omega : k = 0 ∨ k = 1 ∨ k = 2) with rfl | rfl | rfl
      · exact ⟨1, by decide, by decide, rfl⟩
      · exact ⟨13, by decide, by decide, rfl⟩
      · exact ⟨1009, by decide, by decide, rfl⟩
    obtain ⟨v, v0, v1, av⟩ := sk
    refine Or.inl ⟨_, _, _, _, rfl, rfl, SqL.of' g3, av, ?_⟩
    walk_at "rd"
    intro H3 r c5 w5 r0 r1
    walk_at "rd"
    refine q _ _ (c12.trans ((Same.ch s3).trans c5)) w5 ?_
    rcases he with rfl | rfl <;> omega
  · walk_at "rd"
    refine ite2 (fun c3 => ?_) (fun c3 => ?_)
    · walk_at "rd"
      intro H3 r c5 w5 r0 r1
      walk_at "rd"
      refine q _ _ (c12.trans c5) w5 ?_
      rcases he with rfl | rfl <;> omega
    · walk_at "rd"
      refine ite2 (fun c4 => ?_) (fun c4 => ?_)
      · walk_at "rd"
        intro H3 r c5 w5 r0 r1
        walk_at "rd"
        refine q _ _ (c12.trans c5) w5 ?_
        rcases he with rfl | rfl <;> omega
      · walk_at "rd"
        intro H3 r c5 w5 r0 r1
        walk_at "rd"
        refine for_range (lo := 0) (n := (1 + r).toNat) (fun i σ' H' => ∃ (n : Int) (y : Option V), σ' = [some (.ref l), some (.int m), some (.int k), some (.int e), some (.int n), y] ∧ Ch l H H' ∧ Wl H' l ∧ 0 ≤ n ∧ n < 10 ^ (8 * i)) ?_ ?_ ?_
        · exact ⟨0, none, rfl, c12.trans c5, w5, by omega, by decide⟩
        · intro i σ' H' hi hP
          obtain ⟨n, y, rfl, c6, w6, n0, n1⟩ := hP
          walk_at "rd"
          intro H4 d c7 w7 d0 d1
          walk_at "rd"
          refine ⟨c6.trans c7, w7, ?_, ?_⟩
          · rw [show (10 : Int) ^ Int.toNat 8 = 100000000 by decide]
            omega
          · rw [show (10 : Int) ^ Int.toNat 8 = 100000000 by decide] at d1 ⊢
            have z : (10 : Int) ^ (8 * (i + 1)) = 10 ^ (8 * i) * 100000000 := by
              rw [show 8 * (i + 1) = 8 * i + 8 by omega, Int.pow_add]
              rfl
            omega
        · intro σ' H' hP
          obtain ⟨n, y, rfl, c6, w6, n0, n1⟩ := hP
          walk_at "rd"
          refine q _ _ c6 w6 ?_
          have z : (10 : Int) ^ (8 * (1 + r).toNat) ≤ 10 ^ 48 := by
            rcases (by omega : r = 0 ∨ r = 1 ∨ r = 2 ∨ r = 3 ∨ r = 4 ∨ r = 5) with rfl | rfl | rfl | rfl | rfl | rfl <;> decide
          rcases he with rfl | rfl <;> omega
theorem bare_split (l : List Int) : ∃ j, l = bare l ++ List.replicate j 0 := by
  unfold bare
  refine ⟨(l.reverse.takeWhile (· == 0)).length, ?_⟩
  have h : l.reverse.takeWhile (· == 0) = List.replicate (l.reverse.takeWhile (· == 0)).length 0 := by
    refine List.eq_replicate_iff.mpr ⟨rfl, fun b hb => ?_⟩
    have := List.all_eq_true.mp (List.all_takeWhile (p := (· == (0 : Int))) (l := l.reverse)) b hb
    simpa using this
  have e := List.takeWhile_append_dropWhile (p := (· == (0 : Int))) (l := l.reverse)
  have e2 : l = (l.reverse.dropWhile (· == 0)).reverse ++ (l.reverse.takeWhile (· == 0)).reverse := by
    rw [← List.reverse_append, e, List.reverse_reverse]
  rw [h, List.reverse_replicate] at e2
  simpa using e2
theorem bare_get (l : List Int) (k : Nat) : (bare l).getD k 0 = l.getD k 0 := by
  obtain ⟨j, e⟩ := bare_split l
  conv => rhs; rw [e]
  rw [List.getD_eq_getElem?_getD, List.getD_eq_getElem?_getD, List.getElem?_append]
  by_cases h : k < (bare l).length
  · rw [if_pos h]
  · rw [if_neg h, List.getElem?_eq_none (by omega), List.getElem?_replicate]
    split <;> rfl
def posP (ns : List Int) (i : Nat) : List Int := ((List.range i).filter fun k => ns.getD k 0 ≠ 0).map fun k : Nat => ((k : Nat) : Int) + 1
theorem posP_next (ns : List Int) (i : Nat) : posP ns (i + 1) = if ns.getD i 0 ≠ 0 then posP ns i ++ [(i : Int) + 1] else posP ns i := by
  unfold posP
  rw [List.range_succ, List.filter_append, List.map_append]
  by_cases h : ns.getD i 0 ≠ 0
  · rw [if_pos h, List.filter_cons_of_pos (by simpa using h)]
    rfl
  · rw [if_neg h, List.filter_cons_of_neg (by simpa using h)]
    simp
theorem posP_len (ns : List Int) (i : Nat) : (posP ns i).length ≤ i := by
  unfold posP
  rw [List.length_map]
  exact Nat.le_trans (List.length_filter_le _ _) (by simp)
theorem posP_max (ns : List Int) (m : Int) (hm : m ∈ (0 : Int) :: posP ns ns.length) (hx : ∀ y, y ∈ (0 : Int) :: posP ns ns.length → y ≤ m) : m = ((bare ns).length : Nat) := by
  have hb := bare_bare ns
  have hl := bare_len ns
  have up : ∀ y, y ∈ (0 : Int) :: posP ns ns.length → y ≤ ((bare ns).length : Nat) := by
    intro y hy
    rcases List.mem_cons.mp hy with rfl | hy
    · omega
    · unfold posP at hy
      obtain ⟨k, hk, rfl⟩ := List.mem_map.mp hy
      have h2 := (List.mem_filter.mp hk).2
      have h3 : ns.getD k 0 ≠ 0 := by simpa using h2
      rw [← bare_get] at h3
      have : k < (bare ns).length := by
        refine Decidable.byContradiction fun hc => h3 ?_
        rw [List.getD_eq_getElem?_getD, List.getElem?_eq_none (by omega)]
        rfl
      omega
  have lo : (((bare ns).length : Nat) : Int) ∈ (0 : Int) :: posP ns ns.length := by
    cases hL : (bare ns).length with
    | zero => exact List.mem_cons_self ..
    | succ L =>
      refine List.mem_cons_of_mem _ ?_
      unfold posP
      refine List.mem_map.mpr ⟨L, List.mem_filter.mpr ⟨List.mem_range.mpr (by omega), ?_⟩, by omega⟩
      have h3 : ns.getD L 0 ≠ 0 := by
        rw [← bare_get, List.getD_eq_getElem?_getD]
        have e : (bare ns)[L]? = some ((bare ns)[L]'(by omega)) := List.getElem?_eq_getElem (by omega)
        rw [e]
        refine hb _ ?_
        have e1 : (bare ns).length - 1 = L := by omega
        rw [List.getLast?_eq_getElem?, e1, e]
        rfl
      simpa using h3
  exact Int.le_antisymm (up m hm) (hx _ lo)
theorem bare_take (ns : List Int) : ns.take (bare ns).length = bare ns := by
  obtain ⟨j, e⟩ := bare_split ns
  conv => lhs; arg 2; rw [e]
  rw [List.take_left]
/-- the law's own bare numbers, of a list -/
def sp_bare (K : PySem.W.Frag) : Sp := fun vs H Q _ => ∃ (p : Addr) (ns : List Int), vs = [.ref p] ∧ SqL K H p (ns.map V.int) ∧ ns.length ≤ 90000 ∧ ∀ H' r, Same H H' → H r = none → PolyAt H' r (bare ns) → Q (.ref r) H'
theorem ok_bare (T : Bi K mg) (D : Df K mg) : Cal P w K mg base CX0 1 "_law_bare" s_bare ["_law_numbers"] (sp_bare K) := by
  refine Cal.mk' D.bare (fun _ _ _ _ _ _ us hl => match us, hl with | [_], _ => rfl) fun f fd F => F.ok sc_bare (fun vs H Q E h => ?_) (fun cdv A outer s H vs Q E hr h => ?_)
  · obtain ⟨_, _, rfl, _⟩ := h
    rfl
  obtain ⟨p, ns, rfl, hS, hl, q⟩ := h
  refine ⟨_, (pss_cons (ps_set (i := 1) sc_bare.nd rfl (by first | exact Or.inl rfl | exact Or.inr rfl) (pe_callB (cr_max rfl) (by rfl) T.b_max (by decide +kernel) (pa_cons (pe_op o_add (n_lst (pa_cons pe_int pa_nil)) (pe_lc (own := [("_law_k", 2), ("_law_number_here", 3)]) (by rfl) sc_bare.nd (pi_enumA (by rfl) T.b_enumerate (pa_cons (pv 0) pa_nil)) (blkOk_by (own := [("_law_k", 2), ("_law_number_here", 3)]) (N := N_bare) (sc := defScope s_bare) (by decide +kernel)) (fun _ _ _ _ _ => (show PG _ _ (gSeq K 2 _) from (pg_any rfl (pgs_cons (pg_name (i := 2) sc_bare.nd rfl (by first | exact Or.inl rfl | exact Or.inr rfl)) (pgs_cons (pg_name (i := 3) sc_bare.nd rfl (by first | exact Or.inl rfl | exact Or.inr rfl)) pgs_nil))))) (fun _ _ _ _ _ => (pts_one (pt_cmpR (show OpR _ _ (rNee K) from (o_ne hr.units)) (pv 3) pe_int (nomark _)))) (fun _ _ _ _ _ => (pe_op (show OpR _ _ (rPlus K) from o_add) (pv 2) pe_int)))) pa_nil)))
      (pss_one (ps_ret (pe_callTy c_tuple (by rfl) T.b_tuple (by decide +kernel) (pa_cons (pe_slice s_any (pv 0) po_none (po_some (pv 1))) pa_nil))))), ?_⟩
  walk_at "rd"
  rename_i p1 G1 hp1 s1 g1
  refine ⟨p, ns.map V.int, rfl, .inl ⟨s1.seq hS, ?_⟩⟩
  intro D hD
  refine lc_J ns.length (fun i X => X D = some (.lst ((posP ns i).map V.int)) ∧ Same G1 X) ⟨upd_same, same_new hD⟩ ?_ ?_ ?_ ?_
  · intro i X hi hP
    refine ⟨_, V.int ns[i], (s1.trans hP.2).seq hS, ?_⟩
    rw [List.getElem?_map, List.getElem?_eq_getElem hi]
    rfl
  · intro X hP
    exact ⟨_, (s1.trans hP.2).seq hS, by rw [List.length_map]; exact Nat.le_refl _⟩
  · rintro i x X X' hi ⟨gD, sX⟩ ⟨T, y, rfl, hT, rfl, hy⟩
    have e := hy _ ((s1.trans sX).seq hS)
    rw [List.getElem?_map, List.getElem?_eq_getElem hi] at e
    obtain rfl : V.int ns[i] = y := Option.some.inj e
    have eg : ns.getD i 0 = ns[i] := by rw [List.getD_eq_getElem?_getD, List.getElem?_eq_getElem hi]; rfl
    have dT : D ≠ T := ne_of_none gD hT
    refine Or.inl ⟨T, _, rfl, SqT.of' upd_same, rfl, _, _, rfl, _, _, rfl, rfl, rfl, ?_⟩
    walk_at "rd"
    refine ite2 (fun c => ?_) (fun c => ?_)
    · have c' : ns.getD i 0 ≠ 0 := fun z => by
        rw [eg] at z
        rw [z] at c
        exact absurd c (by decide)
      walk_at "rd"
      refine ⟨_, (upd_ne dT).trans gD, ?_, ?_, fun b o hb => ?_⟩
      · rw [List.length_map]
        exact Nat.lt_of_le_of_lt (posP_len ns i) (Nat.lt_of_lt_of_le (show i < 100001 by omega) (by decide))
      · rw [upd_same, posP_next, if_pos c', List.map_append]
        rfl
      · rw [upd_ne (ne_of_none hb hD), upd_ne (ne_of_none (sX b o hb) hT)]
        exact sX b o hb
    · have c' : ¬ ns.getD i 0 ≠ 0 := fun z => c (by
        rw [eg] at z
        have : ¬ (V.int ns[i] = V.int 0) := fun e => z (V.int.inj e)
        show (!decide (V.int ns[i] = V.int 0)) = true
        rw [decide_eq_false this]
        rfl)
      rw [posP_next, if_neg c']
      exact ⟨(upd_ne dT).trans gD, sX.trans (same_new hT)⟩
  · rintro X ⟨gD, sX⟩
    refine Or.inr (Or.inl ⟨p1, D, [V.int 0], (posP ns ns.length).map V.int, rfl, rfl, SqL.of' (sX _ _ g1), SqL.of' gD, ?_, ?_⟩)
    · rw [List.length_map]
      exact Nat.le_trans (Nat.add_le_add_left (posP_len ns ns.length) 1) (Nat.le_trans (show 1 + ns.length ≤ 100000 by omega) (by decide))
    intro z G hz sG gz
    refine ⟨z, 0 :: posP ns ns.length, rfl, SqL.of' gz, Nat.succ_pos _, fun m hm hx => ?_⟩
    obtain rfl := posP_max ns m hm hx
    have sH : Same H G := s1.trans (sX.trans sG)
    have ec : cutV (ns.map V.int) none (some (((bare ns).length : Nat) : Int)) = (bare ns).map V.int := by
      unfold cutV
      rw [HT.sIx_nat, HT.sIx_none, List.length_map, Nat.min_eq_left (bare_len ns), Nat.sub_zero, List.drop_zero, ← List.map_take, bare_take]
    walk_at "rd"
    refine Or.inl ⟨_, _, rfl, sH.seq hS, ?_⟩
    intro z2 G2 hz2 sG2 gz2
    rw [ec] at gz2
    refine ⟨_, _, rfl, .inl ⟨SqL.of' gz2, ?_⟩⟩
    intro z3 G3 hz3 sG3 gz3
    exact q _ _ (sH.trans (sG2.trans sG3)) ((sH.trans sG2).free hz3) ⟨gz3, bare_bare ns⟩
/-- a whole number with no divisor but 1 below it behaves as a prime number does -/
theorem least_div (s : Nat) (h : s ≠ 1) (h0 : s ≠ 0) : ∃ p : Nat, p ∣ s ∧ 1 < p ∧ ∀ d, d ∣ p → d = 1 ∨ d = p := by
  have ex : ∃ n, ∃ p : Nat, p ≤ n ∧ p ∣ s ∧ 1 < p := ⟨s, s, Nat.le_refl _, Nat.dvd_refl _, by omega⟩
  obtain ⟨n, hn⟩ := ex
  induction n with
  | zero =>
    obtain ⟨p, h1, _, h3⟩ := hn
    omega
  | succ n ih =>
    by_cases c : ∃ p : Nat, p ≤ n ∧ p ∣ s ∧ 1 < p
    · exact ih c
    · obtain ⟨p, h1, h2, h3⟩ := hn
      refine ⟨p, h2, h3, fun d hd => ?_⟩
      have dle := Nat.le_of_dvd (by omega) hd
      have d0 : 0 < d := Nat.pos_of_dvd_of_pos hd (by omega)
      refine Decidable.byContradiction fun hc => c ⟨d, ?_, Nat.dvd_trans hd h2, ?_⟩
      · omega
      · omega
theorem euclid {p : Nat} (hp : ∀ d, d ∣ p → d = 1 ∨ d = p) {a b : Int} (h : (p : Int) ∣ a * b) : (p : Int) ∣ a ∨ (p : Int) ∣ b := by
  have h' : p ∣ a.natAbs * b.natAbs := by
    have := Int.natAbs_dvd_natAbs.mpr h
    rwa [Int.natAbs_natCast, Int.natAbs_mul] at this
  rcases hp (Nat.gcd p a.natAbs) (Nat.gcd_dvd_left ..) with e | e
  · exact Or.inr (Int.natAbs_dvd_natAbs.mp (by rw [Int.natAbs_natCast]; exact Nat.Coprime.dvd_of_dvd_mul_left e h'))
  · exact Or.inl (Int.natAbs_dvd_natAbs.mp (by rw [Int.natAbs_natCast]; exact e ▸ Nat.gcd_dvd_right ..))
theorem cvI_but {p : Int} {q : Nat → Int} {ms : List Int} {i0 k : Nat} : ∀ m, (∀ i, i < m → i ≠ i0 → p ∣ q i * upI ms i k) → p ∣ cvI q ms m k - (if i0 < m then q i0 * upI ms i0 k else 0)
  | 0, _ => by
    rw [if_neg (by omega)]
    exact ⟨0, by rw [Int.mul_zero]; rfl⟩
  | m + 1, h => by
    have ih := cvI_but (i0 := i0) m (fun i hi hn => h i (by omega) hn)
    show p ∣ cvI q ms m k + q m * upI ms m k - _
    by_cases c : i0 = m
    · subst c
      rw [if_neg (by omega), Int.sub_zero] at ih
      rw [if_pos (by omega)]
      have : cvI q ms i0 k + q i0 * upI ms i0 k - q i0 * upI ms i0 k = cvI q ms i0 k := by omega
      rw [this]
      exact ih
    · have hm := h m (by omega) (fun e => c e.symm)
      by_cases c2 : i0 < m
      · rw [if_pos c2] at ih
        rw [if_pos (by omega)]
        have : cvI q ms m k + q m * upI ms m k - q i0 * upI ms i0 k = (cvI q ms m k - q i0 * upI ms i0 k) + q m * upI ms m k := by omega
        rw [this]
        exact Int.dvd_add ih hm
      · rw [if_neg c2, Int.sub_zero] at ih
        rw [if_neg (by omega), Int.sub_zero]
        exact Int.dvd_add ih hm
theorem least_not {P : Nat → Prop} (n : Nat) (h : ∃ i, i < n ∧ ¬ P i) : ∃ i, i < n ∧ ¬ P i ∧ ∀ j, j < i → P j := by
  obtain ⟨i, hi, hP⟩ := h
  revert hi hP
  induction i using Nat.strongRecOn with
  | ind i ih =>
    intro hi hP
    by_cases c : ∃ j, j < i ∧ ¬ P j
    · obtain ⟨j, hj, hPj⟩ := c
      exact ih j hj (by omega) hPj
    · exact ⟨i, hi, hP, fun j hj => Classical.byContradiction fun hc => c ⟨j, hj, hc⟩⟩
theorem gauss_p {p : Nat} (hp : ∀ d, d ∣ p → d = 1 ∨ d = p) {ms : List Int} (hg : ∃ j, j < ms.length ∧ ¬ (p : Int) ∣ ms.getD j 0) {q : Nat → Int} {n : Nat} (h : ∀ k, (p : Int) ∣ cvI q ms n k) : ∀ i, i < n → (p : Int) ∣ q i := by
  refine Classical.byContradiction fun hc => ?_
  have hc' : ∃ i, i < n ∧ ¬ (p : Int) ∣ q i := Classical.byContradiction fun c => hc fun i hi => Classical.byContradiction fun d => c ⟨i, hi, d⟩
  obtain ⟨i0, hi, hq, li⟩ := least_not (P := fun i => (p : Int) ∣ q i) n hc'
  obtain ⟨j0, hj, hm, lj⟩ := least_not (P := fun j => (p : Int) ∣ ms.getD j 0) ms.length hg
  have b := cvI_but (p := (p : Int)) (q := q) (ms := ms) (i0 := i0) (k := i0 + j0) n (fun i hin hne => by
    by_cases c : i < i0
    · exact Int.dvd_trans (li i c) (Int.dvd_mul_right _ _)
    · unfold upI
      by_cases c2 : i ≤ i0 + j0
      · rw [if_pos c2]
        exact Int.dvd_trans (lj (i0 + j0 - i) (by omega)) (Int.dvd_mul_left _ _)
      · rw [if_neg c2, Int.mul_zero]
        exact Int.dvd_zero _)
  rw [if_pos hi] at b
  have e : (p : Int) ∣ q i0 * upI ms i0 (i0 + j0) := by
    have := Int.dvd_sub (h (i0 + j0)) b
    rwa [show cvI q ms n (i0 + j0) - (cvI q ms n (i0 + j0) - q i0 * upI ms i0 (i0 + j0)) = q i0 * upI ms i0 (i0 + j0) by omega] at this
  unfold upI at e
  rw [if_pos (by omega), show i0 + j0 - i0 = j0 by omega] at e
  rcases euclid hp e with e | e
  · exact hq e
  · exact hm e
theorem cvI_mul (p : Int) (q : Nat → Int) (ms : List Int) (k : Nat) : ∀ m, cvI (fun i => p * q i) ms m k = p * cvI q ms m k
  | 0 => by
    show (0 : Int) = p * 0
    rw [Int.mul_zero]
  | m + 1 => by
    show cvI _ ms m k + p * q m * upI ms m k = p * (cvI q ms m k + q m * upI ms m k)
    rw [cvI_mul p q ms k m, Int.mul_add, Int.mul_assoc]
theorem cvI_congr {q r : Nat → Int} (ms : List Int) (k : Nat) : ∀ m, (∀ i, i < m → q i = r i) → cvI q ms m k = cvI r ms m k
  | 0, _ => rfl
  | m + 1, h => by
    show cvI q ms m k + q m * upI ms m k = cvI r ms m k + r m * upI ms m k
    rw [cvI_congr ms k m fun i hi => h i (by omega), h m (by omega)]
/-- what a divisor without a common divisor is multiplied by takes all that divides the product -/
theorem gauss {ms : List Int} (hg : ∀ p : Nat, 1 < p → ∃ j, j < ms.length ∧ ¬ (p : Int) ∣ ms.getD j 0) (n : Nat) : ∀ (t : Nat) (S : Int) (q : Nat → Int), S.natAbs ≤ t → S ≠ 0 → (∀ k, S ∣ cvI q ms n k) → ∀ i, i < n → S ∣ q i
  | 0, S, q, ht, hS, _ => absurd (Int.natAbs_eq_zero.mp (Nat.le_zero.mp ht)) hS
  | t + 1, S, q, ht, hS, h => by
    intro i hi
    by_cases c : S.natAbs = 1
    · exact Int.natAbs_dvd_natAbs.mp (by rw [c]; exact Nat.one_dvd _)
    · obtain ⟨p, p1, p2, p3⟩ := least_div S.natAbs c (fun e => hS (Int.natAbs_eq_zero.mp e))
      have pS : (p : Int) ∣ S := Int.natAbs_dvd_natAbs.mp (by rw [Int.natAbs_natCast]; exact p1)
      have pq := gauss_p p3 (hg p p2) (fun k => Int.dvd_trans pS (h k))
      obtain ⟨T, rfl⟩ := pS
      have p0 : (p : Int) ≠ 0 := by omega
      have hT : T ≠ 0 := fun e => hS (by rw [e, Int.mul_zero])
      have lT : T.natAbs ≤ t := by
        rw [Int.natAbs_mul, Int.natAbs_natCast] at ht
        have t0 : 0 < T.natAbs := Int.natAbs_pos.mpr hT
        have := Nat.mul_le_mul_right T.natAbs p2
        omega
      have eq : ∀ i, i < n → q i = (p : Int) * (q i / p) := fun i hi => (Int.mul_ediv_cancel' (pq i hi)).symm
      have ih := gauss hg n t T (fun i => q i / p) lT hT (fun k => by
        have hk := h k
        rw [cvI_congr ms k n eq, cvI_mul] at hk
        exact Int.dvd_of_mul_dvd_mul_left p0 hk) i hi
      rw [eq i hi]
      exact Int.mul_dvd_mul_left _ ih
theorem FrsAt.at {H : Hp} : ∀ {ps : List Addr} {xs : List (Int × Int)}, FrsAt H ps xs → ∀ {i : Nat} {p : Addr}, ps[i]? = some p → ∃ x, xs[i]? = some x ∧ H p = some (.tup [.int (frT x.1 x.2), .int (frB x.1 x.2)])
  | [], [], _, i, p, h => by simp at h
  | q :: ps, x :: xs, h, 0, p, e => by
    cases e
    exact ⟨x, rfl, h.1⟩
  | q :: ps, x :: xs, h, i + 1, p, e => FrsAt.at h.2 e
theorem lc_prs {K : PySem.W.Frag} {a D : Addr} {fs : List Addr} {ns : List (Int × Int)} {g : TG} {tt : TT} {te : TE} {vs : List Nat} {σ : L2.St} {H : Hp} {Qd : Hp → Prop} (f : Int → Int → V) (hS : H a = some (.tup (fs.map V.ref))) (hF : FrsAt H fs ns) (hD : H D = none) (hl : fs.length ≤ 100000)
    (hs : ∀ (n : Int × Int) (u : Addr) (X : Hp) (R : VK) (P : Hp → Prop), Same H X → X u = some (.tup [.int (frT n.1 n.2), .int (frB n.1 n.2)]) → R (f (frT n.1 n.2) (frB n.1 n.2)) X → g (.ref u) (wipe σ vs) X fun σ2 H2 => wipe σ2 vs = wipe σ vs ∧ tt σ2 H2 fun b H3 => if b = true then te σ2 H3 R else P H3)
    (hd : ∀ X, Same H X → X D = some (.lst (ns.map fun n => f (frT n.1 n.2) (frB n.1 n.2))) → Qd X) :
    ∃ W : Nat → Nat → Hp → Prop, (∃ m, W 0 m (upd H D (.lst []))) ∧ ∀ i m X, W i m X →
      ((Itt K a).stop i X ∧ Qd X) ∨ ((Itt K a).go i X ∧ ∃ Nx : Hp → Prop, (∀ H', Nx H' → ∃ m', m' < m ∧ W (i + 1) m' H') ∧ ∀ x H', (Itt K a).yld i X x H' → g x (wipe σ vs) H' fun σ2 H2 => wipe σ2 vs = wipe σ vs ∧ tt σ2 H2 fun b H3 =>
        if b = true then te σ2 H3 fun y H4 => ∃ acc, H4 D = some (.lst acc) ∧ acc.length < sizeLine ∧ Nx (upd H4 D (.lst (acc ++ [y]))) else Nx H3) := by
  have lf := hF.len
  refine lc_tup (xs := fs.map V.ref) (fun i X => X D = some (.lst ((ns.take i).map fun n => f (frT n.1 n.2) (frB n.1 n.2))) ∧ Same H X) ⟨upd_same, same_new hD⟩ (fun i X _ hP => SqT.of' (hP.2 _ _ hS)) ?_ (fun X hP => ?_)
  · intro i x X hi hP
    obtain ⟨gD, sX⟩ := hP
    rw [List.getElem?_map] at hi
    obtain ⟨u, hu, rfl⟩ := Option.map_eq_some_iff.mp hi
    obtain ⟨n, hn, gu⟩ := hF.at hu
    have hlt := (List.getElem?_eq_some_iff.mp hn).1
    refine hs n u X (fun y H4 => ∃ acc, H4 D = some (.lst acc) ∧ acc.length < sizeLine ∧ (upd H4 D (.lst (acc ++ [y])) D = some (.lst ((ns.take (i + 1)).map fun n => f (frT n.1 n.2) (frB n.1 n.2))) ∧ Same H (upd H4 D (.lst (acc ++ [y]))))) _ sX (sX _ _ gu) ?_
    refine ⟨_, gD, ?_, ?_, fun b o hb => ?_⟩
    · rw [List.length_map]
      exact Nat.lt_of_le_of_lt (List.length_take_le _ _) (Nat.lt_of_lt_of_le (show i < 100001 by omega) (by decide))
    · rw [upd_same, List.take_add_one, hn, List.map_append]
      rfl
    · rw [upd_ne (ne_of_none hb hD)]
      exact sX b o hb
  · refine hd X hP.2 ?_
    have e := hP.1
    rw [List.length_map, lf, List.take_length] at e
    exact e
def wqN (ns ms : List Int) : List (Int × Int) := (runP ms (ns.length + 1 - ms.length) 1 ns).1.reverse
def wqR (ns ms : List Int) : List Int := bare (runP ms (ns.length + 1 - ms.length) 1 ns).2.2
def wqT (ns ms : List Int) : List Int := (wqN ns ms).map fun x => frT x.1 x.2
def sp_p_whole_quotient (K : PySem.W.Frag) : Sp := fun vs H Q _ => ∃ (p r : Addr) (ns ms : List Int) (k : Nat), vs = [.ref p, .ref r] ∧ PolyAt H p ns ∧ PolyAt H r ms ∧ 0 < ms.length ∧ ns.length ≤ 100 ∧ ms.length ≤ 100 ∧ (∀ n ∈ ns, sz k n) ∧ (∀ n ∈ ms, sz k n) ∧ k + (ns.length + 1) * (k + 1) ≤ 7900 ∧
  (∀ H', Same H H' → ¬ (wqR ns ms = [] ∧ ∀ x ∈ wqN ns ms, frB x.1 x.2 = 1) → Q .non H') ∧
  ∀ H' z, Same H H' → wqR ns ms = [] → (∀ x ∈ wqN ns ms, frB x.1 x.2 = 1) → H' z = some (.tup ((wqT ns ms).map V.int)) → Q (.ref z) H'
theorem ok_p_whole_quotient (T : Bi K mg) (D : Df K mg) : Cal P w K mg base CX0 6 "whole_quotient" s_p_whole_quotient ["one", "other"] (sp_p_whole_quotient K) := by
  refine Cal.mk' D.p_whole_quotient (fun _ _ _ _ _ _ us hl => match us, hl with | [_, _], _ => rfl) fun f fd F => F.ok sc_p_whole_quotient (fun vs H Q E h => ?_) (fun cdv A outer s H vs Q E hr h => ?_)
  · obtain ⟨_, _, _, _, _, rfl, _⟩ := h
    rfl
  obtain ⟨p, r, ns, ms, k, rfl, hp, hr', h0, h1, h2, z1, z2, hk, qn, qs⟩ := h
  refine ⟨_, (pss_cons (ps_asg (pe_own (ok_p_divided T D) (hr.mono (by decide)) (by rfl) pass0 (pa_cons (pv 0) (pa_cons (pv 1) pa_nil))) (pg_any rfl (pgs_cons (pg_name (i := 2) sc_p_whole_quotient.nd rfl (by first | exact Or.inl rfl | exact Or.inr rfl)) (pgs_cons (pg_name (i := 3) sc_p_whole_quotient.nd rfl (by first | exact Or.inl rfl | exact Or.inr rfl)) pgs_nil))))
      (pss_cons (ps_if (PW.pt (pw_or (pt_truth (pv 3) (by intro _; rfl)) (pw_or1 (pt_truth (pe_callB (cr_any rfl) (by rfl) T.b_any (by decide +kernel) (pa_cons (pe_lc (own := [("top", 4), ("bottom", 5)]) (by rfl) sc_p_whole_quotient.nd (pi_seq (pv 2)) (blkOk_by (own := [("top", 4), ("bottom", 5)]) (N := N_p_whole_quotient) (sc := defScope s_p_whole_quotient) (by decide +kernel)) (fun _ _ _ _ _ => (show PG _ _ (gSeq K 2 _) from (pg_any rfl (pgs_cons (pg_name (i := 4) sc_p_whole_quotient.nd rfl (by first | exact Or.inl rfl | exact Or.inr rfl)) (pgs_cons (pg_name (i := 5) sc_p_whole_quotient.nd rfl (by first | exact Or.inl rfl | exact Or.inr rfl)) pgs_nil))))) (fun _ _ _ _ _ => pts_nil) (fun _ _ _ _ _ => (pe_cmpR (show OpR _ _ (rNee K) from (o_ne hr.units)) (pv 5) pe_int (nomark _)))) pa_nil)) (by intro _; rfl))))) (pss_one (ps_ret pe_non)) pss_nil)
      (pss_one (ps_ret (pe_callTy c_tuple (by rfl) T.b_tuple (by decide +kernel) (pa_cons (pe_lc (own := [("top", 4), ("bottom", 5)]) (by rfl) sc_p_whole_quotient.nd (pi_seq (pv 2)) (blkOk_by (own := [("top", 4), ("bottom", 5)]) (N := N_p_whole_quotient) (sc := defScope s_p_whole_quotient) (by decide +kernel)) (fun _ _ _ _ _ => (show PG _ _ (gSeq K 2 _) from (pg_any rfl (pgs_cons (pg_name (i := 4) sc_p_whole_quotient.nd rfl (by first | exact Or.inl rfl | exact Or.inr rfl)) (pgs_cons (pg_name (i := 5) sc_p_whole_quotient.nd rfl (by first | exact Or.inl rfl | exact Or.inr rfl)) pgs_nil))))) (fun _ _ _ _ _ => pts_nil) (fun _ _ _ _ _ => (pv 4))) pa_nil)))))), ?_⟩
  refine ⟨_, rfl, _, rfl, ⟨p, r, ns, ms, k, rfl, hp, hr', h0, h1, h2, z1, z2, hk, fun H1 z q' r' fs rs s1 gz gq gr fq fr => ?_⟩⟩
  refine Or.inl ⟨z, _, rfl, SqT.of' gz, rfl, _, _, rfl, _, _, rfl, rfl, ?_⟩
  have lr := fr.len
  rw [List.length_map] at lr
  refine ⟨_, rfl, ⟨!(rs.map V.ref).isEmpty, Or.inr (Or.inl ⟨_, SqT.of' gr, rfl⟩), ?_⟩⟩
  by_cases hr0 : rs = []
  · subst hr0
    have eR : wqR ns ms = [] := List.length_eq_zero_iff.mp lr.symm
    refine iteF ?_
    refine Or.inr ⟨_, rfl, _, rfl, ⟨_, SqT.of' gq⟩, ?_⟩
    intro D hD
    refine lc_prs (fun _ b => V.bl (!decide (V.int b = V.int 1))) gq fq hD (by have := fq.len; rw [List.length_reverse, run_len] at this; omega) (fun n u X R P sX gu rr => ?_) (fun X sX gX => ?_)
    · refine Or.inl ⟨u, _, rfl, SqT.of' gu, rfl, _, _, rfl, _, _, rfl, rfl, rfl, ?_⟩
      exact ⟨_, rfl, Or.inl ⟨rfl, rr⟩⟩
    · have gX' : X D = some (.lst (((wqN ns ms).map fun n => !decide (V.int (frB n.1 n.2) = V.int 1)).map V.bl)) := by
        rw [gX, List.map_map]
        rfl
      refine ⟨D, _, rfl, SqL.of' gX', ?_⟩
      by_cases hw : ∀ x ∈ wqN ns ms, frB x.1 x.2 = 1
      · have ea : ((wqN ns ms).map fun n => !decide (V.int (frB n.1 n.2) = V.int 1)).any id = false := by
          rw [List.any_map]
          refine List.any_eq_false.mpr fun x hx => ?_
          show ¬ (!decide (V.int (frB x.1 x.2) = V.int 1)) = true
          rw [hw x hx]
          decide
        rw [ea]
        refine ⟨false, rfl, iteF ?_⟩
        have sH := s1.trans sX
        refine Or.inr ⟨_, rfl, _, rfl, ⟨_, SqT.of' (sX _ _ gq)⟩, ?_⟩
        intro D2 hD2
        refine lc_prs (fun t _ => V.int t) (sX _ _ gq) (fq.same sX) hD2 (by have := fq.len; rw [List.length_reverse, run_len] at this; omega) (fun n u X R P sX gu rr => ?_) (fun X2 sX2 gX2 => ?_)
        · refine Or.inl ⟨u, _, rfl, SqT.of' gu, rfl, _, _, rfl, _, _, rfl, rfl, rfl, ?_⟩
          exact ⟨_, rfl, rr⟩
        · have gX2' : X2 D2 = some (.lst ((wqT ns ms).map V.int)) := by
            rw [gX2]
            unfold wqT wqN
            rw [List.map_map]
            rfl
          exact ⟨D2, _, rfl, .inl ⟨SqL.of' gX2', fun w Gw hw2 sw gw => qs Gw w (sH.trans (sX2.trans sw)) eR hw gw⟩⟩
      · have ea : ((wqN ns ms).map fun n => !decide (V.int (frB n.1 n.2) = V.int 1)).any id = true := by
          rw [List.any_map]
          refine Classical.byContradiction fun hc => hw fun x hx => ?_
          refine Classical.byContradiction fun h1 => hc (List.any_eq_true.mpr ⟨x, hx, ?_⟩)
          show (!decide (V.int (frB x.1 x.2) = V.int 1)) = true
          rw [decide_eq_false (fun e => h1 (V.int.inj e))]
          rfl
        rw [ea]
        refine ⟨true, rfl, iteT ?_⟩
        exact qn X (s1.trans sX) (fun e => hw e.2)
  · have h1 : (rs.map V.ref).isEmpty = false := by
      cases rs with
      | nil => exact absurd rfl hr0
      | cons a t => rfl
    rw [h1]
    refine iteT ?_
    exact qn H1 s1 (fun e => hr0 (List.length_eq_zero_iff.mp (by rw [lr]; exact congrArg List.length e.1)))
theorem lc_well {l D : Addr} {n : Nat} {g : TG} {tt : TT} {te : TE} {vs : List Nat} {σ : L2.St} {H : Hp} {Qd : Hp → Prop} (Z : Int → Prop) (hn : n ≤ 1000) (w : Wl H l) (hD : H D = none)
    (hs : ∀ (i : Nat) (X : Hp) (R : VK) (P : Hp → Prop), i < n → Wl X l → (∀ X2 v, Ch l X X2 → Wl X2 l → Z v → R (.int v) X2) → g (.int (0 + i)) (wipe σ vs) X fun σ2 H2 => wipe σ2 vs = wipe σ vs ∧ tt σ2 H2 fun b H3 => if b = true then te σ2 H3 R else P H3)
    (hd : ∀ (X : Hp) (fs : List Int), Ch l H X → Wl X l → fs.length = n → (∀ f ∈ fs, Z f) → X D = some (.lst (fs.map V.int)) → Qd X) :
    ∃ W : Nat → Nat → Hp → Prop, (∃ m, W 0 m (upd H D (.lst []))) ∧ ∀ i m X, W i m X →
      ((Itr 0 n).stop i X ∧ Qd X) ∨ ((Itr 0 n).go i X ∧ ∃ Nx : Hp → Prop, (∀ H', Nx H' → ∃ m', m' < m ∧ W (i + 1) m' H') ∧ ∀ x H', (Itr 0 n).yld i X x H' → g x (wipe σ vs) H' fun σ2 H2 => wipe σ2 vs = wipe σ vs ∧ tt σ2 H2 fun b H3 =>
        if b = true then te σ2 H3 fun y H4 => ∃ acc, H4 D = some (.lst acc) ∧ acc.length < sizeLine ∧ Nx (upd H4 D (.lst (acc ++ [y]))) else Nx H3) := by
  have lD : l ≠ D := w.ne hD
  refine lc_range (lo := 0) (n := n) (fun i X => ∃ fs : List Int, fs.length = i ∧ X D = some (.lst (fs.map V.int)) ∧ (∀ f ∈ fs, Z f) ∧ Wl X l ∧ Ch l H X) ?_ ?_ ?_
  · exact ⟨[], rfl, upd_same, fun f hf => absurd hf (by simp), w.new hD, Same.ch (same_new hD)⟩
  · rintro i X hi ⟨fs, fl, fD, ff, wX, cX⟩
    refine hs i X _ _ hi wX fun X2 v c2 w2 hv => ?_
    have gD2 : X2 D = some (.lst (fs.map V.int)) := c2.get fD (Ne.symm lD)
    refine ⟨_, gD2, ?_, fs ++ [v], by simp [fl], by rw [upd_same]; simp, ?_, ?_, ?_⟩
    · rw [List.length_map, fl]
      exact Nat.lt_of_lt_of_le (show i < 1001 by omega) (by decide)
    · intro f hf
      rw [List.mem_append, List.mem_singleton] at hf
      rcases hf with hf | rfl
      · exact ff f hf
      · exact hv
    · obtain ⟨u1, u2, u3, u4, u5, u6⟩ := w2.ex
      exact ⟨_, _, _, (upd_ne lD).trans u4, u5, u6⟩
    · exact fun b o n2 hb => by
        have n1 : b ≠ D := ne_of_none hb hD
        rw [upd_ne n1]
        exact c2 b o n2 (cX b o n2 hb)
  · rintro X ⟨fs, fl, fD, ff, wX, cX⟩
    exact hd X fs cX wX fl ff fD
theorem sz_60 {n : Int} (h : n.natAbs < 10 ^ 60) : sz 200 n := Nat.lt_of_lt_of_le h (by decide)
theorem bare_sub {l : List Int} {n : Int} (h : n ∈ bare l) : n ∈ l := by
  obtain ⟨j, e⟩ := bare_split l
  rw [e]
  exact List.mem_append_left _ h
def sp_quotient (K : PySem.W.Frag) : Sp := fun vs H Q _ => ∃ (l : Addr), vs = [.ref l] ∧ Wl H l ∧ ∀ H' p ns, Ch l H H' → Wl H' l → H p = none → PolyAt H' p ns → ns.length ≤ 16 → (∀ n ∈ ns, sz 200 n) → Q (.ref p) H'
theorem ok_quotient (T : Bi K mg) (D : Df K mg) : Cal P w K mg base CX0 3 "_law_quotient" s_quotient ["_law_well_here"] (sp_quotient K) := by
  refine Cal.mk' D.quotient (fun _ _ _ _ _ _ us hl => match us, hl with | [_], _ => rfl) fun f fd F => F.ok sc_quotient (fun vs H Q E h => ?_) (fun cdv A outer s H vs Q E hr h => ?_)
  · obtain ⟨_, rfl, _⟩ := h
    rfl
  obtain ⟨l, rfl, hW, q⟩ := h
  refine ⟨_, (pss_cons (ps_set (i := 1) sc_quotient.nd rfl (by first | exact Or.inl rfl | exact Or.inr rfl) (pe_ix ix_seq (n_lst (pa_cons (pe_own (ok_draw T D) (hr.mono (by decide)) (by rfl) pass0 (pa_cons (pv 0) (pa_cons pe_int pa_nil))) (pa_cons (pe_own (ok_draw T D) (hr.mono (by decide)) (by rfl) pass0 (pa_cons (pv 0) (pa_cons pe_int pa_nil))) pa_nil))) (pe_own (ok_draw T D) (hr.mono (by decide)) (by rfl) pass0 (pa_cons (pv 0) (pa_cons pe_int pa_nil))) (fun _ _ => rfl)))
      (pss_cons (ps_if (pt_cmpR (o_eq hr.units) (pe_own (ok_draw T D) (hr.mono (by decide)) (by rfl) pass0 (pa_cons (pv 0) (pa_cons pe_int pa_nil))) pe_int (nomark _)) (pss_one (ps_ret (pe_own (ok_bare T D) (hr.mono (by decide)) (by rfl) pass0 (pa_cons (pe_lc (own := [("_law_k", 2)]) (by rfl) sc_quotient.nd (pi_range1 (by rfl) T.b_range (pa_cons (pv 1) pa_nil)) (blkOk_by (own := [("_law_k", 2)]) (N := N_quotient) (sc := defScope s_quotient) (by decide +kernel)) (fun _ _ _ _ _ => (pg_name (i := 2) sc_quotient.nd rfl (by first | exact Or.inl rfl | exact Or.inr rfl))) (fun _ _ _ _ _ => pts_nil) (fun _ _ _ _ _ => (pe_op o_fdv (pe_own (ok_number T D) (hr.mono (by decide)) (by rfl) pass0 (pa_cons (pv 0) (pa_cons (pe_op o_sub (pe_op o_pow pe_int pe_int) pe_int) pa_nil))) (pe_op o_pow pe_int pe_int)))) pa_nil)))) pss_nil)
      (pss_one (ps_ret (pe_own (ok_bare T D) (hr.mono (by decide)) (by rfl) pass0 (pa_cons (pe_lc (own := [("_law_k", 2)]) (by rfl) sc_quotient.nd (pi_range1 (by rfl) T.b_range (pa_cons (pv 1) pa_nil)) (blkOk_by (own := [("_law_k", 2)]) (N := N_quotient) (sc := defScope s_quotient) (by decide +kernel)) (fun _ _ _ _ _ => (pg_name (i := 2) sc_quotient.nd rfl (by first | exact Or.inl rfl | exact Or.inr rfl))) (fun _ _ _ _ _ => pts_nil) (fun _ _ _ _ _ => (pe_op o_sub (pe_own (ok_draw T D) (hr.mono (by decide)) (by rfl) pass0 (pa_cons (pv 0) (pa_cons pe_int pa_nil))) pe_int))) pa_nil)))))), ?_⟩
  walk_at "rd"
  intro H1 a c1 w1 a0 a2
  walk_at "rd"
  intro H2 b c2 w2 b0 b2
  walk_at "rd"
  rename_i pL GL hpL sGL gL
  intro H3 k c3 w3 k0 k1
  have sx : ∃ x : Int, 0 ≤ x ∧ x ≤ 16 ∧ atI [V.int a, V.int b] k = some (V.int x) := by
    rcases (by omega : k = 0 ∨ k = 1) with rfl | rfl
    · exact ⟨a, by omega, by omega, rfl⟩
    · exact ⟨b, by omega, by omega, rfl⟩
  obtain ⟨m, m0, m1, ax⟩ := sx
  refine Or.inl ⟨_, _, _, _, rfl, rfl, SqL.of' (c3.get gL (ne_wl hpL w2)), ax, ?_⟩
  have c13 : Ch l H H3 := c1.trans (c2.trans ((Same.ch sGL).trans c3))
  walk_at "rd"
  intro H4 u c4 w4 u0 u1
  have c14 := c13.trans c4
  walk_at "rd"
  refine ite2 (fun c => ?_) (fun c => ?_)
  · walk_at "rd"
    intro D hD
    refine lc_well (sz 200) (show m.toNat ≤ 1000 by omega) w4 hD (fun i X R P hi wX r => ⟨rfl, ?_⟩) (fun X fs cX wX fl ff gX => ?_)
    · walk_at "rd"
      intro X2 v c5 w5 hv
      walk_at "rd"
      have e20 : (10 : Int) ^ Int.toNat 20 = 100000000000000000000 := by decide
      rw [e20]
      refine ⟨⟨by decide, by decide⟩, r X2 _ c5 w5 (sz_60 ?_)⟩
      rw [Int.fdiv_eq_ediv_of_nonneg _ (by decide)]
      omega
    · refine ⟨D, fs, rfl, SqL.of' gX, by omega, fun H' z sZ nZ pZ => ?_⟩
      obtain ⟨oX, hoX⟩ := wX.get
      have lz := bare_len fs
      exact q H' z _ (c14.trans (cX.trans (Same.ch sZ))) (wX.same sZ) ((c14.trans cX).free hoX nZ) pZ (by omega) fun n hn => ff n (bare_sub hn)
  · walk_at "rd"
    intro D hD
    refine lc_well (sz 200) (show m.toNat ≤ 1000 by omega) w4 hD (fun i X R P hi wX r => ⟨rfl, ?_⟩) (fun X fs cX wX fl ff gX => ?_)
    · walk_at "rd"
      intro X2 v c5 w5 v0 v1
      walk_at "rd"
      exact r X2 _ c5 w5 (sz_60 (by omega))
    · refine ⟨D, fs, rfl, SqL.of' gX, by omega, fun H' z sZ nZ pZ => ?_⟩
      obtain ⟨oX, hoX⟩ := wX.get
      have lz := bare_len fs
      exact q H' z _ (c14.trans (cX.trans (Same.ch sZ))) (wX.same sZ) ((c14.trans cX).free hoX nZ) pZ (by omega) fun n hn => ff n (bare_sub hn)
theorem lastI_snoc (l : List Int) (x : Int) : lastI (l ++ [x]) = x := by
  unfold lastI
  rw [List.length_append, List.length_singleton, List.getD_eq_getElem?_getD, List.getElem?_append_right (by omega)]
  simp
def sp_divisor (K : PySem.W.Frag) : Sp := fun vs H Q _ => ∃ (l : Addr) (c : Int), vs = [.ref l, .int c] ∧ 0 < c ∧ c < 20 ∧ Wl H l ∧ ∀ H' p ms, Ch l H H' → Wl H' l → H p = none → H' p = some (.tup ((ms.map fun n => n * c).map V.int)) → 0 < ms.length → ms.length ≤ 6 → lastI ms ≠ 0 → (∀ n ∈ ms, n.natAbs ≤ 20) → Q (.ref p) H'
theorem ok_divisor (T : Bi K mg) (D : Df K mg) : Cal P w K mg base CX0 2 "_law_divisor" s_divisor ["_law_well_here", "_law_many"] (sp_divisor K) := by
  refine Cal.mk' D.divisor (fun _ _ _ _ _ _ us hl => match us, hl with | [_, _], _ => rfl) fun f fd F => F.ok sc_divisor (fun vs H Q E h => ?_) (fun cdv A outer s H vs Q E hr h => ?_)
  · obtain ⟨_, _, rfl, _⟩ := h
    rfl
  obtain ⟨l, c, rfl, p0, p1, hW, q⟩ := h
  refine ⟨_, (pss_cons (ps_set (i := 2) sc_divisor.nd rfl (by first | exact Or.inl rfl | exact Or.inr rfl) (pe_ix ix_seq (n_lst (pa_cons pe_int (pa_cons (pe_un un_neg pe_int) (pa_cons (pe_op o_add pe_int (pe_own (ok_draw T D) (hr.mono (by decide)) (by rfl) pass0 (pa_cons (pv 0) (pa_cons pe_int pa_nil)))) (pa_cons (pe_op o_sub (pe_un un_neg pe_int) (pe_own (ok_draw T D) (hr.mono (by decide)) (by rfl) pass0 (pa_cons (pv 0) (pa_cons pe_int pa_nil)))) pa_nil))))) (pe_own (ok_draw T D) (hr.mono (by decide)) (by rfl) pass0 (pa_cons (pv 0) (pa_cons pe_int pa_nil))) (fun _ _ => rfl)))
      (pss_cons (ps_setLc (i := 3) (own := [("_law_k", 4)]) (by rfl) sc_divisor.nd rfl rfl (sw_true rfl rfl rfl (by decide +kernel)) (pi_range1 (by rfl) T.b_range (pa_cons (pe_own (ok_draw T D) (hr.mono (by decide)) (by rfl) pass0 (pa_cons (pv 0) (pa_cons pe_int pa_nil))) pa_nil)) (blkOk_by (own := [("_law_k", 4)]) (N := N_divisor) (sc := defScope s_divisor) (by decide +kernel)) (fun _ _ _ _ _ => (pg_name (i := 4) sc_divisor.nd rfl (by first | exact Or.inl rfl | exact Or.inr rfl))) (fun _ _ _ _ _ => pts_nil) (fun _ _ _ _ _ => (pe_op o_sub (pe_own (ok_draw T D) (hr.mono (by decide)) (by rfl) pass0 (pa_cons (pv 0) (pa_cons pe_int pa_nil))) pe_int)))
      (pss_one (ps_ret (pe_callTy c_tuple (by rfl) T.b_tuple (by decide +kernel) (pa_cons (pe_lc (own := [("_law_number_here", 5)]) (by rfl) sc_divisor.nd (pi_seq (pe_op o_add (pv 3) (n_lst (pa_cons (pv 2) pa_nil)))) (blkOk_by (own := [("_law_number_here", 5)]) (N := N_divisor) (sc := defScope s_divisor) (by decide +kernel)) (fun _ _ _ _ _ => (pg_name (i := 5) sc_divisor.nd rfl (by first | exact Or.inl rfl | exact Or.inr rfl))) (fun _ _ _ _ _ => pts_nil) (fun _ _ _ _ _ => (pe_op (show OpR _ _ (rMul K) from o_mul) (pv 5) (pv 1)))) pa_nil)))))), ?_⟩
  walk_at "rd"
  intro H1 a1 c1 w1 a0 a2
  walk_at "rd"
  intro H2 b1 c2 w2 b0 b2
  walk_at "rd"
  rename_i pL GL hpL sGL gL
  intro H4 k c4 w4 k0 k1
  have sx : ∃ x : Int, x.natAbs ≤ 20 ∧ x ≠ 0 ∧ atI [V.int 1, V.int (-1), V.int (1 + a1), V.int (-2 - b1)] k = some (V.int x) := by
    rcases (by omega : k = 0 ∨ k = 1 ∨ k = 2 ∨ k = 3) with rfl | rfl | rfl | rfl
    · exact ⟨1, by decide, by decide, rfl⟩
    · exact ⟨-1, by decide, by decide, rfl⟩
    · exact ⟨1 + a1, by omega, by omega, rfl⟩
    · exact ⟨-2 - b1, by omega, by omega, rfl⟩
  obtain ⟨x, zx, x0, ax⟩ := sx
  refine Or.inl ⟨_, _, _, _, rfl, rfl, SqL.of' (c4.get gL (ne_wl hpL w2)), ax, ?_⟩
  have c14 : Ch l H H4 := c1.trans (c2.trans ((Same.ch sGL).trans c4))
  walk_at "rd"
  intro H5 m c5 w5 m0 m1
  walk_at "rd"
  intro D hD
  refine lc_well (fun n => n.natAbs ≤ 20) (show m.toNat ≤ 1000 by omega) w5 hD (fun i X R P hi wX r => ⟨rfl, ?_⟩) (fun X fs cX wX fl ff gX => ?_)
  · walk_at "rd"
    intro X2 v c6 w6 v0 v1
    walk_at "rd"
    exact r X2 _ c6 w6 (show (v - 4).natAbs ≤ 20 by omega)
  refine Or.inl ⟨_, rfl, _, rfl, ⟨by walk_at "sz", fun b Gb hb sb gb => ?_⟩⟩
  refine Or.inr (Or.inl ⟨D, b, _, _, rfl, rfl, SqL.of' (sb _ _ gX), SqL.of' gb, ?_, fun v Gv hv sv gv => ?_⟩)
  · rw [List.length_map]
    exact Nat.le_trans (show fs.length + 1 ≤ 1000 by omega) (by decide)
  have gv' : Gv v = some (.lst ((fs ++ [x]).map V.int)) := by rw [gv]; simp
  have all : ∀ n ∈ fs ++ [x], n.natAbs ≤ 20 := fun n hn => by
    rw [List.mem_append, List.mem_singleton] at hn
    rcases hn with hn | rfl
    · exact ff n hn
    · exact zx
  have ln : (fs ++ [x]).length = fs.length + 1 := by rw [List.length_append]; rfl
  refine ⟨_, rfl, ⟨_, SqL.of' gv'⟩, ?_⟩
  intro D2 hD2
  refine lc_mapL (fun n => V.int (n * c)) (SqL.of' gv') hD2 (by omega) (fun n X R P hn sX rr => ⟨rfl, ⟨_, rfl, _, rfl, Or.inr (Or.inl ⟨_, _, rfl, rfl, small_mul (small_lt (k := 21) (Nat.lt_succ_of_le (all n hn)) (by decide)) (small_lt (k := 20) (by omega) (by decide)), rr⟩)⟩⟩) (fun Y sY gY => ?_)
  have gY' : Y D2 = some (.lst (((fs ++ [x]).map fun n => n * c).map V.int)) := by rw [gY, List.map_map]; rfl
  refine ⟨D2, _, rfl, .inl ⟨SqL.of' gY', fun w Gw hw sw gw => ?_⟩⟩
  have sG : Same X Gw := sb.trans (sv.trans (sY.trans sw))
  have cH : Ch l H X := c14.trans (c5.trans cX)
  have nY : Y w = none := hw
  have nH : H w = none := by
    obtain ⟨oX, hoX⟩ := wX.get
    exact cH.free hoX ((sb.trans (sv.trans sY)).free nY)
  exact q Gw w (fs ++ [x]) (cH.trans (Same.ch sG)) (wX.same sG) nH gw (by omega) (by omega) (by rw [lastI_snoc]; exact x0) all
def sumF (f : Nat → Int) : Nat → Int
  | 0 => 0
  | n + 1 => sumF f n + f n
theorem sumF_add (f g : Nat → Int) (n : Nat) : sumF (fun k => f k + g k) n = sumF f n + sumF g n := by
  induction n with
  | zero => rfl
  | succ n ih => show sumF _ n + (f n + g n) = (sumF f n + f n) + (sumF g n + g n); rw [ih]; omega
theorem sumF_congr {f g : Nat → Int} {n : Nat} (h : ∀ k, k < n → f k = g k) : sumF f n = sumF g n := by
  induction n with
  | zero => rfl
  | succ n ih => show sumF f n + f n = sumF g n + g n; rw [ih fun k hk => h k (by omega), h n (by omega)]
theorem sumF_zero {f : Nat → Int} {n : Nat} (h : ∀ k, k < n → f k = 0) : sumF f n = 0 := by
  induction n with
  | zero => rfl
  | succ n ih => show sumF f n + f n = 0; rw [ih fun k hk => h k (by omega), h n (by omega)]; rfl
theorem sumF_mul (c : Int) (f : Nat → Int) (n : Nat) : sumF (fun k => c * f k) n = c * sumF f n := by
  induction n with
  | zero => show (0 : Int) = c * 0; rw [Int.mul_zero]
  | succ n ih => show sumF _ n + c * f n = c * (sumF f n + f n); rw [ih, Int.mul_add]
theorem sumF_more {f : Nat → Int} {n m : Nat} (h : n ≤ m) (z : ∀ k, n ≤ k → f k = 0) : sumF f m = sumF f n := by
  induction m with
  | zero => rw [Nat.le_zero.mp h]
  | succ m ih =>
    by_cases e : n = m + 1
    · rw [e]
    · show sumF f m + f m = _
      rw [ih (by omega), z m (by omega), Int.add_zero]
theorem range_set {α : Type} (f : Nat → α) (N p : Nat) (v : α) : ((List.range N).map f).set p v = (List.range N).map fun k => if k = p then v else f k := by
  apply List.ext_getElem
  · simp
  · intro i h1 h2
    simp only [List.getElem_set, List.getElem_map, List.getElem_range]
    by_cases h : p = i
    · rw [if_pos h, if_pos h.symm]
    · rw [if_neg h, if_neg (Ne.symm h)]
theorem zeros_rep (N : Nat) : (List.replicate N [V.int 0]).flatten = (List.range N).map fun _ => V.int 0 := by
  induction N with
  | zero => rfl
  | succ n ih => rw [List.replicate_succ', List.flatten_append, ih, List.range_succ, List.map_append]; rfl
/-- what the first j numbers of a row of products add at a place -/
def rowP (x : Int) (ms : List Int) (i j k : Nat) : Int := if i ≤ k ∧ k - i < j then x * ms.getD (k - i) 0 else 0
theorem rowP_zero (x : Int) (ms : List Int) (i k : Nat) : rowP x ms i 0 k = 0 := by
  unfold rowP
  rw [if_neg (by omega)]
theorem rowP_next (x : Int) (ms : List Int) (i j k : Nat) : rowP x ms i (j + 1) k = if k = i + j then rowP x ms i j k + x * ms.getD j 0 else rowP x ms i j k := by
  unfold rowP
  by_cases h : k = i + j
  · subst h
    rw [if_pos rfl, if_pos (by omega), if_neg (by omega)]
    rw [show i + j - i = j by omega]
    omega
  · rw [if_neg h]
    by_cases h2 : i ≤ k ∧ k - i < j
    · rw [if_pos h2, if_pos (by omega)]
    · rw [if_neg h2, if_neg (by omega)]
def prodL (ns ms : List Int) : List Int := (List.range (ns.length + ms.length)).map fun k => sumF (fun i => ns.getD i 0 * upI ms i k) ns.length
def sp_product (K : PySem.W.Frag) : Sp := fun vs H Q _ => ∃ (p r : Addr) (ns ms : List Int), vs = [.ref p, .ref r] ∧ H p = some (.tup (ns.map V.int)) ∧ H r = some (.tup (ms.map V.int)) ∧ ns.length ≤ 100 ∧ ms.length ≤ 100 ∧ (∀ n ∈ ns, small n) ∧ (∀ n ∈ ms, small n) ∧
  ∀ H' z, Same H H' → H z = none → PolyAt H' z (bare (prodL ns ms)) → Q (.ref z) H'
theorem ok_product (T : Bi K mg) (D : Df K mg) : Cal P w K mg base CX0 2 "_law_product" s_product ["_law_this", "_law_two"] (sp_product K) := by
  refine Cal.mk' D.product (fun _ _ _ _ _ _ us hl => match us, hl with | [_, _], _ => rfl) fun f fd F => F.ok sc_product (fun vs H Q E h => ?_) (fun cdv A outer s H vs Q E hr h => ?_)
  · obtain ⟨_, _, _, _, rfl, _⟩ := h
    rfl
  obtain ⟨p, r, ns, ms, rfl, hp, hq, h1, h2, z1, z2, q⟩ := h
  refine ⟨_, (pss_cons (ps_set (i := 2) sc_product.nd rfl (by first | exact Or.inl rfl | exact Or.inr rfl) (pe_op o_mul (n_lst (pa_cons pe_int pa_nil)) (pe_op o_add (pe_callB call_len (by rfl) T.b_len (by decide +kernel) (pa_cons (pv 0) pa_nil)) (pe_callB call_len (by rfl) T.b_len (by decide +kernel) (pa_cons (pv 1) pa_nil)))))
      (pss_cons (ps_for PassesOwn.never rfl (pi_range1 (by rfl) T.b_range (pa_cons (pe_callB call_len (by rfl) T.b_len (by decide +kernel) (pa_cons (pv 0) pa_nil)) pa_nil)) (pg_name (i := 3) sc_product.nd rfl (by first | exact Or.inl rfl | exact Or.inr rfl)) (pss_one (ps_for PassesOwn.never rfl (pi_range1 (by rfl) T.b_range (pa_cons (pe_callB call_len (by rfl) T.b_len (by decide +kernel) (pa_cons (pv 1) pa_nil)) pa_nil)) (pg_name (i := 4) sc_product.nd rfl (by first | exact Or.inl rfl | exact Or.inr rfl)) (pss_one (ps_asg (pe_op o_add (pe_ix ix_seq (pv 2) (pe_op o_add (pv 3) (pv 4)) (fun _ _ => rfl)) (pe_op o_mul (pe_ix ix_seq (pv 0) (pv 3) (fun _ _ => rfl)) (pe_ix ix_seq (pv 1) (pv 4) (fun _ _ => rfl)))) (pg_sub (pv 2) (pe_op o_add (pv 3) (pv 4)) set_list))))))
      (pss_one (ps_ret (pe_own (ok_bare T D) (hr.mono (by decide)) (by rfl) pass0 (pa_cons (pv 2) pa_nil)))))), ?_⟩
  refine ⟨by walk_at "sz", fun b0 Gb hb0 sb gb => ?_⟩
  refine ⟨_, rfl, _, _, rfl, .inr ⟨_, SqT.of' (sb _ _ hp), rfl⟩, _, rfl, _, _, rfl, .inr ⟨_, SqT.of' (sb _ _ hq), rfl⟩, Or.inl ⟨_, _, rfl, rfl, ?_⟩⟩
  rw [List.length_map, List.length_map]
  obtain ⟨N, hN⟩ : ∃ N, N = ns.length + ms.length := ⟨_, rfl⟩
  have et : ((ns.length : Int) + (ms.length : Int)).toNat = N := by omega
  refine Or.inr (Or.inr (Or.inl ⟨b0, _, [V.int 0], rfl, rfl, gb, by omega, by omega, ?_, fun D GD hD sD gD => ?_⟩))
  · rw [et]
    exact Nat.le_trans (show 1 * N ≤ 1000 by omega) (by decide)
  rw [et, zeros_rep] at gD
  have sH : Same H GD := sb.trans sD
  have nD : H D = none := sb.free hD
  walk_at "rd"
  refine ⟨by rw [List.length_map]; omega, ?_⟩
  rw [show ((List.map V.int ns).length : Int).toNat = ns.length by rw [List.length_map]; omega]
  have row_all : ∀ (n : Int) (i k : Nat), rowP n ms i ms.length k = n * upI ms i k := fun n i k => by
    unfold rowP upI
    by_cases h : i ≤ k
    · rw [if_pos h]
      by_cases h2 : k - i < ms.length
      · rw [if_pos ⟨h, h2⟩]
      · rw [if_neg (fun e => h2 e.2), gD_lt (by omega), Int.mul_zero]
    · rw [if_neg (fun e => h e.1), if_neg h, Int.mul_zero]
  refine for_range (lo := 0) (n := ns.length) (fun i σ X => ∃ y3 y4, σ = [some (.ref p), some (.ref r), some (.ref D), y3, y4] ∧ Same H X ∧
    X D = some (.lst ((List.range N).map fun k => V.int (sumF (fun i => ns.getD i 0 * upI ms i k) i)))) ⟨_, _, rfl, sH, gD⟩ ?_ ?_
  · rintro i σ X hi ⟨y3, y4, rfl, sX, gX⟩
    obtain ⟨n, hn⟩ : ∃ n, ns[i]? = some n := ⟨_, List.getElem?_eq_getElem hi⟩
    have hnD : ns.getD i 0 = n := by rw [List.getD_eq_getElem?_getD, hn]; rfl
    have an : atI (ns.map V.int) (0 + (i : Int)) = some (V.int n) := at_of (j := i) (by omega) (by rw [List.getElem?_map, hn]; rfl)
    have hqX := sX _ _ hq
    walk_at "rd"
    refine ⟨by rw [List.length_map]; omega, ?_⟩
    rw [show ((List.map V.int ms).length : Int).toNat = ms.length by rw [List.length_map]; omega]
    refine for_range (lo := 0) (n := ms.length) (fun j σ Y => ∃ y4, σ = [some (.ref p), some (.ref r), some (.ref D), some (.int (0 + (i : Int))), y4] ∧ Same H Y ∧
      Y D = some (.lst ((List.range N).map fun k => V.int (sumF (fun i => ns.getD i 0 * upI ms i k) i + rowP n ms i j k)))) ⟨_, rfl, sX, ?_⟩ ?_ ?_
    · rw [gX]
      congr 2
      congr 1
      funext k
      rw [rowP_zero, Int.add_zero]
    · rintro j σ Y hj ⟨y4, rfl, sY, gY⟩
      obtain ⟨m, hm⟩ : ∃ m, ms[j]? = some m := ⟨_, List.getElem?_eq_getElem hj⟩
      have hmD : ms.getD j 0 = m := by rw [List.getD_eq_getElem?_getD, hm]; rfl
      have am : atI (ms.map V.int) (0 + (j : Int)) = some (V.int m) := at_of (j := j) (by omega) (by rw [List.getElem?_map, hm]; rfl)
      have eij : ((0 + (i : Int)) + (0 + (j : Int))).toNat = i + j := by omega
      have hij : i + j < N := by omega
      have a1 : atI ((List.range N).map fun k => V.int (sumF (fun i => ns.getD i 0 * upI ms i k) i + rowP n ms i j k)) ((0 + (i : Int)) + (0 + (j : Int))) = some (V.int (sumF (fun i' => ns.getD i' 0 * upI ms i' (i + j)) i + rowP n ms i j (i + j))) :=
        at_of (j := i + j) (by omega) (by rw [List.getElem?_map, List.getElem?_range hij]; rfl)
      refine ⟨_, rfl, _, rfl, _, rfl, Or.inl ⟨_, _, rfl, rfl, Or.inl ⟨_, _, _, _, rfl, rfl, SqL.of' gY, a1, ?_⟩⟩⟩
      refine ⟨_, rfl, _, rfl, Or.inr (Or.inl ⟨_, _, _, _, rfl, rfl, SqT.of' (sY _ _ hp), an, ?_⟩)⟩
      refine ⟨_, rfl, _, rfl, Or.inr (Or.inl ⟨_, _, _, _, rfl, rfl, SqT.of' (sY _ _ hq), am, ?_⟩)⟩
      refine Or.inr (Or.inl ⟨_, _, rfl, rfl, small_mul (z1 n (List.mem_of_getElem? hn)) (z2 m (List.mem_of_getElem? hm)), Or.inl ⟨_, _, rfl, rfl, ?_⟩⟩)
      refine ⟨_, rfl, _, rfl, _, rfl, Or.inl ⟨_, _, rfl, rfl, ?_⟩⟩
      refine ⟨D, _, _, i + j, rfl, rfl, gY, ?_, ?_⟩
      · unfold ixN
        rw [List.length_map, List.length_range, if_pos (by omega), if_pos (by omega), eij]
      · refine ⟨_, rfl, fun b o hb => ?_, ?_⟩
        · rw [upd_ne (ne_of_none hb nD)]
          exact sY b o hb
        · rw [upd_same, range_set]
          congr 2
          congr 1
          funext k
          rw [rowP_next, hmD]
          by_cases hk2 : k = i + j
          · rw [if_pos hk2, if_pos hk2, hk2]
            exact congrArg V.int (Int.add_assoc _ _ _)
          · rw [if_neg hk2, if_neg hk2]
    · rintro σ Y ⟨y4, rfl, sY, gY⟩
      refine ⟨_, _, rfl, sY, ?_⟩
      rw [gY]
      congr 2
      congr 1
      funext k
      rw [row_all]
      show V.int _ = V.int (sumF _ i + ns.getD i 0 * upI ms i k)
      rw [hnD]
  · rintro σ X ⟨y3, y4, rfl, sX, gX⟩
    have gX' : X D = some (.lst ((prodL ns ms).map V.int)) := by
      rw [gX, hN]
      unfold prodL
      rw [List.map_map]
      rfl
    refine ⟨_, rfl, ⟨D, _, rfl, SqL.of' gX', by unfold prodL; rw [List.length_map, List.length_range]; omega, fun H' z s5 n5 pz => q H' z (sX.trans s5) (sX.free n5) pz⟩⟩
def takP (ls : List Int) (s : Int) (ms : List Int) : List Int := (List.range (ls.length - 1)).map fun k => ls.getD k 0 - s * upI ms (ls.length - ms.length) k
def shP (ms : List Int) : Nat → List Int → List Int → Option (List Int × List Int)
  | 0, fd, ls => some (fd, ls)
  | m + 1, fd, ls => if (lastI ls).fdiv (lastI ms) * lastI ms = lastI ls then shP ms m ((lastI ls).fdiv (lastI ms) :: fd) (takP ls ((lastI ls).fdiv (lastI ms)) ms) else none
theorem takP_get {ls ms : List Int} {s : Int} (h0 : 0 < ms.length) (h1 : ms.length ≤ ls.length) (e : s * lastI ms = lastI ls) (k : Nat) : ls.getD k 0 = (takP ls s ms).getD k 0 + s * upI ms (ls.length - ms.length) k := by
  unfold takP
  by_cases h : k < ls.length - 1
  · rw [List.getD_eq_getElem?_getD (l := List.map _ _), List.getElem?_map, List.getElem?_range h]
    show _ = ls.getD k 0 - s * upI ms (ls.length - ms.length) k + s * upI ms (ls.length - ms.length) k
    omega
  · rw [List.getD_eq_getElem?_getD (l := List.map _ _), List.getElem?_eq_none (by rw [List.length_map, List.length_range]; omega)]
    show _ = 0 + s * upI ms (ls.length - ms.length) k
    rw [Int.zero_add]
    by_cases h2 : k = ls.length - 1
    · subst h2
      unfold upI
      rw [if_pos (by omega), show ls.length - 1 - (ls.length - ms.length) = ms.length - 1 by omega]
      exact e.symm
    · unfold upI
      rw [if_pos (by omega), List.getD_eq_getElem?_getD, List.getElem?_eq_none (by omega), List.getD_eq_getElem?_getD, List.getElem?_eq_none (by omega)]
      exact (Int.mul_zero s).symm
theorem takP_len (ls : List Int) (s : Int) (ms : List Int) : (takP ls s ms).length = ls.length - 1 := by
  unfold takP
  rw [List.length_map, List.length_range]
/-- what the steps find makes, times the divisor and with what is left, the number again -/
theorem sh_sound {ms : List Int} (h0 : 0 < ms.length) : ∀ (m : Nat) (fd ls fd' ls' : List Int), (m = 0 ∨ ls.length + 1 = ms.length + m) → shP ms m fd ls = some (fd', ls') →
    ∃ qs : List Int, fd' = qs ++ fd ∧ qs.length = m ∧ ls'.length + m = ls.length ∧ ∀ k, ls.getD k 0 = cvI (fun i => qs.getD i 0) ms m k + ls'.getD k 0
  | 0, fd, ls, fd', ls', _, h => by
    cases h
    exact ⟨[], rfl, rfl, rfl, fun k => (Int.zero_add _).symm⟩
  | m + 1, fd, ls, fd', ls', hl, h => by
    unfold shP at h
    by_cases c : (lastI ls).fdiv (lastI ms) * lastI ms = lastI ls
    · rw [if_pos c] at h
      obtain ⟨s, hs⟩ : ∃ s, s = (lastI ls).fdiv (lastI ms) := ⟨_, rfl⟩
      rw [← hs] at h c
      have tl := takP_len ls s ms
      obtain ⟨qs, e1, e2, e3, e4⟩ := sh_sound h0 m (s :: fd) (takP ls s ms) fd' ls' (by omega) h
      refine ⟨qs ++ [s], by rw [e1, List.append_assoc]; rfl, by rw [List.length_append, e2]; rfl, by omega, fun k => ?_⟩
      have g := takP_get h0 (by omega) c k
      have em : ls.length - ms.length = m := by omega
      rw [em] at g
      have gs : (qs ++ [s]).getD m 0 = s := by
        rw [List.getD_eq_getElem?_getD, List.getElem?_append_right (by omega), e2, Nat.sub_self]
        rfl
      have gc : cvI (fun i => (qs ++ [s]).getD i 0) ms m k = cvI (fun i => qs.getD i 0) ms m k := cvI_congr ms k m fun i hi => by
        rw [List.getD_eq_getElem?_getD, List.getElem?_append_left (by omega), ← List.getD_eq_getElem?_getD]
      show ls.getD k 0 = cvI (fun i => (qs ++ [s]).getD i 0) ms m k + (qs ++ [s]).getD m 0 * upI ms m k + ls'.getD k 0
      rw [gc, gs, g, e4 k]
      omega
    · rw [if_neg c] at h
      cases h
/-- where there is a whole quotient, the steps find it -/
theorem sh_full {ms : List Int} (h0 : 0 < ms.length) (lm : lastI ms ≠ 0) (q : Nat → Int) (r : Nat → Int) (hr : ∀ k, ms.length ≤ k + 1 → r k = 0) : ∀ (m : Nat) (fd ls : List Int), (m = 0 ∨ ls.length + 1 = ms.length + m) →
    (∀ k, ls.getD k 0 = cvI q ms m k + r k) → ∃ ls', shP ms m fd ls = some ((List.range m).map q ++ fd, ls') ∧ ∀ k, ls'.getD k 0 = r k
  | 0, fd, ls, _, h => ⟨ls, rfl, fun k => by rw [h k]; exact Int.zero_add _⟩
  | m + 1, fd, ls, hl, h => by
    have top : lastI ls = q m * lastI ms := by
      unfold lastI
      rw [h]
      show cvI q ms m (ls.length - 1) + q m * upI ms m (ls.length - 1) + r (ls.length - 1) = _
      rw [hr _ (by omega), cvI_high _ _ _ (by omega)]
      unfold upI
      rw [if_pos (by omega), show ls.length - 1 - m = ms.length - 1 by omega]
      omega
    have fd1 : (lastI ls).fdiv (lastI ms) = q m := by rw [top]; exact Int.mul_fdiv_cancel _ lm
    have c : q m * lastI ms = lastI ls := top.symm
    have tl := takP_len ls (q m) ms
    obtain ⟨ls', e1, e2⟩ := sh_full h0 lm q r hr m (q m :: fd) (takP ls (q m) ms) (by omega) (fun k => by
      have g := takP_get h0 (by omega) c k
      have em : ls.length - ms.length = m := by omega
      rw [em, h k] at g
      have g2 : cvI q ms (m + 1) k = cvI q ms m k + q m * upI ms m k := rfl
      rw [g2] at g
      omega)
    refine ⟨ls', ?_, e2⟩
    unfold shP
    rw [fd1, if_pos c, e1, List.range_succ, List.map_append, List.append_assoc]
    rfl
theorem dp_all {K : PySem.W.Frag} {H : Hp} : ∀ ls : List Int, DpAll K H (ls.map V.int) (ls.map PyData.int)
  | [] => .nil
  | n :: t => .cons (.int n) (dp_all t)
theorem lay_ints : ∀ ls : List Int, PyData.canLayAll0 (ls.map PyData.int) = true
  | [] => rfl
  | n :: t => lay_ints t
theorem deep_ints : ∀ ls : List Int, PyData.depthAll (ls.map PyData.int) = 0
  | [] => rfl
  | n :: t => by
    show max (PyData.depth (.int n)) (PyData.depthAll (t.map PyData.int)) = 0
    rw [deep_ints t]
    rfl
theorem shaped_ints (ls : List Int) : SeqAt.shaped (.tuple (ls.map PyData.int)) = true := by
  show (PyData.canLayAll0 (ls.map PyData.int) && decide (PyData.depthAll (ls.map PyData.int) + 1 ≤ 64)) = true
  rw [lay_ints, deep_ints]
  rfl
theorem eqv_ints (ls : List Int) : PyData.eqv (.tuple (ls.map PyData.int)) (.tuple (ls.map PyData.int)) = true := PySem.SeqAt.eqv_refl _ (lay_ints ls)
theorem sz_fdiv {k : Nat} {a b : Int} (h : sz k a) (hb : b ≠ 0) : sz (k + 1) (a.fdiv b) := by
  have e : (a.fdiv b).natAbs ≤ a.natAbs + 1 := by
    rw [Int.fdiv_eq_ediv]
    have := Int.natAbs_ediv_le_natAbs a b
    split <;> omega
  have h' : a.natAbs < 2 ^ k := h
  show (a.fdiv b).natAbs < 2 ^ (k + 1)
  rw [Nat.pow_succ]
  have p := Nat.one_le_two_pow (n := k)
  omega
def sp_share (K : PySem.W.Frag) : Sp := fun vs H Q _ => ∃ (p r : Addr) (ns ms : List Int), vs = [.ref p, .ref r] ∧ H p = some (.tup (ns.map V.int)) ∧ H r = some (.tup (ms.map V.int)) ∧ 0 < ms.length ∧ ms.length ≤ 10 ∧ lastI ms ≠ 0 ∧ ns.length ≤ 40 ∧ (∀ n ∈ ns, sz 300 n) ∧ (∀ n ∈ ms, sz 9 n) ∧
  (∀ H', Same H H' → (∀ fd ls, shP ms (ns.length + 1 - ms.length) [] ns = some (fd, ls) → bare ls ≠ []) → Q .non H') ∧
  ∀ H' z fd ls, Same H H' → shP ms (ns.length + 1 - ms.length) [] ns = some (fd, ls) → bare ls = [] → PolyAt H' z (bare fd) → Q (.ref z) H'
theorem ok_share (T : Bi K mg) (D : Df K mg) : Cal P w K mg base CX0 2 "_law_share" s_share ["_law_this", "_law_that"] (sp_share K) := by
  refine Cal.mk' D.share (fun _ _ _ _ _ _ us hl => match us, hl with | [_, _], _ => rfl) fun f fd F => F.ok sc_share (fun vs H Q E h => ?_) (fun cdv A outer s H vs Q E hr h => ?_)
  · obtain ⟨_, _, _, _, rfl, _⟩ := h
    rfl
  obtain ⟨p, r, ns, ms, rfl, hp, hq, h0, h1, lm, h2, z1, z2, qn, qs⟩ := h
  refine ⟨_, (pss_cons (ps_set (i := 2) sc_share.nd rfl (by first | exact Or.inl rfl | exact Or.inr rfl) (pe_callTy c_list (by rfl) T.b_list (by decide +kernel) (pa_cons (pv 0) pa_nil)))
      (pss_cons (ps_set (i := 3) sc_share.nd rfl (by first | exact Or.inl rfl | exact Or.inr rfl) (n_lst pa_nil))
      (pss_cons (ps_while PassesOwn.never (pt_cmpR op_ge (pe_callB call_len (by rfl) T.b_len (by decide +kernel) (pa_cons (pv 2) pa_nil)) (pe_callB call_len (by rfl) T.b_len (by decide +kernel) (pa_cons (pv 1) pa_nil)) (nomark _)) (pss_cons (ps_set (i := 4) sc_share.nd rfl (by first | exact Or.inl rfl | exact Or.inr rfl) (pe_op o_fdv (pe_ix ix_seq (pv 2) (pe_un un_neg pe_int) (fun _ _ => rfl)) (pe_ix ix_seq (pv 1) (pe_un un_neg pe_int) (fun _ _ => rfl))))
      (pss_cons (ps_if (pt_cmpR (o_ne hr.units) (pe_op o_mul (pv 4) (pe_ix ix_seq (pv 1) (pe_un un_neg pe_int) (fun _ _ => rfl))) (pe_ix ix_seq (pv 2) (pe_un un_neg pe_int) (fun _ _ => rfl)) (nomark _)) (pss_one (ps_ret pe_non)) pss_nil)
      (pss_cons (ps_set (i := 3) sc_share.nd rfl (by first | exact Or.inl rfl | exact Or.inr rfl) (pe_op o_add (n_lst (pa_cons (pv 4) pa_nil)) (pv 3)))
      (pss_cons (ps_for PassesOwn.never rfl (pi_range1 (by rfl) T.b_range (pa_cons (pe_callB call_len (by rfl) T.b_len (by decide +kernel) (pa_cons (pv 1) pa_nil)) pa_nil)) (pg_name (i := 5) sc_share.nd rfl (by first | exact Or.inl rfl | exact Or.inr rfl)) (pss_cons (ps_set (i := 6) sc_share.nd rfl (by first | exact Or.inl rfl | exact Or.inr rfl) (pe_op o_add (pe_op o_sub (pe_callB call_len (by rfl) T.b_len (by decide +kernel) (pa_cons (pv 2) pa_nil)) (pe_callB call_len (by rfl) T.b_len (by decide +kernel) (pa_cons (pv 1) pa_nil))) (pv 5)))
      (pss_one (ps_asg (pe_op o_sub (pe_ix ix_seq (pv 2) (pv 6) (fun _ _ => rfl)) (pe_op o_mul (pv 4) (pe_ix ix_seq (pv 1) (pv 5) (fun _ _ => rfl)))) (pg_sub (pv 2) (pv 6) set_list)))))
      (pss_one (ps_set (i := 2) sc_share.nd rfl (by first | exact Or.inl rfl | exact Or.inr rfl) (pe_slice s_any (pv 2) po_none (po_some (pe_un un_neg pe_int))))))))))
      (pss_cons (ps_if (pt_cmpR (o_ne hr.units) (pe_own (ok_bare T D) (hr.mono (by decide)) (by rfl) pass0 (pa_cons (pv 2) pa_nil)) (n_tup pa_nil) (nomark _)) (pss_one (ps_ret pe_non)) pss_nil)
      (pss_one (ps_ret (pe_own (ok_bare T D) (hr.mono (by decide)) (by rfl) pass0 (pa_cons (pv 3) pa_nil)))))))), ?_⟩
  walk_at "rd"
  refine ⟨p, _, rfl, .inr (SqT.of' hp), fun L0 G1 hL0 s1 gL0 => ?_⟩
  refine ⟨by walk_at "sz", fun F0 G2 hF0 s2 gF0 => ?_⟩
  obtain ⟨T', hT'⟩ : ∃ t, t = ns.length + 1 - ms.length := ⟨_, rfl⟩
  rw [← hT'] at qn qs
  obtain ⟨W, hW⟩ : ∃ W : Nat → L2.St → Hp → Prop, W = fun m σ X => ∃ (L F : Addr) (ls fd : List Int) (y4 y5 y6 : Option V), σ = [some (.ref p), some (.ref r), some (.ref L), some (.ref F), y4, y5, y6] ∧ X L = some (.lst (ls.map V.int)) ∧ X F = some (.lst (fd.map V.int)) ∧ F ≠ L ∧ H L = none ∧ Same H X ∧
    m ≤ T' ∧ ls.length + T' = ns.length + m ∧ (∀ n ∈ ls, sz (300 + (T' - m) * 12) n) ∧ fd.length + m = T' ∧ shP ms T' [] ns = shP ms m fd ls := ⟨_, rfl⟩
  refine ⟨W, ⟨T', ?_⟩, ?_⟩
  · rw [hW]
    refine ⟨L0, F0, ns, [], _, _, _, rfl, s2 _ _ gL0, gF0, fun e => ?_, hL0, s1.trans s2, Nat.le_refl _, rfl, ?_, by simp, rfl⟩
    · rw [e, gL0] at hF0
      cases hF0
    · rw [Nat.sub_self, Nat.zero_mul]
      exact z1
  intro m σ X hw
  rw [hW] at hw
  obtain ⟨L, F, ls, fd, y4, y5, y6, rfl, gL, gF, hFL, nL, sX, hm, hl, zl, hfd, hsh⟩ := hw
  have hqX := sX _ _ hq
  refine ⟨_, rfl, _, _, rfl, .inl ⟨_, SqL.of' gL, rfl⟩, _, rfl, _, _, rfl, .inr ⟨_, SqT.of' hqX, rfl⟩, _, _, rfl, rfl, ?_⟩
  rw [List.length_map, List.length_map]
  refine ⟨_, rfl, ite2 (fun c => ?_) (fun c => ?_)⟩
  · have c' : (ms.length : Int) ≤ ls.length := of_decide_eq_true c
    obtain ⟨m', rfl⟩ : ∃ m', m = m' + 1 := ⟨m - 1, by omega⟩
    refine ⟨W m', fun σ' X' h => ⟨m', Nat.lt_succ_self _, h⟩, ?_⟩
    have l0 : 0 < ls.length := by omega
    have ss : small ((lastI ls).fdiv (lastI ms)) := sz_small (sz_fdiv (zl _ (lastI_mem l0)) lm) (by omega)
    have sm1 : small (lastI ms) := sz_small (z2 _ (lastI_mem h0)) (by decide)
    have lg : (lastI ms).natAbs.log2 < 9000 := Nat.lt_trans ((Nat.log2_lt (fun e => lm (Int.natAbs_eq_zero.mp e))).mpr (z2 _ (lastI_mem h0))) (by decide)
    refine ⟨_, rfl, _, rfl, Or.inl ⟨_, _, _, _, rfl, rfl, SqL.of' gL, at_last l0, ⟨_, rfl, _, rfl, Or.inr (Or.inl ⟨_, _, _, _, rfl, rfl, SqT.of' hqX, at_last h0, ?_⟩)⟩⟩⟩
    refine Or.inr ⟨_, _, rfl, rfl, ⟨lm, lg⟩, ?_⟩
    refine ⟨_, rfl, _, rfl, _, rfl, Or.inr (Or.inl ⟨_, _, _, _, rfl, rfl, SqT.of' hqX, at_last h0, Or.inr (Or.inl ⟨_, _, rfl, rfl, small_mul ss sm1, ⟨_, rfl, _, rfl, Or.inl ⟨_, _, _, _, rfl, rfl, SqL.of' gL, at_last l0, Or.inl ⟨rfl, ?_⟩⟩⟩⟩)⟩)⟩
    refine ⟨_, rfl, ite2 (fun c2 => ?_) (fun c2 => ?_)⟩
    · have c3 : ¬ (lastI ls).fdiv (lastI ms) * lastI ms = lastI ls := fun e => by
        rw [decide_eq_true (congrArg V.int e)] at c2
        cases c2
      have hn : shP ms T' [] ns = none := by
        rw [hsh]
        unfold shP
        rw [if_neg c3]
      exact qn X sX (fun fd' ls' e => by rw [hn] at e; cases e)
    · have c3 : (lastI ls).fdiv (lastI ms) * lastI ms = lastI ls := by
        refine Classical.byContradiction fun e => c2 ?_
        rw [decide_eq_false (fun h => e (V.int.inj h))]
        rfl
      have hsh2 : shP ms T' [] ns = shP ms m' ((lastI ls).fdiv (lastI ms) :: fd) (takP ls ((lastI ls).fdiv (lastI ms)) ms) := by
        rw [hsh]
        show (if _ then _ else _) = _
        rw [if_pos c3]
      have zs := sz_fdiv (zl _ (lastI_mem l0)) lm
      refine ⟨_, rfl, ⟨by walk_at "sz", fun b Gb hb sb gb => ?_⟩⟩
      refine ⟨_, rfl, Or.inr (Or.inl ⟨b, F, _, _, rfl, rfl, SqL.of' gb, SqL.of' (sb _ _ gF), ?_, fun v Gv hv sv gv => ?_⟩)⟩
      · rw [List.length_map]
        exact Nat.le_trans (show 1 + fd.length ≤ 1000 by omega) (by decide)
      have gv' : Gv v = some (.lst ((((lastI ls).fdiv (lastI ms) :: fd).map V.int))) := gv
      have hqV := sv _ _ (sb _ _ hqX)
      have gLV := sv _ _ (sb _ _ gL)
      have sV := sX.trans (sb.trans sv)
      have vL : v ≠ L := fun e => by
        have gLb := sb _ _ gL
        rw [e, gLb] at hv
        cases hv
      obtain ⟨d, hd⟩ : ∃ d, d = ls.length - ms.length := ⟨_, rfl⟩
      have lsR : ls.map V.int = (List.range ls.length).map fun k => V.int (ls.getD k 0 - rowP ((lastI ls).fdiv (lastI ms)) ms d 0 k) := by
        apply List.ext_getElem
        · simp
        · intro i h1 h2
          rw [List.length_map] at h1
          simp only [List.getElem_map, List.getElem_range]
          rw [rowP_zero, Int.sub_zero, List.getD_eq_getElem?_getD, List.getElem?_eq_getElem h1]
          rfl
      refine ⟨_, rfl, _, _, rfl, .inr ⟨_, SqT.of' hqV, rfl⟩, ?_⟩
      refine ⟨_, rfl, ?_⟩
      refine ⟨by rw [List.length_map]; omega, by rw [List.length_map]; omega, ?_⟩
      rw [show ((List.map V.int ms).length : Int).toNat = ms.length by rw [List.length_map]; omega]
      refine for_range (lo := 0) (n := ms.length) (fun j σ Y => ∃ y5 y6, σ = [some (.ref p), some (.ref r), some (.ref L), some (.ref v), some (.int ((lastI ls).fdiv (lastI ms))), y5, y6] ∧ Same H Y ∧ Y v = some (.lst (((lastI ls).fdiv (lastI ms) :: fd).map V.int)) ∧
        Y L = some (.lst ((List.range ls.length).map fun k => V.int (ls.getD k 0 - rowP ((lastI ls).fdiv (lastI ms)) ms d j k)))) ⟨_, _, rfl, sV, gv', by rw [← lsR]; exact gLV⟩ ?_ ?_
      · rintro j σ Y hj ⟨y5, y6, rfl, sY, gvY, gY⟩
        obtain ⟨m, hm⟩ : ∃ m, ms[j]? = some m := ⟨_, List.getElem?_eq_getElem hj⟩
        have hqY := sY _ _ hq
        have hmD : ms.getD j 0 = m := by rw [List.getD_eq_getElem?_getD, hm]; rfl
        have am : atI (ms.map V.int) (0 + (j : Int)) = some (V.int m) := at_of (j := j) (by omega) (by rw [List.getElem?_map, hm]; rfl)
        have hij : d + j < ls.length := by omega
        have edj : ((ls.length : Int) - (ms.length : Int) + (0 + (j : Int))).toNat = d + j := by omega
        have a1 : atI ((List.range ls.length).map fun k => V.int (ls.getD k 0 - rowP ((lastI ls).fdiv (lastI ms)) ms d j k)) ((ls.length : Int) - (ms.length : Int) + (0 + (j : Int))) = some (V.int (ls.getD (d + j) 0 - rowP ((lastI ls).fdiv (lastI ms)) ms d j (d + j))) :=
          at_of (j := d + j) (by omega) (by rw [List.getElem?_map, List.getElem?_range hij]; rfl)
        refine ⟨_, rfl, _, _, rfl, .inl ⟨_, SqL.of' gY, rfl⟩, _, rfl, _, _, rfl, .inr ⟨_, SqT.of' hqY, rfl⟩, _, _, rfl, rfl, _, rfl, Or.inl ⟨_, _, rfl, rfl, ?_⟩⟩
        rw [List.length_map, List.length_range, List.length_map]
        refine ⟨_, rfl, _, rfl, Or.inl ⟨_, _, _, _, rfl, rfl, SqL.of' gY, a1, ?_⟩⟩
        refine ⟨_, rfl, _, rfl, _, rfl, Or.inr (Or.inl ⟨_, _, _, _, rfl, rfl, SqT.of' hqY, am, Or.inr (Or.inl ⟨_, _, rfl, rfl, small_mul ss (sz_small (z2 m (List.mem_of_getElem? hm)) (by decide)), ⟨_, _, rfl, rfl, ?_⟩⟩)⟩)⟩
        refine ⟨_, rfl, _, rfl, L, _, _, d + j, rfl, rfl, gY, ?_, ?_⟩
        · unfold ixN
          rw [List.length_map, List.length_range, if_pos (by omega), if_pos (by omega), edj]
        · refine ⟨_, _, rfl, fun b o hb => ?_, (upd_ne vL).trans gvY, ?_⟩
          · rw [upd_ne (ne_of_none hb nL)]
            exact sY b o hb
          · rw [upd_same, range_set]
            congr 2
            congr 1
            funext k
            rw [rowP_next, hmD]
            by_cases hk2 : k = d + j
            · rw [if_pos hk2, if_pos hk2, hk2]
              exact congrArg V.int (Int.sub_sub _ _ _)
            · rw [if_neg hk2, if_neg hk2]
      · rintro σ Y ⟨y5, y6, rfl, sY, gvY, gY⟩
        refine ⟨_, rfl, _, rfl, _, rfl, Or.inl ⟨_, _, rfl, SqL.of' gY, fun z G hz sG gz => ?_⟩⟩
        have row_all : ∀ (n : Int) (i k : Nat), rowP n ms i ms.length k = n * upI ms i k := fun n i k => by
          unfold rowP upI
          by_cases h : i ≤ k
          · rw [if_pos h]
            by_cases h2 : k - i < ms.length
            · rw [if_pos ⟨h, h2⟩]
            · rw [if_neg (fun e => h2 e.2), gD_lt (by omega), Int.mul_zero]
          · rw [if_neg (fun e => h e.1), if_neg h, Int.mul_zero]
        have gz' : G z = some (.lst ((takP ls ((lastI ls).fdiv (lastI ms)) ms).map V.int)) := by
          have e1 : ∀ l : List V, HT.sIx l.length l.length (some (-1)) = l.length - 1 := fun l => by
            show (if (-1 : Int) < 0 then ((-1 : Int) + (l.length : Int)).toNat else min (-1 : Int).toNat l.length) = l.length - 1
            rw [if_pos (by decide)]
            omega
          rw [gz]
          congr 2
          unfold takP cutV
          rw [e1, HT.sIx_none, List.length_map, List.length_range, Nat.sub_zero, List.drop_zero, ← List.map_take, List.take_range, Nat.min_eq_left (by omega), List.map_map]
          refine List.map_congr_left fun k _ => ?_
          rw [row_all, hd]
          rfl
        rw [hW]
        have tl := takP_len ls ((lastI ls).fdiv (lastI ms)) ms
        refine ⟨z, v, takP ls ((lastI ls).fdiv (lastI ms)) ms, (lastI ls).fdiv (lastI ms) :: fd, _, _, _, rfl, gz', sG _ _ gvY, fun e => ?_, sY.free hz, sY.trans sG, by omega, by omega, fun n hn => ?_, ?_, hsh2⟩
        · rw [e, hz] at gvY
          cases gvY
        · unfold takP at hn
          obtain ⟨k, hk, rfl⟩ := List.mem_map.mp hn
          have hk' := List.mem_range.mp hk
          have za : sz (300 + (T' - (m' + 1)) * 12) (ls.getD k 0) := zl _ (by
            rw [List.getD_eq_getElem?_getD, List.getElem?_eq_getElem (show k < ls.length by omega)]
            exact List.getElem_mem _)
          have zu : sz 9 (upI ms (ls.length - ms.length) k) := by
            unfold upI
            split
            · rw [List.getD_eq_getElem?_getD]
              cases e : ms[k - (ls.length - ms.length)]? with
              | none => exact sz_lit
              | some v => exact z2 v (List.mem_of_getElem? e)
            · exact sz_lit
          exact sz_mono (sz_sub2 (sz_mono za (by omega)) (sz_mul zs zu)) (by omega)
        · rw [List.length_cons]
          omega
  · have c' : ¬ (ms.length : Int) ≤ ls.length := fun e => c (decide_eq_true e)
    have m0 : m = 0 := by omega
    subst m0
    have hsh' : shP ms T' [] ns = some (fd, ls) := hsh
    refine ⟨_, rfl, ⟨L, ls, rfl, SqL.of' gL, by omega, fun H3 z3 s3 n3 P3 => ?_⟩⟩
    refine ⟨by walk_at "sz", fun e4 H4 h4 s4 g4 => ?_⟩
    have s34 := sX.trans (s3.trans s4)
    have P4 := P3.same s4
    by_cases hb : bare ls = []
    · have hb4 : PyData.eqv (.tuple ((bare ls).map PyData.int)) (.tuple []) = true := by rw [hb]; rfl
      refine Or.inr ⟨_, _, .tup (SqT.of' P4.get) (dp_all _), .tup (SqT.of' g4) .nil, shaped_ints _, rfl, ?_⟩
      rw [hb4]
      refine ⟨false, rfl, iteF ?_⟩
      refine ⟨_, rfl, ⟨F, fd, rfl, SqL.of' (s4 _ _ (s3 _ _ gF)), by omega, fun H5 z5 s5 n5 P5 => qs H5 z5 fd ls (s34.trans s5) hsh' hb P5⟩⟩
    · have hb4 : PyData.eqv (.tuple ((bare ls).map PyData.int)) (.tuple []) = false := by
        cases e : bare ls with
        | nil => exact absurd e hb
        | cons x t => simp [PyData.eqv, PyData.eqvAll]
      refine Or.inr ⟨_, _, .tup (SqT.of' P4.get) (dp_all _), .tup (SqT.of' g4) .nil, shaped_ints _, rfl, ?_⟩
      rw [hb4]
      refine ⟨true, rfl, iteT ?_⟩
      exact qn H4 s34 (fun fd' ls' e => by
        rw [hsh'] at e
        cases e
        exact hb)
/-- bare rows with the same numbers are one -/
theorem bare_ext8 {l m : List Int} (hl : Bare l) (hm : Bare m) (h : ∀ k, l.getD k 0 = m.getD k 0) : l = m := by
  have len : ∀ {l m : List Int}, Bare l → (∀ k, l.getD k 0 = m.getD k 0) → l.length ≤ m.length := by
    intro l m hl h
    cases hL : l.length with
    | zero => omega
    | succ L =>
      refine Decidable.byContradiction fun hc => ?_
      have e : l[L]? = some (l[L]'(by omega)) := List.getElem?_eq_getElem (by omega)
      have h2 := h L
      rw [gD_lt (l := m) (by omega), List.getD_eq_getElem?_getD, e] at h2
      have e1 : l.length - 1 = L := by omega
      exact hl _ (by rw [List.getLast?_eq_getElem?, e1]; exact e) h2
  have e : l.length = m.length := Nat.le_antisymm (len hl h) (len hm fun k => (h k).symm)
  refine List.ext_getElem e fun i h1 h2 => ?_
  have := h i
  rw [List.getD_eq_getElem?_getD, List.getD_eq_getElem?_getD, List.getElem?_eq_getElem h1, List.getElem?_eq_getElem h2] at this
  exact this
def spSum (ns rs ms : List Int) (k : Nat) : Int := sumF (fun i => ns.getD i 0 * upI ms i k) ns.length + rs.getD k 0
def sumL (ns rs ms : List Int) : List Int := (List.range (ns.length + ms.length + rs.length)).map (spSum ns rs ms)
theorem cv_sum (ns ms : List Int) (k : Nat) : ∀ m, sumF (fun i => ns.getD i 0 * upI ms i k) m = cvI (fun i => ns.getD i 0) ms m k
  | 0 => rfl
  | m + 1 => by
    show sumF _ m + ns.getD m 0 * upI ms m k = cvI _ ms m k + ns.getD m 0 * upI ms m k
    rw [cv_sum ns ms k m]
theorem sumL_get (ns rs ms : List Int) (k : Nat) (hr : rs.length < ms.length) (h0 : 0 < ms.length) : (sumL ns rs ms).getD k 0 = cvI (fun i => ns.getD i 0) ms ns.length k + rs.getD k 0 := by
  unfold sumL
  by_cases h : k < ns.length + ms.length + rs.length
  · rw [List.getD_eq_getElem?_getD, List.getElem?_map, List.getElem?_range h]
    show spSum ns rs ms k = _
    unfold spSum
    rw [cv_sum]
  · rw [gD_lt (by rw [List.length_map, List.length_range]; omega), cvI_high _ _ _ (by omega), gD_lt (l := rs) (by omega)]
    rfl
theorem bare_at {l : List Int} {n : Nat} (h : l.getD n 0 ≠ 0) (z : ∀ k, n < k → l.getD k 0 = 0) : (bare l).length = n + 1 := by
  have h1 : n < (bare l).length := by
    refine Decidable.byContradiction fun hc => h ?_
    rw [← bare_get, gD_lt (by omega)]
  refine Decidable.byContradiction fun hc => ?_
  have l0 : 0 < (bare l).length := by omega
  refine lastI_ne l0 (bare_bare l) ?_
  unfold lastI
  rw [bare_get]
  exact z _ (by omega)
theorem exact_len {ns rs ms : List Int} (h0 : 0 < ms.length) (lm : lastI ms ≠ 0) (hn : Bare ns) (hb : Bare rs) (hr : rs.length < ms.length) : (bare (sumL ns rs ms)).length + 1 - ms.length = ns.length ∧ (ns.length = 0 ∨ (bare (sumL ns rs ms)).length + 1 = ms.length + ns.length) := by
  by_cases h : ns.length = 0
  · have e : bare (sumL ns rs ms) = rs := by
      refine bare_ext8 (bare_bare _) hb fun k => ?_
      rw [bare_get, sumL_get ns rs ms k hr h0, h]
      show 0 + _ = _
      rw [Int.zero_add]
    rw [e]
    omega
  · obtain ⟨m, hm⟩ : ∃ m, ns.length = m + 1 := ⟨ns.length - 1, by omega⟩
    have e : (bare (sumL ns rs ms)).length = (m + ms.length - 1) + 1 := by
      refine bare_at ?_ fun k hk => ?_
      · rw [sumL_get ns rs ms _ hr h0, hm, gD_lt (l := rs) (by omega)]
        show (cvI _ ms m _ + ns.getD m 0 * upI ms m _) + 0 ≠ 0
        rw [cvI_high _ _ _ (by omega)]
        unfold upI
        rw [if_pos (by omega), show m + ms.length - 1 - m = ms.length - 1 by omega, Int.zero_add, Int.add_zero]
        refine Int.mul_ne_zero ?_ lm
        have := lastI_ne (l := ns) (by omega) hn
        unfold lastI at this
        rw [hm] at this
        exact this
      · rw [sumL_get ns rs ms _ hr h0, cvI_high _ _ _ (by omega), gD_lt (l := rs) (by omega)]
        rfl
    omega
theorem exact_all {ns rs ms : List Int} (h0 : 0 < ms.length) (lm : lastI ms ≠ 0) (hn : Bare ns) (hb : Bare rs) (hr : rs.length < ms.length) :
    ((runP ms ((bare (sumL ns rs ms)).length + 1 - ms.length) 1 (bare (sumL ns rs ms))).1.reverse.map fun x => (frT x.1 x.2, frB x.1 x.2)) = ns.map (fun n => (n, (1 : Int))) ∧
    (((bare (runP ms ((bare (sumL ns rs ms)).length + 1 - ms.length) 1 (bare (sumL ns rs ms))).2.2).map fun n => (n, (runP ms ((bare (sumL ns rs ms)).length + 1 - ms.length) 1 (bare (sumL ns rs ms))).2.1)).map fun x => (frT x.1 x.2, frB x.1 x.2)) = rs.map (fun n => (n, (1 : Int))) := by
  have le := exact_len h0 lm hn hb hr
  rw [le.1]
  have hr0 : ∀ k, ms.length ≤ k + 1 → rs.getD k 0 = 0 := fun k hk => gD_lt (by omega)
  have ex := run_exact h0 lm (fun i => ns.getD i 0) (fun k => rs.getD k 0) hr0 ns.length 1 (bare (sumL ns rs ms)) (by decide) le.2 fun k => by
    rw [bare_get, sumL_get ns rs ms k hr h0, Int.one_mul]
  have sc := run_scale lm ns.length 1 (bare (sumL ns rs ms)) (by decide)
  constructor
  · rw [List.map_reverse, ex.1, ← List.map_reverse, List.reverse_reverse]
    apply List.ext_getElem
    · simp
    · intro i h1 h2
      simp only [List.getElem_map, List.getElem_range]
      rw [List.getD_eq_getElem?_getD, List.getElem?_eq_getElem (by simpa using h2)]
      rfl
  · have el : bare (runP ms ns.length 1 (bare (sumL ns rs ms))).2.2 = rs.map fun n => (runP ms ns.length 1 (bare (sumL ns rs ms))).2.1 * n := by
      refine bare_ext8 (bare_bare _) (fun x hx => ?_) fun k => ?_
      · rw [List.getLast?_map] at hx
        obtain ⟨n, hn', rfl⟩ := Option.map_eq_some_iff.mp hx
        exact Int.mul_ne_zero sc.1 (hb n hn')
      · rw [bare_get, ex.2 k, List.getD_eq_getElem?_getD, List.getD_eq_getElem?_getD, List.getElem?_map]
        cases rs[k]? with
        | none => show _ * (0 : Int) = 0; rw [Int.mul_zero]
        | some n => rfl
    rw [el, List.map_map, List.map_map]
    refine List.map_congr_left fun n _ => ?_
    show (frT (_ * n) _, frB (_ * n) _) = _
    rw [(fr_whole sc.1).1, (fr_whole sc.1).2]
theorem getD_lt' {l : List (Int × Int)} {x : Int × Int} {i : Nat} (h : i < l.length) : (l ++ [x]).getD i (0, 1) = l.getD i (0, 1) := by
  rw [List.getD_eq_getElem?_getD, List.getD_eq_getElem?_getD, List.getElem?_append_left h]
theorem qAt_sum (B : Int) (ms : List Int) (k : Nat) : ∀ L : List (Int × Int), qAt B ms L k = sumF (fun i => B / (L.reverse.getD i (0, 1)).2 * (L.reverse.getD i (0, 1)).1 * upI ms i k) L.length
  | [] => rfl
  | x :: t => by
    show B / x.2 * x.1 * upI ms t.length k + qAt B ms t k = sumF _ t.length + _
    rw [qAt_sum B ms k t, Int.add_comm, List.reverse_cons]
    have e1 : (t.reverse ++ [x]).getD t.length (0, 1) = x := by
      rw [List.getD_eq_getElem?_getD, List.getElem?_append_right (by simp)]
      simp
    congr 1
    · exact sumF_congr fun i hi => by rw [getD_lt' (by simpa using hi)]
    · show _ = B / ((t.reverse ++ [x]).getD t.length (0, 1)).2 * ((t.reverse ++ [x]).getD t.length (0, 1)).1 * upI ms t.length k
      rw [e1]
theorem cv_f (f : Nat → Int) (ms : List Int) (k : Nat) : ∀ m, sumF (fun i => f i * upI ms i k) m = cvI f ms m k
  | 0 => rfl
  | m + 1 => by
    show sumF _ m + f m * upI ms m k = cvI _ ms m k + f m * upI ms m k
    rw [cv_f f ms k m]
theorem wq_of {ns ms q : List Int} (h0 : 0 < ms.length) (lm : lastI ms ≠ 0) (hq : q.length = ns.length + 1 - ms.length) (hl : q.length = 0 ∨ ns.length + 1 = ms.length + q.length) (h : ∀ k, ns.getD k 0 = cvI (fun i => q.getD i 0) ms q.length k) :
    wqR ns ms = [] ∧ (∀ x ∈ wqN ns ms, frB x.1 x.2 = 1) ∧ wqT ns ms = q := by
  have ex := run_exact h0 lm (fun i => q.getD i 0) (fun _ => 0) (fun _ _ => rfl) q.length 1 ns (by decide) hl (fun k => by rw [h k, Int.one_mul, Int.add_zero])
  rw [hq] at ex
  have e1 : (wqN ns ms).map (fun x => (frT x.1 x.2, frB x.1 x.2)) = q.map fun n => (n, (1 : Int)) := by
    unfold wqN
    rw [List.map_reverse, ex.1, ← List.map_reverse, List.reverse_reverse, ← hq]
    apply List.ext_getElem
    · simp
    · intro i h1 h2
      simp only [List.getElem_map, List.getElem_range]
      rw [List.getD_eq_getElem?_getD, List.getElem?_eq_getElem (by simpa using h2)]
      rfl
  refine ⟨?_, fun x hx => ?_, ?_⟩
  · unfold wqR
    refine bare_ext8 (bare_bare _) (fun x hx => by cases hx) fun k => ?_
    rw [bare_get, ex.2 k, Int.mul_zero]
    rfl
  · have hm : (frT x.1 x.2, frB x.1 x.2) ∈ q.map fun n => (n, (1 : Int)) := e1 ▸ List.mem_map_of_mem hx
    obtain ⟨n, _, e⟩ := List.mem_map.mp hm
    exact (congrArg Prod.snd e).symm
  · have e2 := congrArg (List.map Prod.fst) e1
    rw [List.map_map, List.map_map] at e2
    have e3 : (Prod.fst ∘ fun n : Int => (n, (1 : Int))) = id := rfl
    rw [e3, List.map_id] at e2
    exact e2
theorem wqN_len (ns ms : List Int) : (wqN ns ms).length = ns.length + 1 - ms.length := by
  unfold wqN
  rw [List.length_reverse, run_len]
theorem wq_sum {ns ms : List Int} (h0 : 0 < ms.length) (lm : lastI ms ≠ 0) (hl : ns.length + 1 - ms.length = 0 ∨ ns.length + 1 = ms.length + (ns.length + 1 - ms.length)) (hR : wqR ns ms = []) (k : Nat) :
    (runP ms (ns.length + 1 - ms.length) 1 ns).2.1 * ns.getD k 0 = cvI (fun i => (runP ms (ns.length + 1 - ms.length) 1 ns).2.1 / ((wqN ns ms).getD i (0, 1)).2 * ((wqN ns ms).getD i (0, 1)).1) ms (ns.length + 1 - ms.length) k := by
  have rs := run_sum h0 lm (runP ms (ns.length + 1 - ms.length) 1 ns).2.1 k (ns.length + 1 - ms.length) 1 ns (by decide) hl (Int.dvd_refl _)
  have z : (runP ms (ns.length + 1 - ms.length) 1 ns).2.2.getD k 0 = 0 := by
    rw [← bare_get]
    have e : bare (runP ms (ns.length + 1 - ms.length) 1 ns).2.2 = [] := hR
    rw [e]
    rfl
  rw [z, Int.mul_zero, Int.add_zero, Int.ediv_one, qAt_sum, run_len] at rs
  rw [rs, ← cv_f]
  rfl
theorem mem_getD {α : Type} {l : List α} {d : α} {i : Nat} (h : i < l.length) : l.getD i d ∈ l := by
  rw [List.getD_eq_getElem?_getD, List.getElem?_eq_getElem h]
  exact List.getElem_mem h
theorem fr_all {t b : Int} (hb : b ≠ 0) (h : frB t b = 1) : t = b * frT t b := by
  have c := fr_cross (t := t) hb
  rw [h, Int.mul_one] at c
  exact c.symm.trans (Int.mul_comm _ _)
theorem wq_back {ns ms : List Int} (h0 : 0 < ms.length) (lm : lastI ms ≠ 0) (hl : ns.length + 1 - ms.length = 0 ∨ ns.length + 1 = ms.length + (ns.length + 1 - ms.length)) (hR : wqR ns ms = []) (hw : ∀ x ∈ wqN ns ms, frB x.1 x.2 = 1) (k : Nat) :
    ns.getD k 0 = cvI (fun i => (wqT ns ms).getD i 0) ms (ns.length + 1 - ms.length) k := by
  have sc := run_scale lm (ns.length + 1 - ms.length) 1 ns (by decide)
  have e := wq_sum h0 lm hl hR k
  rw [cvI_congr (r := fun i => (runP ms (ns.length + 1 - ms.length) 1 ns).2.1 * (wqT ns ms).getD i 0) ms k _ (fun i hi => ?_), cvI_mul] at e
  · exact Int.eq_of_mul_eq_mul_left sc.1 e
  · have hi' : i < (wqN ns ms).length := by rw [wqN_len]; exact hi
    have hm := mem_getD (d := ((0 : Int), (1 : Int))) hi'
    have et : (wqT ns ms).getD i 0 = frT ((wqN ns ms).getD i (0, 1)).1 ((wqN ns ms).getD i (0, 1)).2 := by
      unfold wqT
      rw [List.getD_eq_getElem?_getD, List.getD_eq_getElem?_getD, List.getElem?_map, List.getElem?_eq_getElem hi']
      rfl
    rw [et]
    have s2 := sc.2.2.2 _ (List.mem_reverse.mp hm)
    have fa := fr_all s2.1 (hw _ hm)
    generalize frT ((wqN ns ms).getD i (0, 1)).1 ((wqN ns ms).getD i (0, 1)).2 = t at *
    generalize ((wqN ns ms).getD i (0, 1)).1 = a at *
    generalize ((wqN ns ms).getD i (0, 1)).2 = b at *
    obtain ⟨w, hw⟩ := s2.2
    rw [fa, hw, Int.mul_ediv_cancel_left _ s2.1, ← Int.mul_assoc, Int.mul_comm w b]
theorem wq_gauss {ns ms : List Int} (h0 : 0 < ms.length) (lm : lastI ms ≠ 0) (hl : ns.length + 1 - ms.length = 0 ∨ ns.length + 1 = ms.length + (ns.length + 1 - ms.length)) (hR : wqR ns ms = []) (hg : ∀ p : Nat, 1 < p → ∃ j, j < ms.length ∧ ¬ (p : Int) ∣ ms.getD j 0) : ∀ x ∈ wqN ns ms, frB x.1 x.2 = 1 := by
  have sc := run_scale lm (ns.length + 1 - ms.length) 1 ns (by decide)
  have gs := gauss hg (ns.length + 1 - ms.length) _ (runP ms (ns.length + 1 - ms.length) 1 ns).2.1 _ (Nat.le_refl _) sc.1 (fun k => ⟨_, (wq_sum h0 lm hl hR k).symm⟩)
  intro x hx
  obtain ⟨i, hi, rfl⟩ := List.mem_iff_getElem.mp hx
  have g := gs i (by rw [← wqN_len ns ms]; exact hi)
  have ed : (wqN ns ms).getD i (0, 1) = (wqN ns ms)[i] := by rw [List.getD_eq_getElem?_getD, List.getElem?_eq_getElem hi]; rfl
  rw [ed] at g
  have s2 := sc.2.2.2 _ (List.mem_reverse.mp hx)
  generalize ((wqN ns ms)[i]).1 = a at *
  generalize ((wqN ns ms)[i]).2 = b at *
  obtain ⟨w, hw⟩ := s2.2
  have w0 : w ≠ 0 := fun e => sc.1 (by rw [hw, e, Int.mul_zero])
  rw [hw, Int.mul_ediv_cancel_left _ s2.1] at g
  have g2 : b ∣ a := Int.dvd_of_mul_dvd_mul_left w0 (by rw [Int.mul_comm w b]; exact g)
  obtain ⟨u, rfl⟩ := g2
  exact (fr_whole s2.1).2
theorem last_ne {ns : List Int} (h : 0 < ns.length) (hb : Bare ns) : ns.getD (ns.length - 1) 0 ≠ 0 := lastI_ne h hb
/-- where the steps find a share, the division finds the same -/
theorem wq_share {ns ms fd ls : List Int} (h0 : 0 < ms.length) (lm : lastI ms ≠ 0) (hb : Bare ns) (h : shP ms (ns.length + 1 - ms.length) [] ns = some (fd, ls)) (hz : bare ls = []) :
    wqR ns ms = [] ∧ (∀ x ∈ wqN ns ms, frB x.1 x.2 = 1) ∧ wqT ns ms = bare fd := by
  have hl : ns.length + 1 - ms.length = 0 ∨ ns.length + 1 = ms.length + (ns.length + 1 - ms.length) := by omega
  obtain ⟨qs, e1, e2, e3, e4⟩ := sh_sound h0 _ [] ns fd ls hl h
  rw [List.append_nil] at e1
  subst e1
  have hk : ∀ k, ns.getD k 0 = cvI (fun i => fd.getD i 0) ms fd.length k := fun k => by
    rw [e4 k, e2, ← bare_get ls, hz]
    exact Int.add_zero _
  have bf : bare fd = fd := by
    refine bare_ext8 (bare_bare _) (fun x hx => ?_) (bare_get fd)
    intro hx0
    have n0 : 0 < fd.length := by
      cases fd with
      | nil => cases hx
      | cons a t => exact Nat.succ_pos _
    obtain ⟨m, hm⟩ : ∃ m, fd.length = m + 1 := ⟨fd.length - 1, by omega⟩
    have hn : ns.length = ms.length + m := by omega
    have hne := last_ne (ns := ns) (by omega) hb
    rw [hk, hm] at hne
    refine hne ?_
    show cvI _ ms m _ + fd.getD m 0 * upI ms m _ = 0
    rw [cvI_high _ _ _ (by omega)]
    have ez : fd.getD m 0 = 0 := by
      rw [List.getLast?_eq_getElem?, show fd.length - 1 = m by omega] at hx
      rw [List.getD_eq_getElem?_getD, hx, hx0]
      rfl
    rw [ez, Int.zero_mul]
    rfl
  rw [bf]
  exact wq_of h0 lm e2 (by rw [e2]; exact hl) hk
/-- where the steps find none, the division finds none -/
theorem wq_noshare {ns ms : List Int} (h0 : 0 < ms.length) (lm : lastI ms ≠ 0) (h : ∀ fd ls, shP ms (ns.length + 1 - ms.length) [] ns = some (fd, ls) → bare ls ≠ []) :
    ¬ (wqR ns ms = [] ∧ ∀ x ∈ wqN ns ms, frB x.1 x.2 = 1) := by
  rintro ⟨hR, hw⟩
  have hl : ns.length + 1 - ms.length = 0 ∨ ns.length + 1 = ms.length + (ns.length + 1 - ms.length) := by omega
  obtain ⟨ls, e1, e2⟩ := sh_full h0 lm (fun i => (wqT ns ms).getD i 0) (fun _ => 0) (fun _ _ => rfl) (ns.length + 1 - ms.length) [] ns hl (fun k => by
    rw [Int.add_zero]
    exact wq_back h0 lm hl hR hw k)
  refine h _ _ e1 (bare_ext8 (bare_bare _) (fun x hx => by cases hx) fun k => ?_)
  rw [bare_get, e2 k]
  rfl
def IsG (g : Nat) (l : List Int) : Prop := (∀ n ∈ l, (g : Int) ∣ n) ∧ ∀ p : Nat, (∀ n ∈ l, (p : Int) ∣ n) → p ∣ g
theorem IsG.nil : IsG 0 [] := ⟨fun n h => (by cases h), fun p _ => Nat.dvd_zero p⟩
theorem IsG.snoc {g : Nat} {l : List Int} (n : Int) (h : IsG g l) : IsG (Nat.gcd g n.natAbs) (l ++ [n]) := by
  refine ⟨fun x hx => ?_, fun p hp => ?_⟩
  · rcases List.mem_append.mp hx with hx | hx
    · exact Int.dvd_trans (Int.natCast_dvd_natCast.mpr (Nat.gcd_dvd_left ..)) (h.1 x hx)
    · obtain rfl := List.mem_singleton.mp hx
      exact Int.natAbs_dvd_natAbs.mp (by rw [Int.natAbs_natCast]; exact Nat.gcd_dvd_right ..)
  · refine Nat.dvd_gcd (h.2 p fun x hx => hp x (List.mem_append_left _ hx)) ?_
    have := Int.natAbs_dvd_natAbs.mpr (hp n (List.mem_append_right _ (List.mem_singleton.mpr rfl)))
    rwa [Int.natAbs_natCast] at this
theorem none_why {ns ms : List Int} (h0 : 0 < ms.length) (lm : lastI ms ≠ 0) (h : ∀ fd ls, shP ms (ns.length + 1 - ms.length) [] ns = some (fd, ls) → bare ls ≠ []) (hR : wqR ns ms = []) :
    (∃ x ∈ wqN ns ms, frB x.1 x.2 ≠ 1) ∧ ∀ g, IsG g ms → 1 < g := by
  have hn := wq_noshare h0 lm h
  have hl : ns.length + 1 - ms.length = 0 ∨ ns.length + 1 = ms.length + (ns.length + 1 - ms.length) := by omega
  have ha : ¬ ∀ x ∈ wqN ns ms, frB x.1 x.2 = 1 := fun e => hn ⟨hR, e⟩
  refine ⟨Classical.byContradiction fun c => ha fun x hx => Classical.byContradiction fun d => c ⟨x, hx, d⟩, fun g hg => ?_⟩
  refine Classical.byContradiction fun c => ha (wq_gauss h0 lm hl hR fun p hp => ?_)
  refine Classical.byContradiction fun d => c ?_
  have all : ∀ n ∈ ms, (p : Int) ∣ n := fun n hn => by
    obtain ⟨j, hj, rfl⟩ := List.mem_iff_getElem.mp hn
    refine Classical.byContradiction fun e => d ⟨j, hj, ?_⟩
    rw [List.getD_eq_getElem?_getD, List.getElem?_eq_getElem hj]
    exact e
  have pg := hg.2 p all
  have g0 : g ≠ 0 := fun e => by
    have h1 := hg.1 _ (lastI_mem h0)
    rw [e] at h1
    exact lm (Int.zero_dvd.mp h1)
  exact Nat.lt_of_lt_of_le hp (Nat.le_of_dvd (Nat.pos_of_ne_zero g0) pg)
theorem wq_prod {qs ms : List Int} (h0 : 0 < ms.length) (lm : lastI ms ≠ 0) (hb : Bare qs) :
    wqR (bare (prodL qs ms)) ms = [] ∧ (∀ x ∈ wqN (bare (prodL qs ms)) ms, frB x.1 x.2 = 1) ∧ wqT (bare (prodL qs ms)) ms = qs := by
  have e : prodL qs ms = sumL qs [] ms := by
    unfold prodL sumL
    refine List.map_congr_left fun k _ => ?_
    exact (Int.add_zero _).symm
  have le := exact_len (rs := []) h0 lm hb (fun x hx => by cases hx) h0
  rw [e]
  refine wq_of h0 lm le.1.symm le.2 fun k => ?_
  rw [bare_get, sumL_get qs [] ms k h0 h0]
  exact Int.add_zero _
theorem take_next {α : Type} {l : List α} {i : Nat} (h : i < l.length) : l.take (i + 1) = l.take i ++ [l[i]] := by
  rw [List.take_add_one, List.getElem?_eq_getElem h]
  rfl
def sp_common (K : PySem.W.Frag) : Sp := fun vs H Q _ => ∃ (p : Addr) (ns : List Int), vs = [.ref p] ∧ H p = some (.tup (ns.map V.int)) ∧ ns.length ≤ 100 ∧ ∀ g : Nat, IsG g ns → Q (.int g) H
theorem ok_common (T : Bi K mg) (D : Df K mg) : Cal P w K mg base CX0 1 "_law_common" s_common ["_law_numbers"] (sp_common K) := by
  refine Cal.mk' D.common (fun _ _ _ _ _ _ us hl => match us, hl with | [_], _ => rfl) fun f fd F => F.ok sc_common (fun vs H Q E h => ?_) (fun cdv A outer s H vs Q E hr h => ?_)
  · obtain ⟨_, _, rfl, _⟩ := h
    rfl
  obtain ⟨p, ns, rfl, hp, hl, q⟩ := h
  refine ⟨_, (pss_cons (ps_set (i := 1) sc_common.nd rfl (by first | exact Or.inl rfl | exact Or.inr rfl) pe_int)
      (pss_cons (ps_for PassesOwn.never rfl (pi_seq (pv 0)) (pg_name (i := 2) sc_common.nd rfl (by first | exact Or.inl rfl | exact Or.inr rfl)) (pss_cons (ps_set (i := 3) sc_common.nd rfl (by first | exact Or.inl rfl | exact Or.inr rfl) (pe_callB call_abs (by rfl) T.b_abs (by decide +kernel) (pa_cons (pv 2) pa_nil)))
      (pss_one (ps_while PassesOwn.never (pt_cmpR op_gt (pv 3) pe_int (nomark _)) (pss_one (ps_par (i := 1) (j := 3) (by rfl) sc_common.nd rfl rfl (by decide) rfl rfl (pa_cons (pv 3) (pa_cons (pe_op o_mod (pv 1) (pv 3)) pa_nil)) (by rfl)))))))
      (pss_one (ps_ret (pv 1))))), ?_⟩
  walk_at "rd"
  refine for_tup (xs := ns.map V.int) (fun i σ X => ∃ (g : Nat) (y z : Option V), IsG g (ns.take i) ∧ σ = [some (.ref p), some (.int g), y, z] ∧ X = H) ?_ ?_ ?_ ?_
  · exact ⟨0, _, _, IsG.nil, rfl, rfl⟩
  · rintro i σ X _ ⟨_, _, _, _, rfl, rfl⟩
    exact SqT.of' hp
  · rintro i v σ X hi ⟨g, y, z, hg, rfl, rfl⟩
    rw [List.getElem?_map] at hi
    obtain ⟨n, hn', rfl⟩ := Option.map_eq_some_iff.mp hi
    have hlt := (List.getElem?_eq_some_iff.mp hn').1
    have en : ns[i] = n := (List.getElem?_eq_some_iff.mp hn').2
    have hg2 : IsG (Nat.gcd g n.natAbs) (ns.take (i + 1)) := by
      rw [take_next hlt, en]
      exact hg.snoc n
    walk_at "rd"
    refine ⟨fun m σ H' => ∃ x y : Nat, σ = [some (.ref p), some (.int (x : Int)), some (.int n), some (.int (y : Int))] ∧ H' = X ∧ y = m ∧ Nat.gcd x y = Nat.gcd g n.natAbs, ⟨_, g, n.natAbs, ?_, rfl, rfl, rfl⟩, ?_⟩
    · show [some (V.ref p), some (V.int (g : Int)), some (V.int n), some (V.int (if n < 0 then -n else n))] = _
      rw [show (if n < 0 then -n else n) = (n.natAbs : Int) by split <;> omega]
    intro m σ H' hP
    obtain ⟨x, y, rfl, rfl, rfl, e⟩ := hP
    walk_at "rd"
    refine ite2 (fun c => ?_) (fun c => ?_)
    · have c' : 0 < y := Int.natCast_pos.mp (of_decide_eq_true c)
      refine ⟨fun σ' H1 => σ' = [some (.ref p), some (.int (y : Int)), some (.int n), some (.int ((x : Int) % (y : Int)))] ∧ H1 = H', ?_, ?_⟩
      · rintro σ' H1 ⟨rfl, rfl⟩
        refine ⟨x % y, Nat.mod_lt x c', y, x % y, rfl, rfl, rfl, ?_⟩
        rw [← e, Nat.gcd_comm y, Nat.gcd_comm x y, Nat.gcd_rec y x]
      · walk_at "rd"
        rfl
    · have c' : y = 0 := Nat.eq_zero_of_not_pos fun h => c (decide_eq_true (Int.natCast_pos.mpr h))
      subst c'
      rw [Nat.gcd_zero_right] at e
      subst e
      exact ⟨_, _, _, hg2, rfl, rfl⟩
  · rintro σ X ⟨g, _, _, hg, rfl, rfl⟩
    rw [List.length_map, List.take_length] at hg
    walk_at "rd"
    exact q g hg
def sp_same (K : PySem.W.Frag) : Sp := fun vs H Q _ => ∃ (a b : V), vs = [a, b] ∧ ((a = .non ∧ b = .non) ∨ ∃ (p r : Addr) (ns : List Int), a = .ref p ∧ b = .ref r ∧ H p = some (.tup (ns.map V.int)) ∧ H r = some (.tup (ns.map V.int)) ∧ ns.length ≤ 1000) ∧ ∀ H', Same H H' → Q (.bl true) H'
theorem ok_same (T : Bi K mg) (D : Df K mg) : Cal P w K mg base CX0 1 "_law_same" s_same ["_law_found", "_law_due"] (sp_same K) := by
  refine Cal.mk' D.same (fun _ _ _ _ _ _ us hl => match us, hl with | [_, _], _ => rfl) fun f fd F => F.ok sc_same (fun vs H Q E h => ?_) (fun cdv A outer s H vs Q E hr h => ?_)
  · obtain ⟨_, _, rfl, _⟩ := h
    rfl
  obtain ⟨a, b, rfl, hc, q⟩ := h
  refine ⟨_, (pss_cons (ps_if (pt_cmpR o_is (pv 1) pe_non (nomark _)) (pss_one (ps_ret (pe_cmpR o_is (pv 0) pe_non (nomark _)))) pss_nil)
      (pss_cons (ps_if (PW.pt (pw_or (pt_not (pt_truth (pe_callB c_isinst (by rfl) T.b_isinstance (by decide +kernel) (pa_cons (pv 0) (pa_cons (pe_bltn (v := .ty "tuple") (by rfl) T.b_tuple (by decide +kernel) rfl) pa_nil))) (by intro _; rfl))) (pw_or1 (pt_cmpR (o_ne hr.units) (pv 0) (pv 1) (nomark _))))) (pss_one (ps_ret pe_bl)) pss_nil)
      (pss_one (ps_ret (pe_callB (cr_all rfl) (by rfl) T.b_all (by decide +kernel) (pa_cons (pe_lc (own := [("_law_number_here", 2)]) (by rfl) sc_same.nd (pi_seq (pv 0)) (blkOk_by (own := [("_law_number_here", 2)]) (N := N_same) (sc := defScope s_same) (by decide +kernel)) (fun _ _ _ _ _ => (pg_name (i := 2) sc_same.nd rfl (by first | exact Or.inl rfl | exact Or.inr rfl))) (fun _ _ _ _ _ => pts_nil) (fun _ _ _ _ _ => (show PE _ _ (tAndT K _ _) from pe_andT (pe_callB (show CallR _ _ (rIst K) from c_isinst) (by rfl) T.b_isinstance (by decide +kernel) (pa_cons (pv 2) (pa_cons (pe_bltn (v := .ty "int") (by rfl) T.b_int (by decide +kernel) rfl) pa_nil))) (pe_one (show PE _ _ (tNotT K _) from pe_notT (pe_callB (show CallR _ _ (rIst K) from c_isinst) (by rfl) T.b_isinstance (by decide +kernel) (pa_cons (pv 2) (pa_cons (pe_bltn (v := .ty "bool") (by rfl) T.b_bool (by decide +kernel) rfl) pa_nil)))))))) pa_nil)))))), ?_⟩
  rcases hc with ⟨rfl, rfl⟩ | ⟨p, r, ns, rfl, rfl, hp, hr', hl⟩
  · refine ⟨_, rfl, Or.inl ⟨rfl, true, rfl, ?_⟩⟩
    refine iteT ?_
    exact ⟨_, rfl, Or.inl ⟨rfl, q H (Same.refl _)⟩⟩
  · refine ⟨_, rfl, Or.inl ⟨rfl, false, rfl, ?_⟩⟩
    refine iteF ?_
    refine ⟨_, rfl, Or.inl ⟨_, _, _, _, true, rfl, .ty _, .base (.tup (by walk_at "hf")), L2.kit_ty (by decide +kernel), _, rfl, ?_⟩⟩
    refine iteF ?_
    refine ⟨_, rfl, _, rfl, Or.inr ⟨_, _, .tup (SqT.of' hp) (dp_all _), .tup (SqT.of' hr') (dp_all _), shaped_ints _, shaped_ints _, ?_⟩⟩
    rw [eqv_ints]
    refine ⟨false, rfl, iteF ?_⟩
    refine Or.inr ⟨_, rfl, _, rfl, ⟨_, SqT.of' hp⟩, ?_⟩
    intro D hD
    refine lc_mapT (fun _ => V.bl true) (SqT.of' hp) hD (by omega) (fun n X R P hn sX rr => ⟨rfl, ⟨_, rfl, ?_⟩⟩) (fun X sX gX => ?_)
    · refine Or.inl ⟨_, _, _, _, true, rfl, .ty _, .base (.int n), L2.kit_ty (by decide +kernel), true, rfl, ?_⟩
      refine iteT ?_
      exact ⟨_, rfl, Or.inl ⟨_, _, _, _, false, rfl, .ty _, .base (.int n), L2.kit_ty (by decide +kernel), false, rfl, rr⟩⟩
    · have gX' : X D = some (.lst ((ns.map fun _ => true).map V.bl)) := by rw [gX, List.map_map]; rfl
      refine ⟨D, _, rfl, SqL.of' gX', ?_⟩
      have ea : (ns.map fun _ => true).all id = true := by simp
      rw [ea]
      exact q X sX
def frD (x : Int × Int) : PyData := .tuple [.int (frT x.1 x.2), .int (frB x.1 x.2)]
theorem FrsAt.dp {K : PySem.W.Frag} {H : Hp} : ∀ {ps : List Addr} {xs : List (Int × Int)}, FrsAt H ps xs → DpAll K H (ps.map V.ref) (xs.map frD)
  | [], [], _ => .nil
  | _ :: _, _ :: _, h => .cons (.tup (SqT.of' h.1) (.cons (.int _) (.cons (.int _) .nil))) (FrsAt.dp h.2)
theorem frs_lay : ∀ xs : List (Int × Int), PyData.canLayAll0 (xs.map frD) = true
  | [] => rfl
  | x :: t => frs_lay t
theorem frs_deep : ∀ xs : List (Int × Int), PyData.depthAll (xs.map frD) ≤ 1
  | [] => Nat.zero_le _
  | x :: t => by
    show max (PyData.depth (frD x)) (PyData.depthAll (t.map frD)) ≤ 1
    exact Nat.max_le.mpr ⟨Nat.le_refl _, frs_deep t⟩
theorem frs_shaped (xs : List (Int × Int)) : SeqAt.shaped (.tuple (xs.map frD)) = true := by
  show (PyData.canLayAll0 (xs.map frD) && decide (PyData.depthAll (xs.map frD) + 1 ≤ 64)) = true
  rw [frs_lay, Bool.true_and]
  have h1 := frs_deep xs
  exact decide_eq_true (by omega)
theorem frs_eqv : ∀ xs : List (Int × Int), PyData.eqv (.tuple (xs.map frD)) (.tuple []) = xs.isEmpty
  | [] => rfl
  | x :: t => by simp [PyData.eqv, PyData.eqvAll]
def sp_none_right (K : PySem.W.Frag) : Sp := fun vs H Q _ => ∃ (p r : Addr) (ns ms : List Int) (k : Nat), vs = [.ref p, .ref r] ∧ PolyAt H p ns ∧ PolyAt H r ms ∧ 0 < ms.length ∧ ns.length ≤ 100 ∧ ms.length ≤ 100 ∧ (∀ n ∈ ns, sz k n) ∧ (∀ n ∈ ms, sz k n) ∧ k + (ns.length + 1) * (k + 1) ≤ 7900 ∧
  (wqR ns ms = [] → (∃ x ∈ wqN ns ms, frB x.1 x.2 ≠ 1) ∧ ∀ g, IsG g ms → 1 < g) ∧ ∀ H', Same H H' → Q (.bl true) H'
theorem ok_none_right (T : Bi K mg) (D : Df K mg) : Cal P w K mg base CX0 6 "_law_none_right" s_none_right ["_law_this", "_law_that"] (sp_none_right K) := by
  refine Cal.mk' D.none_right (fun _ _ _ _ _ _ us hl => match us, hl with | [_, _], _ => rfl) fun f fd F => F.ok sc_none_right (fun vs H Q E h => ?_) (fun cdv A outer s H vs Q E hr h => ?_)
  · obtain ⟨_, _, _, _, _, rfl, _⟩ := h
    rfl
  obtain ⟨p, r, ns, ms, k, rfl, hp, hr', h0, h1, h2, z1, z2, hk, hc, q⟩ := h
  refine ⟨_, (pss_cons (ps_asg (pe_own (ok_p_divided T D) (hr.mono (by decide)) (by rfl) pass0 (pa_cons (pv 0) (pa_cons (pv 1) pa_nil))) (pg_any rfl (pgs_cons (pg_name (i := 2) sc_none_right.nd rfl (by first | exact Or.inl rfl | exact Or.inr rfl)) (pgs_cons (pg_name (i := 3) sc_none_right.nd rfl (by first | exact Or.inl rfl | exact Or.inr rfl)) pgs_nil))))
      (pss_cons (ps_if (pt_cmpR (o_ne hr.units) (pv 3) (n_tup pa_nil) (nomark _)) (pss_one (ps_ret pe_bl)) pss_nil)
      (pss_one (ps_ret (pe_andT (pe_callB (cr_any rfl) (by rfl) T.b_any (by decide +kernel) (pa_cons (pe_lc (own := [("_law_top", 4), ("_law_bottom", 5)]) (by rfl) sc_none_right.nd (pi_seq (pv 2)) (blkOk_by (own := [("_law_top", 4), ("_law_bottom", 5)]) (N := N_none_right) (sc := defScope s_none_right) (by decide +kernel)) (fun _ _ _ _ _ => (show PG _ _ (gSeq K 2 _) from (pg_any rfl (pgs_cons (pg_name (i := 4) sc_none_right.nd rfl (by first | exact Or.inl rfl | exact Or.inr rfl)) (pgs_cons (pg_name (i := 5) sc_none_right.nd rfl (by first | exact Or.inl rfl | exact Or.inr rfl)) pgs_nil))))) (fun _ _ _ _ _ => pts_nil) (fun _ _ _ _ _ => (pe_cmpR (show OpR _ _ (rNee K) from (o_ne hr.units)) (pv 5) pe_int (nomark _)))) pa_nil)) (pe_one (pe_cmpR op_gt (pe_own (ok_common T D) (hr.mono (by decide)) (by rfl) pass0 (pa_cons (pv 1) pa_nil)) pe_int (nomark _)))))))), ?_⟩
  refine ⟨_, rfl, _, rfl, ⟨p, r, ns, ms, k, rfl, hp, hr', h0, h1, h2, z1, z2, hk, fun H1 z q' r' fs rs s1 gz gq gr fq fr => ?_⟩⟩
  refine Or.inl ⟨z, _, rfl, SqT.of' gz, rfl, _, _, rfl, _, _, rfl, rfl, ?_⟩
  have lr := fr.len
  rw [List.length_map] at lr
  refine ⟨_, rfl, ?_⟩
  refine ⟨by walk_at "sz", fun t0 G0 ht0 st0 gt0 => ?_⟩
  refine Or.inr ⟨_, _, .tup (SqT.of' (st0 _ _ gr)) (fr.same st0).dp, .tup (SqT.of' gt0) .nil, frs_shaped _, rfl, ?_⟩
  rw [frs_eqv]
  have s10 := s1.trans st0
  by_cases hr0 : rs = []
  · subst hr0
    have eR : wqR ns ms = [] := List.length_eq_zero_iff.mp lr.symm
    obtain ⟨hx, hg⟩ := hc eR
    have e0 : bare (runP ms (ns.length + 1 - ms.length) 1 ns).2.2 = [] := eR
    rw [e0]
    refine ⟨false, rfl, iteF ?_⟩
    refine Or.inr ⟨_, rfl, _, rfl, ⟨_, SqT.of' (st0 _ _ gq)⟩, ?_⟩
    intro D hD
    refine lc_prs (fun _ b => V.bl (!decide (V.int b = V.int 1))) (st0 _ _ gq) (fq.same st0) hD (by have := fq.len; rw [List.length_reverse, run_len] at this; omega) (fun n u X R P sX gu rr => ?_) (fun X sX gX => ?_)
    · refine Or.inl ⟨u, _, rfl, SqT.of' gu, rfl, _, _, rfl, _, _, rfl, rfl, rfl, ?_⟩
      exact ⟨_, rfl, Or.inl ⟨rfl, rr⟩⟩
    · have gX' : X D = some (.lst (((wqN ns ms).map fun n => !decide (V.int (frB n.1 n.2) = V.int 1)).map V.bl)) := by
        rw [gX, List.map_map]
        rfl
      refine ⟨D, _, rfl, SqL.of' gX', ?_⟩
      have ea : ((wqN ns ms).map fun n => !decide (V.int (frB n.1 n.2) = V.int 1)).any id = true := by
        rw [List.any_map]
        obtain ⟨x, hx1, hx2⟩ := hx
        refine List.any_eq_true.mpr ⟨x, hx1, ?_⟩
        show (!decide (V.int (frB x.1 x.2) = V.int 1)) = true
        rw [decide_eq_false (fun e => hx2 (V.int.inj e))]
        rfl
      rw [ea]
      refine ⟨true, rfl, iteT ?_⟩
      refine ⟨_, rfl, ⟨r, ms, rfl, (s10.trans sX) _ _ hr'.get, by omega, fun g hgg => ?_⟩⟩
      refine ⟨_, _, rfl, rfl, ?_⟩
      show Q (.bl (decide ((1 : Int) < (g : Int)))) X
      rw [decide_eq_true (show (1 : Int) < (g : Int) from Int.ofNat_lt.mpr (hg g hgg))]
      exact q X (s10.trans sX)
  · have ne : (bare (runP ms (ns.length + 1 - ms.length) 1 ns).2.2).isEmpty = false := by
      cases e : bare (runP ms (ns.length + 1 - ms.length) 1 ns).2.2 with
      | nil =>
        rw [e] at lr
        exact absurd (List.length_eq_zero_iff.mp lr) hr0
      | cons a t => rfl
    rw [List.isEmpty_map, ne]
    refine ⟨true, rfl, iteT ?_⟩
    exact q G0 s10
def sp_law := spLaw
theorem PolyAt.ne {H : Hp} {l p : Addr} {ns : List Int} (w : Wl H l) (h : PolyAt H p ns) : p ≠ l := fun e => by
  obtain ⟨_, _, _, u, _⟩ := w.ex
  have g := h.get
  rw [e, u] at g
  cases g
theorem PolyAt.ch {H G : Hp} {l p : Addr} {ns : List Int} (e : Ch l H G) (w : Wl H l) (h : PolyAt H p ns) : PolyAt G p ns := ⟨e _ _ (PolyAt.ne w h) h.get, h.bare⟩
theorem lastI_map (f : Int → Int) {l : List Int} (h : 0 < l.length) : lastI (l.map f) = f (lastI l) := by
  unfold lastI
  rw [List.length_map, List.getD_eq_getElem?_getD, List.getElem?_map, List.getD_eq_getElem?_getD, List.getElem?_eq_getElem (by omega)]
  rfl
theorem polyAt_last {H : Hp} {p : Addr} {ms : List Int} (g : H p = some (.tup (ms.map V.int))) (lm : lastI ms ≠ 0) : PolyAt H p ms := ⟨g, fun y hy => by
    have e : lastI ms = y := by
      unfold lastI
      rw [List.getLast?_eq_getElem?] at hy
      rw [List.getD_eq_getElem?_getD, hy]
      rfl
    rw [← e]
    exact lm⟩
theorem zeros_two9 (m : Nat) : (List.replicate m [V.int 0]).flatten = (List.replicate m (0 : Int)).map V.int := by
  induction m with
  | zero => rfl
  | succ n ih => rw [List.replicate_succ, List.flatten_cons, ih]; rfl
theorem upI_mul (c : Int) (ms : List Int) (d k : Nat) : upI (ms.map fun n => n * c) d k = upI ms d k * c := by
  unfold upI
  split
  · rw [List.getD_eq_getElem?_getD, List.getD_eq_getElem?_getD, List.getElem?_map]
    cases ms[k - d]? with
    | none => exact (Int.zero_mul c).symm
    | some v => rfl
  · exact (Int.zero_mul c).symm
theorem cvI_mulR (c : Int) (q : Nat → Int) (ms : List Int) (k : Nat) : ∀ m, cvI q (ms.map fun n => n * c) m k = cvI q ms m k * c
  | 0 => (Int.zero_mul c).symm
  | m + 1 => by
    show cvI q _ m k + q m * upI _ m k = (cvI q ms m k + q m * upI ms m k) * c
    rw [cvI_mulR c q ms k m, upI_mul, Int.add_mul, Int.mul_assoc]
theorem prodL_get (ns ms : List Int) (k : Nat) (h0 : 0 < ms.length) : (prodL ns ms).getD k 0 = cvI (fun i => ns.getD i 0) ms ns.length k := by
  have e : prodL ns ms = sumL ns [] ms := by
    unfold prodL sumL
    refine List.map_congr_left fun k _ => ?_
    exact (Int.add_zero _).symm
  rw [e, sumL_get ns [] ms k h0 h0]
  exact Int.add_zero _
theorem prod_dvd {c : Int} {ns ms : List Int} (h0 : 0 < ms.length) : ∀ n ∈ bare (prodL ns (ms.map fun n => n * c)), c ∣ n := by
  intro n hn
  obtain ⟨i, hi, rfl⟩ := List.mem_iff_getElem.mp hn
  have e : (bare (prodL ns (ms.map fun n => n * c)))[i] = (bare (prodL ns (ms.map fun n => n * c))).getD i 0 := by
    rw [List.getD_eq_getElem?_getD, List.getElem?_eq_getElem hi]
    rfl
  rw [e, bare_get, prodL_get _ _ _ (by rw [List.length_map]; exact h0), cvI_mulR]
  exact Int.dvd_mul_left _ _
theorem div_bare {c : Int} (hc : c ≠ 0) {ns : List Int} (hb : Bare ns) (hd : ∀ n ∈ ns, c ∣ n) : Bare (ns.map fun n => n.fdiv c) := by
  intro x hx
  rw [List.getLast?_map] at hx
  obtain ⟨n, hn, rfl⟩ := Option.map_eq_some_iff.mp hx
  obtain ⟨w, rfl⟩ := hd n (List.mem_of_getLast? hn)
  rw [Int.mul_fdiv_cancel_left _ hc]
  intro e
  exact hb _ hn (by rw [e, Int.mul_zero])
theorem sz_sum {f : Nat → Int} {a : Nat} (h : ∀ i, sz a (f i)) : ∀ n, n ≤ 32 → sz (a + 5) (sumF f n) := by
  have hb : ∀ n, (sumF f n).natAbs ≤ n * 2 ^ a := by
    intro n
    induction n with
    | zero => exact Nat.zero_le _
    | succ n ih =>
      show (sumF f n + f n).natAbs ≤ (n + 1) * 2 ^ a
      have h2 : (f n).natAbs < 2 ^ a := h n
      rw [Nat.add_mul, Nat.one_mul]
      omega
  have hl : ∀ n, n < 32 → sz (a + 5) (sumF f n) := fun n hn => by
    show (sumF f n).natAbs < 2 ^ (a + 5)
    rw [Nat.pow_add, Nat.mul_comm]
    exact Nat.lt_of_le_of_lt (hb n) (Nat.mul_lt_mul_of_pos_right hn (Nat.two_pow_pos a))
  intro n hn
  by_cases c : n < 32
  · exact hl n c
  · have e : n = 31 + 1 := by omega
    subst e
    show (sumF f 31 + f 31).natAbs < 2 ^ (a + 5)
    have h1 := hb 31
    have h2 : (f 31).natAbs < 2 ^ a := h 31
    rw [Nat.pow_add, Nat.mul_comm]
    show _ < 32 * 2 ^ a
    omega
theorem prodL_sz {ns ms : List Int} (hn : ∀ n ∈ ns, sz 200 n) (hm : ∀ n ∈ ms, sz 9 n) (hl : ns.length ≤ 32) : ∀ n ∈ prodL ns ms, sz 220 n := by
  intro n h
  unfold prodL at h
  obtain ⟨k, _, rfl⟩ := List.mem_map.mp h
  have hu : ∀ i, sz 9 (upI ms i k) := fun i => by
    unfold upI
    split
    · exact getD_sz0 hm _
    · exact sz_zero0 9
  exact sz_mono (sz_sum (a := 200 + 9) (fun i => sz_mul (getD_sz0 hn i) (hu i)) _ hl) (by decide)
theorem ok_law (T : Bi K mg) (D : Df K mg) : Cal P w K mg base CX0 7 "law" s_law ["_law_script"] (sp_law K) := by
  refine Cal.mk' D.law (fun _ _ _ _ _ _ us hl => match us, hl with | [_], _ => rfl) fun f fd F => F.ok sc_law (fun vs H Q E h => ?_) (fun cdv A outer s H vs Q E hr h => ?_)
  · obtain ⟨a, ns, rfl, _⟩ := h
    rfl
  obtain ⟨a, ns, rfl, hS, h63, q⟩ := h
  refine ⟨_, (pss_cons (ps_for PassesOwn.never rfl (pi_seq (pe_slice s_any (pe_op o_add (pv 0) (n_lst (pa_cons pe_int pa_nil))) po_none (po_some pe_int))) (pg_name (i := 1) sc_law.nd rfl (by first | exact Or.inl rfl | exact Or.inr rfl)) (pss_cons (ps_set (i := 2) sc_law.nd rfl (by first | exact Or.inl rfl | exact Or.inr rfl) (pe_own (ok_well T D) (hr.mono (by decide)) (by rfl) pass0 (pa_cons (pv 1) pa_nil)))
      (pss_cons (ps_set (i := 3) sc_law.nd rfl (by first | exact Or.inl rfl | exact Or.inr rfl) (pe_own (ok_draw T D) (hr.mono (by decide)) (by rfl) pass0 (pa_cons (pv 2) (pa_cons pe_int pa_nil))))
      (pss_cons (ps_set (i := 4) sc_law.nd rfl (by first | exact Or.inl rfl | exact Or.inr rfl) (pe_ix ix_seq (n_lst (pa_cons pe_int (pa_cons pe_int (pa_cons (pe_op o_add pe_int (pe_own (ok_draw T D) (hr.mono (by decide)) (by rfl) pass0 (pa_cons (pv 2) (pa_cons pe_int pa_nil)))) pa_nil)))) (pe_own (ok_draw T D) (hr.mono (by decide)) (by rfl) pass0 (pa_cons (pv 2) (pa_cons pe_int pa_nil))) (fun _ _ => rfl)))
      (pss_cons (ps_set (i := 5) sc_law.nd rfl (by first | exact Or.inl rfl | exact Or.inr rfl) (pe_own (ok_divisor T D) (hr.mono (by decide)) (by rfl) pass0 (pa_cons (pv 2) (pa_cons (pv 4) pa_nil))))
      (pss_cons (ps_set (i := 6) sc_law.nd rfl (by first | exact Or.inl rfl | exact Or.inr rfl) (pe_own (ok_quotient T D) (hr.mono (by decide)) (by rfl) pass0 (pa_cons (pv 2) pa_nil)))
      (pss_cons (ps_set (i := 7) sc_law.nd rfl (by first | exact Or.inl rfl | exact Or.inr rfl) (pe_own (ok_product T D) (hr.mono (by decide)) (by rfl) pass0 (pa_cons (pv 6) (pa_cons (pv 5) pa_nil))))
      (pss_cons (ps_if (PW.pt (pw_or (pt_not (pt_truth (pe_own (ok_same T D) (hr.mono (by decide)) (by rfl) pass0 (pa_cons (pe_own (ok_p_whole_quotient T D) (hr.mono (by decide)) (by rfl) pass0 (pa_cons (pv 7) (pa_cons (pv 5) pa_nil))) (pa_cons (pv 6) pa_nil))) (by intro _; rfl))) (pw_or1 (pt_cmpR (o_ne hr.units) (pe_ownK (ks := ["other", "one"]) (fun {_} l => match l with | [x0, x1] => [x1, x0] | _ => []) (ok_p_whole_quotient T D) (hr.mono (by decide)) (by rfl) pass0 (fun _ _ _ _ _ _ ws hl => match ws, hl with | [_, _], _ => rfl) (by walk_at "kw_len") (by walk_at "kw_rel") (pk_cons (pv 5) (pk_cons (pv 7) pk_nil))) (pv 6) (nomark _))))) (pss_one (ps_ret pe_bl)) pss_nil)
      (pss_cons (ps_set (i := 8) sc_law.nd rfl (by first | exact Or.inl rfl | exact Or.inr rfl) (pv 7))
      (C8.pss_cut (ps_if (pt_cmpR (o_eq hr.units) (pv 3) pe_int (nomark _)) (pss_cons (ps_set (i := 8) sc_law.nd rfl (by first | exact Or.inl rfl | exact Or.inr rfl) (pe_op o_add (pe_op o_add (pe_callTy c_list (by rfl) T.b_list (by decide +kernel) (pa_cons (pv 7) pa_nil)) (pe_op o_mul (n_lst (pa_cons pe_int pa_nil)) (pe_own (ok_draw T D) (hr.mono (by decide)) (by rfl) pass0 (pa_cons (pv 2) (pa_cons pe_int pa_nil))))) (n_lst (pa_cons pe_int pa_nil))))
      (pss_cons (ps_set (i := 9) sc_law.nd rfl (by first | exact Or.inl rfl | exact Or.inr rfl) (pe_own (ok_draw T D) (hr.mono (by decide)) (by rfl) pass0 (pa_cons (pv 2) (pa_cons (pe_callB call_len (by rfl) T.b_len (by decide +kernel) (pa_cons (pv 8) pa_nil)) pa_nil))))
      (pss_cons (ps_asg (pe_op o_add (pe_op o_add (pe_ix ix_seq (pv 8) (pv 9) (fun _ _ => rfl)) pe_int) (pe_own (ok_draw T D) (hr.mono (by decide)) (by rfl) pass0 (pa_cons (pv 2) (pa_cons pe_int pa_nil)))) (pg_sub (pv 8) (pv 9) set_list))
      (pss_one (ps_set (i := 8) sc_law.nd rfl (by first | exact Or.inl rfl | exact Or.inr rfl) (pe_own (ok_bare T D) (hr.mono (by decide)) (by rfl) pass0 (pa_cons (pv 8) pa_nil))))))) pss_nil)
      (C8.pss_cut (ps_if (pt_cmpR (o_eq hr.units) (pv 3) pe_int (nomark _)) (pss_one (ps_set (i := 8) sc_law.nd rfl (by first | exact Or.inl rfl | exact Or.inr rfl) (pe_callTy c_tuple (by rfl) T.b_tuple (by decide +kernel) (pa_cons (pe_lc (own := [("_law_number_here", 11)]) (by rfl) sc_law.nd (pi_seq (pv 7)) (blkOk_by (own := [("_law_number_here", 11)]) (N := N_law) (sc := defScope s_law) (by decide +kernel)) (fun _ _ _ _ _ => (pg_name (i := 11) sc_law.nd rfl (by first | exact Or.inl rfl | exact Or.inr rfl))) (fun _ _ _ _ _ => pts_nil) (fun _ _ _ _ _ => (pe_op o_fdv (pv 11) (pv 4)))) pa_nil)))) pss_nil)
      (pss_cons (ps_set (i := 10) sc_law.nd rfl (by first | exact Or.inl rfl | exact Or.inr rfl) (pe_own (ok_share T D) (hr.mono (by decide)) (by rfl) pass0 (pa_cons (pv 8) (pa_cons (pv 5) pa_nil))))
      (pss_cons (ps_if (pt_not (pt_truth (pe_own (ok_same T D) (hr.mono (by decide)) (by rfl) pass0 (pa_cons (pe_own (ok_p_whole_quotient T D) (hr.mono (by decide)) (by rfl) pass0 (pa_cons (pv 8) (pa_cons (pv 5) pa_nil))) (pa_cons (pv 10) pa_nil))) (by intro _; rfl))) (pss_one (ps_ret pe_bl)) pss_nil)
      (pss_one (ps_if (PW.pt (pw_and (pt_cmpR o_is (pv 10) pe_non (nomark _)) (pw_and1 (pt_not (pt_truth (pe_own (ok_none_right T D) (hr.mono (by decide)) (by rfl) pass0 (pa_cons (pv 8) (pa_cons (pv 5) pa_nil))) (by intro _; rfl)))))) (pss_one (ps_ret pe_bl)) pss_nil)))))))))))))))
      (pss_one (ps_ret pe_bl))), ?_⟩
  walk_at "rd"
  rename_i p1 G1 hp1 s1 g1
  refine Or.inr (Or.inl ⟨_, _, _, _, rfl, rfl, s1.seq hS, SqL.of' g1, ?_, ?_⟩)
  · rw [List.length_map]
    exact Nat.le_trans (show ns.length + 1 ≤ 1000 by omega) (by decide)
  intro p2 G2 hp2 s2 g2
  walk_at "rd"
  refine Or.inl ⟨_, _, rfl, SqL.of' g2, ?_⟩
  intro p3 G3 hp3 s3 g3
  have e3 : ns.map V.int ++ [V.int 0] = (ns ++ [0]).map V.int := by simp
  rw [e3] at g3
  refine ⟨_, rfl, ⟨_, SqL.of' g3⟩, ?_⟩
  refine for_list (xs := cutV ((ns ++ [0]).map V.int) none (some 4)) (fun i σ' H' => ∃ x1 x2 x3 x4 x5 x6 x7 x8 x9 x10 x11, σ' = [some (.ref a), x1, x2, x3, x4, x5, x6, x7, x8, x9, x10, x11] ∧ Same G3 H') ?_ ?_ ?_ ?_
  · exact ⟨_, _, _, _, _, _, _, _, _, _, _, rfl, Same.refl _⟩
  · intro i σ' H' _ hP
    obtain ⟨_, _, _, _, _, _, _, _, _, _, _, rfl, sm⟩ := hP
    exact sm.seq (SqL.of' g3)
  rotate_left
  · intro σ' H' hP
    walk_at "rd"
    exact q _
  intro i x σ' H' hx hP
  obtain ⟨x1, x2, x3, x4, x5, x6, x7, x8, x9, x10, x11, rfl, sm⟩ := hP
  obtain ⟨c, rfl⟩ := cutV_int hx
  walk_at "rd"
  intro H1 l sA nA w1
  walk_at "rd"
  intro H2 way c2 w2 k0 k1
  walk_at "rd"
  intro H3 b c3 w3 b0 b1
  walk_at "rd"
  rename_i pL GL hpL sGL gL
  intro H4 j c4 w4 j0 j1
  have sx : ∃ x : Int, 0 < x ∧ x < 20 ∧ atI [V.int 1, V.int 1, V.int (2 + b)] j = some (V.int x) := by
    rcases (by omega : j = 0 ∨ j = 1 ∨ j = 2) with rfl | rfl | rfl
    · exact ⟨1, by decide, by decide, rfl⟩
    · exact ⟨1, by decide, by decide, rfl⟩
    · exact ⟨2 + b, by omega, by omega, rfl⟩
  obtain ⟨m, m0, m1, ax⟩ := sx
  refine Or.inl ⟨_, _, _, _, rfl, rfl, SqL.of' (c4.get gL (ne_wl hpL w3)), ax, ?_⟩
  walk_at "rd"
  intro H5 p5 ms0 c5 w5 n5 g5 l5 l5' lm0 a5
  obtain ⟨ms, ems⟩ : ∃ ms, ms = ms0.map fun n => n * m := ⟨_, rfl⟩
  have lms : ms.length = ms0.length := by rw [ems, List.length_map]
  have lm : lastI ms ≠ 0 := by
    rw [ems, lastI_map _ l5]
    exact Int.mul_ne_zero lm0 (by omega)
  have zm : ∀ n ∈ ms, sz 9 n := fun n hn => by
    rw [ems] at hn
    obtain ⟨y, hy, rfl⟩ := List.mem_map.mp hn
    have h1 := a5 y hy
    show (y * m).natAbs < 512
    rw [Int.natAbs_mul]
    have h2 : m.natAbs ≤ 19 := by omega
    exact Nat.lt_of_le_of_lt (Nat.mul_le_mul h1 h2) (by decide)
  rw [← ems] at g5
  have P5 := polyAt_last g5 lm
  walk_at "rd"
  intro H6 p6 qs c6 w6 n6 P6 l6 z6
  have P5b := PolyAt.ch c6 w5 P5
  refine ⟨_, rfl, _, rfl, ⟨p6, p5, qs, ms, rfl, P6.get, P5b.get, by omega, by omega, fun n hn => sz_small (z6 n hn) (by decide), fun n hn => sz_small (zm n hn) (by decide), fun H7 p7 s7 n7 P7 => ?_⟩⟩
  have hp := wq_prod (ms := ms) (by omega) lm P6.bare
  have dv : ∀ n ∈ bare (prodL qs ms), m ∣ n := by
    rw [ems]
    exact prod_dvd l5
  have lN : (bare (prodL qs ms)).length ≤ 22 := Nat.le_trans (bare_len _) (by unfold prodL; rw [List.length_map, List.length_range]; omega)
  have zN : ∀ n ∈ bare (prodL qs ms), sz 220 n := fun n hn => prodL_sz z6 zm (by omega) n (bare_sub hn)
  generalize bare (prodL qs ms) = ts at *
  have P5c := P5b.same s7
  have P6c := P6.same s7
  have bsz : (ts.length + 1) * (220 + 1) ≤ 26 * 221 := Nat.mul_le_mul_right _ (by omega)
  have bsz2 : ∀ x : List Int, x.length ≤ 25 → (x.length + 1) * (225 + 1) ≤ 26 * 226 := fun x hx => Nat.mul_le_mul_right _ (by omega)
  have zm2 : ∀ n ∈ ms, sz 220 n := fun n hn => sz_mono (zm n hn) (by decide)
  refine ⟨_, rfl, _, rfl, ⟨p7, p5, ts, ms, 220, rfl, P7, P5c, by omega, by omega, by omega, zN, zm2, by omega, fun H8 s8 hneg => absurd ⟨hp.1, hp.2.1⟩ hneg, fun H8 z8 s8 _ _ g8 => ?_⟩⟩
  rw [hp.2.2] at g8
  refine ⟨_, rfl, ⟨.ref z8, .ref p6, rfl, .inr ⟨z8, p6, qs, rfl, rfl, g8, (P6c.same s8).get, by omega⟩, fun H9 s9 => ?_⟩⟩
  refine ⟨true, rfl, iteF ?_⟩
  have s79 := s8.trans s9
  refine ⟨_, rfl, _, rfl, ⟨p7, p5, ts, ms, 220, rfl, P7.same s79, P5c.same s79, by omega, by omega, by omega, zN, zm2, by omega, fun H10 s10 hneg => absurd ⟨hp.1, hp.2.1⟩ hneg, fun H10 z10 s10 _ _ g10 => ?_⟩⟩
  rw [hp.2.2] at g10
  have s710 := s79.trans s10
  refine ⟨_, rfl, Or.inr ⟨_, _, .tup (SqT.of' g10) (dp_all _), .tup (SqT.of' (P6c.same s710).get) (dp_all _), shaped_ints _, shaped_ints _, ?_⟩⟩
  rw [eqv_ints]
  refine ⟨false, rfl, iteF ?_⟩
  have w10 : Wl H10 l := w6.same (s7.trans s710)
  have c110 : Ch l H1 H10 := c2.trans (c3.trans ((Same.ch sGL).trans (c4.trans (c5.trans (c6.trans (Same.ch (s7.trans s710)))))))
  have P5d := P5c.same s710
  have lgm : m.natAbs.log2 < 9000 := Nat.lt_trans ((Nat.log2_lt (fun e => by omega)).mpr (show m.natAbs < 2 ^ 5 by omega)) (by decide)
  have P7d := P7.same s710
  refine ⟨_, rfl, ?_⟩
  refine ⟨fun σ' G => ∃ (p8 : Addr) (us : List Int) (y9 y10 y11 : Option V), σ' = [some (.ref a), some (.int c), some (.ref l), some (.int way), some (.int m), some (.ref p5), some (.ref p6), some (.ref p7), some (.ref p8), y9, y10, y11] ∧ Ch l H1 G ∧ Wl G l ∧ PolyAt G p5 ms ∧ PolyAt G p7 ts ∧ PolyAt G p8 us ∧ us.length ≤ 25 ∧ ∀ n ∈ us, sz 225 n, ?_, ?_⟩
  · walk_at "rd"
    refine ite2 (fun e => ?_) (fun _ => ?_)
    · walk_at "rd"
      refine ⟨p7, _, rfl, .inr (SqT.of' P7d.get), fun L0 GL0 hL0 sL0 gL0 => ?_⟩
      refine ⟨by walk_at "sz", fun b0 Gb hb sb gb => ?_⟩
      have wb := (w10.same sL0).same sb
      refine ⟨_, rfl, ⟨l, 3, rfl, wb, by decide, by decide, fun H11 d c11 w11 d0 d1 => ?_⟩⟩
      have gb1 := c11.get gb (ne_wl hb (w10.same sL0))
      refine Or.inr (Or.inr (Or.inl ⟨b0, d, [V.int 0], rfl, rfl, gb1, by omega, by omega, ?_, fun z Gz hz sz' gz => ?_⟩))
      · have : [V.int 0].length * d.toNat ≤ 3 := by
          show 1 * d.toNat ≤ 3
          omega
        exact Nat.le_trans this (by decide)
      rw [zeros_two9] at gz
      have gL1 := sz' _ _ (c11.get (sb _ _ gL0) (ne_wl hL0 w10))
      refine Or.inr (Or.inl ⟨L0, z, _, _, rfl, rfl, SqL.of' gL1, SqL.of' gz, ?_, fun y Gy hy sy gy => ?_⟩)
      · rw [List.length_map, List.length_map, List.length_replicate]
        exact Nat.le_trans (show ts.length + d.toNat ≤ 1000 by omega) (by decide)
      rw [← List.map_append] at gy
      refine ⟨by walk_at "sz", fun u Gu hu su gu => ?_⟩
      refine Or.inr (Or.inl ⟨y, u, _, _, rfl, rfl, SqL.of' (su _ _ gy), SqL.of' gu, ?_, fun v Gv hv sv gv => ?_⟩)
      · rw [List.length_map, List.length_append, List.length_replicate]
        exact Nat.le_trans (show ts.length + d.toNat + 1 ≤ 1000 by omega) (by decide)
      obtain ⟨us, hus⟩ : ∃ us, us = ts ++ List.replicate d.toNat 0 ++ [0] := ⟨_, rfl⟩
      have gv' : Gv v = some (.lst (us.map V.int)) := by rw [gv, hus]; simp [List.map_append]
      have lus : us.length = ts.length + d.toNat + 1 := by rw [hus]; simp; omega
      have zus : ∀ n ∈ us, sz 220 n := fun n hn => by
        rw [hus, List.mem_append, List.mem_append, List.mem_singleton] at hn
        rcases hn with (hn | hn) | rfl
        · exact zN n hn
        · rw [List.eq_of_mem_replicate hn]
          exact sz_zero0 220
        · exact sz_zero0 220
      have wv := ((w11.same sz').same sy).same (su.trans sv)
      have cv : Ch l H1 Gv := c110.trans ((Same.ch (sL0.trans sb)).trans (c11.trans (Same.ch (sz'.trans (sy.trans (su.trans sv))))))
      have cv2 : Ch l H10 Gv := (Same.ch (sL0.trans sb)).trans (c11.trans (Same.ch (sz'.trans (sy.trans (su.trans sv)))))
      have lus' : ((us.map V.int).length : Int) = us.length := by rw [List.length_map]
      refine ⟨_, rfl, _, rfl, _, _, rfl, .inl ⟨_, SqL.of' gv', rfl⟩, ?_⟩
      refine ⟨l, _, rfl, wv, by rw [List.length_map]; omega, by rw [List.length_map]; omega, fun H12 t c12 w12 t0 t1 => ?_⟩
      have nv : v ≠ l := ne_wl hv ((w11.same sz').same (sy.trans su))
      have gv2 := c12.get gv' nv
      have at1 : atI (us.map V.int) t = some (V.int (us.getD t.toNat 0)) := at_of (j := t.toNat) (by omega) (by rw [List.getElem?_map, List.getD_eq_getElem?_getD, List.getElem?_eq_getElem (show t.toNat < us.length by omega)]; rfl)
      refine ⟨_, rfl, _, rfl, Or.inl ⟨_, _, _, _, rfl, rfl, SqL.of' gv2, at1, ?_⟩⟩
      refine Or.inl ⟨_, _, rfl, rfl, ?_⟩
      refine ⟨_, rfl, ⟨l, 12, rfl, w12, by decide, by decide, fun H13 e c13 w13 e0 e1 => ?_⟩⟩
      have gv3 := c13.get gv2 nv
      refine Or.inl ⟨_, _, rfl, rfl, ?_⟩
      refine ⟨_, rfl, _, rfl, ⟨v, _, _, t.toNat, rfl, rfl, gv3, ?_, ?_⟩⟩
      · unfold ixN
        rw [List.length_map, if_pos (by omega), if_pos (by omega)]
      obtain ⟨ws, hws⟩ : ∃ ws, ws = us.set t.toNat (us.getD t.toNat 0 + 1 + e) := ⟨_, rfl⟩
      obtain ⟨oW, hoW⟩ := w11.get
      have nvH : H10 v = none := (sL0.trans sb).free (c11.free hoW ((sz'.trans (sy.trans su)).free hv))
      have cvX : Ch l H10 (upd H13 v (.lst (ws.map V.int))) := fun q o hn ho => by
        rw [upd_ne (ne_of_none ho nvH)]
        exact (cv2.trans (c12.trans c13)) q o hn ho
      have wX : Wl (upd H13 v (.lst (ws.map V.int))) l := by
        obtain ⟨a1, a2, a3, a4, a5⟩ := w13.ex
        exact ⟨a1, a2, a3, (upd_ne nv.symm).trans a4, a5⟩
      have eX : upd H13 v (.lst ((us.map V.int).set t.toNat (.int (us.getD t.toNat 0 + 1 + e)))) = upd H13 v (.lst (ws.map V.int)) := by rw [hws, List.map_set]
      rw [eX]
      have lws : ws.length = us.length := by rw [hws, List.length_set]
      have zws : ∀ n ∈ ws, sz 224 n := fun n hn => by
        rw [hws] at hn
        rcases List.mem_or_eq_of_mem_set hn with h | h
        · exact sz_mono (zus n h) (by decide)
        · rw [h]
          have z1 : sz 220 (us.getD t.toNat 0) := getD_sz0 zus _
          have z2 : (us.getD t.toNat 0).natAbs < 2 ^ 220 := z1
          have z3 : (us.getD t.toNat 0 + 1 + e).natAbs ≤ (us.getD t.toNat 0).natAbs + 13 := by omega
          have z4 : 2 ^ 220 + 13 ≤ 2 ^ 224 := by decide
          show (us.getD t.toNat 0 + 1 + e).natAbs < 2 ^ 224
          exact Nat.lt_of_le_of_lt z3 (Nat.lt_of_lt_of_le (Nat.add_lt_add_right z2 13) z4)
      refine ⟨_, rfl, ⟨v, ws, rfl, SqL.of' upd_same, by omega, fun H14 p8 s14 n14 P14 => ?_⟩⟩
      have cc := cvX.trans (Same.ch s14)
      exact ⟨p8, _, _, _, _, rfl, c110.trans cc, wX.same s14, PolyAt.ch cc w10 P5d, PolyAt.ch cc w10 P7d, P14, Nat.le_trans (bare_len _) (by omega), fun n hn => sz_mono (zws n (bare_sub hn)) (by decide)⟩
    · exact ⟨p7, ts, _, _, _, rfl, c110, w10, P5d, P7d, P7d, by omega, fun n hn => sz_mono (zN n hn) (by decide)⟩
  rintro σ' G ⟨p8, us, y9, y10, y11, rfl, cG, wG, P5G, P7G, P8G, l8, z8⟩
  refine ⟨fun σ' G => ∃ (p8 : Addr) (us : List Int) (y9 y10 y11 : Option V), σ' = [some (.ref a), some (.int c), some (.ref l), some (.int way), some (.int m), some (.ref p5), some (.ref p6), some (.ref p7), some (.ref p8), y9, y10, y11] ∧ Ch l H1 G ∧ Wl G l ∧ PolyAt G p5 ms ∧ PolyAt G p7 ts ∧ PolyAt G p8 us ∧ us.length ≤ 25 ∧ ∀ n ∈ us, sz 225 n, ?_, ?_⟩
  · walk_at "rd"
    refine ite2 (fun e => ?_) (fun _ => ?_)
    · walk_at "rd"
      intro D hD
      refine lc_mapT (fun n => V.int (n.fdiv m)) (SqT.of' P7G.get) hD (by omega) (fun n X R P hn sX rr => ⟨rfl, ⟨_, rfl, _, rfl, Or.inr ⟨_, _, rfl, rfl, ⟨by omega, lgm⟩, rr⟩⟩⟩) (fun X sX gX => ?_)
      have gX' : X D = some (.lst ((ts.map fun n => n.fdiv m).map V.int)) := by rw [gX, List.map_map]; rfl
      refine ⟨D, _, rfl, .inl ⟨SqL.of' gX', fun w Gw hw sw gw => ?_⟩⟩
      have sG := sX.trans sw
      refine ⟨w, ts.map fun n => n.fdiv m, _, _, _, rfl, cG.trans (Same.ch sG), wG.same sG, P5G.same sG, P7G.same sG, ⟨gw, div_bare (by omega) P7G.bare dv⟩, by rw [List.length_map]; omega, fun n hn => ?_⟩
      obtain ⟨y, hy, rfl⟩ := List.mem_map.mp hn
      exact sz_mono (sz_fdiv (zN y hy) (by omega)) (by decide)
    · exact ⟨p8, us, _, _, _, rfl, cG, wG, P5G, P7G, P8G, l8, z8⟩
  rintro σ' G2' ⟨p9, ns9, y9', y10', y11', rfl, cG2, wG2, P5H, P7H, P9, l9, z9⟩
  have hsz := bsz2 ns9 l9
  have zm3 : ∀ n ∈ ms, sz 225 n := fun n hn => sz_mono (zm n hn) (by decide)
  refine ⟨_, rfl, _, rfl, ⟨p9, p5, ns9, ms, rfl, P9.get, P5H.get, by omega, by omega, lm, by omega, fun n hn => sz_mono (z9 n hn) (by decide), zm, fun H12 s12 hnone => ?_, fun H12 z12 fd ls s12 hs hb P12 => ?_⟩⟩
  · have wy := none_why (by omega) lm hnone
    have nsh := wq_noshare (by omega) lm hnone
    refine ⟨_, rfl, _, rfl, ⟨p9, p5, ns9, ms, 225, rfl, P9.same s12, P5H.same s12, by omega, by omega, by omega, z9, zm3, by omega, fun H13 s13 _ => ?_, fun H13 z13 s13 hR hw _ => absurd ⟨hR, hw⟩ nsh⟩⟩
    refine ⟨_, rfl, ⟨.non, .non, rfl, .inl ⟨rfl, rfl⟩, fun H14 s14 => ?_⟩⟩
    refine ⟨true, rfl, iteF ?_⟩
    refine ⟨_, rfl, Or.inl ⟨rfl, true, rfl, ?_⟩⟩
    refine iteT ?_
    have s1214 := s12.trans (s13.trans s14)
    refine ⟨_, rfl, _, rfl, ⟨p9, p5, ns9, ms, 225, rfl, P9.same s1214, P5H.same s1214, by omega, by omega, by omega, z9, zm3, by omega, wy, fun H15 s15 => ?_⟩⟩
    refine ⟨true, rfl, iteF ?_⟩
    exact ⟨_, _, _, _, _, _, _, _, _, _, _, rfl, sm.trans (Ch.own sA nA (cG2.trans (Same.ch (s1214.trans s15))))⟩
  · have sh := wq_share (by omega) lm P9.bare hs hb
    have lfd : (bare fd).length ≤ 1000 := by
      rw [← sh.2.2]
      unfold wqT
      rw [List.length_map, wqN_len]
      omega
    refine ⟨_, rfl, _, rfl, ⟨p9, p5, ns9, ms, 225, rfl, P9.same s12, P5H.same s12, by omega, by omega, by omega, z9, zm3, by omega, fun H13 s13 hn => absurd ⟨sh.1, sh.2.1⟩ hn, fun H13 z13 s13 _ _ g13 => ?_⟩⟩
    rw [sh.2.2] at g13
    refine ⟨_, rfl, ⟨.ref z13, .ref z12, rfl, .inr ⟨z13, z12, bare fd, rfl, rfl, g13, (P12.same s13).get, lfd⟩, fun H14 s14 => ?_⟩⟩
    refine ⟨true, rfl, iteF ?_⟩
    refine ⟨_, rfl, Or.inl ⟨rfl, false, rfl, ?_⟩⟩
    refine iteF (iteF ?_)
    exact ⟨_, _, _, _, _, _, _, _, _, _, _, rfl, sm.trans (Ch.own sA nA (cG2.trans (Same.ch (s12.trans (s13.trans s14)))))⟩
end

theorem all_mk {l : PySem.W.OpenLaw} {w : World} {K : PySem.W.Frag} {h : Heap} {mg : Str → Option Value} {fa : Addr} (X : K.In h) (G : h.Ns mainGlobals mg) (hfa : mg "law" = some (.ref fa))
    {f0 : Addr} {od0 an0 : Option Addr} {sl0 : Array (Option Value)} {oc0 kV0 dc0 pm0 cd0 ct0 : Value}
    (a0 : PySem.W.nsIn K mainGlobals "is_whole" = some (some (.ref f0))) (l0 : K.lookup f0 = some ⟨oc0, od0, .func (PySem.W.fnOf "is_whole" "is_whole" (defArgs s_p_is_whole) (defBody s_p_is_whole) (defScope s_p_is_whole) .none kV0 dc0 pm0 an0 cd0 ct0), sl0⟩) (c0 : PySem.W.codeIn K cd0 "is_whole" = true) (k0 : PySem.W.keepIn K (.ref f0) = true)
    {f1 Td1 : Addr} {od1 an1 odT1 : Option Addr} {sl1 slT1 : Array (Option Value)} {oc1 kV1 dc1 pm1 cd1 ct1 ocT1 : Value} {nT1 : Nat} {tk1_0 : Nat}
    (a1 : PySem.W.nsIn K mainGlobals "fraction" = some (some (.ref f1))) (l1 : K.lookup f1 = some ⟨oc1, od1, .func (PySem.W.fnOf "fraction" "fraction" (defArgs s_p_fraction) (defBody s_p_fraction) (defScope s_p_fraction) (.ref Td1) kV1 dc1 pm1 an1 cd1 ct1), sl1⟩) (c1 : PySem.W.codeIn K cd1 "fraction" = true) (k1 : PySem.W.keepIn K (.ref f1) = true)
    (t1 : K.lookup Td1 = some ⟨ocT1, odT1, .seq ([Value.int 1 tk1_0] : List Value).toArray nT1, slT1⟩)
    {f2 : Addr} {od2 an2 : Option Addr} {sl2 : Array (Option Value)} {oc2 kV2 dc2 pm2 cd2 ct2 : Value}
    (a2 : PySem.W.nsIn K mainGlobals "is_poly" = some (some (.ref f2))) (l2 : K.lookup f2 = some ⟨oc2, od2, .func (PySem.W.fnOf "is_poly" "is_poly" (defArgs s_p_is_poly) (defBody s_p_is_poly) (defScope s_p_is_poly) .none kV2 dc2 pm2 an2 cd2 ct2), sl2⟩) (c2 : PySem.W.codeIn K cd2 "is_poly" = true) (k2 : PySem.W.keepIn K (.ref f2) = true)
    {f3 : Addr} {od3 an3 : Option Addr} {sl3 : Array (Option Value)} {oc3 kV3 dc3 pm3 cd3 ct3 : Value}
    (a3 : PySem.W.nsIn K mainGlobals "divided" = some (some (.ref f3))) (l3 : K.lookup f3 = some ⟨oc3, od3, .func (PySem.W.fnOf "divided" "divided" (defArgs s_p_divided) (defBody s_p_divided) (defScope s_p_divided) .none kV3 dc3 pm3 an3 cd3 ct3), sl3⟩) (c3 : PySem.W.codeIn K cd3 "divided" = true) (k3 : PySem.W.keepIn K (.ref f3) = true)
    {f4 : Addr} {od4 an4 : Option Addr} {sl4 : Array (Option Value)} {oc4 kV4 dc4 pm4 cd4 ct4 : Value}
    (a4 : PySem.W.nsIn K mainGlobals "whole_quotient" = some (some (.ref f4))) (l4 : K.lookup f4 = some ⟨oc4, od4, .func (PySem.W.fnOf "whole_quotient" "whole_quotient" (defArgs s_p_whole_quotient) (defBody s_p_whole_quotient) (defScope s_p_whole_quotient) .none kV4 dc4 pm4 an4 cd4 ct4), sl4⟩) (c4 : PySem.W.codeIn K cd4 "whole_quotient" = true) (k4 : PySem.W.keepIn K (.ref f4) = true)
    {f5 : Addr} {od5 an5 : Option Addr} {sl5 : Array (Option Value)} {oc5 kV5 dc5 pm5 cd5 ct5 : Value}
    (a5 : PySem.W.nsIn K mainGlobals "_lead_taken_off" = some (some (.ref f5))) (l5 : K.lookup f5 = some ⟨oc5, od5, .func (PySem.W.fnOf "_lead_taken_off" "_lead_taken_off" (defArgs s_p_lead_taken_off) (defBody s_p_lead_taken_off) (defScope s_p_lead_taken_off) .none kV5 dc5 pm5 an5 cd5 ct5), sl5⟩) (c5 : PySem.W.codeIn K cd5 "_lead_taken_off" = true) (k5 : PySem.W.keepIn K (.ref f5) = true)
    {f6 : Addr} {od6 an6 : Option Addr} {sl6 : Array (Option Value)} {oc6 kV6 dc6 pm6 cd6 ct6 : Value}
    (a6 : PySem.W.nsIn K mainGlobals "_are_whole" = some (some (.ref f6))) (l6 : K.lookup f6 = some ⟨oc6, od6, .func (PySem.W.fnOf "_are_whole" "_are_whole" (defArgs s_p_are_whole) (defBody s_p_are_whole) (defScope s_p_are_whole) .none kV6 dc6 pm6 an6 cd6 ct6), sl6⟩) (c6 : PySem.W.codeIn K cd6 "_are_whole" = true) (k6 : PySem.W.keepIn K (.ref f6) = true)
    {f7 : Addr} {od7 an7 : Option Addr} {sl7 : Array (Option Value)} {oc7 kV7 dc7 pm7 cd7 ct7 : Value}
    (a7 : PySem.W.nsIn K mainGlobals "_need_poly" = some (some (.ref f7))) (l7 : K.lookup f7 = some ⟨oc7, od7, .func (PySem.W.fnOf "_need_poly" "_need_poly" (defArgs s_p_need_poly) (defBody s_p_need_poly) (defScope s_p_need_poly) .none kV7 dc7 pm7 an7 cd7 ct7), sl7⟩) (c7 : PySem.W.codeIn K cd7 "_need_poly" = true) (k7 : PySem.W.keepIn K (.ref f7) = true)
    {f8 : Addr} {od8 an8 : Option Addr} {sl8 : Array (Option Value)} {oc8 kV8 dc8 pm8 cd8 ct8 : Value}
    (a8 : PySem.W.nsIn K mainGlobals "_without_noughts" = some (some (.ref f8))) (l8 : K.lookup f8 = some ⟨oc8, od8, .func (PySem.W.fnOf "_without_noughts" "_without_noughts" (defArgs s_p_without_noughts) (defBody s_p_without_noughts) (defScope s_p_without_noughts) .none kV8 dc8 pm8 an8 cd8 ct8), sl8⟩) (c8 : PySem.W.codeIn K cd8 "_without_noughts" = true) (k8 : PySem.W.keepIn K (.ref f8) = true)
    {f9 : Addr} {od9 an9 : Option Addr} {sl9 : Array (Option Value)} {oc9 kV9 dc9 pm9 cd9 ct9 : Value}
    (a9 : PySem.W.nsIn K mainGlobals "_law_well" = some (some (.ref f9))) (l9 : K.lookup f9 = some ⟨oc9, od9, .func (PySem.W.fnOf "_law_well" "_law_well" (defArgs s_well) (defBody s_well) (defScope s_well) .none kV9 dc9 pm9 an9 cd9 ct9), sl9⟩) (c9 : PySem.W.codeIn K cd9 "_law_well" = true) (k9 : PySem.W.keepIn K (.ref f9) = true)
    {f10 : Addr} {od10 an10 : Option Addr} {sl10 : Array (Option Value)} {oc10 kV10 dc10 pm10 cd10 ct10 : Value}
    (a10 : PySem.W.nsIn K mainGlobals "_law_draw" = some (some (.ref f10))) (l10 : K.lookup f10 = some ⟨oc10, od10, .func (PySem.W.fnOf "_law_draw" "_law_draw" (defArgs s_draw) (defBody s_draw) (defScope s_draw) .none kV10 dc10 pm10 an10 cd10 ct10), sl10⟩) (c10 : PySem.W.codeIn K cd10 "_law_draw" = true) (k10 : PySem.W.keepIn K (.ref f10) = true)
    {f11 : Addr} {od11 an11 : Option Addr} {sl11 : Array (Option Value)} {oc11 kV11 dc11 pm11 cd11 ct11 : Value}
    (a11 : PySem.W.nsIn K mainGlobals "_law_number" = some (some (.ref f11))) (l11 : K.lookup f11 = some ⟨oc11, od11, .func (PySem.W.fnOf "_law_number" "_law_number" (defArgs s_number) (defBody s_number) (defScope s_number) .none kV11 dc11 pm11 an11 cd11 ct11), sl11⟩) (c11 : PySem.W.codeIn K cd11 "_law_number" = true) (k11 : PySem.W.keepIn K (.ref f11) = true)
    {f12 : Addr} {od12 an12 : Option Addr} {sl12 : Array (Option Value)} {oc12 kV12 dc12 pm12 cd12 ct12 : Value}
    (a12 : PySem.W.nsIn K mainGlobals "_law_bare" = some (some (.ref f12))) (l12 : K.lookup f12 = some ⟨oc12, od12, .func (PySem.W.fnOf "_law_bare" "_law_bare" (defArgs s_bare) (defBody s_bare) (defScope s_bare) .none kV12 dc12 pm12 an12 cd12 ct12), sl12⟩) (c12 : PySem.W.codeIn K cd12 "_law_bare" = true) (k12 : PySem.W.keepIn K (.ref f12) = true)
    {f13 : Addr} {od13 an13 : Option Addr} {sl13 : Array (Option Value)} {oc13 kV13 dc13 pm13 cd13 ct13 : Value}
    (a13 : PySem.W.nsIn K mainGlobals "_law_quotient" = some (some (.ref f13))) (l13 : K.lookup f13 = some ⟨oc13, od13, .func (PySem.W.fnOf "_law_quotient" "_law_quotient" (defArgs s_quotient) (defBody s_quotient) (defScope s_quotient) .none kV13 dc13 pm13 an13 cd13 ct13), sl13⟩) (c13 : PySem.W.codeIn K cd13 "_law_quotient" = true) (k13 : PySem.W.keepIn K (.ref f13) = true)
    {f14 : Addr} {od14 an14 : Option Addr} {sl14 : Array (Option Value)} {oc14 kV14 dc14 pm14 cd14 ct14 : Value}
    (a14 : PySem.W.nsIn K mainGlobals "_law_divisor" = some (some (.ref f14))) (l14 : K.lookup f14 = some ⟨oc14, od14, .func (PySem.W.fnOf "_law_divisor" "_law_divisor" (defArgs s_divisor) (defBody s_divisor) (defScope s_divisor) .none kV14 dc14 pm14 an14 cd14 ct14), sl14⟩) (c14 : PySem.W.codeIn K cd14 "_law_divisor" = true) (k14 : PySem.W.keepIn K (.ref f14) = true)
    {f15 : Addr} {od15 an15 : Option Addr} {sl15 : Array (Option Value)} {oc15 kV15 dc15 pm15 cd15 ct15 : Value}
    (a15 : PySem.W.nsIn K mainGlobals "_law_product" = some (some (.ref f15))) (l15 : K.lookup f15 = some ⟨oc15, od15, .func (PySem.W.fnOf "_law_product" "_law_product" (defArgs s_product) (defBody s_product) (defScope s_product) .none kV15 dc15 pm15 an15 cd15 ct15), sl15⟩) (c15 : PySem.W.codeIn K cd15 "_law_product" = true) (k15 : PySem.W.keepIn K (.ref f15) = true)
    {f16 : Addr} {od16 an16 : Option Addr} {sl16 : Array (Option Value)} {oc16 kV16 dc16 pm16 cd16 ct16 : Value}
    (a16 : PySem.W.nsIn K mainGlobals "_law_share" = some (some (.ref f16))) (l16 : K.lookup f16 = some ⟨oc16, od16, .func (PySem.W.fnOf "_law_share" "_law_share" (defArgs s_share) (defBody s_share) (defScope s_share) .none kV16 dc16 pm16 an16 cd16 ct16), sl16⟩) (c16 : PySem.W.codeIn K cd16 "_law_share" = true) (k16 : PySem.W.keepIn K (.ref f16) = true)
    {f17 : Addr} {od17 an17 : Option Addr} {sl17 : Array (Option Value)} {oc17 kV17 dc17 pm17 cd17 ct17 : Value}
    (a17 : PySem.W.nsIn K mainGlobals "_law_common" = some (some (.ref f17))) (l17 : K.lookup f17 = some ⟨oc17, od17, .func (PySem.W.fnOf "_law_common" "_law_common" (defArgs s_common) (defBody s_common) (defScope s_common) .none kV17 dc17 pm17 an17 cd17 ct17), sl17⟩) (c17 : PySem.W.codeIn K cd17 "_law_common" = true) (k17 : PySem.W.keepIn K (.ref f17) = true)
    {f18 : Addr} {od18 an18 : Option Addr} {sl18 : Array (Option Value)} {oc18 kV18 dc18 pm18 cd18 ct18 : Value}
    (a18 : PySem.W.nsIn K mainGlobals "_law_same" = some (some (.ref f18))) (l18 : K.lookup f18 = some ⟨oc18, od18, .func (PySem.W.fnOf "_law_same" "_law_same" (defArgs s_same) (defBody s_same) (defScope s_same) .none kV18 dc18 pm18 an18 cd18 ct18), sl18⟩) (c18 : PySem.W.codeIn K cd18 "_law_same" = true) (k18 : PySem.W.keepIn K (.ref f18) = true)
    {f19 : Addr} {od19 an19 : Option Addr} {sl19 : Array (Option Value)} {oc19 kV19 dc19 pm19 cd19 ct19 : Value}
    (a19 : PySem.W.nsIn K mainGlobals "_law_none_right" = some (some (.ref f19))) (l19 : K.lookup f19 = some ⟨oc19, od19, .func (PySem.W.fnOf "_law_none_right" "_law_none_right" (defArgs s_none_right) (defBody s_none_right) (defScope s_none_right) .none kV19 dc19 pm19 an19 cd19 ct19), sl19⟩) (c19 : PySem.W.codeIn K cd19 "_law_none_right" = true) (k19 : PySem.W.keepIn K (.ref f19) = true)
    {f20 : Addr} {od20 an20 : Option Addr} {sl20 : Array (Option Value)} {oc20 kV20 dc20 pm20 cd20 ct20 : Value}
    (a20 : PySem.W.nsIn K mainGlobals "law" = some (some (.ref f20))) (l20 : K.lookup f20 = some ⟨oc20, od20, .func (PySem.W.fnOf "law" "law" (defArgs s_law) (defBody s_law) (defScope s_law) .none kV20 dc20 pm20 an20 cd20 ct20), sl20⟩) (c20 : PySem.W.codeIn K cd20 "law" = true) (k20 : PySem.W.keepIn K (.ref f20) = true)
    (z0 : PySem.W.nsIn K mainGlobals "abs" = some none)
    (z1 : PySem.W.nsIn K mainGlobals "all" = some none)
    (z2 : PySem.W.nsIn K mainGlobals "any" = some none)
    (z3 : PySem.W.nsIn K mainGlobals "bool" = some none)
    (z4 : PySem.W.nsIn K mainGlobals "divmod" = some none)
    (z5 : PySem.W.nsIn K mainGlobals "enumerate" = some none)
    (z6 : PySem.W.nsIn K mainGlobals "int" = some none)
    (z7 : PySem.W.nsIn K mainGlobals "isinstance" = some none)
    (z8 : PySem.W.nsIn K mainGlobals "len" = some none)
    (z9 : PySem.W.nsIn K mainGlobals "list" = some none)
    (z10 : PySem.W.nsIn K mainGlobals "max" = some none)
    (z11 : PySem.W.nsIn K mainGlobals "range" = some none)
    (z12 : PySem.W.nsIn K mainGlobals "tuple" = some none)
    (z13 : PySem.W.nsIn K mainGlobals "zip" = some none)
    (y0 : PySem.W.nsIn K mainGlobals "gcd" = some (some (.builtin "math.gcd"))) :
    ∃ fd : FuncData, (∀ (s : Shared) (v : Value), BindsTo s fd ⟨[v], []⟩ [("_law_script", v)]) ∧ ∀ base : Heap, K.In base → base.Ns mainGlobals mg → FnOk l.prog w K mg base CX0 7 fa fd ["_law_script"] (sp_law K) := by
  have e := hfa.symm.trans (PySem.W.mg_of X G a20)
  cases e
  have D : Df K mg := ⟨⟨f0, _, PySem.W.mg_of X G a0, fun_mk (st := s_p_is_whole) l0 c0 k0⟩, ⟨f1, _, PySem.W.mg_of X G a1, funD_mk (st := s_p_fraction) l1 c1 k1 t1 rfl (by simp) (.cons ⟨_, rfl⟩ .nil)⟩, ⟨f2, _, PySem.W.mg_of X G a2, fun_mk (st := s_p_is_poly) l2 c2 k2⟩, ⟨f3, _, PySem.W.mg_of X G a3, fun_mk (st := s_p_divided) l3 c3 k3⟩, ⟨f4, _, PySem.W.mg_of X G a4, fun_mk (st := s_p_whole_quotient) l4 c4 k4⟩, ⟨f5, _, PySem.W.mg_of X G a5, fun_mk (st := s_p_lead_taken_off) l5 c5 k5⟩, ⟨f6, _, PySem.W.mg_of X G a6, fun_mk (st := s_p_are_whole) l6 c6 k6⟩, ⟨f7, _, PySem.W.mg_of X G a7, fun_mk (st := s_p_need_poly) l7 c7 k7⟩, ⟨f8, _, PySem.W.mg_of X G a8, fun_mk (st := s_p_without_noughts) l8 c8 k8⟩, ⟨f9, _, PySem.W.mg_of X G a9, fun_mk (st := s_well) l9 c9 k9⟩, ⟨f10, _, PySem.W.mg_of X G a10, fun_mk (st := s_draw) l10 c10 k10⟩, ⟨f11, _, PySem.W.mg_of X G a11, fun_mk (st := s_number) l11 c11 k11⟩, ⟨f12, _, PySem.W.mg_of X G a12, fun_mk (st := s_bare) l12 c12 k12⟩, ⟨f13, _, PySem.W.mg_of X G a13, fun_mk (st := s_quotient) l13 c13 k13⟩, ⟨f14, _, PySem.W.mg_of X G a14, fun_mk (st := s_divisor) l14 c14 k14⟩, ⟨f15, _, PySem.W.mg_of X G a15, fun_mk (st := s_product) l15 c15 k15⟩, ⟨f16, _, PySem.W.mg_of X G a16, fun_mk (st := s_share) l16 c16 k16⟩, ⟨f17, _, PySem.W.mg_of X G a17, fun_mk (st := s_common) l17 c17 k17⟩, ⟨f18, _, PySem.W.mg_of X G a18, fun_mk (st := s_same) l18 c18 k18⟩, ⟨f19, _, PySem.W.mg_of X G a19, fun_mk (st := s_none_right) l19 c19 k19⟩, ⟨fa, _, PySem.W.mg_of X G a20, fun_mk (st := s_law) l20 c20 k20⟩⟩
  have T : Bi K mg := ⟨PySem.W.mg_none_of X G z0, PySem.W.mg_none_of X G z1, PySem.W.mg_none_of X G z2, PySem.W.mg_none_of X G z3, PySem.W.mg_none_of X G z4, PySem.W.mg_none_of X G z5, PySem.W.mg_none_of X G z6, PySem.W.mg_none_of X G z7, PySem.W.mg_none_of X G z8, PySem.W.mg_none_of X G z9, PySem.W.mg_none_of X G z10, PySem.W.mg_none_of X G z11, PySem.W.mg_none_of X G z12, PySem.W.mg_none_of X G z13, PySem.W.mg_of X G y0⟩
  refine ⟨PySem.W.fnOf "law" "law" (defArgs s_law) (defBody s_law) (defScope s_law) .none kV20 dc20 pm20 an20 cd20 ct20, fun s v => .of_eq rfl, fun base _ _ => ?_⟩
  obtain ⟨f, fd, g, F, b, R⟩ := (ok_law (P := l.prog) (w := w) (base := base) T D).ex
  have e2 := g.symm.trans (PySem.W.mg_of X G a20)
  cases e2
  obtain ⟨_, _, _, _, _, _, _, _, _, rfl, lk, _⟩ := F.ex
  have e3 := lk.symm.trans l20
  cases e3
  exact R
end boughswap_k09_whole_quotients
open PySem PySem.W PyProof.Rows
set_option maxHeartbeats 0 in
theorem PySem.Challenge.cw_boughswap_k09_whole_quotients_holds : PySem.Challenge.rw_boughswap_k09_whole_quotients.Holds := by
  w_on; o_law; k_head; (case hw => w_witness2)
  k_fill
  refine L2.walk_of (l := PySem.Challenge.rw_boughswap_k09_whole_quotients) (n := 63) (k := 7) (x := "_law_script") (CX := fun _ => L2.CX0) (sp := fun w => boughswap_k09_whole_quotients.sp_law _) rfl (by decide) rfl ⟨rfl, by decide, by decide⟩ (fun w h Y => PySem.W.kIn_of Y) ?F (fun _ _ a ns hl _ hS => ⟨a, ns, rfl, hS, hl, fun _ => rfl⟩) (fun _ _ _ _ _ h => h)
  case F =>
    intro w mg fa h KX G hmg
    refine' boughswap_k09_whole_quotients.all_mk KX G hmg ?a0 ?l0 ?c0 ?k0 ?a1 ?l1 ?c1 ?k1 ?t1 ?a2 ?l2 ?c2 ?k2 ?a3 ?l3 ?c3 ?k3 ?a4 ?l4 ?c4 ?k4 ?a5 ?l5 ?c5 ?k5 ?a6 ?l6 ?c6 ?k6 ?a7 ?l7 ?c7 ?k7 ?a8 ?l8 ?c8 ?k8 ?a9 ?l9 ?c9 ?k9 ?a10 ?l10 ?c10 ?k10 ?a11 ?l11 ?c11 ?k11 ?a12 ?l12 ?c12 ?k12 ?a13 ?l13 ?c13 ?k13 ?a14 ?l14 ?c14 ?k14 ?a15 ?l15 ?c15 ?k15 ?a16 ?l16 ?c16 ?k16 ?a17 ?l17 ?c17 ?k17 ?a18 ?l18 ?c18 ?k18 ?a19 ?l19 ?c19 ?k19 ?a20 ?l20 ?c20 ?k20 ?z0 ?z1 ?z2 ?z3 ?z4 ?z5 ?z6 ?z7 ?z8 ?z9 ?z10 ?z11 ?z12 ?z13 ?y0
    (case a0 => k_is); (case l0 => k_is); (case c0 => k_is); (case k0 => k_is); (case a1 => k_is); (case l1 => k_is); (case c1 => k_is); (case k1 => k_is); (case t1 => k_is); (case a2 => k_is); (case l2 => k_is); (case c2 => k_is); (case k2 => k_is); (case a3 => k_is); (case l3 => k_is); (case c3 => k_is); (case k3 => k_is); (case a4 => k_is); (case l4 => k_is); (case c4 => k_is); (case k4 => k_is); (case a5 => k_is); (case l5 => k_is); (case c5 => k_is); (case k5 => k_is); (case a6 => k_is); (case l6 => k_is); (case c6 => k_is); (case k6 => k_is); (case a7 => k_is); (case l7 => k_is); (case c7 => k_is); (case k7 => k_is); (case a8 => k_is); (case l8 => k_is); (case c8 => k_is); (case k8 => k_is); (case a9 => k_is); (case l9 => k_is); (case c9 => k_is); (case k9 => k_is); (case a10 => k_is); (case l10 => k_is); (case c10 => k_is); (case k10 => k_is); (case a11 => k_is); (case l11 => k_is); (case c11 => k_is); (case k11 => k_is); (case a12 => k_is); (case l12 => k_is); (case c12 => k_is); (case k12 => k_is); (case a13 => k_is); (case l13 => k_is); (case c13 => k_is); (case k13 => k_is); (case a14 => k_is); (case l14 => k_is); (case c14 => k_is); (case k14 => k_is); (case a15 => k_is); (case l15 => k_is); (case c15 => k_is); (case k15 => k_is); (case a16 => k_is); (case l16 => k_is); (case c16 => k_is); (case k16 => k_is); (case a17 => k_is); (case l17 => k_is); (case c17 => k_is); (case k17 => k_is); (case a18 => k_is); (case l18 => k_is); (case c18 => k_is); (case k18 => k_is); (case a19 => k_is); (case l19 => k_is); (case c19 => k_is); (case k19 => k_is); (case a20 => k_is); (case l20 => k_is); (case c20 => k_is); (case k20 => k_is); (case z0 => k_is); (case z1 => k_is); (case z2 => k_is); (case z3 => k_is); (case z4 => k_is); (case z5 => k_is); (case z6 => k_is); (case z7 => k_is); (case z8 => k_is); (case z9 => k_is); (case z10 => k_is); (case z11 => k_is); (case z12 => k_is); (case z13 => k_is); (case y0 => k_is)
