import PyProof.Rows.All
import Wide.All
import OpenK.AllK
import Wide.FinOn
import HandS.ForMost
import HandS.ForExc
import HandS.IsInst
import HandS.Style
import HandS.Flow
import HandS.Wide
import HandS.WideBits
import HandS.Gcd
import HandS.TupMul
import HandS.TupAny
import HandS.Conv
import HandS.Evl
import PySem.Challenge.RW_boughswap_k01_whole_numbers_within_bound
set_option Elab.async false
set_option linter.all false
set_option maxRecDepth 100000
set_option maxHeartbeats 4000000
namespace BW
open PySem PySem.Spec PyProof.Rows L2

section
variable {P : Program} {w : World} {K : PySem.W.Frag} {mg : Str → Option Value} {base : Heap} {CX : CXT}
/-- a def stands at a name of the module -/
def At (K : PySem.W.Frag) (mg : Str → Option Value) (x : Str) (st : Stmt) : Prop := ∃ (f : Addr) (fd : FuncData), mg x = some (.ref f) ∧ Fun K x x st f fd
/-- a def that keeps its promise -/
structure Cal (P : Program) (w : World) (K : PySem.W.Frag) (mg : Str → Option Value) (base : Heap) (CX : CXT) (k : Nat) (x : Str) (st : Stmt) (ps : List Str) (sp : Sp) : Prop where
  ex : ∃ (f : Addr) (fd : FuncData), mg x = some (.ref f) ∧ Fun K x x st f fd ∧ Binds K fd ps [] ∧ FnOk P w K mg base CX k f fd ps sp
def BindH (x : Str) (st : Stmt) (ps : List Str) : Prop := ∀ (kV doc pm : Value) (an : Option Addr) (cdv ct : Value) (us : List Value), us.length = ps.length → bindArgs (PySem.W.fnOf x x (defArgs st) (defBody st) (defScope st) .none kV doc pm an cdv ct) ⟨us, []⟩ = pure (ps.zip us)
theorem Cal.mk' {k : Nat} {x : Str} {st : Stmt} {ps : List Str} {sp : Sp} (a : At K mg x st) (hb : BindH x st ps) (h : ∀ (f : Addr) (fd : FuncData), Fun K x x st f fd → FnOk P w K mg base CX k f fd ps sp) : Cal P w K mg base CX k x st ps sp := by
  obtain ⟨f, fd, g, F⟩ := a
  exact ⟨f, fd, g, F, F.binds hb, h f fd F⟩
theorem Cal.mono {j k : Nat} {x : Str} {st : Stmt} {ps : List Str} {sp : Sp} (a : Cal P w K mg base CX j x st ps sp) (h : j ≤ k) : Cal P w K mg base CX k x st ps sp := by
  obtain ⟨f, fd, g, F, b, G⟩ := a.ex
  exact ⟨f, fd, g, F, b, G.mono h⟩
end
section
variable {X : Cx} {CX : CXT} {k : Nat} {st : Stmt} {ps : List Str} {sp : Sp} {E : XK} {x : Str} {p pos : Pos} {e : Expr} {es : List Expr} {t : TA}
/-- f(e, ..) -/
theorem pe_own (C : Cal X.prog X.w X.K X.mg X.base CX k x st ps sp) (hr : Room k X.A) (hg : Gl X x) (hx : Passes CX X E)
    (ha : PA X (e :: es) t) (hdb : (x == ("__debug__" : Str)) = false := by decide) (he : starEach (e :: es) X.env = (false, eval e X.env) :: starEach es X.env := by rfl) (hpl : (backTo pos (starEach es X.env)).any (·.1) = false := by rfl) :
    PE X (.Call (.Name x p) (e :: es) [] pos) (tCall sp [] E t) := by
  obtain ⟨f, fd, g, F, b, G⟩ := C.ex
  exact pe_call G hr hg g F.kp b .nil hx ha hdb he hpl
theorem pe_own0 (C : Cal X.prog X.w X.K X.mg X.base CX k x st ps sp) (hr : Room k X.A) (hg : Gl X x) (hx : Passes CX X E)
    (hdb : (x == ("__debug__" : Str)) = false := by decide) :
    PE X (.Call (.Name x p) [] [] pos) (tCall sp [] E tNil) := by
  obtain ⟨f, fd, g, F, b, G⟩ := C.ex
  exact pe_call0 G hr hg g F.kp b .nil hx hdb
/-- f(k = v, ..), all by names -/
def tCallK0 (sp : Sp) (gV : List V → List V) (E : XK) (tk : TA) : TE := fun σ H Q => tk σ H fun zs H2 => sp (gV zs) H2 Q E
def KBindH (x : Str) (st : Stmt) (ps ks : List Str) (g : {α : Type} → List α → List α) : Prop := ∀ (kV doc pm : Value) (an : Option Addr) (cdv ct : Value) (ws : List Value), ws.length = ks.length → bindArgs (PySem.W.fnOf x x (defArgs st) (defBody st) (defScope st) .none kV doc pm an cdv ct) ⟨[], ks.zip ws⟩ = pure (ps.zip (g ws))
theorem pe_ownK {ks : List Str} {kws : List Keyword} {tk : TA} (g : {α : Type} → List α → List α) (C : Cal X.prog X.w X.K X.mg X.base CX k x st ps sp) (hr : Room k X.A) (hg : Gl X x) (hx : Passes CX X E)
    (hb : KBindH x st ps ks g) (hl : ∀ (α : Type) (ws : List α), (g ws).length = ps.length → ws.length = ks.length) (hrel : ∀ (zs : List V) (ws : List Value), Vals zs ws → Vals (g zs) (g ws))
    (hkw : PK X kws tk) (hall : (backToKw pos (keywordEach kws X.env)).all (·.1.isSome) = true := by rfl) (hks : (backToKw pos (keywordEach kws X.env)).filterMap (·.1) = ks := by rfl)
    (hdb : (x == ("__debug__" : Str)) = false := by decide) (hpl : ((backTo pos (starEach [] X.env)).any (·.1) || (backToKw pos (keywordEach kws X.env)).any (·.1.isNone)) = false := by rfl) :
    PE X (.Call (.Name x p) [] kws pos) (tCallK0 sp g E tk) := by
  obtain ⟨f, fd, gm, F, b, G⟩ := C.ex
  refine ⟨fun pins s σ H Q I h => ?_⟩
  refine wpAny_Call_Name_kw (ld_glob I hg gm ?_ hdb)
  refine PySem.W.callWith_KW0 (h₀ := X.base) I.ok.mod.kin F.kp hall ?_ hpl
  refine thn (hkw.run pos pins s σ H _ I h) fun ws s2 ⟨zs, H2, I2, rz, q2⟩ => ⟨I2.kIn, ?_⟩
  rw [hks]
  have r2 := hrel _ _ rz
  have hl2 : (g ws).length = ps.length := by rw [← r2.length]; exact G.len _ _ _ _ q2
  have bt : BindsTo s2 fd ⟨[], ks.zip ws⟩ (ps.zip (g ws)) := by
    obtain ⟨oc, od, kV, doc, pm, an, cdv, ct, osl, rfl, lk, hcd⟩ := F.ex
    exact .of_eq (hb kV doc pm an cdv ct ws (hl _ ws hl2))
  refine wpAny_call (codeAny_mono (G.run X.A X.stack s2 H2 ⟨[], ks.zip ws⟩ (g ws) (g zs) Q E hr I2.env0 bt r2 q2) fun r s' hq => ?_)
  cases r with
  | error e => exact hx pins σ H2 s2 e s' I2 hq
  | ok fl =>
    cases fl with
    | ret u => exact I2.after hq
    | next => exact False.elim hq
    | brk => exact False.elim hq
    | cont => exact False.elim hq
/-- what a for walks: one of two -/
theorem PI.or {tg iter : Expr} {w1 w2 : TI} (h1 : PI X tg iter w1) (h2 : PI X tg iter w2) : PI X tg iter (fun σ H R => w1 σ H R ∨ w2 σ H R) :=
  ⟨fun pins s σ H R I h => h.elim (h1.run pins s σ H R I) (h2.run pins s σ H R I)⟩
/-- // by any great number but 0 -/
def CDivZ (_ j : Int) : Prop := j ≠ 0 ∧ j.natAbs.log2 < 9000
theorem op_fdivZ : OpR X (binaryOp .FloorDiv) (rI CDivZ fun i j => .int (i.fdiv j)) := opI fun i j _ _ _ _ _ hc q =>
  floordiv_int hc.1 q (.inl (PyProof.noPylong_of_log2 hc.2))

/-- list + list, written, locked or tracked -/
def rCatL (K : PySem.W.Frag) : R2 := fun x y H Q => ∃ l b xs zs, x = .ref l ∧ y = .ref b ∧ SqL K H l xs ∧ SqL K H b zs ∧ xs.length + zs.length ≤ sizeLine ∧ ∀ p, H p = none → Q (.ref p) (upd H p (.lst (xs ++ zs)))
theorem op_catL : OpR X (binaryOp .Add) (rCatL X.K) := by
  intro pins s σ H x y v u Q I rx ry h
  obtain ⟨l, b, xs, zs, rfl, rfl, hH, hB, hz, q⟩ := h
  cases rx
  cases ry
  obtain ⟨its, r, ⟨⟨cls, dd, data, sl⟩, n, ho, hc, hd, hs⟩, hl⟩ := I.list hH
  obtain ⟨its2, r2, ⟨⟨cls2, dd2, data2, sl2⟩, n2, ho2, hc2, hd2, hs2⟩, hl2⟩ := I.list hB
  simp only at hc hd hs hc2 hd2 hs2
  subst hc hd hs hc2 hd2 hs2
  have e : its.toArray ++ its2.toArray = (its ++ its2).toArray := by simp
  have l1 := r.length
  have l2 := r2.length
  refine concat_meets ⟨_, ho, rfl⟩ ⟨_, ho2, rfl⟩ noFill_list_add seq_list_add PySem.F.slot_list_add PySem.F.entry_list_add (PySem.F.args_list_add_2 _ _) (list_addW l b its.toArray its2.toArray n n2 none none sl sl2 (by simp only [List.size_toArray]; omega)) ⟨ho, ho2, ?_⟩
  rw [e]
  exact ⟨.ref _, _, I.lnew (t' := s.toks) (r.append r2) (by rw [List.length_append]; omega), rfl, q _ I.fresh⟩
end
/-! ### heaps -/
/-- all but what stands at l is as it was -/
def Ch (l : Addr) (H H' : Hp) : Prop := ∀ b o, b ≠ l → H b = some o → H' b = some o
theorem Ch.refl (l : Addr) (H : Hp) : Ch l H H := fun _ _ _ h => h
theorem Ch.trans {l : Addr} {H H1 H2 : Hp} (a : Ch l H H1) (b : Ch l H1 H2) : Ch l H H2 := fun c o n h => b c o n (a c o n h)
theorem Same.ch {l : Addr} {H H' : Hp} (e : Same H H') : Ch l H H' := fun b o _ h => e b o h
theorem same_new {H : Hp} {p : Addr} {o : HO} (h : H p = none) : Same H (upd H p o) := fun b u q => by rw [upd_ne (ne_of_none q h)]; exact q
theorem Ch.new {l : Addr} {H H' : Hp} {p : Addr} {o : HO} (e : Ch l H H') (h : H' p = none) : Ch l H (upd H' p o) := e.trans (Same.ch (same_new h))
theorem Ch.at {l : Addr} {H H' : Hp} {o : HO} (e : Ch l H H') : Ch l H (upd H' l o) := e.trans fun b u n q => by rw [upd_ne n]; exact q
/-- a new thing may change -/
theorem Ch.own {l : Addr} {H0 H H' : Hp} (e : Same H0 H) (n : H0 l = none) (c : Ch l H H') : Same H0 H' := fun b o q => c b o (ne_of_none q n) (e b o q)
theorem Ch.get {l p : Addr} {H H' : Hp} {o : HO} (c : Ch l H H') (h : H p = some o) (n : p ≠ l) : H' p = some o := c p o n h
theorem ne_new {H : Hp} {p q : Addr} {o : HO} (h : H q = some o) (n : H p = none) : q ≠ p := ne_of_none h n
theorem Same.none' {H H' : Hp} {p : Addr} (e : Same H H') (h : H' p = none) : H p = none := e.free h
theorem Ch.free {l p : Addr} {H H' : Hp} {o : HO} (e : Ch l H H') (hl : H' l = some o) (h : H' p = none) : H p = none := by
  cases q : H p with
  | none => rfl
  | some u =>
    by_cases n : p = l
    · subst n
      rw [h] at hl
      cases hl
    · rw [e p u n q] at h
      cases h
/-- a well: a list of three whole numbers, the middle one small -/
def Wl (H : Hp) (l : Addr) : Prop := ∃ a b z : Int, H l = some (.lst [.int a, .int b, .int z]) ∧ 0 ≤ b ∧ b < 2147483647
theorem Wl.same {H H' : Hp} {l : Addr} (e : Same H H') (h : Wl H l) : Wl H' l := by
  obtain ⟨a, b, z, q, r⟩ := h
  exact ⟨a, b, z, e _ _ q, r⟩
theorem Wl.new {H : Hp} {l p : Addr} {o : HO} (h : Wl H l) (n : H p = none) : Wl (upd H p o) l := h.same (same_new n)
theorem Wl.get {H : Hp} {l : Addr} (h : Wl H l) : ∃ o, H l = some o := by
  obtain ⟨a, b, z, q, _⟩ := h
  exact ⟨_, q⟩
theorem Wl.ne {H : Hp} {l p : Addr} (h : Wl H l) (n : H p = none) : l ≠ p := by
  obtain ⟨o, q⟩ := h.get
  exact ne_of_none q n
theorem ne_wl {H : Hp} {l p : Addr} (n : H p = none) (h : Wl H l) : p ≠ l := (h.ne n).symm
theorem SqL.of' {K : PySem.W.Frag} {H : Hp} {a : Addr} {xs : List V} (h : H a = some (.lst xs)) : SqL K H a xs := .inl (.inl h)
theorem SqT.of' {K : PySem.W.Frag} {H : Hp} {a : Addr} {xs : List V} (h : H a = some (.tup xs)) : SqT K H a xs := .inl (.inl h)
theorem Ch.seq {K : PySem.W.Frag} {l : Addr} {H H' : Hp} {a : Addr} {xs ys : List V} (e : Ch l H H') (hl : H l = some (.lst ys)) (hn : H a = none ∨ a ≠ l) (h : SqL K H a xs) : SqL K H' a xs := by
  have n : a ≠ l ∨ H a = none := by rcases hn with h | h; exact .inr h; exact .inl h
  rcases h with (h | ⟨o, h⟩) | h
  · rcases n with n | n
    · exact .inl (.inl (e _ _ n h))
    · rw [n] at h; cases h
  · rcases n with n | n
    · exact .inl (.inr ⟨o, e _ _ n h⟩)
    · rw [n] at h; cases h
  · exact .inr h
/-! ### new objects: the heap behind is told by what stands there -/
def New (H : Hp) (o : HO) (R : V → Hp → Prop) : Prop := ∀ p G, H p = none → Same H G → G p = some o → R (.ref p) G
theorem New.go {H : Hp} {o : HO} {R : V → Hp → Prop} (h : New H o R) : ∀ p, H p = none → R (.ref p) (upd H p o) := fun p hp => h p _ hp (same_new hp) upd_same
theorem New.intro {H : Hp} {o : HO} {R : V → Hp → Prop} (h : ∀ p G, H p = none → Same H G → G p = some o → R (.ref p) G) : New H o R := h
theorem sm_get {H G : Hp} {p : Addr} {o : HO} (e : Same H G) (h : H p = some o) : G p = some o := e _ _ h
theorem new_two {H : Hp} {p : Addr} {o o' : HO} {R : Hp → Prop} (hp : H p = none) (h : ∀ G, Same H G → G p = some o' → R G) : R (upd (upd H p o) p o') := h _ (fun b u q => by rw [upd_ne (ne_of_none q hp), upd_ne (ne_of_none q hp)]; exact q) upd_same
theorem pe_weak {X : Cx} {e : Expr} {t t' : TE} (h : PE X e t) (w : ∀ σ H Q, t' σ H Q → t σ H Q) : PE X e t' := ⟨fun pins s σ H Q I q => h.run pins s σ H Q I (w σ H Q q)⟩
theorem op_weak {X : Cx} {f : Value → Value → Sem Value} {r r' : R2} (h : OpR X f r) (w : ∀ x y H Q, r' x y H Q → r x y H Q) : OpR X f r' := fun pins s σ H x y v u Q I rx ry q => h pins s σ H x y v u Q I rx ry (w x y H Q q)
theorem call_weak {X : Cx} {f : Value} {r r' : List V → Hp → VK → Prop} (h : CallR X f r) (w : ∀ xs H Q, r' xs H Q → r xs H Q) : CallR X f r' := fun pins s σ H xs us Q I rs q => h pins s σ H xs us Q I rs (w xs H Q q)
theorem sl_weak {X : Cx} {r r' : V → Option Int → Option Int → Hp → VK → Prop} (h : SlR X r) (w : ∀ x lo hi H Q, r' x lo hi H Q → r x lo hi H Q) : SlR X r' := fun pins s σ H x v vl vu lo hi sl Q I rx hs pl pu q => h pins s σ H x v vl vu lo hi sl Q I rx hs pl pu (w x lo hi H Q q)
section
variable {X : Cx}
def nLst (t : TA) : TE := fun σ H Q => t σ H fun xs H1 => xs.length ≤ sizeLine ∧ New H1 (.lst xs) Q
def nTup (t : TA) : TE := fun σ H Q => t σ H fun xs H1 => xs.length ≤ sizeLine ∧ New H1 (.tup xs) Q
theorem n_tup {es : List Expr} {t : TA} {pos : Pos} {x1} (h : PA X es t) : PE X (.Tuple es x1 pos) (nTup t) := by
  refine ⟨fun pins s σ H Q I hq => ?_⟩
  refine wpAny_Tuple_spliced (thn (h.run pos pins s σ H _ I hq) fun us s1 ⟨xs, H1, I1, r, z, q⟩ => ⟨by rw [← r.length]; exact z, ?_⟩)
  have hf : H1 s1.heap.objs.size = none := I1.hok.fresh (Nat.le_refl _)
  refine ⟨.ref s1.heap.objs.size, upd H1 s1.heap.objs.size (.tup xs), I1.laid (t' := s1.toks) (fun b u e => Heap.get?_push_of_some _ e) (Nat.le_refl _) ?_, rfl, q.go _ hf⟩
  exact ⟨z, us, r, ⟨_, Heap.get?_push_size _ rfl, rfl, _, rfl⟩⟩
theorem n_lst {es : List Expr} {t : TA} {pos : Pos} (h : PA X es t) : PE X (.List es pos) (nLst t) := by
  refine ⟨fun pins s σ H Q I hq => ?_⟩
  refine wpAny_List_spliced (thn (h.run pos pins s σ H _ I hq) fun us s1 ⟨xs, H1, I1, r, z, q⟩ => ⟨by rw [← r.length]; exact z, ?_⟩)
  have hf : H1 s1.heap.objs.size = none := I1.hok.fresh (Nat.le_refl _)
  refine ⟨.ref s1.heap.objs.size, upd H1 s1.heap.objs.size (.lst xs), I1.laid (t' := s1.toks) (fun b u e => Heap.get?_push_of_some _ e) (Nat.le_refl _) ?_, rfl, q.go _ hf⟩
  exact ⟨z, us, 0, r, Heap.get?_push_size _ rfl⟩
def nDict : TE := fun _ H Q => New H (.dK []) Q
theorem n_dict {pos : Pos} : PE X (.Dict [] [] pos) nDict := pe_weak pe_dnewK fun _ _ _ q => q.go
/-! ### operators by any of their kinds -/
def rStrs : R2 := fun x y H Q => ∃ i j, x = .str i ∧ y = .str j ∧ i.length + j.length ≤ sizeLine ∧ Q (.str (i ++ j)) H
def nCat (K : PySem.W.Frag) : R2 := fun x y H Q => ∃ l b xs zs, x = .ref l ∧ y = .ref b ∧ SqL K H l xs ∧ SqL K H b zs ∧ xs.length + zs.length ≤ sizeLine ∧ New H (.lst (xs ++ zs)) Q
theorem n_cat : OpR X (binaryOp .Add) (nCat X.K) := op_weak op_catL fun _ _ _ _ ⟨l, b, xs, zs, h1, h2, h3, h4, h5, q⟩ => ⟨l, b, xs, zs, h1, h2, h3, h4, h5, q.go⟩
def nCatT (K : PySem.W.Frag) : R2 := fun x y H Q => ∃ a b xs ys, x = .ref a ∧ y = .ref b ∧ SqT K H a xs ∧ SqT K H b ys ∧ xs.length + ys.length ≤ sizeLine ∧
  (xs = [] → Q (.ref b) H) ∧ (xs ≠ [] → ys = [] → Q (.ref a) H) ∧ (xs ≠ [] → ys ≠ [] → New H (.tup (xs ++ ys)) Q)
theorem n_catT : OpR X (binaryOp .Add) (nCatT X.K) := op_weak op_catA fun _ _ _ _ ⟨l, b, xs, zs, h1, h2, h3, h4, h5, q0, q1, q⟩ => ⟨l, b, xs, zs, h1, h2, h3, h4, h5, q0, q1, fun a b => (q a b).go⟩
def rPlus (K : PySem.W.Frag) : R2 := fun x y H Q => (rI0 fun i j => .int (i + j)) x y H Q ∨ (nCat K x y H Q ∨ (nCatT K x y H Q ∨ rStrs x y H Q))
theorem o_add : OpR X (binaryOp .Add) (rPlus X.K) := op_add.or (n_cat.or (n_catT.or op_add_str))
def nRep : R2 := fun x y H Q => ∃ l k xs, x = .ref l ∧ y = .int k ∧ H l = some (.lst xs) ∧ -(2 ^ 63) ≤ k ∧ k < 2 ^ 63 ∧ xs.length * k.toNat ≤ sizeLine ∧ New H (.lst (List.replicate k.toNat xs).flatten) Q
theorem n_rep : OpR X (binaryOp .Mult) nRep := op_weak op_rep fun _ _ _ _ ⟨l, k, xs, h1, h2, h3, h4, h5, h6, q⟩ => ⟨l, k, xs, h1, h2, h3, h4, h5, h6, q.go⟩
def nRepT (K : PySem.W.Frag) : R2 := fun x y H Q => ∃ l k xs, x = .ref l ∧ y = .int k ∧ SqT K H l xs ∧ xs ≠ [] ∧ 2 ≤ k ∧ k ≤ 1000 ∧ xs.length ≤ 1000 ∧ New H (.tup (List.replicate k.toNat xs).flatten) Q
theorem n_repT : OpR X (binaryOp .Mult) (nRepT X.K) := op_weak op_repT fun _ _ _ _ ⟨l, k, xs, h1, h2, h3, h4, h5, h6, h7, q⟩ => ⟨l, k, xs, h1, h2, h3, h4, h5, h6, h7, q.go⟩
def rMul (K : PySem.W.Frag) : R2 := fun x y H Q => (rI CMul fun i j => .int (i * j)) x y H Q ∨ ((rI CMulX fun i j => .int (i * j)) x y H Q ∨ (nRep x y H Q ∨ nRepT K x y H Q))
theorem o_mul : OpR X (binaryOp .Mult) (rMul X.K) := op_mul.or (op_mulX.or (n_rep.or n_repT))
def rFdv : R2 := fun x y H Q => (rI CDiv fun i j => .int (i / j)) x y H Q ∨ (rI CDivZ fun i j => .int (i.fdiv j)) x y H Q
theorem o_fdv : OpR X (binaryOp .FloorDiv) rFdv := op_fdiv.or op_fdivZ
def rMod : R2 := rI (fun _ j => 0 < j) fun i j => .int (i % j)
theorem o_mod : OpR X (binaryOp .Mod) rMod := op_mod
def rPow : R2 := rI CPow fun i j => .int (i ^ j.toNat)
theorem o_pow : OpR X (binaryOp .Pow) rPow := op_pow
def rSubt : R2 := rI0 fun i j => .int (i - j)
theorem o_sub : OpR X (binaryOp .Sub) rSubt := op_sub
def rEqq (K : PySem.W.Frag) : R2 := fun x y H Q => rEq x y H Q ∨ rEqD K x y H Q
theorem o_eq (hu : X.A.units + 64 < cLine) : OpR X (compareOp .Eq) (rEqq X.K) := op_eq.or (op_eqD hu)
def rNee (K : PySem.W.Frag) : R2 := fun x y H Q => rNe x y H Q ∨ rNeD K x y H Q
theorem o_ne (hu : X.A.units + 64 < cLine) : OpR X (compareOp .NotEq) (rNee X.K) := op_ne.or (op_neD hu)
def rIss : R2 := fun x y H Q => (y = .non ∧ Q (.bl (decide (x = .non))) H) ∨ rIsB x y H Q
theorem o_is : OpR X (compareOp .Is) rIss := op_isN.or op_isBl
def rIsn : R2 := fun x y H Q => (y = .non ∧ Q (.bl (!decide (x = .non))) H) ∨ rNotB x y H Q
theorem o_isn : OpR X (compareOp .IsNot) rIsn := op_notN.or op_notBl
def rIst (K : PySem.W.Frag) : List V → Hp → VK → Prop := fun xs H Q => rIsi K xs H Q ∨ rIsiT K xs H Q
theorem c_isinst : CallR X (.builtin "isinstance") (rIst X.K) := call_isi.or call_isiT
def nSlL (K : PySem.W.Frag) : V → Option Int → Option Int → Hp → VK → Prop := fun x lo hi H Q => ∃ a xs, x = .ref a ∧ SqL K H a xs ∧ New H (.lst (cutV xs lo hi)) Q
theorem n_slL : SlR X (nSlL X.K) := sl_weak sl_list fun _ _ _ _ _ ⟨a, xs, h1, h2, q⟩ => ⟨a, xs, h1, h2, q.go⟩
def nSlT (K : PySem.W.Frag) : V → Option Int → Option Int → Hp → VK → Prop := fun x lo hi H Q => ∃ a xs, x = .ref a ∧ SqT K H a xs ∧
  (HT.sIx xs.length 0 lo = 0 ∧ HT.sIx xs.length xs.length hi = xs.length → Q (.ref a) H) ∧ (¬ (HT.sIx xs.length 0 lo = 0 ∧ HT.sIx xs.length xs.length hi = xs.length) → New H (.tup (cutV xs lo hi)) Q)
theorem n_slT : SlR X (nSlT X.K) := sl_weak sl_tupA fun _ _ _ _ _ ⟨a, xs, h1, h2, q0, q⟩ => ⟨a, xs, h1, h2, q0, fun z => (q z).go⟩
def rSlc (K : PySem.W.Frag) : V → Option Int → Option Int → Hp → VK → Prop := fun x lo hi H Q => nSlL K x lo hi H Q ∨ (nSlT K x lo hi H Q ∨ rSlS x lo hi H Q)
theorem s_any : SlR X (rSlc X.K) := n_slL.or (n_slT.or sl_str)
def nDivm : List V → Hp → VK → Prop := fun xs H Q => ∃ i j, xs = [.int i, .int j] ∧ CDiv i j ∧ New H (.tup [.int (i / j), .int (i % j)]) Q
theorem c_divmod : CallR X (.builtin "divmod") nDivm := call_weak call_divmod fun _ _ _ ⟨i, j, h1, h2, q⟩ => ⟨i, j, h1, h2, q.go⟩
def nList (K : PySem.W.Frag) : List V → Hp → VK → Prop := fun xs H Q => ∃ p ys, xs = [.ref p] ∧ (SqL K H p ys ∨ SqT K H p ys) ∧ New H (.lst ys) Q
theorem c_list : CallR X (.type "list") (nList X.K) := call_weak call_list_of fun _ _ _ ⟨i, j, h1, h2, q⟩ => ⟨i, j, h1, h2, q.go⟩
def nTuple (K : PySem.W.Frag) : List V → Hp → VK → Prop := fun xs H Q => ∃ p ys, xs = [.ref p] ∧ ((SqL K H p ys ∧ New H (.tup ys) Q) ∨ (SqT K H p ys ∧ Q (.ref p) H))
theorem c_tuple : CallR X (.type "tuple") (nTuple X.K) := call_weak call_tuple_of fun _ _ _ ⟨i, j, h1, h2⟩ => ⟨i, j, h1, h2.imp (fun ⟨a, q⟩ => ⟨a, q.go⟩) id⟩
def iSeq (K : PySem.W.Frag) (tl : TE) : TI := fun σ H R => iList K tl σ H R ∨ iTup K tl σ H R
theorem pi_seq {tg l : Expr} {tl : TE} (h : PE X l tl) : PI X tg l (iSeq X.K tl) := PI.or (pi_list h) (pi_tup h)
end
theorem asg_val {te : TE} {g : TG} {D : Ends} {σ : L2.St} {H : Hp} (v : V) (h : ∀ R : VK, R v H → te σ H R) (q : g v σ H D.nx) : tAsg te g D σ H := h _ q
theorem seq_val {te : TE} {g : TG} {u : TS} {D : Ends} {σ : L2.St} {H : Hp} (v : V) (h : ∀ R : VK, R v H → te σ H R) (q : g v σ H (u D)) : tSeq (tAsg te g) u D σ H := h _ q
theorem cutV_int {ns : List Int} {lo hi : Option Int} {i : Nat} {x : V} (h : (cutV (ns.map V.int) lo hi)[i]? = some x) : ∃ c : Int, x = .int c := by
  unfold cutV at h
  rw [List.getElem?_take] at h
  split at h
  · rw [List.getElem?_drop, List.getElem?_map] at h
    cases e : ns[HT.sIx (ns.map V.int).length 0 lo + i]? with
    | none => rw [e] at h; cases h
    | some c =>
      rw [e] at h
      exact ⟨c, (Option.some.inj h).symm⟩
  · cases h
/-- what a law promises -/
def spLaw (K : PySem.W.Frag) : Sp := fun vs H Q _ => ∃ (a : Addr) (ns : List Int), vs = [.ref a] ∧ SqL K H a (ns.map V.int) ∧ ns.length ≤ 63 ∧ ∀ H', Q (.bl true) H'
/-! ### what is no whole number -/
def bV : Option Int → V
  | none => .non
  | some i => .int i
def inB (lo hi : Option Int) (n : Int) : Bool := (match lo with | none => true | some i => decide (i ≤ n)) && (match hi with | none => true | some i => decide (n ≤ i))
def Odd (K : PySem.W.Frag) (H : Hp) (x : V) : Prop := ∃ s : String, TyX K H x (.type s) ∧ ((kitB s "bool" = some true) ∨ (kitB s "bool" = some false ∧ kitB s "int" = some false))
def spWhole (K : PySem.W.Frag) : Sp := fun vs H Q _ => ∃ (x : V) (lo hi : Option Int), vs = [x, bV lo, bV hi] ∧ ((∃ n, x = .int n ∧ Q (.bl (inB lo hi n)) H) ∨ (Odd K H x ∧ Q (.bl false) H))
def spWell (K : PySem.W.Frag) : Sp := fun vs H Q _ => ∃ (c : Int), vs = [.int c] ∧ ∀ H' p, Same H H' → H p = none → Wl H' p → Q (.ref p) H'
def spDraw (K : PySem.W.Frag) : Sp := fun vs H Q _ => ∃ (l : Addr) (m : Int), vs = [.ref l, .int m] ∧ Wl H l ∧ 0 < m ∧ m < 1073741824 ∧ ∀ H' r, Ch l H H' → Wl H' l → 0 ≤ r → r < m → Q (.int r) H'
def spNumber (K : PySem.W.Frag) : Sp := fun vs H Q _ => ∃ (l : Addr) (m : Int), vs = [.ref l, .int m] ∧ Wl H l ∧ 0 ≤ m ∧ m < 10 ^ 60 ∧ ∀ H' (n : Int), Ch l H H' → Wl H' l → n.natAbs < 10 ^ 60 → Q (.int n) H'
theorem lvL {X : Cx} {x : Str} (h : X.env.scope.names.lookup x = some .local) : Loc X.env.scope x := .inl h
end BW
/-! short words for proofs -/
local macro_rules | `(tactic| walk_at "v") => `(tactic| refine ⟨_, rfl, ?_⟩)
local macro_rules | `(tactic| walk_at "sd") => `(tactic| first | omega | decide | exact Or.inr ⟨by decide, by decide⟩ | exact Or.inl ⟨by decide, by decide⟩ | (simp only [L2.CMul, L2.CDiv, L2.CPow, BW.CDivZ]; omega) | exact ⟨by decide, by decide, by decide⟩ | (refine ⟨by decide, by decide, ?_⟩; omega))
local macro_rules | `(tactic| walk_at "sz") => `(tactic| exact Nat.le_of_ble_eq_true rfl)
local macro_rules | `(tactic| walk_at "wl") => `(tactic| first | assumption | (refine BW.Wl.same (by assumption) ?_; walk_at "wl"))
local macro_rules | `(tactic| walk_at "ne") => `(tactic| first | assumption | exact Ne.symm (by assumption) | exact BW.ne_wl (by assumption) (by walk_at "wl"))
local macro_rules | `(tactic| walk_at "hf") => `(tactic| first
  | assumption
  | exact L2.upd_same
  | (refine BW.sm_get (by assumption) ?_; walk_at "hf")
  | (refine BW.same_new (by assumption) _ _ ?_; walk_at "hf")
  | (refine (L2.upd_ne (by walk_at "ne")).trans ?_; walk_at "hf")
  | (refine BW.Ch.get (by assumption) ?_ (by walk_at "ne"); walk_at "hf"))
local macro_rules | `(tactic| walk_at "r1") => `(tactic| first
  | refine ⟨_, rfl, ?_⟩
  | refine ⟨_, _, rfl, rfl, ?_⟩
  | refine Or.inl ⟨_, _, rfl, rfl, ?_⟩
  | refine Or.inl ⟨rfl, ?_⟩
  | refine Or.inr ⟨_, _, rfl, rfl, ?_⟩
  | refine L2.iteT ?_
  | refine L2.iteF ?_
  | refine ⟨_, _, rfl, rfl, by walk_at "sd", ?_⟩
  | refine Or.inl ⟨_, _, rfl, rfl, by walk_at "sd", ?_⟩
  | refine Or.inl ⟨_, _, _, _, rfl, rfl, BW.SqL.of' (by walk_at "hf"), rfl, ?_⟩
  | refine Or.inr (Or.inl ⟨_, _, _, _, rfl, rfl, BW.SqT.of' (by walk_at "hf"), rfl, ?_⟩)
  | refine Or.inl ⟨_, _, _, _, false, rfl, .ty _, .base (.int _), L2.kit_ty (by decide +kernel), ?_⟩
  | refine Or.inl ⟨_, _, _, _, true, rfl, .ty _, .base (.int _), L2.kit_ty (by decide +kernel), ?_⟩
  | refine And.intro (by walk_at "sz") (fun p G hp sG gp => ?_)
  | (intro p G hp sG gp; have z := (hp : (_ : Option L2.HO) = none); clear z)
  | refine Or.inl ⟨_, rfl, ?_⟩
  | refine Or.inr ⟨_, rfl, ?_⟩
  | refine ⟨_, _, rfl, by walk_at "sd", fun p G hp sG gp => ?_⟩
  | refine ⟨_, _, rfl, BW.SqT.of' (by walk_at "hf"), rfl, ?_⟩
  | refine ⟨_, _, _, _, rfl, rfl, by walk_at "hf", rfl, ?_⟩
  | refine ⟨_, _, rfl, ?_⟩
  | refine ⟨_, _, _, rfl, ?_⟩
  | refine ⟨_, none, none, rfl, ?_⟩
  | refine And.intro rfl ?_
  | refine Or.inr (And.intro (by assumption) ?_)
  | refine And.intro (by walk_at "wl") ?_
  | refine And.intro (by walk_at "sd") ?_)
local macro_rules | `(tactic| walk_at "rd") => `(tactic| repeat (walk_at "r1"))
local macro_rules | `(tactic| walk_at "kw_len") => `(tactic| (intro α ws h; rcases ws with _ | ⟨a, _ | ⟨b, _ | ⟨c, _ | ⟨d, t⟩⟩⟩⟩ <;> first | rfl | exact absurd h (by simp)))
local macro_rules | `(tactic| walk_at "kw_rel") => `(tactic| (intro zs ws h; rcases h with _ | ⟨r1, _ | ⟨r2, _ | ⟨r3, _ | ⟨r4, t⟩⟩⟩⟩ <;> (repeat' first | assumption | constructor)))

namespace boughswap_k01_whole_numbers_within_bound
open PySem PySem.Spec PyProof.Rows L2 BW
def topS (i : Nat) : Stmt := PySem.Challenge.pw_boughswap_k01_whole_numbers_within_bound.main.body.getD i (.Pass ⟨0, 0, 0, 0⟩)
abbrev s_p_is_whole : Stmt := topS 1
abbrev N_p_is_whole : List Str := ["thing", "low", "high"]
theorem sc_p_is_whole : FnScope N_p_is_whole ["thing", "low", "high"] (defScope s_p_is_whole) := ⟨rfl, rfl, rfl, by decide +kernel, rfl, by decide +kernel, by decide +kernel⟩
abbrev s_well : Stmt := topS 3
abbrev N_well : List Str := ["_law_cell"]
theorem sc_well : FnScope N_well ["_law_cell"] (defScope s_well) := ⟨rfl, rfl, rfl, by decide +kernel, rfl, by decide +kernel, by decide +kernel⟩
abbrev s_draw : Stmt := topS 4
abbrev N_draw : List Str := ["_law_well_here", "_law_many", "_law_found", "_law_one"]
theorem sc_draw : FnScope N_draw ["_law_well_here", "_law_many"] (defScope s_draw) := ⟨rfl, rfl, rfl, by decide +kernel, rfl, by decide +kernel, by decide +kernel⟩
abbrev s_number : Stmt := topS 5
abbrev N_number : List Str := ["_law_well_here", "_law_most", "_law_kind", "_law_sign", "_law_number_here", "_law_k"]
theorem sc_number : FnScope N_number ["_law_well_here", "_law_most"] (defScope s_number) := ⟨rfl, rfl, rfl, by decide +kernel, rfl, by decide +kernel, by decide +kernel⟩
abbrev s_bound : Stmt := topS 6
abbrev N_bound : List Str := ["_law_well_here", "_law_number_here", "_law_kind", "_law_near"]
theorem sc_bound : FnScope N_bound ["_law_well_here", "_law_number_here"] (defScope s_bound) := ⟨rfl, rfl, rfl, by decide +kernel, rfl, by decide +kernel, by decide +kernel⟩
abbrev s_odd : Stmt := topS 7
abbrev N_odd : List Str := ["_law_well_here", "_law_some"]
theorem sc_odd : FnScope N_odd ["_law_well_here"] (defScope s_odd) := ⟨rfl, rfl, rfl, by decide +kernel, rfl, by decide +kernel, by decide +kernel⟩
abbrev s_truth : Stmt := topS 8
abbrev N_truth : List Str := ["_law_found", "_law_due"]
theorem sc_truth : FnScope N_truth ["_law_found", "_law_due"] (defScope s_truth) := ⟨rfl, rfl, rfl, by decide +kernel, rfl, by decide +kernel, by decide +kernel⟩
abbrev s_law : Stmt := topS 9
abbrev N_law : List Str := ["_law_script", "_law_cell", "_law_well_here", "_law_number_here", "_law_least", "_law_top", "_law_due", "_law_odd_here"]
theorem sc_law : FnScope N_law ["_law_script"] (defScope s_law) := ⟨rfl, rfl, rfl, by decide +kernel, rfl, by decide +kernel, by decide +kernel⟩
/-- the names of built-ins that no def of the text takes -/
structure Bi (K : PySem.W.Frag) (mg : Str → Option Value) : Prop where
  b_abs : mg "abs" = none
  b_bool : mg "bool" = none
  b_divmod : mg "divmod" = none
  b_int : mg "int" = none
  b_isinstance : mg "isinstance" = none
  b_range : mg "range" = none
/-- the defs of the text as they stand behind its top -/
structure Df (K : PySem.W.Frag) (mg : Str → Option Value) : Prop where
  p_is_whole : At K mg "is_whole" s_p_is_whole
  well : At K mg "_law_well" s_well
  draw : At K mg "_law_draw" s_draw
  number : At K mg "_law_number" s_number
  bound : At K mg "_law_bound" s_bound
  odd : At K mg "_law_odd" s_odd
  truth : At K mg "_law_truth" s_truth
  law : At K mg "law" s_law
section
variable {P : Program} {w : World} {K : PySem.W.Frag} {mg : Str → Option Value} {base : Heap}
def sp_p_is_whole := spWhole
def sp_well := spWell
def sp_draw := spDraw
def sp_number := spNumber
theorem ok_p_is_whole (T : Bi K mg) (D : Df K mg) : Cal P w K mg base CX0 1 "is_whole" s_p_is_whole ["thing", "low", "high"] (sp_p_is_whole K) := by
  refine Cal.mk' D.p_is_whole (fun _ _ _ _ _ _ us hl => match us, hl with | [_, _, _], _ => rfl) fun f fd F => F.ok sc_p_is_whole (fun vs H Q E h => ?_) (fun cdv A outer s H vs Q E hr h => ?_)
  · obtain ⟨x, lo, hi, rfl, _⟩ := h
    rfl
  obtain ⟨x, lo, hi, rfl, h⟩ := h
  refine ⟨_, (pss_cons (ps_if (PW.pt (pw_or (pt_truth (pe_callB c_isinst (by rfl) T.b_isinstance (by decide +kernel) (pa_cons (pv 0) (pa_cons (pe_bltn (v := .ty "bool") (by rfl) T.b_bool (by decide +kernel) rfl) pa_nil))) (by intro _; rfl)) (pw_or1 (pt_not (pt_truth (pe_callB c_isinst (by rfl) T.b_isinstance (by decide +kernel) (pa_cons (pv 0) (pa_cons (pe_bltn (v := .ty "int") (by rfl) T.b_int (by decide +kernel) rfl) pa_nil))) (by intro _; rfl)))))) (pss_one (ps_ret pe_bl)) pss_nil)
      (pss_cons (ps_if (PW.pt (pw_and (pt_cmpR o_isn (pv 1) pe_non (nomark _)) (pw_and1 (pt_cmpR op_lt (pv 0) (pv 1) (nomark _))))) (pss_one (ps_ret pe_bl)) pss_nil)
      (pss_one (ps_ret (pe_orT (pe_cmpR o_is (pv 2) pe_non (nomark _)) (pe_one (pe_cmpR op_le (pv 0) (pv 2) (nomark _)))))))), ?_⟩
  rcases h with ⟨n, rfl, q⟩ | ⟨⟨s, ty, hs⟩, q⟩
  · refine ⟨_, rfl, Or.inl ⟨_, _, _, _, false, rfl, .ty _, .base (.int n), kit_ty (by decide +kernel), _, rfl, ?_⟩⟩
    refine iteF ?_
    refine ⟨_, rfl, Or.inl ⟨_, _, _, _, true, rfl, .ty _, .base (.int n), kit_ty (by decide +kernel), _, rfl, ?_⟩⟩
    refine iteF ?_
    cases lo with
    | none =>
      walk_at "rd"
      cases hi with
      | none =>
        walk_at "rd"
        exact q
      | some u =>
        walk_at "rd"
        exact q
    | some l =>
      walk_at "rd"
      refine ite2 (fun c => ?_) (fun c => ?_)
      · have e : inB (some l) hi n = false := by simp [inB] at c ⊢; intro; omega
        rw [e] at q
        exact q
      · cases hi with
        | none =>
          walk_at "rd"
          have e : inB (some l) none n = true := by simp [inB] at c ⊢; omega
          rw [e] at q
          exact q
        | some u =>
          walk_at "rd"
          have e : inB (some l) (some u) n = decide (n ≤ u) := by simp [inB] at c ⊢; intro; omega
          rw [e] at q
          exact q
  · rcases hs with hb | ⟨hb, hi⟩
    · refine ⟨_, rfl, Or.inl ⟨_, _, _, _, true, rfl, .ty _, ty, kit_ty hb, _, rfl, ?_⟩⟩
      exact iteT q
    · refine ⟨_, rfl, Or.inl ⟨_, _, _, _, false, rfl, .ty _, ty, kit_ty hb, _, rfl, ?_⟩⟩
      refine iteF ?_
      refine ⟨_, rfl, Or.inl ⟨_, _, _, _, false, rfl, .ty _, ty, kit_ty hi, _, rfl, ?_⟩⟩
      exact iteT q

theorem ok_well (T : Bi K mg) (D : Df K mg) : Cal P w K mg base CX0 1 "_law_well" s_well ["_law_cell"] (sp_well K) := by
  refine Cal.mk' D.well (fun _ _ _ _ _ _ us hl => match us, hl with | [_], _ => rfl) fun f fd F => F.ok sc_well (fun vs H Q E h => ?_) (fun cdv A outer s H vs Q E hr h => ?_)
  · obtain ⟨x, rfl, _⟩ := h
    rfl
  obtain ⟨x, rfl, q⟩ := h
  refine ⟨_, (pss_one (ps_ret (n_lst (pa_cons (pe_op o_mul (pv 0) (pe_callTy call_int1 (by rfl) T.b_int (by decide +kernel) (pa_cons (pe_cmpR op_ge (pv 0) (pe_op o_pow pe_int pe_int) (nomark _)) pa_nil))) (pa_cons (pe_op o_mod (pv 0) pe_int) (pa_cons pe_int pa_nil)))))), ?_⟩
  walk_at "rd"
  rename_i p G hp sG gp
  exact q _ p sG hp ⟨_, _, _, gp, Int.emod_nonneg _ (by omega), Int.emod_lt_of_pos _ (by omega)⟩
theorem ok_draw (T : Bi K mg) (D : Df K mg) : Cal P w K mg base CX0 1 "_law_draw" s_draw ["_law_well_here", "_law_many"] (sp_draw K) := by
  refine Cal.mk' D.draw (fun _ _ _ _ _ _ us hl => match us, hl with | [_, _], _ => rfl) fun f fd F => F.ok sc_draw (fun vs H Q E h => ?_) (fun cdv A outer s H vs Q E hr h => ?_)
  · obtain ⟨l, m, rfl, _⟩ := h
    rfl
  obtain ⟨l, m, rfl, ⟨a, b, z, hl, hb0, hb1⟩, h0, h1, q⟩ := h
  refine ⟨_, (pss_cons (ps_if (pt_cmpR op_gt (pe_ix ix_seq (pv 0) pe_int (fun _ _ => rfl)) pe_int (nomark _)) (pss_cons (ps_asg (pe_callB c_divmod (by rfl) T.b_divmod (by decide +kernel) (pa_cons (pe_ix ix_seq (pv 0) pe_int (fun _ _ => rfl)) (pa_cons (pv 1) pa_nil))) (pg_tup rfl (pgs_cons (pg_sub (pv 0) pe_int set_list) (pgs_cons (pg_name (i := 2) sc_draw.nd rfl (by first | exact Or.inl rfl | exact Or.inr rfl)) pgs_nil))))
      (pss_one (ps_ret (pv 2)))) pss_nil)
      (pss_cons (ps_asg (pe_op o_add (pe_ix ix_seq (pv 0) pe_int (fun _ _ => rfl)) pe_int) (pg_sub (pv 0) pe_int set_list))
      (pss_cons (ps_set (i := 3) sc_draw.nd rfl (by first | exact Or.inl rfl | exact Or.inr rfl) (pe_op o_mod (pe_op o_add (pe_op o_add (pe_op o_mul (pe_ix ix_seq (pv 0) pe_int (fun _ _ => rfl)) (pe_op o_add (pe_op o_mul pe_int (pe_ix ix_seq (pv 0) pe_int (fun _ _ => rfl))) pe_int)) (pe_op o_mul pe_int (pe_ix ix_seq (pv 0) pe_int (fun _ _ => rfl)))) pe_int) pe_int))
      (pss_cons (ps_set (i := 3) sc_draw.nd rfl (by first | exact Or.inl rfl | exact Or.inr rfl) (pe_op o_mod (pe_op o_pow (pv 3) pe_int) pe_int))
      (pss_cons (ps_set (i := 3) sc_draw.nd rfl (by first | exact Or.inl rfl | exact Or.inr rfl) (pe_op o_mod (pe_op o_mul (pv 3) (pe_op o_add (pe_op o_fdv (pv 3) pe_int) pe_int)) pe_int))
      (pss_one (ps_ret (pe_op o_mod (pe_op o_fdv (pv 3) pe_int) (pv 1))))))))), ?_⟩
  walk_at "rd"
  refine ite2 (fun c => ?_) (fun c => ?_)
  · walk_at "rd"
    rename_i p G hp sG gp
    exact q _ _ ((Same.ch sG).at) ⟨_, _, _, upd_same, hb0, hb1⟩ (Int.emod_nonneg _ (by omega)) (Int.emod_lt_of_pos _ h0)
  · walk_at "rd"
    exact q _ _ ((Ch.refl l H).at) ⟨_, _, _, upd_same, hb0, hb1⟩ (Int.emod_nonneg _ (by omega)) (Int.emod_lt_of_pos _ h0)
theorem ok_number (T : Bi K mg) (D : Df K mg) : Cal P w K mg base CX0 2 "_law_number" s_number ["_law_well_here", "_law_most"] (sp_number K) := by
  refine Cal.mk' D.number (fun _ _ _ _ _ _ us hl => match us, hl with | [_, _], _ => rfl) fun f fd F => F.ok sc_number (fun vs H Q E h => ?_) (fun cdv A outer s H vs Q E hr h => ?_)
  · obtain ⟨l, m, rfl, _⟩ := h
    rfl
  obtain ⟨l, m, rfl, hW, h0, h1, q⟩ := h
  refine ⟨_, (pss_cons (ps_set (i := 2) sc_number.nd rfl (by first | exact Or.inl rfl | exact Or.inr rfl) (pe_own (ok_draw T D) (hr.mono (by decide)) (by rfl) pass0 (pa_cons (pv 0) (pa_cons pe_int pa_nil))))
      (pss_cons (ps_set (i := 3) sc_number.nd rfl (by first | exact Or.inl rfl | exact Or.inr rfl) (pe_ix ix_seq (n_lst (pa_cons pe_int (pa_cons (pe_un un_neg pe_int) pa_nil))) (pe_own (ok_draw T D) (hr.mono (by decide)) (by rfl) pass0 (pa_cons (pv 0) (pa_cons pe_int pa_nil))) (fun _ _ => rfl)))
      (pss_cons (ps_if (pt_cmpR op_lt (pv 2) pe_int (nomark _)) (pss_one (ps_ret (pe_op o_mul (pv 3) (pe_own (ok_draw T D) (hr.mono (by decide)) (by rfl) pass0 (pa_cons (pv 0) (pa_cons (pe_ix ix_seq (n_lst (pa_cons pe_int (pa_cons pe_int (pa_cons pe_int pa_nil)))) (pv 2) (fun _ _ => rfl)) pa_nil)))))) pss_nil)
      (pss_cons (ps_if (pt_cmpR (o_eq hr.units) (pv 2) pe_int (nomark _)) (pss_one (ps_ret (pe_op o_mul (pe_op o_mul (pv 3) pe_int) (pe_own (ok_draw T D) (hr.mono (by decide)) (by rfl) pass0 (pa_cons (pv 0) (pa_cons pe_int pa_nil)))))) pss_nil)
      (pss_cons (ps_if (pt_cmpR (o_eq hr.units) (pv 2) pe_int (nomark _)) (pss_one (ps_ret (pe_op o_mul (pv 3) (pe_op o_sub (pv 1) (pe_own (ok_draw T D) (hr.mono (by decide)) (by rfl) pass0 (pa_cons (pv 0) (pa_cons pe_int pa_nil))))))) pss_nil)
      (pss_cons (ps_set (i := 4) sc_number.nd rfl (by first | exact Or.inl rfl | exact Or.inr rfl) pe_int)
      (pss_cons (ps_for PassesOwn.never rfl (pi_range1 (by rfl) T.b_range (pa_cons (pe_op o_add pe_int (pe_own (ok_draw T D) (hr.mono (by decide)) (by rfl) pass0 (pa_cons (pv 0) (pa_cons pe_int pa_nil)))) pa_nil)) (pg_name (i := 5) sc_number.nd rfl (by first | exact Or.inl rfl | exact Or.inr rfl)) (pss_one (ps_set (i := 4) sc_number.nd rfl (by first | exact Or.inl rfl | exact Or.inr rfl) (pe_op o_add (pe_op o_mul (pv 4) (pe_op o_pow pe_int pe_int)) (pe_own (ok_draw T D) (hr.mono (by decide)) (by rfl) pass0 (pa_cons (pv 0) (pa_cons (pe_op o_pow pe_int pe_int) pa_nil)))))))
      (pss_one (ps_ret (pe_op o_mul (pv 3) (pv 4))))))))))), ?_⟩
  walk_at "rd"
  intro H1 k c1 w1 k0 k1
  walk_at "rd"
  rename_i p G hp sG gp
  intro H2 g c2 w2 g0 g1
  have sg : ∃ e : Int, (e = 1 ∨ e = -1) ∧ atI [V.int 1, V.int (-1)] g = some (V.int e) := by
    rcases (by omega : g = 0 ∨ g = 1) with rfl | rfl
    · exact ⟨1, .inl rfl, rfl⟩
    · exact ⟨-1, .inr rfl, rfl⟩
  obtain ⟨e, he, ae⟩ := sg
  have c12 := (c1.trans (Same.ch sG)).trans c2
  refine Or.inl ⟨_, _, _, _, rfl, rfl, SqL.of' (c2.get gp (ne_wl hp w1)), ae, ?_⟩
  walk_at "rd"
  refine ite2 (fun c => ?_) (fun c => ?_)
  · have c' := of_decide_eq_true c
    walk_at "rd"
    rename_i p3 G3 hp3 s3 g3
    have sk : ∃ v : Int, 0 < v ∧ v < 2000 ∧ atI [V.int 1, V.int 13, V.int 1009] k = some (V.int v) := by
      rcases (by omega : k = 0 ∨ k = 1 ∨ k = 2) with rfl | rfl | rfl
      · exact ⟨1, by decide, by decide, rfl⟩
      · exact ⟨13, by decide, by decide, rfl⟩
      · exact ⟨1009, by decide, by decide, rfl⟩
    obtain ⟨v, v0, v1, av⟩ := sk
    refine Or.inl ⟨_, _, _, _, rfl, rfl, SqL.of' g3, av, ?_⟩
    walk_at "rd"
    intro H3 r c5 w5 r0 r1
    walk_at "rd"
    refine q _ _ (c12.trans ((Same.ch s3).trans c5)) w5 ?_
    rcases he with rfl | rfl <;> omega
  · walk_at "rd"
    refine ite2 (fun c3 => ?_) (fun c3 => ?_)
    · walk_at "rd"
      intro H3 r c5 w5 r0 r1
      walk_at "rd"
      refine q _ _ (c12.trans c5) w5 ?_
      rcases he with rfl | rfl <;> omega
    · walk_at "rd"
      refine ite2 (fun c4 => ?_) (fun c4 => ?_)
      · walk_at "rd"
        intro H3 r c5 w5 r0 r1
        walk_at "rd"
        refine q _ _ (c12.trans c5) w5 ?_
        rcases he with rfl | rfl <;> omega
      · walk_at "rd"
        intro H3 r c5 w5 r0 r1
        walk_at "rd"
        refine for_range (lo := 0) (n := (1 + r).toNat) (fun i σ' H' => ∃ (n : Int) (y : Option V), σ' = [some (.ref l), some (.int m), some (.int k), some (.int e), some (.int n), y] ∧ Ch l H H' ∧ Wl H' l ∧ 0 ≤ n ∧ n < 10 ^ (8 * i)) ?_ ?_ ?_
        · exact ⟨0, none, rfl, c12.trans c5, w5, by omega, by decide⟩
        · intro i σ' H' hi hP
          obtain ⟨n, y, rfl, c6, w6, n0, n1⟩ := hP
          walk_at "rd"
          intro H4 d c7 w7 d0 d1
          walk_at "rd"
          refine ⟨c6.trans c7, w7, ?_, ?_⟩
          · rw [show (10 : Int) ^ Int.toNat 8 = 100000000 by decide]
            omega
          · rw [show (10 : Int) ^ Int.toNat 8 = 100000000 by decide] at d1 ⊢
            have z : (10 : Int) ^ (8 * (i + 1)) = 10 ^ (8 * i) * 100000000 := by
              rw [show 8 * (i + 1) = 8 * i + 8 by omega, Int.pow_add]
              rfl
            omega
        · intro σ' H' hP
          obtain ⟨n, y, rfl, c6, w6, n0, n1⟩ := hP
          walk_at "rd"
          refine q _ _ c6 w6 ?_
          have z : (10 : Int) ^ (8 * (1 + r).toNat) ≤ 10 ^ 48 := by
            rcases (by omega : r = 0 ∨ r = 1 ∨ r = 2 ∨ r = 3 ∨ r = 4 ∨ r = 5) with rfl | rfl | rfl | rfl | rfl | rfl <;> decide
          rcases he with rfl | rfl <;> omega

def sp_bound (K : PySem.W.Frag) : Sp := fun vs H Q _ => ∃ (l : Addr) (n : Int), vs = [.ref l, .int n] ∧ Wl H l ∧ ∀ H' (b : Option Int), Ch l H H' → Wl H' l → Q (bV b) H'
theorem ok_bound (T : Bi K mg) (D : Df K mg) : Cal P w K mg base CX0 3 "_law_bound" s_bound ["_law_well_here", "_law_number_here"] (sp_bound K) := by
  refine Cal.mk' D.bound (fun _ _ _ _ _ _ us hl => match us, hl with | [_, _], _ => rfl) fun f fd F => F.ok sc_bound (fun vs H Q E h => ?_) (fun cdv A outer s H vs Q E hr h => ?_)
  · obtain ⟨l, m, rfl, _⟩ := h
    rfl
  obtain ⟨l, m, rfl, hW, q⟩ := h
  refine ⟨_, (pss_cons (ps_set (i := 2) sc_bound.nd rfl (by first | exact Or.inl rfl | exact Or.inr rfl) (pe_own (ok_draw T D) (hr.mono (by decide)) (by rfl) pass0 (pa_cons (pv 0) (pa_cons pe_int pa_nil))))
      (pss_cons (ps_if (pt_cmpR (o_eq hr.units) (pv 2) pe_int (nomark _)) (pss_one (ps_ret pe_non)) pss_nil)
      (pss_cons (ps_if (pt_cmpR (o_eq hr.units) (pv 2) pe_int (nomark _)) (pss_one (ps_ret (pe_own (ok_number T D) (hr.mono (by decide)) (by rfl) pass0 (pa_cons (pv 0) (pa_cons (pe_op o_sub (pe_op o_pow pe_int pe_int) pe_int) pa_nil))))) pss_nil)
      (pss_cons (ps_set (i := 3) sc_bound.nd rfl (by first | exact Or.inl rfl | exact Or.inr rfl) (pe_op o_sub (pe_op o_add (pv 1) (pv 2)) pe_int))
      (pss_cons (ps_if (pt_cmpR op_ge (pe_callB call_abs (by rfl) T.b_abs (by decide +kernel) (pa_cons (pv 3) pa_nil)) (pe_op o_pow pe_int pe_int) (nomark _)) (pss_one (ps_ret (pv 1))) pss_nil)
      (pss_one (ps_ret (pv 3)))))))), ?_⟩
  walk_at "rd"
  intro H1 k c1 w1 k0 k1
  walk_at "rd"
  refine ite2 (fun c => ?_) (fun c => ?_)
  · walk_at "rd"
    exact q H1 none c1 w1
  · walk_at "rd"
    refine ite2 (fun c2 => ?_) (fun c2 => ?_)
    · walk_at "rd"
      intro H2 n c5 w5 n0
      walk_at "rd"
      exact q H2 (some n) (c1.trans c5) w5
    · walk_at "rd"
      refine ite2 (fun c3 => ?_) (fun c3 => ?_)
      · walk_at "rd"
        exact q H1 (some _) c1 w1
      · walk_at "rd"
        exact q H1 (some _) c1 w1
def sp_odd (K : PySem.W.Frag) : Sp := fun vs H Q _ => ∃ (l : Addr), vs = [.ref l] ∧ Wl H l ∧ ∀ H' x, Ch l H H' → Wl H' l → Odd K H' x → Q x H'
theorem ok_odd (T : Bi K mg) (D : Df K mg) : Cal P w K mg base CX0 2 "_law_odd" s_odd ["_law_well_here"] (sp_odd K) := by
  refine Cal.mk' D.odd (fun _ _ _ _ _ _ us hl => match us, hl with | [_], _ => rfl) fun f fd F => F.ok sc_odd (fun vs H Q E h => ?_) (fun cdv A outer s H vs Q E hr h => ?_)
  · obtain ⟨l, rfl, _⟩ := h
    rfl
  obtain ⟨l, rfl, hW, q⟩ := h
  refine ⟨_, (pss_cons (ps_set (i := 1) sc_odd.nd rfl (by first | exact Or.inl rfl | exact Or.inr rfl) (n_lst (pa_cons pe_non (pa_cons pe_bl (pa_cons pe_bl (pa_cons pe_str (pa_cons pe_str (pa_cons (n_lst (pa_cons pe_int pa_nil)) (pa_cons (n_tup (pa_cons pe_int pa_nil)) (pa_cons (n_tup pa_nil) (pa_cons n_dict (pa_cons (pe_disp (pps_cons pe_int pe_int pps_nil) (by rfl) (by rfl) (fun z => by cases z) (by decide)) pa_nil))))))))))))
      (pss_one (ps_ret (pe_ix ix_seq (pv 1) (pe_own (ok_draw T D) (hr.mono (by decide)) (by rfl) pass0 (pa_cons (pv 0) (pa_cons pe_int pa_nil))) (fun _ _ => rfl))))), ?_⟩
  walk_at "rd"
  rename_i p1 G1 hp1 s1 g1 p2 G2 hp2 s2 g2 p3 G3 hp3 s3 g3 p4 G4 hp4 s4 g4
  intro p5 hp5
  walk_at "rd"
  refine ⟨upd_same, [(.inl 1, .int 1)], rfl, by decide, ?_⟩
  refine new_two (R := fun X => tNil _ X _) hp5 fun G5 s5 g5 => ?_
  walk_at "rd"
  rename_i p6 G6 hp6 s6 g6
  intro H2 r c2 w2 r0 r1
  have w6 : Wl G6 l := by walk_at "wl"
  have n1 := ne_wl hp1 hW
  have n2 := ne_wl (l := l) hp2 (by walk_at "wl")
  have n3 := ne_wl (l := l) hp3 (by walk_at "wl")
  have n4 := ne_wl (l := l) hp4 (by walk_at "wl")
  have n5 := ne_wl (l := l) hp5 (by walk_at "wl")
  have n6 := ne_wl (l := l) hp6 (by walk_at "wl")
  have f1 : H2 p1 = some (.lst [V.int 1]) := c2.get (by walk_at "hf") n1
  have f2 : H2 p2 = some (.tup [V.int 1]) := c2.get (by walk_at "hf") n2
  have f3 : H2 p3 = some (.tup []) := c2.get (by walk_at "hf") n3
  have f4 : H2 p4 = some (.dK []) := c2.get (by walk_at "hf") n4
  have f5 : H2 p5 = some (.dK (mergeK [] [(Sum.inl 1, V.int 1)])) := c2.get (by walk_at "hf") n5
  have c : Ch l H H2 := (Same.ch (s1.trans (s2.trans (s3.trans (s4.trans (s5.trans s6)))))).trans c2
  have sx : ∃ x, atI [V.non, V.bl true, V.bl false, V.str (Str.ofString "1"), V.str (Str.ofString ""), V.ref p1, V.ref p2, V.ref p3, V.ref p4, V.ref p5] r = some x ∧ Odd K H2 x := by
    rcases (by omega : r = 0 ∨ r = 1 ∨ r = 2 ∨ r = 3 ∨ r = 4 ∨ r = 5 ∨ r = 6 ∨ r = 7 ∨ r = 8 ∨ r = 9) with rfl | rfl | rfl | rfl | rfl | rfl | rfl | rfl | rfl | rfl
    · exact ⟨_, rfl, _, .base .non, .inr ⟨by decide +kernel, by decide +kernel⟩⟩
    · exact ⟨_, rfl, _, .base (.bl _), .inl (by decide +kernel)⟩
    · exact ⟨_, rfl, _, .base (.bl _), .inl (by decide +kernel)⟩
    · exact ⟨_, rfl, _, .base (.str _), .inr ⟨by decide +kernel, by decide +kernel⟩⟩
    · exact ⟨_, rfl, _, .base (.str _), .inr ⟨by decide +kernel, by decide +kernel⟩⟩
    · exact ⟨_, rfl, _, .base (.lst f1), .inr ⟨by decide +kernel, by decide +kernel⟩⟩
    · exact ⟨_, rfl, _, .base (.tup f2), .inr ⟨by decide +kernel, by decide +kernel⟩⟩
    · exact ⟨_, rfl, _, .base (.tup f3), .inr ⟨by decide +kernel, by decide +kernel⟩⟩
    · exact ⟨_, rfl, _, .base (.dK f4), .inr ⟨by decide +kernel, by decide +kernel⟩⟩
    · exact ⟨_, rfl, _, .base (.dK f5), .inr ⟨by decide +kernel, by decide +kernel⟩⟩
  obtain ⟨x, ex, ox⟩ := sx
  exact Or.inl ⟨_, _, _, _, rfl, rfl, SqL.of' (c2.get g6 n6), ex, q _ _ c w2 ox⟩
def sp_truth (K : PySem.W.Frag) : Sp := fun vs H Q _ => ∃ (a : Bool), vs = [.bl a, .bl a] ∧ ∀ H', Same H H' → Q (.bl true) H'
theorem ok_truth (T : Bi K mg) (D : Df K mg) : Cal P w K mg base CX0 1 "_law_truth" s_truth ["_law_found", "_law_due"] (sp_truth K) := by
  refine Cal.mk' D.truth (fun _ _ _ _ _ _ us hl => match us, hl with | [_, _], _ => rfl) fun f fd F => F.ok sc_truth (fun vs H Q E h => ?_) (fun cdv A outer s H vs Q E hr h => ?_)
  · obtain ⟨a, rfl, _⟩ := h
    rfl
  obtain ⟨a, rfl, q⟩ := h
  refine ⟨_, (pss_one (ps_ret (pe_ix ix_seq (n_lst (pa_cons (pe_cmpR o_is (pv 0) pe_bl (nomark _)) (pa_cons (pe_cmpR o_is (pv 0) pe_bl (nomark _)) pa_nil))) (pe_callTy call_int1 (by rfl) T.b_int (by decide +kernel) (pa_cons (pv 1) pa_nil)) (fun _ _ => rfl)))), ?_⟩
  walk_at "rd"
  rename_i p G hp sG gp
  refine Or.inl ⟨_, _, _, .bl true, rfl, rfl, SqL.of' gp, ?_, q _ sG⟩
  cases a <;> rfl
def sp_law := spLaw
theorem ok_law (T : Bi K mg) (D : Df K mg) : Cal P w K mg base CX0 4 "law" s_law ["_law_script"] (sp_law K) := by
  refine Cal.mk' D.law (fun _ _ _ _ _ _ us hl => match us, hl with | [_], _ => rfl) fun f fd F => F.ok sc_law (fun vs H Q E h => ?_) (fun cdv A outer s H vs Q E hr h => ?_)
  · obtain ⟨a, ns, rfl, _⟩ := h
    rfl
  obtain ⟨a, ns, rfl, hS, h63, q⟩ := h
  refine ⟨_, (pss_cons (ps_for PassesOwn.never rfl (pi_seq (pe_slice s_any (pe_op o_add (pv 0) (n_lst (pa_cons pe_int pa_nil))) po_none (po_some pe_int))) (pg_name (i := 1) sc_law.nd rfl (by first | exact Or.inl rfl | exact Or.inr rfl)) (pss_cons (ps_set (i := 2) sc_law.nd rfl (by first | exact Or.inl rfl | exact Or.inr rfl) (pe_own (ok_well T D) (hr.mono (by decide)) (by rfl) pass0 (pa_cons (pv 1) pa_nil)))
      (pss_cons (ps_set (i := 3) sc_law.nd rfl (by first | exact Or.inl rfl | exact Or.inr rfl) (pe_own (ok_number T D) (hr.mono (by decide)) (by rfl) pass0 (pa_cons (pv 2) (pa_cons (pe_op o_sub (pe_op o_pow pe_int pe_int) pe_int) pa_nil))))
      (pss_cons (ps_set (i := 4) sc_law.nd rfl (by first | exact Or.inl rfl | exact Or.inr rfl) (pe_own (ok_bound T D) (hr.mono (by decide)) (by rfl) pass0 (pa_cons (pv 2) (pa_cons (pv 3) pa_nil))))
      (pss_cons (ps_set (i := 5) sc_law.nd rfl (by first | exact Or.inl rfl | exact Or.inr rfl) (pe_own (ok_bound T D) (hr.mono (by decide)) (by rfl) pass0 (pa_cons (pv 2) (pa_cons (pv 3) pa_nil))))
      (pss_cons (ps_set (i := 6) sc_law.nd rfl (by first | exact Or.inl rfl | exact Or.inr rfl) (pe_andT (pe_orT (pe_cmpR o_is (pv 4) pe_non (nomark _)) (pe_one (pe_cmpR op_le (pv 4) (pv 3) (nomark _)))) (pe_one (pe_orT (pe_cmpR o_is (pv 5) pe_non (nomark _)) (pe_one (pe_cmpR op_le (pv 3) (pv 5) (nomark _)))))))
      (pss_cons (ps_if (pt_not (pt_truth (pe_own (ok_truth T D) (hr.mono (by decide)) (by rfl) pass0 (pa_cons (pe_own (ok_p_is_whole T D) (hr.mono (by decide)) (by rfl) pass0 (pa_cons (pv 3) (pa_cons (pv 4) (pa_cons (pv 5) pa_nil)))) (pa_cons (pv 6) pa_nil))) (by intro _; rfl))) (pss_one (ps_ret pe_bl)) pss_nil)
      (pss_cons (ps_if (pt_not (pt_truth (pe_own (ok_truth T D) (hr.mono (by decide)) (by rfl) pass0 (pa_cons (pe_ownK (ks := ["high", "low", "thing"]) (fun {_} l => match l with | [x0, x1, x2] => [x2, x1, x0] | _ => []) (ok_p_is_whole T D) (hr.mono (by decide)) (by rfl) pass0 (fun _ _ _ _ _ _ ws hl => match ws, hl with | [_, _, _], _ => rfl) (by walk_at "kw_len") (by walk_at "kw_rel") (pk_cons (pv 5) (pk_cons (pv 4) (pk_cons (pv 3) pk_nil)))) (pa_cons (pv 6) pa_nil))) (by intro _; rfl))) (pss_one (ps_ret pe_bl)) pss_nil)
      (pss_cons (ps_set (i := 7) sc_law.nd rfl (by first | exact Or.inl rfl | exact Or.inr rfl) (pe_own (ok_odd T D) (hr.mono (by decide)) (by rfl) pass0 (pa_cons (pv 2) pa_nil)))
      (pss_cons (ps_if (PW.pt (pw_or (pt_cmpR o_isn (pe_own (ok_p_is_whole T D) (hr.mono (by decide)) (by rfl) pass0 (pa_cons (pv 7) (pa_cons (pv 4) (pa_cons (pv 5) pa_nil)))) pe_bl (nomark _)) (pw_or1 (pt_cmpR o_isn (pe_own (ok_p_is_whole T D) (hr.mono (by decide)) (by rfl) pass0 (pa_cons (pv 7) (pa_cons pe_non (pa_cons pe_non pa_nil)))) pe_bl (nomark _))))) (pss_one (ps_ret pe_bl)) pss_nil)
      (pss_one (ps_if (pt_cmpR o_isn (pe_own (ok_p_is_whole T D) (hr.mono (by decide)) (by rfl) pass0 (pa_cons (pv 3) (pa_cons pe_non (pa_cons pe_non pa_nil)))) pe_bl (nomark _)) (pss_one (ps_ret pe_bl)) pss_nil))))))))))))
      (pss_one (ps_ret pe_bl))), ?_⟩
  walk_at "rd"
  rename_i p1 G1 hp1 s1 g1
  refine Or.inr (Or.inl ⟨_, _, _, _, rfl, rfl, s1.seq hS, SqL.of' g1, ?_, ?_⟩)
  · rw [List.length_map]
    exact Nat.le_trans (show ns.length + 1 ≤ 1000 by omega) (by decide)
  intro p2 G2 hp2 s2 g2
  walk_at "rd"
  refine Or.inl ⟨_, _, rfl, SqL.of' g2, ?_⟩
  intro p3 G3 hp3 s3 g3
  have e3 : ns.map V.int ++ [V.int 0] = (ns ++ [0]).map V.int := by simp
  rw [e3] at g3
  refine ⟨_, rfl, ⟨_, SqL.of' g3⟩, ?_⟩
  refine for_list (xs := cutV ((ns ++ [0]).map V.int) none (some 20)) (fun i σ' H' => ∃ x1 x2 x3 x4 x5 x6 x7, σ' = [some (.ref a), x1, x2, x3, x4, x5, x6, x7] ∧ Same G3 H') ?_ ?_ ?_ ?_
  · exact ⟨_, _, _, _, _, _, _, rfl, Same.refl _⟩
  · intro i σ' H' _ hP
    obtain ⟨_, _, _, _, _, _, _, rfl, sm⟩ := hP
    exact sm.seq (SqL.of' g3)
  · intro i x σ' H' hx hP
    obtain ⟨x1, x2, x3, x4, x5, x6, x7, rfl, sm⟩ := hP
    obtain ⟨c, rfl⟩ := cutV_int hx
    walk_at "rd"
    intro H1 l sA nA w1
    walk_at "rd"
    intro H2 n c2 w2 n2
    walk_at "rd"
    intro H3 lo c3 w3
    walk_at "rd"
    intro H4 hi c4 w4
    dsimp only [gName]
    refine seq_val (.bl (inB lo hi n)) (fun R r => ?_) ?_
    · cases lo with
      | none =>
        walk_at "rd"
        cases hi with
        | none =>
          walk_at "rd"
          exact r
        | some u =>
          walk_at "rd"
          exact r
      | some l =>
        walk_at "rd"
        refine ite2 (fun c => ?_) (fun c => ?_)
        · cases hi with
          | none =>
            walk_at "rd"
            have e : inB (some l) none n = true := by simp [inB] at c ⊢; omega
            rw [e] at r
            exact r
          | some u =>
            walk_at "rd"
            have e : inB (some l) (some u) n = decide (n ≤ u) := by simp [inB] at c ⊢; intro; omega
            rw [e] at r
            exact r
        · have e : inB (some l) hi n = false := by simp [inB] at c ⊢; intro; omega
          have e2 : decide (l ≤ n) = false := Bool.eq_false_iff.mpr c
          rw [e] at r
          show R (.bl (decide (l ≤ n))) _
          rw [e2]
          exact r
    walk_at "rd"
    intro H5 s5
    walk_at "rd"
    intro H6 s6
    walk_at "rd"
    intro H7 x c7 w7 ox
    walk_at "rd"
    have cAll : Ch l H1 H7 := c2.trans (c3.trans (c4.trans ((Same.ch s5).trans ((Same.ch s6).trans c7))))
    exact ⟨_, _, _, _, _, _, _, rfl, sm.trans (Ch.own sA nA cAll)⟩
  · intro σ' H' hP
    walk_at "rd"
    exact q _
end
theorem all_mk {l : PySem.W.OpenLaw} {w : World} {K : PySem.W.Frag} {h : Heap} {mg : Str → Option Value} {fa : Addr} (X : K.In h) (G : h.Ns mainGlobals mg) (hfa : mg "law" = some (.ref fa))
    {f0 : Addr} {od0 an0 : Option Addr} {sl0 : Array (Option Value)} {oc0 kV0 dc0 pm0 cd0 ct0 : Value}
    (a0 : PySem.W.nsIn K mainGlobals "is_whole" = some (some (.ref f0))) (l0 : K.lookup f0 = some ⟨oc0, od0, .func (PySem.W.fnOf "is_whole" "is_whole" (defArgs s_p_is_whole) (defBody s_p_is_whole) (defScope s_p_is_whole) .none kV0 dc0 pm0 an0 cd0 ct0), sl0⟩) (c0 : PySem.W.codeIn K cd0 "is_whole" = true) (k0 : PySem.W.keepIn K (.ref f0) = true)
    {f1 : Addr} {od1 an1 : Option Addr} {sl1 : Array (Option Value)} {oc1 kV1 dc1 pm1 cd1 ct1 : Value}
    (a1 : PySem.W.nsIn K mainGlobals "_law_well" = some (some (.ref f1))) (l1 : K.lookup f1 = some ⟨oc1, od1, .func (PySem.W.fnOf "_law_well" "_law_well" (defArgs s_well) (defBody s_well) (defScope s_well) .none kV1 dc1 pm1 an1 cd1 ct1), sl1⟩) (c1 : PySem.W.codeIn K cd1 "_law_well" = true) (k1 : PySem.W.keepIn K (.ref f1) = true)
    {f2 : Addr} {od2 an2 : Option Addr} {sl2 : Array (Option Value)} {oc2 kV2 dc2 pm2 cd2 ct2 : Value}
    (a2 : PySem.W.nsIn K mainGlobals "_law_draw" = some (some (.ref f2))) (l2 : K.lookup f2 = some ⟨oc2, od2, .func (PySem.W.fnOf "_law_draw" "_law_draw" (defArgs s_draw) (defBody s_draw) (defScope s_draw) .none kV2 dc2 pm2 an2 cd2 ct2), sl2⟩) (c2 : PySem.W.codeIn K cd2 "_law_draw" = true) (k2 : PySem.W.keepIn K (.ref f2) = true)
    {f3 : Addr} {od3 an3 : Option Addr} {sl3 : Array (Option Value)} {oc3 kV3 dc3 pm3 cd3 ct3 : Value}
    (a3 : PySem.W.nsIn K mainGlobals "_law_number" = some (some (.ref f3))) (l3 : K.lookup f3 = some ⟨oc3, od3, .func (PySem.W.fnOf "_law_number" "_law_number" (defArgs s_number) (defBody s_number) (defScope s_number) .none kV3 dc3 pm3 an3 cd3 ct3), sl3⟩) (c3 : PySem.W.codeIn K cd3 "_law_number" = true) (k3 : PySem.W.keepIn K (.ref f3) = true)
    {f4 : Addr} {od4 an4 : Option Addr} {sl4 : Array (Option Value)} {oc4 kV4 dc4 pm4 cd4 ct4 : Value}
    (a4 : PySem.W.nsIn K mainGlobals "_law_bound" = some (some (.ref f4))) (l4 : K.lookup f4 = some ⟨oc4, od4, .func (PySem.W.fnOf "_law_bound" "_law_bound" (defArgs s_bound) (defBody s_bound) (defScope s_bound) .none kV4 dc4 pm4 an4 cd4 ct4), sl4⟩) (c4 : PySem.W.codeIn K cd4 "_law_bound" = true) (k4 : PySem.W.keepIn K (.ref f4) = true)
    {f5 : Addr} {od5 an5 : Option Addr} {sl5 : Array (Option Value)} {oc5 kV5 dc5 pm5 cd5 ct5 : Value}
    (a5 : PySem.W.nsIn K mainGlobals "_law_odd" = some (some (.ref f5))) (l5 : K.lookup f5 = some ⟨oc5, od5, .func (PySem.W.fnOf "_law_odd" "_law_odd" (defArgs s_odd) (defBody s_odd) (defScope s_odd) .none kV5 dc5 pm5 an5 cd5 ct5), sl5⟩) (c5 : PySem.W.codeIn K cd5 "_law_odd" = true) (k5 : PySem.W.keepIn K (.ref f5) = true)
    {f6 : Addr} {od6 an6 : Option Addr} {sl6 : Array (Option Value)} {oc6 kV6 dc6 pm6 cd6 ct6 : Value}
    (a6 : PySem.W.nsIn K mainGlobals "_law_truth" = some (some (.ref f6))) (l6 : K.lookup f6 = some ⟨oc6, od6, .func (PySem.W.fnOf "_law_truth" "_law_truth" (defArgs s_truth) (defBody s_truth) (defScope s_truth) .none kV6 dc6 pm6 an6 cd6 ct6), sl6⟩) (c6 : PySem.W.codeIn K cd6 "_law_truth" = true) (k6 : PySem.W.keepIn K (.ref f6) = true)
    {f7 : Addr} {od7 an7 : Option Addr} {sl7 : Array (Option Value)} {oc7 kV7 dc7 pm7 cd7 ct7 : Value}
    (a7 : PySem.W.nsIn K mainGlobals "law" = some (some (.ref f7))) (l7 : K.lookup f7 = some ⟨oc7, od7, .func (PySem.W.fnOf "law" "law" (defArgs s_law) (defBody s_law) (defScope s_law) .none kV7 dc7 pm7 an7 cd7 ct7), sl7⟩) (c7 : PySem.W.codeIn K cd7 "law" = true) (k7 : PySem.W.keepIn K (.ref f7) = true)
    (z0 : PySem.W.nsIn K mainGlobals "abs" = some none)
    (z1 : PySem.W.nsIn K mainGlobals "bool" = some none)
    (z2 : PySem.W.nsIn K mainGlobals "divmod" = some none)
    (z3 : PySem.W.nsIn K mainGlobals "int" = some none)
    (z4 : PySem.W.nsIn K mainGlobals "isinstance" = some none)
    (z5 : PySem.W.nsIn K mainGlobals "range" = some none) :
    ∃ fd : FuncData, (∀ (s : Shared) (v : Value), BindsTo s fd ⟨[v], []⟩ [("_law_script", v)]) ∧ ∀ base : Heap, K.In base → base.Ns mainGlobals mg → FnOk l.prog w K mg base CX0 4 fa fd ["_law_script"] (sp_law K) := by
  have e := hfa.symm.trans (PySem.W.mg_of X G a7)
  cases e
  have D : Df K mg := ⟨⟨f0, _, PySem.W.mg_of X G a0, fun_mk (st := s_p_is_whole) l0 c0 k0⟩, ⟨f1, _, PySem.W.mg_of X G a1, fun_mk (st := s_well) l1 c1 k1⟩, ⟨f2, _, PySem.W.mg_of X G a2, fun_mk (st := s_draw) l2 c2 k2⟩, ⟨f3, _, PySem.W.mg_of X G a3, fun_mk (st := s_number) l3 c3 k3⟩, ⟨f4, _, PySem.W.mg_of X G a4, fun_mk (st := s_bound) l4 c4 k4⟩, ⟨f5, _, PySem.W.mg_of X G a5, fun_mk (st := s_odd) l5 c5 k5⟩, ⟨f6, _, PySem.W.mg_of X G a6, fun_mk (st := s_truth) l6 c6 k6⟩, ⟨fa, _, PySem.W.mg_of X G a7, fun_mk (st := s_law) l7 c7 k7⟩⟩
  have T : Bi K mg := ⟨PySem.W.mg_none_of X G z0, PySem.W.mg_none_of X G z1, PySem.W.mg_none_of X G z2, PySem.W.mg_none_of X G z3, PySem.W.mg_none_of X G z4, PySem.W.mg_none_of X G z5⟩
  refine ⟨PySem.W.fnOf "law" "law" (defArgs s_law) (defBody s_law) (defScope s_law) .none kV7 dc7 pm7 an7 cd7 ct7, fun s v => .of_eq rfl, fun base _ _ => ?_⟩
  obtain ⟨f, fd, g, F, b, R⟩ := (ok_law (P := l.prog) (w := w) (base := base) T D).ex
  have e2 := g.symm.trans (PySem.W.mg_of X G a7)
  cases e2
  obtain ⟨_, _, _, _, _, _, _, _, _, rfl, lk, _⟩ := F.ex
  have e3 := lk.symm.trans l7
  cases e3
  exact R
end boughswap_k01_whole_numbers_within_bound
open PySem PySem.W PyProof.Rows
set_option maxHeartbeats 0 in
theorem PySem.Challenge.cw_boughswap_k01_whole_numbers_within_bound_holds : PySem.Challenge.rw_boughswap_k01_whole_numbers_within_bound.Holds := by
  w_on; o_law; k_head; (case hw => w_witness2)
  k_fill
  refine L2.walk_of (l := PySem.Challenge.rw_boughswap_k01_whole_numbers_within_bound) (n := 63) (k := 4) (x := "_law_script") (CX := fun _ => L2.CX0) (sp := fun w => boughswap_k01_whole_numbers_within_bound.sp_law _) rfl (by decide) rfl ⟨rfl, by decide, by decide⟩ (fun w h Y => PySem.W.kIn_of Y) ?F (fun _ _ a ns hl _ hS => ⟨a, ns, rfl, hS, hl, fun _ => rfl⟩) (fun _ _ _ _ _ h => h)
  case F =>
    intro w mg fa h KX G hmg
    refine' boughswap_k01_whole_numbers_within_bound.all_mk KX G hmg ?a0 ?l0 ?c0 ?k0 ?a1 ?l1 ?c1 ?k1 ?a2 ?l2 ?c2 ?k2 ?a3 ?l3 ?c3 ?k3 ?a4 ?l4 ?c4 ?k4 ?a5 ?l5 ?c5 ?k5 ?a6 ?l6 ?c6 ?k6 ?a7 ?l7 ?c7 ?k7 ?z0 ?z1 ?z2 ?z3 ?z4 ?z5
    (case a0 => k_is); (case l0 => k_is); (case c0 => k_is); (case k0 => k_is); (case a1 => k_is); (case l1 => k_is); (case c1 => k_is); (case k1 => k_is); (case a2 => k_is); (case l2 => k_is); (case c2 => k_is); (case k2 => k_is); (case a3 => k_is); (case l3 => k_is); (case c3 => k_is); (case k3 => k_is); (case a4 => k_is); (case l4 => k_is); (case c4 => k_is); (case k4 => k_is); (case a5 => k_is); (case l5 => k_is); (case c5 => k_is); (case k5 => k_is); (case a6 => k_is); (case l6 => k_is); (case c6 => k_is); (case k6 => k_is); (case a7 => k_is); (case l7 => k_is); (case c7 => k_is); (case k7 => k_is); (case z0 => k_is); (case z1 => k_is); (case z2 => k_is); (case z3 => k_is); (case z4 => k_is); (case z5 => k_is)

