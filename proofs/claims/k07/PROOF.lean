import PyProof.Rows.All
import Wide.All
import OpenK.AllK
import Wide.FinOn
import HandS.ForMost
import HandS.ForExc
import HandS.More
import HandS.Walk
import HandS.FStr
import HandS.RaiseMore
import HandS.IsInst
import HandS.ExcIs
import HandS.HotCalls
import HandS.SortRule
import HandS.Codes
import PyProof.Rows.SortShellAny
import HandS.Defaults
import HandS.MakeKw
import HandS.MakeKwOnly
import HandS.Style
import HandS.DictTup
import PySem.Challenge.RW_leasewatch_k07_a_line_that_breaks
set_option Elab.async false
set_option linter.all false
set_option maxRecDepth 100000
set_option maxHeartbeats 8000000
/-! rules of our own: a def called within an except suite with the exception that is handled as an argument; a list walked there; a method that may raise, the wish by the slots -/
namespace LX
open PySem PySem.Spec PyProof.Rows L2 L2H
abbrev St := L2.St

structure FnP (P : Program) (w : World) (K : PySem.W.Frag) (mg : Str → Option Value) (base : Heap) (k : Nat) (f : Addr) (fd : FuncData) (ps : List Str) (sp : Addr × Obj → Sp) : Prop where
  len : ∀ p vs H Q E, sp p vs H Q E → vs.length = ps.length
  run : ∀ (A : Around) (outer : List Env) (s : Shared) (H : Hp) (args : Args) (us : List Value) (vs : List V) (Q : VK) (E : XK) (p : Addr × Obj), RoomH k A → PinOk outer H s p → (∃ vs, p.2.data = .fields vs) → Env0 P w K mg base A outer s H → BindsTo s fd args (ps.zip us) → Vals vs us → sp p vs H Q E →
    codeAny (model P w) A (.call (.ref f) args) (CR CX0 outer P w H s Q E) s
theorem fn_ofP {P : Program} {w : World} {K : PySem.W.Frag} {mg : Str → Option Value} {base : Heap} {k : Nat} {f : Addr} {name qual : Str} {params : Arguments} {body : List Stmt} {scope : Scope} {dV kV doc pm cdv ct oc : Value} {an od : Option Addr}
    {osl : Array (Option Value)} {N ps : List Str} {sp : Addr × Obj → Sp} (lk : K.lookup f = some ⟨oc, od, .func (PySem.W.fnOf name qual params body scope dV kV doc pm an cdv ct), osl⟩) (hcd : PySem.W.codeIn K cdv qual = true) (S : FnScope N ps scope)
    (len : ∀ p vs H Q E, sp p vs H Q E → vs.length = ps.length)
    (hbody : ∀ (A : Around) (outer : List Env) (s : Shared) (H : Hp) (vs : List V) (Q : VK) (E : XK) (p : Addr × Obj), RoomH k (A.deeper (envOfC qual scope s.heap.objs.size f cdv)) → (∃ vs, p.2.data = .fields vs) → sp p vs H Q E →
      ∃ t, PSs (cxH CX0 P w K mg base N qual scope f cdv A outer s H E p) body t ∧ t { nx := fun _ H' => Q .non H', rt := Q } (L2.start N vs) H) :
    FnP P w K mg base (k + 1) f (PySem.W.fnOf name qual params body scope dV kV doc pm an cdv ct) ps sp := by
  refine ⟨len, fun A outer s H args us vs Q E p hr hpin hf e0 hb r hsp => ?_⟩
  have hl := len _ _ _ _ _ hsp
  have KX : K.In s.heap := e0.mod.kin.keeps fun b o e => (e0.bs b o e).1
  have lim : s.heap.NoLimit := e0.mod.nolimit.keeps fun b o e => (e0.bs b o e).1
  have hkind : ∀ y ∈ ps.zip us, scope.names.lookup y.1 = some .local ∨ (scope.names.lookup y.1 = some .cell ∧ ((cellsFrom (s.heap.objs.size + 1) scope.names []).lookup y.1).isSome = true) := fun ⟨n, v⟩ hy => by
    rcases S.par n (List.of_mem_zip hy).1 with q | q
    · exact .inl q
    · exact .inr ⟨q, PySem.W.cellsFrom_some _ _ _ (.inl q)⟩
  refine codeAny_call_function hr.depth (KX _ _ lk) rfl S.co S.gen rfl (PySem.W.codeRec_of KX hcd) (hb _ _ _ _ ?_)
  refine wpAny_newFunctionEnv_cells S.kind hkind fun env he s1 x => ?_
  subst he
  refine ⟨lim.keeps x.toInCall.keep, codeAny_func ?_⟩
  obtain ⟨t, ht, hq⟩ := hbody A outer s H vs Q E p (hr.deeper _) hf hsp
  have I : Inv (cxH CX0 P w K mg base N qual scope f cdv A outer s H E p) [] (L2.start N vs) H s1 := inv_startH S hpin e0 hl r x
  refine wpAny_mono (ht.run [] s1 (L2.start N vs) H _ I hq) (fun fl s' hs => ?_) fun e s' hs => hs
  have fin : ∀ {σ' : St} {H' : Hp} {v : V} {u : Value}, Inv (cxH CX0 P w K mg base N qual scope f cdv A outer s H E p) [] σ' H' s' → RelV v u → Q v H' → CE outer P w H s Q u s' :=
    fun {σ' H' v u} J rv q => ⟨v, H', J.os, J.bare, J.base, J.hok, rv, q⟩
  cases fl with
  | ret u =>
    obtain ⟨v, σ', H', J, rv, q⟩ := hs
    exact fin J rv q
  | next =>
    obtain ⟨σ', H', J, q⟩ := hs
    exact fin (v := V.non) (u := Value.none) J rfl q
  | brk =>
    obtain ⟨_, _, _, q⟩ := hs
    exact False.elim q
  | cont =>
    obtain ⟨_, _, _, q⟩ := hs
    exact False.elim q
section
variable {P : Program} {w : World} {K : PySem.W.Frag} {mg : Str → Option Value} {base : Heap}
theorem okP {x qual : Str} {st : Stmt} {f : Addr} {fd : FuncData} {N ps : List Str} {k : Nat} {sp : Addr × Obj → Sp} (F : Fun K x qual st f fd) (S : FnScope N ps (defScope st)) (len : ∀ p vs H Q E, sp p vs H Q E → vs.length = ps.length)
    (hbody : ∀ (cdv : Value) (A : Around) (outer : List Env) (s : Shared) (H : Hp) (vs : List V) (Q : VK) (E : XK) (p : Addr × Obj), RoomH k (A.deeper (envOfC qual (defScope st) s.heap.objs.size f cdv)) → (∃ vs, p.2.data = .fields vs) → sp p vs H Q E →
      ∃ t, PSs (cxH CX0 P w K mg base N qual (defScope st) f cdv A outer s H E p) (defBody st) t ∧ t { nx := fun _ H' => Q .non H', rt := Q } (L2.start N vs) H) : FnP P w K mg base (k + 1) f fd ps sp := by
  obtain ⟨oc, od, kV, doc, pm, an, cdv, ct, osl, rfl, lk, hcd⟩ := F.ex
  exact fn_ofP lk hcd S len fun A outer s H vs Q E p hr hf hsp => hbody cdv A outer s H vs Q E p hr hf hsp
end
section
variable {X : Cx} {k : Nat} {f : Addr} {fd : FuncData} {ps : List Str} {sp : Addr × Obj → Sp} {x : Str} {q pos : Pos} {e : Expr} {es : List Expr} {t : TA}
theorem run_fnP {pins : List (Addr × Obj)} {σ : St} {H : Hp} {s : Shared} {Q : VK} {us : List Value} {vs : List V} {p : Addr × Obj} (F : FnP X.prog X.w X.K X.mg X.base k f fd ps sp) (hr : RoomH k X.A) (hp : p ∈ X.pn) (hf : ∃ vs, p.2.data = .fields vs) (hb : Binds X.K fd ps [])
    (I : Inv X pins σ H s) (r : Vals vs us) (h : sp p vs H Q E0) : wpAny (model X.prog X.w) X.A (call (.ref f) us) (EP X pins σ Q) X.xe s := by
  have hl : us.length = ps.length := by rw [← r.length]; exact F.len _ _ _ _ _ h
  have b := hb s us I.kIn (by rw [List.append_nil]; exact hl)
  rw [List.append_nil] at b
  have P1 := I.pin p (List.mem_append_left _ hp)
  have hpin : PinOk X.stack H s p := ⟨P1.1, P1.2.1, fun hm => (List.mem_cons.mp (I.stkSub p.1 hm)).elim P1.2.2.1 P1.2.2.2.1, P1.2.2.2.2⟩
  refine wpAny_call (codeAny_mono (F.run X.A X.stack s H ⟨us, []⟩ us vs Q E0 p hr hpin hf I.env0 b r h) fun r s' hq => ?_)
  cases r with
  | error e => exact False.elim hq
  | ok fl =>
    cases fl with
    | ret u => exact I.after hq
    | next => exact False.elim hq
    | brk => exact False.elim hq
    | cont => exact False.elim hq
def tCallP (sp : Sp) (t : TA) : TE := fun σ H Q => t σ H fun vs H1 => sp vs H1 Q E0
theorem pe_callP {p : Addr × Obj} (F : FnP X.prog X.w X.K X.mg X.base k f fd ps sp) (hr : RoomH k X.A) (hp : p ∈ X.pn) (hf : ∃ vs, p.2.data = .fields vs) (hg : Gl X x) (hm : X.mg x = some (.ref f)) (hk : PySem.W.keepIn X.K (.ref f) = true) (hb : Binds X.K fd ps [])
    (ha : PA X (e :: es) t) (hdb : (x == ("__debug__" : Str)) = false := by decide) (he : starEach (e :: es) X.env = (false, eval e X.env) :: starEach es X.env := by rfl) (hpl : (backTo pos (starEach es X.env)).any (·.1) = false := by rfl) :
    PE X (.Call (.Name x q) (e :: es) [] pos) (tCallP (sp p) t) := by
  refine ⟨fun pins s σ H Q I h => ?_⟩
  refine wpAny_Call_Name_kw (ld_glob I hg hm ?_ hdb)
  refine PySem.W.callWith_K (h₀ := X.base) I.ok.mod.kin hk (thn (ha.run pos pins s σ H _ I h) fun us s1 ⟨vs, H1, I1, r, q⟩ => ⟨I1.kIn, ?_⟩) he hpl
  exact run_fnP F hr hp hf hb I1 r q
end

/-! isinstance of the exception that is pinned -/
theorem call_isP {X : Cx} {a D : Addr} {oe : Obj} (C : ExcC X.K D) (hp : (a, oe) ∈ X.pn) (hz : Zc (.ref D) none oe) (hf : ∃ vs, oe.data = .fields vs) : CallR X (.builtin "isinstance") (rIsE X.K D a) := by
  intro pins s σ H xs us Q I r h
  obtain ⟨c, cv, b, rfl, hcv, e, q⟩ := h
  cases r with
  | cons rx rr =>
    cases rr with
    | cons rt rr =>
      cases rr
      cases rx
      have ec := hcv _ rt
      subst ec
      obtain ⟨hget, _⟩ := I.pin (a, oe) (List.mem_append.mpr (.inl hp))
      obtain ⟨vs, hv⟩ := hf
      have J : PySem.W.InstAt s.heap a oe D none := by
        obtain ⟨oc, od, oda, osl⟩ := oe
        obtain ⟨h1, h2⟩ := hz
        dsimp only at h1 h2 hv
        subst h1 h2 hv
        exact ⟨hget, rfl, rfl, trivial⟩
      exact PySem.W.kia_one (PySem.W.handS_kitx_exc C.hg C.hk C.hs C.hd C.ha C.hn C.ht C.hm) I.kIn J e (fun z => nomatch z) fun tk => ⟨.bl b, H, I.kept (t' := tk) fun _ _ z => z, rfl, q⟩

/-! a list walked within an except suite; the body leaves ahead of its end -/
def tForLP (K : PySem.W.Frag) (tl : TE) (g : TG) (tb : TS) : TS := fun D σ H => tl σ H fun x H1 => ∃ (a : Addr) (xs : List V), x = .ref a ∧ SqL K H1 a xs ∧ ∃ Pv : Nat → St → Hp → Prop, Pv 0 σ H1 ∧
  ∀ i σ H, Pv i σ H → SqL K H a xs ∧ ∃ y, xs[i]? = some y ∧ g y σ H fun σ2 H2 => tb { D with nx := Pv (i + 1), ct := Pv (i + 1), bk := D.nx } σ2 H2
theorem ps_forLP {X : Cx} {tg l : Expr} {tl : TE} {g : TG} {tb : TS} {body : List Stmt} {pos : Pos} (own : PassesOwn (model X.prog X.w) X.A X.env X.xe) (hl : PE X l tl) (hg : PG X tg g) (hb : PSs X body tb)
    (hs : ∀ x, foldedSetIterable l X.env x = pure x := by intro _; rfl) : PS X (.For tg l body [] pos) (tForLP X.K tl g tb) := by
  constructor
  intro pins s σ H D I h
  refine wpAny_For (thn (hl.run pins s σ H _ I h) ?_) hs
  rintro v s1 ⟨x, H1, I1, r1, a, xs, rfl, hq, Pv, p0, turn⟩
  obtain rfl : v = Value.ref a := r1
  obtain ⟨its, _, p, _⟩ := I1.list hq
  refine wpAny_pyIter_list p.isList ?_
  generalize hit : s1.heap.objs.size = it
  have fresh : FpOk X pins H1 it := I1.fpOk (Nat.le_of_eq hit) (I1.hok.fresh (Nat.le_of_eq hit))
  have begun : (s1.heap.push { cls := .type "list_iterator", data := .fields #[.ref a, rawInt 0] }).IsListIter it a 0 := by
    rw [← hit]
    exact ⟨_, Heap.get?_push_size _ rfl, rfl, rfl⟩
  have I2 : Inv X pins σ H1 { s1 with heap := s1.heap.push { cls := .type "list_iterator", data := .fields #[.ref a, rawInt 0] } } := I1.kept (t' := s1.toks) fun _ _ e => Heap.get?_push_of_some _ e
  refine codeAny_forLoop_any (fun n s' => ∃ i σ' H', n = xs.length - i ∧ Inv X pins σ' H' s' ∧ s'.heap.IsListIter it a i ∧ H' it = none ∧ Pv i σ' H') ?_ xs.length ⟨0, σ, H1, rfl, I2, begun, fresh.1, p0⟩
  rintro n s3 ⟨i, σ3, H3, rfl, I3, st, f0, pv⟩
  obtain ⟨_, f1, f2, f3, f4, f5⟩ := fresh
  obtain ⟨q3, y, hy, step⟩ := turn i σ3 H3 pv
  have hi : i < xs.length := (List.getElem?_eq_some_iff.mp hy).1
  obtain ⟨its3, rv3, p3, _⟩ := I3.list q3
  obtain ⟨u, hu, ru⟩ := rv3.get hy
  refine wpAny_passesOwn own (wpAny_pyNext_list_item st p3.isList (x := u) (by simpa using hu) fun h' st' sb => ?_)
  have I4 : Inv X pins σ3 H3 { s3 with heap := h' } := I3.turned (t' := s3.toks) (fun b o hb e => (sb.2 b hb).trans e) f0 f1 f3 f4 f5
  obtain ⟨o, eo, co, d_o⟩ := id st'
  refine wpAny_passesOwn own (go_of (s := { s3 with heap := h' }) eo co d_o (by decide) ?_)
  have pinned : Inv X (pins ++ [(it, o)]) σ3 H3 { s3 with heap := h' } := I4.pins_of fun q hq => by
    rcases List.mem_append.mp hq with hq | hq
    · exact I4.pin q (List.mem_append_right _ hq)
    · obtain rfl := List.mem_singleton.mp hq
      exact ⟨eo, f0, f1, f2, fun v z => by rw [d_o] at z; cases z⟩
  refine wpAny_passesOwn own (thn (hg.run _ _ σ3 H3 y u _ pinned ru step) ?_)
  rintro _ s6 ⟨σ6, H6, I6, q6⟩
  refine wpAny_passesOwn own (thn (hb.run _ s6 σ6 H6 _ I6 q6) ?_)
  intro f s7 q7
  have drop : ∀ {σ7 : St} {H7 : Hp}, Inv X (pins ++ [(it, o)]) σ7 H7 s7 → Inv X pins σ7 H7 s7 := fun J => J.pins_of fun q hq => J.pin q (List.mem_append_right _ (List.mem_append_left _ hq))
  have next : ∀ {σ7 : St} {H7 : Hp}, Inv X (pins ++ [(it, o)]) σ7 H7 s7 → Pv (i + 1) σ7 H7 → ∃ m, m < xs.length - i ∧ ∃ j σ' H', m = xs.length - j ∧ Inv X pins σ' H' s7 ∧ s7.heap.IsListIter it a j ∧ H' it = none ∧ Pv j σ' H' := fun {σ7 H7} J n7 => by
    have w := J.pin (it, o) (List.mem_append_right _ (List.mem_append_right _ (List.mem_singleton.mpr rfl)))
    exact ⟨xs.length - (i + 1), by omega, i + 1, σ7, H7, rfl, drop J, ⟨o, w.1, co, d_o⟩, w.2.1, n7⟩
  cases f with
  | next =>
    obtain ⟨σ7, H7, J, n7⟩ := q7
    exact next J n7
  | cont =>
    obtain ⟨σ7, H7, J, n7⟩ := q7
    exact next J n7
  | brk =>
    obtain ⟨σ7, H7, J, n7⟩ := q7
    exact ⟨σ7, H7, drop J, n7⟩
  | ret v =>
    obtain ⟨x7, σ7, H7, J, r7, n7⟩ := q7
    exact ⟨x7, σ7, H7, drop J, r7, n7⟩

/-! a method that may raise: the wish by the caller's slots -/
section
variable {X : Cx} {CX : CXT} {k : Nat} {f C : Addr} {fd : FuncData} {ps : List Str} {sp : Sp} {E : St → XK} {m : Str} {pos apos : Pos} {e o : Expr} {es : List Expr} {ta : TE} {t : TA}
theorem pe_methE {pl : Sem Bool} (he : PE X o ta) (c : Cls X.K C) (hm : Meth X.K C m f) (F : FnOk X.prog X.w X.K X.mg X.base CX k f fd ps sp) (hr : Room k X.A) (hb : Binds X.K fd ps []) (hx : ∀ σ, PassesAt CX X σ (E σ)) (ha : PA X (e :: es) t)
    (hst : starEach (e :: es) X.env = (false, eval e X.env) :: starEach es X.env := by rfl) (hpl : (backTo pos (starEach es X.env)).any (·.1) = false := by rfl)
    (ht : eval (.Call (.Attribute o m apos) (e :: es) [] pos) X.env = (do
      let ov ← eval o X.env
      standAt apos.atName
      let (f, first) ← holding [ov] (getMethod ov m pl)
      callWith pos f first (backTo pos (starEach (e :: es) X.env)) (backToKw pos (keywordEach [] X.env))) := by rfl) :
    PE X (.Call (.Attribute o m apos) (e :: es) [] pos) (tMethH C m sp E ta t) := by
  refine ⟨fun pins s σ H Q I h => ?_⟩
  refine PySem.W.methodCall_KW (pl := pl) (thn (he.run pins s σ H _ I h) fun u s1 ⟨x, H1, I1, rx, a, dx, fs, ex, ea, l, q⟩ => ?_) ht
  subst ex
  obtain rfl : u = Value.ref a := rx
  refine getmeth_ok I1 ea c hm l ?_
  refine PySem.W.callWith_K (first := [.ref a]) (h₀ := X.base) I.ok.mod.kin hm.kp (thn (ha.run pos pins s1 σ H1 _ I1 q) fun us s2 ⟨vs, H2, I2, r, q2⟩ => ⟨I2.kIn, ?_⟩) hst hpl
  exact run_fnS (us := .ref a :: us) (vs := .ref a :: vs) F hr hb (hx σ) I2 (.cons rfl r) q2
end
end LX

namespace KB
open PySem L2 L2H LX
/-! ### heaps: what stays -/
/-- all but the ones named stand as they stood; tuples always; nothing goes -/
structure Ch (H H' : Hp) (l : List Addr) : Prop where
  st : ∀ b o, H b = some o → (b ∉ l ∨ ∃ xs, o = .tup xs) → H' b = some o
  th : ∀ b o, H b = some o → ∃ u, H' b = some u
theorem Ch.refl (H : Hp) (l : List Addr) : Ch H H l := ⟨fun _ _ h _ => h, fun _ o h => ⟨o, h⟩⟩
theorem Ch.of {H H' : Hp} (s : Same H H') (l : List Addr) : Ch H H' l := ⟨fun _ _ h _ => s _ _ h, fun _ o h => ⟨o, s _ _ h⟩⟩
theorem Ch.trans {H H1 H2 : Hp} {l : List Addr} (a : Ch H H1 l) (b : Ch H1 H2 l) : Ch H H2 l := ⟨fun _ _ h n => b.st _ _ (a.st _ _ h n) n, fun _ _ h => let ⟨_, z⟩ := a.th _ _ h; b.th _ _ z⟩
theorem Ch.mono {H H1 : Hp} {l m : List Addr} (a : Ch H H1 l) (s : ∀ x ∈ l, x ∈ m) : Ch H H1 m := ⟨fun _ _ h n => a.st _ _ h (n.imp (fun z y => z (s _ y)) id), a.th⟩
theorem Ch.same {H H1 H2 : Hp} {l : List Addr} (a : Ch H H1 l) (s : Same H1 H2) : Ch H H2 l := a.trans (Ch.of s l)
theorem Ch.new {H H' : Hp} {l : List Addr} (h : Ch H H' l) {a : Addr} (o : HO) (n : H a = none) : Ch H (upd H' a o) l := ⟨fun b u e m => by
  rw [upd_ne (ne_of_none e n)]
  exact h.st b u e m, fun b u e => by
  rw [upd_ne (ne_of_none e n)]
  exact h.th b u e⟩
theorem Ch.mut {H H' : Hp} {l : List Addr} (h : Ch H H' l) {a : Addr} {o u : HO} (m : a ∈ l) (e : H a = some u) (n : ∀ xs, u ≠ .tup xs) : Ch H (upd H' a o) l := ⟨fun b v eb k => by
  have ne : b ≠ a := fun z => by
    subst z
    rw [e] at eb
    cases eb
    rcases k with k | ⟨xs, k⟩
    · exact k m
    · exact n xs k
  rw [upd_ne ne]
  exact h.st b v eb k, fun b v eb => by
  by_cases z : b = a
  · subst z
    exact ⟨o, upd_same⟩
  · rw [upd_ne z]
    exact h.th b v eb⟩
theorem Ch.tup {H H' : Hp} {l : List Addr} (h : Ch H H' l) : ∀ b xs, H b = some (.tup xs) → H' b = some (.tup xs) := fun b xs e => h.st b _ e (.inr ⟨xs, rfl⟩)
theorem Ch.at {H H' : Hp} {l : List Addr} (h : Ch H H' l) {b : Addr} {o : HO} (e : H b = some o) (n : b ∉ l) : H' b = some o := h.st b o e (.inl n)
theorem Ch.none {H H' : Hp} {l : List Addr} (h : Ch H H' l) : ∀ x, H' x = Option.none → H x = Option.none := fun x e => by
  cases q : H x with
  | none => rfl
  | some o =>
    obtain ⟨u, hu⟩ := h.th x o q
    rw [e] at hu
    cases hu
theorem same_new {H : Hp} {l : Addr} {o : HO} (h : H l = Option.none) : Same H (upd H l o) := fun b u e => by rw [upd_ne (ne_of_none e h)]; exact e
/-- where only new ones and such as were not there at the start were changed -/
theorem Ch.old {H0 H H' : Hp} {l : List Addr} (s : Same H0 H) (c : Ch H H' l) (f : ∀ b ∈ l, H0 b = Option.none) : Same H0 H' := fun b o e => c.st _ _ (s _ _ e) (.inl fun m => by
  have := f b m
  rw [e] at this
  cases this)
/-! ### places in lists -/
theorem at_map {α : Type} {f : α → V} {ns : List α} {z : Int} (h0 : 0 ≤ z) (h1 : z < ns.length) : ∃ t, t ∈ ns ∧ ns[z.toNat]? = some t ∧ atI (ns.map f) z = some (f t) := by
  obtain ⟨j, rfl⟩ := Int.eq_ofNat_of_zero_le h0
  have hl : j < ns.length := by omega
  exact ⟨ns[j], List.getElem_mem hl, List.getElem?_eq_getElem hl, atI_nat (by rw [List.getElem?_map, List.getElem?_eq_getElem hl]; rfl)⟩
theorem at_ints {ns : List Int} {z : Int} (h0 : 0 ≤ z) (h1 : z < ns.length) : ∃ t, t ∈ ns ∧ atI (ns.map V.int) z = some (V.int t) := by
  obtain ⟨t, a, _, b⟩ := at_map (f := V.int) h0 h1
  exact ⟨t, a, b⟩
theorem at_strs {ns : List Str} {z : Int} (h0 : 0 ≤ z) (h1 : z < ns.length) : ∃ t, t ∈ ns ∧ atI (ns.map V.str) z = some (V.str t) := by
  obtain ⟨t, a, _, b⟩ := at_map (f := V.str) h0 h1
  exact ⟨t, a, b⟩
/-! ### texts -/
abbrev tl (z : Str) : List Nat := z.cps.toList
/-- every sign is one; at most n of them -/
structure TOk (n : Nat) (z : Str) : Prop where
  ok : ∀ c ∈ tl z, c < 0x110000
  le : z.length ≤ n
theorem tl_len (z : Str) : (tl z).length = z.length := Array.length_toList
theorem TOk.mono {n m : Nat} {z : Str} (h : TOk n z) (l : n ≤ m) : TOk m z := ⟨h.ok, Nat.le_trans h.le l⟩
theorem TOk.str {n : Nat} {z : Str} (h : TOk n z) : PyData.strOk z = true := by
  unfold PyData.strOk
  rw [← Array.all_toList, List.all_eq_true]
  exact fun c hc => decide_eq_true (h.ok c hc)
theorem TOk.line {n : Nat} {z : Str} (h : TOk n z) (l : n ≤ 1000) : z.length ≤ sizeLine := Nat.le_trans h.le (Nat.le_trans l (by decide))
theorem TOk.app {n m : Nat} {x y : Str} (h : TOk n x) (k : TOk m y) : TOk (n + m) (x ++ y) := by
  have e : tl (x ++ y) = tl x ++ tl y := TL.tl_append x y
  refine ⟨fun c hc => ?_, ?_⟩
  · rw [e] at hc
    rcases List.mem_append.mp hc with hc | hc
    · exact h.ok c hc
    · exact k.ok c hc
  · rw [← tl_len, e, List.length_append, tl_len, tl_len]
    have := h.le
    have := k.le
    omega
theorem TOk.cut {n : Nat} {z : Str} (h : TOk n z) (lo hi : Option Int) : TOk n (cutS z lo hi) := by
  refine ⟨fun c hc => ?_, Nat.le_trans (cutS_length z lo hi) h.le⟩
  have e : tl (cutS z lo hi) = (tl z |>.drop (HT.sIx z.length 0 lo)).take (HT.sIx z.length z.length hi - HT.sIx z.length 0 lo) := by
    unfold cutS tl
    exact List.toList_toArray
  rw [e] at hc
  exact h.ok c (List.mem_of_mem_drop (List.mem_of_mem_take hc))
theorem TOk.nil : TOk 0 "" := by
  refine ⟨fun c hc => ?_, Nat.le_refl _⟩
  have e : tl ("" : Str) = [] := rfl
  rw [e] at hc
  cases hc
theorem TOk.one {c : Nat} (h : c < 0x110000) : TOk 1 (⟨#[c]⟩ : Str) := by
  refine ⟨fun d hd => ?_, Nat.le_refl _⟩
  have e : tl (⟨#[c]⟩ : Str) = [c] := rfl
  rw [e] at hd
  rw [List.mem_singleton.mp hd]
  exact h
theorem join_ok : ∀ {ys : List Str}, (∀ y ∈ ys, TOk 1 y) → TOk ys.length (Str.join "" ys)
  | [], _ => TOk.nil
  | [x], h => h x List.mem_cons_self
  | x :: z :: r, h => by
    have a := h x List.mem_cons_self
    have b := join_ok (ys := z :: r) fun y hy => h y (List.mem_cons_of_mem _ hy)
    have c := (a.app TOk.nil).app b
    exact c.mono (by simp only [List.length_cons]; omega)
theorem join_len : ∀ {ys : List Str}, (∀ y ∈ ys, TOk 1 y) → (ys.map (·.length)).sum + ys.length * ("" : Str).length ≤ ys.length
  | [], _ => Nat.le_refl _
  | x :: r, h => by
    have a := (h x List.mem_cons_self).le
    have b := join_len (ys := r) fun y hy => h y (List.mem_cons_of_mem _ hy)
    have e : ("" : Str).length = 0 := rfl
    rw [e, Nat.mul_zero, Nat.add_zero] at b ⊢
    rw [List.map_cons, List.sum_cons, List.length_cons]
    omega
/-! ### a change: a tuple of five -/
structure Row where
  n : Int
  t : Int
  w : Str
  k : Str
  v : Str
def Row.V (r : Row) : List V := [.int r.n, .int r.t, .str r.w, .str r.k, .str r.v]
def Row.D (r : Row) : PyData := .tuple [.int r.n, .int r.t, .str r.w, .str r.k, .str r.v]
structure Row.Ok (r : Row) : Prop where
  w : PyData.strOk r.w = true
  k : TOk 60 r.k
  v : TOk 60 r.v
abbrev RowsAt (H : Hp) (ts : List Addr) (rs : List Row) : Prop := Paired (fun (t : Addr) (r : Row) => H t = some (.tup r.V)) ts rs
theorem RowsAt.keep {H H' : Hp} {ts : List Addr} {rs : List Row} (m : RowsAt H ts rs) (k : ∀ b xs, H b = some (.tup xs) → H' b = some (.tup xs)) : RowsAt H' ts rs := Paired.mono (fun _ _ h => k _ _ h) m
theorem RowsAt.dp {K : PySem.W.Frag} {H : Hp} : ∀ {ts : List Addr} {rs : List Row}, RowsAt H ts rs → DpAll K H (ts.map V.ref) (rs.map Row.D)
  | _, _, .nil => .nil
  | _, _, .cons r m => .cons (.tup (.inl (.inl r)) (.cons (.int _) (.cons (.int _) (.cons (.str _) (.cons (.str _) (.cons (.str _) .nil)))))) (RowsAt.dp m)
theorem RowsAt.at {H : Hp} : ∀ {ts : List Addr} {rs : List Row} {i : Nat} {x : V}, RowsAt H ts rs → (ts.map V.ref)[i]? = some x → ∃ t r, x = V.ref t ∧ rs[i]? = some r ∧ H t = some (.tup r.V)
  | _, _, i, x, .nil, h => by simp at h
  | _, _, 0, x, .cons r m, h => by
    have e : x = V.ref _ := (Option.some.inj h).symm
    exact ⟨_, _, e, rfl, r⟩
  | _, _, i + 1, x, .cons r m, h => RowsAt.at (i := i) m h
theorem Row.shaped {r : Row} (h : r.Ok) : r.D.canLay0 = true := by
  show (true && (true && (PyData.strOk r.w && (PyData.strOk r.k && (PyData.strOk r.v && true))))) = true
  rw [h.w, h.k.str, h.v.str]
  rfl
theorem rows_lay : ∀ {rs : List Row}, (∀ r ∈ rs, r.Ok) → PyData.canLayAll0 (rs.map Row.D) = true
  | [], _ => rfl
  | r :: rs, h => by
    show (r.D.canLay0 && PyData.canLayAll0 (rs.map Row.D)) = true
    rw [Row.shaped (h r List.mem_cons_self), rows_lay fun x hx => h x (List.mem_cons_of_mem _ hx)]
    rfl
theorem rows_depth : ∀ rs : List Row, PyData.depthAll (rs.map Row.D) ≤ 2
  | [] => by simp [PyData.depthAll]
  | r :: rs => by
    have h := rows_depth rs
    simp only [List.map_cons, PyData.depthAll, Row.D, PyData.depth]
    omega
theorem rows_shaped {rs : List Row} (h : ∀ r ∈ rs, r.Ok) : SeqAt.shaped (.list (rs.map Row.D)) = true := by
  have d := rows_depth rs
  unfold SeqAt.shaped
  rw [Bool.and_eq_true]
  refine ⟨rows_lay h, decide_eq_true ?_⟩
  simp only [PyData.depth]
  omega
theorem rows_eqv {rs : List Row} (h : ∀ r ∈ rs, r.Ok) : PyData.eqv (.list (rs.map Row.D)) (.list (rs.map Row.D)) = true := PySem.SeqAt.eqv_refl _ (rows_lay h)
/-! ### pairs of texts -/
abbrev PairsAt (H : Hp) (ts : List Addr) (ps : List (Str × Str)) : Prop := Paired (fun (t : Addr) (p : Str × Str) => H t = some (.tup [.str p.1, .str p.2])) ts ps
def pairD (p : Str × Str) : PyData := .tuple [.str p.1, .str p.2]
def PairOk (p : Str × Str) : Prop := TOk 60 p.1 ∧ TOk 60 p.2
theorem PairsAt.keep {H H' : Hp} {ts : List Addr} {ps : List (Str × Str)} (m : PairsAt H ts ps) (k : ∀ b xs, H b = some (.tup xs) → H' b = some (.tup xs)) : PairsAt H' ts ps := Paired.mono (fun _ _ h => k _ _ h) m
theorem PairsAt.dp {K : PySem.W.Frag} {H : Hp} : ∀ {ts : List Addr} {ps : List (Str × Str)}, PairsAt H ts ps → DpAll K H (ts.map V.ref) (ps.map pairD)
  | _, _, .nil => .nil
  | _, _, .cons r m => .cons (.tup (.inl (.inl r)) (.cons (.str _) (.cons (.str _) .nil))) (PairsAt.dp m)
theorem PairsAt.at {H : Hp} : ∀ {ts : List Addr} {ps : List (Str × Str)} {i : Nat} {x : V}, PairsAt H ts ps → (ts.map V.ref)[i]? = some x → ∃ t a b, x = V.ref t ∧ H t = some (.tup [.str a, .str b])
  | _, _, i, x, .nil, h => by simp at h
  | _, _, 0, x, .cons r m, h => by
    have e : x = V.ref _ := (Option.some.inj h).symm
    exact ⟨_, _, _, e, r⟩
  | _, _, i + 1, x, .cons r m, h => PairsAt.at (i := i) m h
theorem pairs_lay : ∀ {ps : List (Str × Str)}, (∀ r ∈ ps, PairOk r) → PyData.canLayAll0 (ps.map pairD) = true
  | [], _ => rfl
  | p :: r, h => by
    show ((PyData.strOk p.1 && (PyData.strOk p.2 && true)) && PyData.canLayAll0 (r.map pairD)) = true
    rw [(h p List.mem_cons_self).1.str, (h p List.mem_cons_self).2.str, pairs_lay fun x hx => h x (List.mem_cons_of_mem _ hx)]
    rfl
theorem pairs_depth : ∀ ps : List (Str × Str), PyData.depthAll (ps.map pairD) ≤ 2
  | [] => by simp [PyData.depthAll]
  | p :: r => by
    have h := pairs_depth r
    simp only [List.map_cons, PyData.depthAll, pairD, PyData.depth]
    omega
theorem pairs_shaped {ps : List (Str × Str)} (h : ∀ r ∈ ps, PairOk r) : SeqAt.shaped (.list (ps.map pairD)) = true := by
  have d := pairs_depth ps
  unfold SeqAt.shaped
  rw [Bool.and_eq_true]
  refine ⟨pairs_lay h, decide_eq_true ?_⟩
  simp only [PyData.depth]
  omega
theorem pairs_eqv {ps : List (Str × Str)} (h : ∀ r ∈ ps, PairOk r) : PyData.eqv (.list (ps.map pairD)) (.list (ps.map pairD)) = true := PySem.SeqAt.eqv_refl _ (pairs_lay h)
end KB

namespace KL
open PySem L2 L2H LX KB
def top (i : Nat) : Stmt := PySem.Challenge.pw_leasewatch_k07_a_line_that_breaks.main.body.getD i (.Pass ⟨0, 0, 0, 0⟩)
abbrev s__wall : Stmt := top 0
abbrev p__wall : List Str := ["k"]
abbrev n__wall : List Str := ["k"]
theorem sc__wall : FnScope n__wall p__wall (defScope s__wall) := ⟨rfl, rfl, rfl, by decide +kernel, rfl, by decide +kernel, by decide +kernel⟩
abbrev s_Ear_init : Stmt := inClass (top 5) 0
abbrev p_Ear_init : List Str := ["self", "start", "pairs"]
abbrev n_Ear_init : List Str := ["self", "start", "pairs", "key", "value"]
theorem sc_Ear_init : FnScope n_Ear_init p_Ear_init (defScope s_Ear_init) := ⟨rfl, rfl, rfl, by decide +kernel, rfl, by decide +kernel, by decide +kernel⟩
abbrev s_Ear_hear : Stmt := inClass (top 5) 1
abbrev p_Ear_hear : List Str := ["self", "changes"]
abbrev n_Ear_hear : List Str := ["self", "changes", "change"]
theorem sc_Ear_hear : FnScope n_Ear_hear p_Ear_hear (defScope s_Ear_hear) := ⟨rfl, rfl, rfl, by decide +kernel, rfl, by decide +kernel, by decide +kernel⟩
abbrev s_Ear_heard : Stmt := inClass (top 5) 2
abbrev p_Ear_heard : List Str := ["self"]
abbrev n_Ear_heard : List Str := ["self"]
theorem sc_Ear_heard : FnScope n_Ear_heard p_Ear_heard (defScope s_Ear_heard) := ⟨rfl, rfl, rfl, by decide +kernel, rfl, by decide +kernel, by decide +kernel⟩
abbrev s_Ear_state : Stmt := inClass (top 5) 3
abbrev p_Ear_state : List Str := ["self"]
abbrev n_Ear_state : List Str := ["self"]
theorem sc_Ear_state : FnScope n_Ear_state p_Ear_state (defScope s_Ear_state) := ⟨rfl, rfl, rfl, by decide +kernel, rfl, by decide +kernel, by decide +kernel⟩
abbrev s_Ear_many : Stmt := inClass (top 5) 4
abbrev p_Ear_many : List Str := ["self"]
abbrev n_Ear_many : List Str := ["self"]
theorem sc_Ear_many : FnScope n_Ear_many p_Ear_many (defScope s_Ear_many) := ⟨rfl, rfl, rfl, by decide +kernel, rfl, by decide +kernel, by decide +kernel⟩
abbrev s_Ear_u_take_in : Stmt := inClass (top 5) 5
abbrev p_Ear_u_take_in : List Str := ["self", "change"]
abbrev n_Ear_u_take_in : List Str := ["self", "change", "number", "_", "word", "key", "value"]
theorem sc_Ear_u_take_in : FnScope n_Ear_u_take_in p_Ear_u_take_in (defScope s_Ear_u_take_in) := ⟨rfl, rfl, rfl, by decide +kernel, rfl, by decide +kernel, by decide +kernel⟩
abbrev s_Line_init : Stmt := inClass (top 6) 0
abbrev p_Line_init : List Str := ["self", "room", "prefix", "start", "pairs"]
abbrev n_Line_init : List Str := ["self", "room", "prefix", "start", "pairs"]
theorem sc_Line_init : FnScope n_Line_init p_Line_init (defScope s_Line_init) := ⟨rfl, rfl, rfl, by decide +kernel, rfl, by decide +kernel, by decide +kernel⟩
abbrev s_Line_turn : Stmt := inClass (top 6) 1
abbrev p_Line_turn : List Str := ["self", "most", "luck"]
abbrev n_Line_turn : List Str := ["self", "most", "luck", "row", "before"]
theorem sc_Line_turn : FnScope n_Line_turn p_Line_turn (defScope s_Line_turn) := ⟨rfl, rfl, rfl, by decide +kernel, rfl, by decide +kernel, by decide +kernel⟩
abbrev s_arriving : Stmt := top 7
abbrev p_arriving : List Str := ["row", "luck"]
abbrev n_arriving : List Str := ["row", "luck"]
theorem sc_arriving : FnScope n_arriving p_arriving (defScope s_arriving) := ⟨rfl, rfl, rfl, by decide +kernel, rfl, by decide +kernel, by decide +kernel⟩
abbrev s_Leases_init : Stmt := inClass (top 17) 0
abbrev p_Leases_init : List Str := ["self"]
abbrev n_Leases_init : List Str := ["self"]
theorem sc_Leases_init : FnScope n_Leases_init p_Leases_init (defScope s_Leases_init) := ⟨rfl, rfl, rfl, by decide +kernel, rfl, by decide +kernel, by decide +kernel⟩
abbrev s_Leases_grant : Stmt := inClass (top 17) 1
abbrev p_Leases_grant : List Str := ["self", "now", "ticks"]
abbrev n_Leases_grant : List Str := ["self", "now", "ticks"]
theorem sc_Leases_grant : FnScope n_Leases_grant p_Leases_grant (defScope s_Leases_grant) := ⟨rfl, rfl, rfl, by decide +kernel, rfl, by decide +kernel, by decide +kernel⟩
abbrev s_Leases_renew : Stmt := inClass (top 17) 2
abbrev p_Leases_renew : List Str := ["self", "now", "lease"]
abbrev n_Leases_renew : List Str := ["self", "now", "lease"]
theorem sc_Leases_renew : FnScope n_Leases_renew p_Leases_renew (defScope s_Leases_renew) := ⟨rfl, rfl, rfl, by decide +kernel, rfl, by decide +kernel, by decide +kernel⟩
abbrev s_Leases_drop : Stmt := inClass (top 17) 3
abbrev p_Leases_drop : List Str := ["self", "lease"]
abbrev n_Leases_drop : List Str := ["self", "lease"]
theorem sc_Leases_drop : FnScope n_Leases_drop p_Leases_drop (defScope s_Leases_drop) := ⟨rfl, rfl, rfl, by decide +kernel, rfl, by decide +kernel, by decide +kernel⟩
abbrev s_Leases_due : Stmt := inClass (top 17) 4
abbrev p_Leases_due : List Str := ["self", "until"]
abbrev n_Leases_due : List Str := ["self", "until", "lease", "end"]
theorem sc_Leases_due : FnScope n_Leases_due p_Leases_due (defScope s_Leases_due) := ⟨rfl, rfl, rfl, by decide +kernel, rfl, by decide +kernel, by decide +kernel⟩
abbrev s_Leases_refuse_unknown : Stmt := inClass (top 17) 5
abbrev p_Leases_refuse_unknown : List Str := ["self", "lease"]
abbrev n_Leases_refuse_unknown : List Str := ["self", "lease"]
theorem sc_Leases_refuse_unknown : FnScope n_Leases_refuse_unknown p_Leases_refuse_unknown (defScope s_Leases_refuse_unknown) := ⟨rfl, rfl, rfl, by decide +kernel, rfl, by decide +kernel, by decide +kernel⟩
abbrev s_Log_init : Stmt := inClass (top 19) 0
abbrev p_Log_init : List Str := ["self"]
abbrev n_Log_init : List Str := ["self"]
theorem sc_Log_init : FnScope n_Log_init p_Log_init (defScope s_Log_init) := ⟨rfl, rfl, rfl, by decide +kernel, rfl, by decide +kernel, by decide +kernel⟩
abbrev s_Log_note : Stmt := inClass (top 19) 1
abbrev p_Log_note : List Str := ["self", "tick", "word", "key", "value"]
abbrev n_Log_note : List Str := ["self", "tick", "word", "key", "value", "number"]
theorem sc_Log_note : FnScope n_Log_note p_Log_note (defScope s_Log_note) := ⟨rfl, rfl, rfl, by decide +kernel, rfl, by decide +kernel, by decide +kernel⟩
abbrev s_Log_last : Stmt := inClass (top 19) 2
abbrev p_Log_last : List Str := ["self"]
abbrev n_Log_last : List Str := ["self"]
theorem sc_Log_last : FnScope n_Log_last p_Log_last (defScope s_Log_last) := ⟨rfl, rfl, rfl, by decide +kernel, rfl, by decide +kernel, by decide +kernel⟩
abbrev s_Log_first : Stmt := inClass (top 19) 3
abbrev p_Log_first : List Str := ["self"]
abbrev n_Log_first : List Str := ["self"]
theorem sc_Log_first : FnScope n_Log_first p_Log_first (defScope s_Log_first) := ⟨rfl, rfl, rfl, by decide +kernel, rfl, by decide +kernel, by decide +kernel⟩
abbrev s_Log_wanted : Stmt := inClass (top 19) 4
abbrev p_Log_wanted : List Str := ["self", "prefix", "behind", "most"]
abbrev n_Log_wanted : List Str := ["self", "prefix", "behind", "most", "told", "at", "change"]
theorem sc_Log_wanted : FnScope n_Log_wanted p_Log_wanted (defScope s_Log_wanted) := ⟨rfl, rfl, rfl, by decide +kernel, rfl, by decide +kernel, by decide +kernel⟩
abbrev s_Log_forget : Stmt := inClass (top 19) 5
abbrev p_Log_forget : List Str := ["self", "upto"]
abbrev n_Log_forget : List Str := ["self", "upto"]
theorem sc_Log_forget : FnScope n_Log_forget p_Log_forget (defScope s_Log_forget) := ⟨rfl, rfl, rfl, by decide +kernel, rfl, by decide +kernel, by decide +kernel⟩
abbrev s_Watcher_init : Stmt := inClass (top 21) 0
abbrev p_Watcher_init : List Str := ["self", "prefix", "start"]
abbrev n_Watcher_init : List Str := ["self", "prefix", "start"]
theorem sc_Watcher_init : FnScope n_Watcher_init p_Watcher_init (defScope s_Watcher_init) := ⟨rfl, rfl, rfl, by decide +kernel, rfl, by decide +kernel, by decide +kernel⟩
abbrev s_Room_init : Stmt := inClass (top 22) 0
abbrev p_Room_init : List Str := ["self"]
abbrev n_Room_init : List Str := ["self"]
theorem sc_Room_init : FnScope n_Room_init p_Room_init (defScope s_Room_init) := ⟨rfl, rfl, rfl, by decide +kernel, rfl, by decide +kernel, by decide +kernel⟩
abbrev s_Room_grant : Stmt := inClass (top 22) 1
abbrev p_Room_grant : List Str := ["self", "ticks"]
abbrev n_Room_grant : List Str := ["self", "ticks"]
theorem sc_Room_grant : FnScope n_Room_grant p_Room_grant (defScope s_Room_grant) := ⟨rfl, rfl, rfl, by decide +kernel, rfl, by decide +kernel, by decide +kernel⟩
abbrev s_Room_renew : Stmt := inClass (top 22) 2
abbrev p_Room_renew : List Str := ["self", "lease"]
abbrev n_Room_renew : List Str := ["self", "lease"]
theorem sc_Room_renew : FnScope n_Room_renew p_Room_renew (defScope s_Room_renew) := ⟨rfl, rfl, rfl, by decide +kernel, rfl, by decide +kernel, by decide +kernel⟩
abbrev s_Room_drop : Stmt := inClass (top 22) 3
abbrev p_Room_drop : List Str := ["self", "lease"]
abbrev n_Room_drop : List Str := ["self", "lease"]
theorem sc_Room_drop : FnScope n_Room_drop p_Room_drop (defScope s_Room_drop) := ⟨rfl, rfl, rfl, by decide +kernel, rfl, by decide +kernel, by decide +kernel⟩
abbrev s_Room_wait : Stmt := inClass (top 22) 4
abbrev p_Room_wait : List Str := ["self", "ticks"]
abbrev n_Room_wait : List Str := ["self", "ticks"]
theorem sc_Room_wait : FnScope n_Room_wait p_Room_wait (defScope s_Room_wait) := ⟨rfl, rfl, rfl, by decide +kernel, rfl, by decide +kernel, by decide +kernel⟩
abbrev s_Room_put : Stmt := inClass (top 22) 5
abbrev p_Room_put : List Str := ["self", "key", "value", "lease"]
abbrev n_Room_put : List Str := ["self", "key", "value", "lease"]
theorem sc_Room_put : FnScope n_Room_put p_Room_put (defScope s_Room_put) := ⟨rfl, rfl, rfl, by decide +kernel, rfl, by decide +kernel, by decide +kernel⟩
abbrev s_Room_cut : Stmt := inClass (top 22) 6
abbrev p_Room_cut : List Str := ["self", "key", "lease"]
abbrev n_Room_cut : List Str := ["self", "key", "lease"]
theorem sc_Room_cut : FnScope n_Room_cut p_Room_cut (defScope s_Room_cut) := ⟨rfl, rfl, rfl, by decide +kernel, rfl, by decide +kernel, by decide +kernel⟩
abbrev s_Room_value : Stmt := inClass (top 22) 7
abbrev p_Room_value : List Str := ["self", "key"]
abbrev n_Room_value : List Str := ["self", "key"]
theorem sc_Room_value : FnScope n_Room_value p_Room_value (defScope s_Room_value) := ⟨rfl, rfl, rfl, by decide +kernel, rfl, by decide +kernel, by decide +kernel⟩
abbrev s_Room_holder : Stmt := inClass (top 22) 8
abbrev p_Room_holder : List Str := ["self", "key"]
abbrev n_Room_holder : List Str := ["self", "key"]
theorem sc_Room_holder : FnScope n_Room_holder p_Room_holder (defScope s_Room_holder) := ⟨rfl, rfl, rfl, by decide +kernel, rfl, by decide +kernel, by decide +kernel⟩
abbrev s_Room_pairs : Stmt := inClass (top 22) 9
abbrev p_Room_pairs : List Str := ["self", "prefix"]
abbrev n_Room_pairs : List Str := ["self", "prefix", "key", "value"]
theorem sc_Room_pairs : FnScope n_Room_pairs p_Room_pairs (defScope s_Room_pairs) := ⟨rfl, rfl, rfl, by decide +kernel, rfl, by decide +kernel, by decide +kernel⟩
abbrev s_Room_last : Stmt := inClass (top 22) 10
abbrev p_Room_last : List Str := ["self"]
abbrev n_Room_last : List Str := ["self"]
theorem sc_Room_last : FnScope n_Room_last p_Room_last (defScope s_Room_last) := ⟨rfl, rfl, rfl, by decide +kernel, rfl, by decide +kernel, by decide +kernel⟩
abbrev s_Room_first : Stmt := inClass (top 22) 11
abbrev p_Room_first : List Str := ["self"]
abbrev n_Room_first : List Str := ["self"]
theorem sc_Room_first : FnScope n_Room_first p_Room_first (defScope s_Room_first) := ⟨rfl, rfl, rfl, by decide +kernel, rfl, by decide +kernel, by decide +kernel⟩
abbrev s_Room_watch : Stmt := inClass (top 22) 12
abbrev p_Room_watch : List Str := ["self", "prefix", "start"]
abbrev n_Room_watch : List Str := ["self", "prefix", "start"]
theorem sc_Room_watch : FnScope n_Room_watch p_Room_watch (defScope s_Room_watch) := ⟨rfl, rfl, rfl, by decide +kernel, rfl, by decide +kernel, by decide +kernel⟩
abbrev s_Room_pull : Stmt := inClass (top 22) 13
abbrev p_Room_pull : List Str := ["self", "watcher", "most"]
abbrev n_Room_pull : List Str := ["self", "watcher", "most", "watching", "row"]
theorem sc_Room_pull : FnScope n_Room_pull p_Room_pull (defScope s_Room_pull) := ⟨rfl, rfl, rfl, by decide +kernel, rfl, by decide +kernel, by decide +kernel⟩
abbrev s_Room_confirm : Stmt := inClass (top 22) 14
abbrev p_Room_confirm : List Str := ["self", "watcher"]
abbrev n_Room_confirm : List Str := ["self", "watcher", "watching"]
theorem sc_Room_confirm : FnScope n_Room_confirm p_Room_confirm (defScope s_Room_confirm) := ⟨rfl, rfl, rfl, by decide +kernel, rfl, by decide +kernel, by decide +kernel⟩
abbrev s_Room_broken : Stmt := inClass (top 22) 15
abbrev p_Room_broken : List Str := ["self", "watcher"]
abbrev n_Room_broken : List Str := ["self", "watcher", "watching"]
theorem sc_Room_broken : FnScope n_Room_broken p_Room_broken (defScope s_Room_broken) := ⟨rfl, rfl, rfl, by decide +kernel, rfl, by decide +kernel, by decide +kernel⟩
abbrev s_Room_leave : Stmt := inClass (top 22) 16
abbrev p_Room_leave : List Str := ["self", "watcher"]
abbrev n_Room_leave : List Str := ["self", "watcher"]
theorem sc_Room_leave : FnScope n_Room_leave p_Room_leave (defScope s_Room_leave) := ⟨rfl, rfl, rfl, by decide +kernel, rfl, by decide +kernel, by decide +kernel⟩
abbrev s_Room_trim : Stmt := inClass (top 22) 17
abbrev p_Room_trim : List Str := ["self"]
abbrev n_Room_trim : List Str := ["self"]
theorem sc_Room_trim : FnScope n_Room_trim p_Room_trim (defScope s_Room_trim) := ⟨rfl, rfl, rfl, by decide +kernel, rfl, by decide +kernel, by decide +kernel⟩
abbrev s_Room_u_end : Stmt := inClass (top 22) 18
abbrev p_Room_u_end : List Str := ["self", "lease", "tick"]
abbrev n_Room_u_end : List Str := ["self", "lease", "tick"]
theorem sc_Room_u_end : FnScope n_Room_u_end p_Room_u_end (defScope s_Room_u_end) := ⟨rfl, rfl, rfl, by decide +kernel, rfl, by decide +kernel, by decide +kernel⟩
abbrev s_Room_u_take_out : Stmt := inClass (top 22) 19
abbrev p_Room_u_take_out : List Str := ["self", "key", "tick"]
abbrev n_Room_u_take_out : List Str := ["self", "key", "tick"]
theorem sc_Room_u_take_out : FnScope n_Room_u_take_out p_Room_u_take_out (defScope s_Room_u_take_out) := ⟨rfl, rfl, rfl, by decide +kernel, rfl, by decide +kernel, by decide +kernel⟩
abbrev s_Room_u_refuse_lease : Stmt := inClass (top 22) 20
abbrev p_Room_u_refuse_lease : List Str := ["self", "lease"]
abbrev n_Room_u_refuse_lease : List Str := ["self", "lease"]
theorem sc_Room_u_refuse_lease : FnScope n_Room_u_refuse_lease p_Room_u_refuse_lease (defScope s_Room_u_refuse_lease) := ⟨rfl, rfl, rfl, by decide +kernel, rfl, by decide +kernel, by decide +kernel⟩
abbrev s_Room_u_refuse_held : Stmt := inClass (top 22) 21
abbrev p_Room_u_refuse_held : List Str := ["self", "key", "lease"]
abbrev n_Room_u_refuse_held : List Str := ["self", "key", "lease", "holder"]
theorem sc_Room_u_refuse_held : FnScope n_Room_u_refuse_held p_Room_u_refuse_held (defScope s_Room_u_refuse_held) := ⟨rfl, rfl, rfl, by decide +kernel, rfl, by decide +kernel, by decide +kernel⟩
abbrev s_Room_u_watching : Stmt := inClass (top 22) 22
abbrev p_Room_u_watching : List Str := ["self", "watcher"]
abbrev n_Room_u_watching : List Str := ["self", "watcher"]
theorem sc_Room_u_watching : FnScope n_Room_u_watching p_Room_u_watching (defScope s_Room_u_watching) := ⟨rfl, rfl, rfl, by decide +kernel, rfl, by decide +kernel, by decide +kernel⟩
abbrev s_Room_u_refuse_watcher : Stmt := inClass (top 22) 23
abbrev p_Room_u_refuse_watcher : List Str := ["self", "watcher"]
abbrev n_Room_u_refuse_watcher : List Str := ["self", "watcher"]
theorem sc_Room_u_refuse_watcher : FnScope n_Room_u_refuse_watcher p_Room_u_refuse_watcher (defScope s_Room_u_refuse_watcher) := ⟨rfl, rfl, rfl, by decide +kernel, rfl, by decide +kernel, by decide +kernel⟩
abbrev s_whole : Stmt := top 24
abbrev p_whole : List Str := ["_law_found"]
abbrev n_whole : List Str := ["_law_found"]
theorem sc_whole : FnScope n_whole p_whole (defScope s_whole) := ⟨rfl, rfl, rfl, by decide +kernel, rfl, by decide +kernel, by decide +kernel⟩
abbrev s_cell_at : Stmt := top 25
abbrev p_cell_at : List Str := ["_law_script", "_law_k"]
abbrev n_cell_at : List Str := ["_law_script", "_law_k"]
theorem sc_cell_at : FnScope n_cell_at p_cell_at (defScope s_cell_at) := ⟨rfl, rfl, rfl, by decide +kernel, rfl, by decide +kernel, by decide +kernel⟩
abbrev s_sign : Stmt := top 26
abbrev p_sign : List Str := ["_law_cell"]
abbrev n_sign : List Str := ["_law_cell", "_law_some"]
theorem sc_sign : FnScope n_sign p_sign (defScope s_sign) := ⟨rfl, rfl, rfl, by decide +kernel, rfl, by decide +kernel, by decide +kernel⟩
abbrev s_text : Stmt := top 27
abbrev p_text : List Str := ["_law_cell", "_law_size"]
abbrev n_text : List Str := ["_law_cell", "_law_size", "_law_k"]
theorem sc_text : FnScope n_text p_text (defScope s_text) := ⟨rfl, rfl, rfl, by decide +kernel, rfl, by decide +kernel, by decide +kernel⟩
abbrev s_pool : Stmt := top 28
abbrev p_pool : List Str := ["_law_cell", "_law_other"]
abbrev n_pool : List Str := ["_law_cell", "_law_other", "_law_first", "_law_one", "_law_two", "_law_at"]
theorem sc_pool : FnScope n_pool p_pool (defScope s_pool) := ⟨rfl, rfl, rfl, by decide +kernel, rfl, by decide +kernel, by decide +kernel⟩
abbrev s_prefix : Stmt := top 29
abbrev p_prefix : List Str := ["_law_pool_here", "_law_cell"]
abbrev n_prefix : List Str := ["_law_pool_here", "_law_cell"]
theorem sc_prefix : FnScope n_prefix p_prefix (defScope s_prefix) := ⟨rfl, rfl, rfl, by decide +kernel, rfl, by decide +kernel, by decide +kernel⟩
abbrev s_change : Stmt := top 30
abbrev p_change : List Str := ["_law_found"]
abbrev n_change : List Str := ["_law_found"]
theorem sc_change : FnScope n_change p_change (defScope s_change) := ⟨rfl, rfl, rfl, by decide +kernel, rfl, by decide +kernel, by decide +kernel⟩
abbrev s_changes : Stmt := top 31
abbrev p_changes : List Str := ["_law_found", "_law_due"]
abbrev n_changes : List Str := ["_law_found", "_law_due", "_law_one", "_law_good"]
theorem sc_changes : FnScope n_changes p_changes (defScope s_changes) := ⟨rfl, rfl, rfl, by decide +kernel, rfl, by decide +kernel, by decide +kernel⟩
abbrev s_pairs : Stmt := top 32
abbrev p_pairs : List Str := ["_law_found", "_law_due"]
abbrev n_pairs : List Str := ["_law_found", "_law_due", "_law_one", "_law_good"]
theorem sc_pairs : FnScope n_pairs p_pairs (defScope s_pairs) := ⟨rfl, rfl, rfl, by decide +kernel, rfl, by decide +kernel, by decide +kernel⟩
abbrev s_put : Stmt := top 33
abbrev p_put : List Str := ["_law_room", "_law_rows", "_law_pool_here", "_law_cell"]
abbrev n_put : List Str := ["_law_room", "_law_rows", "_law_pool_here", "_law_cell", "_law_key", "_law_value"]
theorem sc_put : FnScope n_put p_put (defScope s_put) := ⟨rfl, rfl, rfl, by decide +kernel, rfl, by decide +kernel, by decide +kernel⟩
abbrev s_turned : Stmt := top 34
abbrev p_turned : List Str := ["_law_line_here", "_law_rows", "_law_prefix_here", "_law_places", "_law_most", "_law_luck"]
abbrev n_turned : List Str := ["_law_line_here", "_law_rows", "_law_prefix_here", "_law_places", "_law_most", "_law_luck", "_law_row", "_law_told", "_law_fresh", "_law_found", "_law_one"]
theorem sc_turned : FnScope n_turned p_turned (defScope s_turned) := ⟨rfl, rfl, rfl, by decide +kernel, rfl, by decide +kernel, by decide +kernel⟩
abbrev s_only : Stmt := top 35
abbrev p_only : List Str := ["_law_error", "_law_word"]
abbrev n_only : List Str := ["_law_error", "_law_word", "_law_words"]
theorem sc_only : FnScope n_only p_only (defScope s_only) := ⟨rfl, rfl, rfl, by decide +kernel, rfl, by decide +kernel, by decide +kernel⟩
abbrev s_line : Stmt := top 36
abbrev p_line : List Str := ["_law_room", "_law_prefix_here", "_law_start", "_law_given"]
abbrev n_line : List Str := ["_law_room", "_law_prefix_here", "_law_start", "_law_given", "_law_error"]
theorem sc_line : FnScope n_line p_line (defScope s_line) := ⟨rfl, rfl, rfl, by decide +kernel, rfl, by decide +kernel, by decide +kernel⟩
abbrev s_law : Stmt := top 37
abbrev p_law : List Str := ["_law_script"]
abbrev n_law : List Str := ["_law_script", "_law_room", "_law_rows", "_law_pool_here", "_law_cut", "_law_cell", "_law_prefix_here", "_law_start", "_law_given", "_law_line_here", "_law_places", "_law_most", "_law_error"]
theorem sc_law : FnScope n_law p_law (defScope s_law) := ⟨rfl, rfl, rfl, by decide +kernel, rfl, by decide +kernel, by decide +kernel⟩
abbrev hsL : List Str := ["put", "value", "holder", "pairs", "last", "first", "watch", "pull", "confirm", "broken", "leave"]
abbrev esL : List Str := ["hear", "heard", "state", "many"]
end KL

namespace KB
open PySem L2 L2H LX
/-! ### logs by themselves, as plain lists -/
/-- does a key begin with a prefix -/
def isPre (p k : Str) : Bool := decide (cutS k none (some (p.length : Int)) = p)
def wantedM (rs : List Row) (g : Nat) (p : Str) (b most : Int) : List Row := ((rs.drop g).filter fun r => decide (r.n > b) && isPre p r.k).take most.toNat
/-- what is forgotten when all up to u is -/
def goneM (len g : Nat) (u : Int) : Nat := max g (min u.toNat len)
theorem goneM_ge (len g : Nat) (u : Int) : g ≤ goneM len g u := Nat.le_max_left _ _
theorem goneM_le {len g : Nat} (u : Int) (h : g ≤ len) : goneM len g u ≤ len := Nat.max_le.mpr ⟨h, Nat.min_le_right _ _⟩
/-- numbered from 1 on -/
def Num (rs : List Row) : Prop := ∀ (i : Nat) (r : Row), rs[i]? = some r → r.n = (i : Int) + 1
theorem Num.nil : Num [] := fun i r h => by simp at h
theorem Num.snoc {rs : List Row} (h : Num rs) {r : Row} (e : r.n = (rs.length : Int) + 1) : Num (rs ++ [r]) := fun i x hx => by
  by_cases c : i < rs.length
  · rw [List.getElem?_append_left c] at hx
    exact h i x hx
  · rw [List.getElem?_append_right (by omega)] at hx
    have z : i - rs.length = 0 := by
      cases q : i - rs.length with
      | zero => rfl
      | succ n => rw [q] at hx; simp at hx
    rw [z] at hx
    cases hx
    rw [e]
    omega
theorem isPre_nil (k : Str) : isPre "" k = true := by
  unfold isPre
  refine decide_eq_true ?_
  refine TL.ext_tl ?_
  have e : TL.tl (cutS k none (some ((("" : Str).length : Nat) : Int))) = ((tl k).drop 0).take (HT.sIx k.length k.length (some (0 : Int)) - 0) := by
    show (cutS k none (some (0 : Int))).cps.toList = _
    unfold cutS
    exact List.toList_toArray
  rw [e]
  have z : HT.sIx k.length k.length (some (0 : Int)) = 0 := by
    have q := HT.sIx_nat k.length k.length 0
    rw [Nat.zero_min] at q
    exact q
  rw [z]
  rfl
theorem wantedM_all {rs : List Row} (h : Num rs) (g : Nat) {most : Int} (hm : (rs.length : Int) ≤ most) : wantedM rs g "" 0 most = rs.drop g := by
  unfold wantedM
  have e : (rs.drop g).filter (fun r => decide (r.n > 0) && isPre "" r.k) = rs.drop g := by
    refine List.filter_eq_self.mpr fun r hr => ?_
    obtain ⟨i, hi⟩ := List.mem_iff_getElem?.mp (List.mem_of_mem_drop hr)
    have := h i r hi
    rw [isPre_nil, Bool.and_true]
    exact decide_eq_true (by omega)
  rw [e]
  refine List.take_of_length_le ?_
  rw [List.length_drop]
  omega
theorem wantedM_ok {rs : List Row} (h : ∀ r ∈ rs, r.Ok) (g : Nat) (p : Str) (b m : Int) : ∀ r ∈ wantedM rs g p b m, r.Ok := fun r hr =>
  h r (List.mem_of_mem_drop (List.mem_filter.mp (List.mem_of_mem_take hr)).1)
theorem RowsAt.drop {H : Hp} : ∀ {ts : List Addr} {rs : List Row} (n : Nat), RowsAt H ts rs → RowsAt H (ts.drop n) (rs.drop n)
  | _, _, 0, m => m
  | _, _, n + 1, .nil => .nil
  | _, _, n + 1, .cons r m => RowsAt.drop n m
theorem RowsAt.take {H : Hp} : ∀ {ts : List Addr} {rs : List Row} (n : Nat), RowsAt H ts rs → RowsAt H (ts.take n) (rs.take n)
  | _, _, 0, m => .nil
  | _, _, n + 1, .nil => .nil
  | _, _, n + 1, .cons r m => .cons r (RowsAt.take n m)
theorem RowsAt.last {H : Hp} {ts : List Addr} {rs : List Row} (m : RowsAt H ts rs) (h : 0 < rs.length) : ∃ t r, atI (ts.map V.ref) (-1) = some (V.ref t) ∧ H t = some (.tup r.V) ∧ rs[rs.length - 1]? = some r := by
  have hl := Paired.length m
  rcases List.eq_nil_or_concat ts with e | ⟨l, b, e⟩
  · subst e
    simp only [List.length_nil] at hl
    omega
  · have ha : atI (ts.map V.ref) (-1) = some (V.ref b) := by
      have q := atI_last (l.map V.ref) (V.ref b)
      rw [e]
      simpa using q
    have hx : (ts.map V.ref)[rs.length - 1]? = some (V.ref b) := by
      have e2 : rs.length - 1 = l.length := by
        rw [← hl, e]
        simp
      rw [e2, e]
      simp
    obtain ⟨t, r, et, er, ht⟩ := RowsAt.at m hx
    cases et
    exact ⟨b, r, ha, ht, er⟩
theorem cutV_from (xs : List V) {g : Nat} (h : g ≤ xs.length) : cutV xs (some (g : Int)) none = xs.drop g := by
  unfold cutV
  rw [HT.sIx_none, HT.sIx_nat, Nat.min_eq_left h]
  refine List.take_of_length_le ?_
  rw [List.length_drop]
  exact Nat.le_refl _
theorem cutV_upto (xs : List V) {m : Int} (h : 0 ≤ m) : cutV xs none (some m) = xs.take m.toNat := by
  obtain ⟨j, rfl⟩ := Int.eq_ofNat_of_zero_le h
  unfold cutV
  rw [HT.sIx_none]
  have e : HT.sIx xs.length xs.length (some ((j : Nat) : Int)) = min j xs.length := HT.sIx_nat _ _ _
  show (xs.drop 0).take (HT.sIx xs.length xs.length (some ((j : Nat) : Int)) - 0) = _
  rw [e, List.drop_zero, Nat.sub_zero, Int.toNat_natCast]
  by_cases c : j ≤ xs.length
  · rw [Nat.min_eq_left c]
  · rw [Nat.min_eq_right (by omega), List.take_length, List.take_of_length_le (by omega)]
/-! ### what stands by a log, whatever it is made of -/
/-- F' holds what F held and new ones -/
def Grow (F F' : List Addr) (H : Hp) : Prop := ∀ a ∈ F', a ∈ F ∨ H a = none
theorem Grow.refl (F : List Addr) (H : Hp) : Grow F F H := fun _ h => .inl h
theorem Grow.apart {F F' S : List Addr} {H : Hp} (g : Grow F F' H) (d : ∀ a ∈ F, a ∉ S) (s : ∀ a ∈ S, ∃ o, H a = some o) : ∀ a ∈ F', a ∉ S := fun a ha m => by
  rcases g a ha with h | h
  · exact d a h m
  · obtain ⟨o, e⟩ := s a m
    rw [h] at e
    cases e
theorem Grow.apart2 {F F' S : List Addr} {H : Hp} (g : Grow F F' H) (d : ∀ a ∈ S, a ∉ F) (s : ∀ a ∈ S, ∃ o, H a = some o) : ∀ a ∈ S, a ∉ F' := fun a ha m => by
  rcases g a m with h | h
  · exact d a ha h
  · obtain ⟨o, e⟩ := s a ha
    rw [h] at e
    cases e
theorem Grow.trans {F F1 F2 : List Addr} {H H1 : Hp} (a : Grow F F1 H) (b : Grow F1 F2 H1) (k : ∀ x, H1 x = none → H x = none) : Grow F F2 H := fun x hx => by
  rcases b x hx with h | h
  · exact a x h
  · exact .inr (k x h)
theorem Ch.seq {F F1 : List Addr} {H H1 H2 : Hp} (a : Ch H H1 F) (g : Grow F F1 H) (b : Ch H1 H2 F1) : Ch H H2 F := by
  refine ⟨fun x o e n => b.st x o (a.st x o e n) (n.imp (fun z y => ?_) id), fun x o e => let ⟨_, z⟩ := a.th x o e; b.th _ _ z⟩
  rcases g x y with h | h
  · exact z h
  · rw [e] at h
    cases h
def spLogInit (C : Addr) (Lg : List Addr → Hp → Addr → List Row → Nat → Prop) : Sp := fun vs H Q _ => ∃ (p dx : Addr), vs = [.ref p] ∧ H p = some (.ins C dx []) ∧
  ∀ F H', Lg F H' p [] 0 → (∀ a ∈ F, a = p ∨ H a = none) → Ch H H' [p] → Q .non H'
def spLogNote (Lg : List Addr → Hp → Addr → List Row → Nat → Prop) : Sp := fun vs H Q _ => ∃ (F : List Addr) (p : Addr) (t : Int) (w k v : Str) (rs : List Row) (g : Nat), vs = [.ref p, .int t, .str w, .str k, .str v] ∧ Lg F H p rs g ∧ rs.length ≤ 100000 ∧ (Row.mk 0 t w k v).Ok ∧
  ∀ F' H', Lg F' H' p (rs ++ [⟨(rs.length : Int) + 1, t, w, k, v⟩]) g → Grow F F' H → Ch H H' F → Q (.int ((rs.length : Int) + 1)) H'
def spLogLast (Lg : List Addr → Hp → Addr → List Row → Nat → Prop) : Sp := fun vs H Q _ => ∃ (F : List Addr) (p : Addr) (rs : List Row) (g : Nat), vs = [.ref p] ∧ Lg F H p rs g ∧
  ∀ F' H', Lg F' H' p rs g → Grow F F' H → Ch H H' F → Q (.int rs.length) H'
def spLogFirst (Lg : List Addr → Hp → Addr → List Row → Nat → Prop) : Sp := fun vs H Q _ => ∃ (F : List Addr) (p : Addr) (rs : List Row) (g : Nat), vs = [.ref p] ∧ Lg F H p rs g ∧
  ∀ F' H', Lg F' H' p rs g → Grow F F' H → Ch H H' F → Q (.int ((g : Int) + 1)) H'
def spLogWanted (Lg : List Addr → Hp → Addr → List Row → Nat → Prop) : Sp := fun vs H Q _ => ∃ (F : List Addr) (p : Addr) (z : Str) (b m : Int) (rs : List Row) (g : Nat), vs = [.ref p, .str z, .int b, .int m] ∧ Lg F H p rs g ∧ TOk 60 z ∧ 0 ≤ m ∧ b ≤ 100000 ∧ rs.length ≤ 900 ∧
  ∀ F' q ts H', Lg F' H' p rs g → Grow F F' H → Ch H H' F → H q = none → q ∉ F' → H' q = some (.lst (ts.map V.ref)) → RowsAt H' ts (wantedM rs g z b m) → Q (.ref q) H'
def spLogForget (Lg : List Addr → Hp → Addr → List Row → Nat → Prop) : Sp := fun vs H Q _ => ∃ (F : List Addr) (p : Addr) (u : Int) (rs : List Row) (g : Nat), vs = [.ref p, .int u] ∧ Lg F H p rs g ∧ rs.length ≤ 900 ∧
  ∀ F' H', Lg F' H' p rs (goneM rs.length g u) → Grow F F' H → Ch H H' F → Q (.int ((goneM rs.length g u : Int) - g)) H'
/-- a method as its callers see it -/
structure MDef (P : Program) (w : World) (K : PySem.W.Frag) (mg : Str → Option Value) (base : Heap) (C : Addr) (m : Str) (CX : CXT) (k : Nat) (sp : Sp) : Prop where
  ex : ∃ f fd ps, Meth K C m f ∧ Binds K fd ps [] ∧ FnOk P w K mg base CX k f fd ps sp
structure LogApi (P : Program) (w : World) (K : PySem.W.Frag) (mg : Str → Option Value) (base : Heap) (C : Addr) (Lg : List Addr → Hp → Addr → List Row → Nat → Prop) : Prop where
  frame : ∀ {F H H' p rs g l}, Lg F H p rs g → Ch H H' l → (∀ a ∈ F, a ∉ l) → Lg F H' p rs g
  own : ∀ {F H p rs g}, Lg F H p rs g → ∀ a ∈ F, ∃ o, H a = some o
  inst : ∀ {F H p rs g}, Lg F H p rs g → p ∈ F ∧ ∃ dx fs, H p = some (.ins C dx fs) ∧ ∀ m ∈ ([("note" : Str), "last", "first", "wanted", "forget"] : List Str), fs.lookup m = none
  le : ∀ {F H p rs g}, Lg F H p rs g → g ≤ rs.length
  make : ∃ f fd ps, Mk K C f ∧ Binds K fd ps [] ∧ FnOk P w K mg base CX0 2 f fd ps (spLogInit C Lg)
  note : MDef P w K mg base C "note" CX0 2 (spLogNote Lg)
  last : MDef P w K mg base C "last" CX0 2 (spLogLast Lg)
  first : MDef P w K mg base C "first" CX0 2 (spLogFirst Lg)
  wanted : MDef P w K mg base C "wanted" CX0 3 (spLogWanted Lg)
  forget : MDef P w K mg base C "forget" CX0 3 (spLogForget Lg)
end KB

namespace KB
open PySem L2 L2H LX
/-! ### an object's fields, by place -/
def pos (k : Str) : List Str → Option Nat
  | [] => none
  | x :: r => if x = k then some 0 else (pos k r).map (· + 1)
theorem zf_no {k : Str} : ∀ {ns : List Str} {vs : List V}, pos k ns = none → (ns.zip vs).lookup k = none
  | [], _, _ => rfl
  | x :: r, [], _ => rfl
  | x :: r, v :: vs, h => by
    unfold pos at h
    by_cases e : x = k
    · rw [if_pos e] at h; cases h
    · rw [if_neg e] at h
      have h2 : pos k r = none := by
        cases q : pos k r with
        | none => rfl
        | some i => rw [q] at h; cases h
      rw [List.zip_cons_cons, List.lookup_cons, show (k == x) = false from beq_eq_false_iff_ne.mpr fun z => e z.symm]
      exact zf_no h2
theorem zf_get {k : Str} : ∀ {ns : List Str} {vs : List V} {i : Nat} {v : V}, pos k ns = some i → vs[i]? = some v → (ns.zip vs).lookup k = some v
  | [], _, i, v, h, _ => by cases h
  | x :: r, [], i, v, _, h => by simp at h
  | x :: r, u :: vs, i, v, h, hv => by
    unfold pos at h
    by_cases e : x = k
    · rw [if_pos e] at h
      cases h
      rw [List.zip_cons_cons, List.lookup_cons, show (k == x) = true from beq_iff_eq.mpr e.symm]
      exact hv
    · rw [if_neg e] at h
      cases q : pos k r with
      | none => rw [q] at h; cases h
      | some j =>
        rw [q] at h
        cases h
        rw [List.zip_cons_cons, List.lookup_cons, show (k == x) = false from beq_eq_false_iff_ne.mpr fun z => e z.symm]
        exact zf_get q hv
theorem zf_put {k : Str} {y : V} : ∀ {ns : List Str} {vs : List V} {i : Nat}, pos k ns = some i → ns.length = vs.length → putF k y (ns.zip vs) = ns.zip (vs.set i y)
  | [], _, i, h, _ => by cases h
  | x :: r, [], i, _, h => by cases h
  | x :: r, u :: vs, i, h, hl => by
    unfold pos at h
    rw [List.zip_cons_cons]
    show (if x = k then (x, y) :: r.zip vs else (x, u) :: putF k y (r.zip vs)) = _
    by_cases e : x = k
    · rw [if_pos e] at h ⊢
      cases h
      rfl
    · rw [if_neg e] at h ⊢
      cases q : pos k r with
      | none => rw [q] at h; cases h
      | some j =>
        rw [q] at h
        cases h
        rw [zf_put q (Nat.succ.inj hl)]
        rfl
theorem zf_new {k : Str} {y : V} : ∀ {ns : List Str} {vs : List V}, pos k ns = none → ns.length = vs.length → putF k y (ns.zip vs) = (ns ++ [k]).zip (vs ++ [y])
  | [], [], h, _ => rfl
  | [], _ :: _, _, h => by cases h
  | x :: r, [], _, h => by cases h
  | x :: r, u :: vs, h, hl => by
    unfold pos at h
    rw [List.zip_cons_cons]
    show (if x = k then (x, y) :: r.zip vs else (x, u) :: putF k y (r.zip vs)) = _
    by_cases e : x = k
    · rw [if_pos e] at h; cases h
    · rw [if_neg e] at h ⊢
      have h2 : pos k r = none := by
        cases q : pos k r with
        | none => rfl
        | some i => rw [q] at h; cases h
      rw [zf_new h2 (Nat.succ.inj hl)]
      rfl
/-! ### does a text begin with another -/
theorem starts_isPre (k p : Str) : Txt.startswith k p = isPre p k := by
  have hk : (tl k).length = k.length := Array.length_toList
  have hp : (tl p).length = p.length := Array.length_toList
  have e1 : Txt.startswith k p = (decide (p.length ≤ k.length) && ((tl k).take p.length == tl p)) := by
    unfold Txt.startswith
    rw [PySem.StrLaws.subAt_eq, Nat.zero_add, List.drop_zero]
  have e2 : tl (cutS k none (some (p.length : Int))) = (tl k).take (min p.length k.length) := by
    show ((k.cps.toList.drop (HT.sIx k.length 0 none)).take (HT.sIx k.length k.length (some (p.length : Int)) - HT.sIx k.length 0 none)).toArray.toList = _
    rw [List.toList_toArray, HT.sIx_none, HT.sIx_nat, List.drop_zero, Nat.sub_zero]
  rw [e1]
  unfold isPre
  by_cases c : p.length ≤ k.length
  · rw [decide_eq_true c, Bool.true_and]
    rw [Nat.min_eq_left c] at e2
    by_cases d : (tl k).take p.length = tl p
    · rw [beq_iff_eq.mpr d]
      refine (decide_eq_true ?_).symm
      exact TL.ext_tl (e2.trans d)
    · rw [beq_eq_false_iff_ne.mpr d]
      refine (decide_eq_false fun z => d ?_).symm
      rw [← e2, z]
  · rw [decide_eq_false c, Bool.false_and]
    refine (decide_eq_false fun z => c ?_).symm
    have q := congrArg (fun s : Str => (tl s).length) z
    rw [e2, List.length_take, hp, hk] at q
    omega
theorem smallS {n : Nat} (h : n ≤ 200000) : n < sizeLine := Nat.lt_of_le_of_lt h (by decide)
end KB

namespace KL
open PySem L2 L2H LX KB
/-! ### the program's log -/
abbrev nsLog : List Str := ["_forgotten", "_kept"]
structure LogT (K : PySem.W.Frag) (C : Addr) : Prop where
  cl : Cls K C
  nF : NoAttr K C "_forgotten"
  nK : NoAttr K C "_kept"
structure LgAt (C : Addr) (H : Hp) (p q : Addr) (ts : List Addr) (rs : List Row) (g : Nat) : Prop where
  ob : ∃ dx, H p = some (.ins C dx (nsLog.zip [.int g, .ref q]))
  kp : H q = some (.lst (ts.map V.ref))
  at_ : RowsAt H ts (rs.drop g)
  le : g ≤ rs.length
  num : Num rs
def LgP (C : Addr) : List Addr → Hp → Addr → List Row → Nat → Prop := fun F H p rs g => ∃ q ts, F = [p, q] ∧ LgAt C H p q ts rs g
theorem LgAt.pq {C : Addr} {H : Hp} {p q : Addr} {ts : List Addr} {rs : List Row} {g : Nat} (L : LgAt C H p q ts rs g) : p ≠ q := by
  obtain ⟨dx, h⟩ := L.ob
  exact ne_of h L.kp (by intro z; cases z)
theorem LgAt.len {C : Addr} {H : Hp} {p q : Addr} {ts : List Addr} {rs : List Row} {g : Nat} (L : LgAt C H p q ts rs g) : ts.length = rs.length - g := by
  rw [Paired.length L.at_, List.length_drop]
theorem LgP.frame {C : Addr} {F : List Addr} {H H' : Hp} {p : Addr} {rs : List Row} {g : Nat} {l : List Addr} (L : LgP C F H p rs g) (c : Ch H H' l) (d : ∀ a ∈ F, a ∉ l) : LgP C F H' p rs g := by
  obtain ⟨q, ts, rfl, L⟩ := L
  obtain ⟨dx, h⟩ := L.ob
  exact ⟨q, ts, rfl, ⟨dx, c.at h (d p (by simp))⟩, c.at L.kp (d q (by simp)), L.at_.keep c.tup, L.le, L.num⟩
theorem LgP.own {C : Addr} {F : List Addr} {H : Hp} {p : Addr} {rs : List Row} {g : Nat} (L : LgP C F H p rs g) : ∀ a ∈ F, ∃ o, H a = some o := by
  obtain ⟨q, ts, rfl, L⟩ := L
  obtain ⟨dx, h⟩ := L.ob
  intro a ha
  simp only [List.mem_cons, List.not_mem_nil, or_false] at ha
  rcases ha with rfl | rfl
  · exact ⟨_, h⟩
  · exact ⟨_, L.kp⟩
theorem LgP.inst {C : Addr} {F : List Addr} {H : Hp} {p : Addr} {rs : List Row} {g : Nat} (L : LgP C F H p rs g) : p ∈ F ∧ ∃ dx fs, H p = some (.ins C dx fs) ∧ ∀ m ∈ ([("note" : Str), "last", "first", "wanted", "forget"] : List Str), fs.lookup m = none := by
  obtain ⟨q, ts, rfl, L⟩ := L
  obtain ⟨dx, h⟩ := L.ob
  refine ⟨by simp, dx, _, h, fun m hm => ?_⟩
  simp only [List.mem_cons, List.not_mem_nil, or_false] at hm
  rcases hm with rfl | rfl | rfl | rfl | rfl <;> exact zf_no (by decide +kernel)
theorem LgP.le {C : Addr} {F : List Addr} {H : Hp} {p : Addr} {rs : List Row} {g : Nat} (L : LgP C F H p rs g) : g ≤ rs.length := by
  obtain ⟨q, ts, rfl, L⟩ := L
  exact L.le
/-- last and first read only -/
def spLast0 (C : Addr) : Sp := fun vs H Q _ => ∃ (F : List Addr) (p : Addr) (rs : List Row) (g : Nat), vs = [.ref p] ∧ LgP C F H p rs g ∧ Q (.int rs.length) H
def spFirst0 (C : Addr) : Sp := fun vs H Q _ => ∃ (F : List Addr) (p : Addr) (rs : List Row) (g : Nat), vs = [.ref p] ∧ LgP C F H p rs g ∧ Q (.int ((g : Int) + 1)) H
section
variable {P : Program} {w : World} {K : PySem.W.Frag} {mg : Str → Option Value} {base : Heap}
theorem ok_Log_init {f C : Addr} {fd : FuncData} (F : Fun K "__init__" "Log.__init__" s_Log_init f fd) (T : LogT K C) : FnOk P w K mg base CX0 1 f fd p_Log_init (spLogInit C (LgP C)) := by
  refine F.ok sc_Log_init (fun vs H Q E h => ?_) (fun cdv A outer s H vs Q E hr h => ?_)
  · obtain ⟨p, dx, rfl, _⟩ := h
    rfl
  · obtain ⟨p, dx, rfl, hp, k⟩ := h
    refine ⟨_, pss_cons (ps_fld (pv 0) pe_int rfl) (pss_one (ps_fld (pv 0) (pe_lst pa_nil) rfl)), ?_⟩
    refine ⟨_, rfl, p, C, dx, [], rfl, hp, T.cl, T.nF, (by show 0 < 1000; decide), ?_⟩
    refine ⟨(by show 0 ≤ sizeLine; decide), fun q hq => ?_⟩
    have npq : p ≠ q := ne_of_none upd_same hq
    refine ⟨_, rfl, p, C, dx, _, rfl, (by rw [upd_ne npq]; exact upd_same), T.cl, T.nK, (by show 1 < 1000; decide), ?_⟩
    have q0 : H q = none := by rw [upd_ne npq.symm] at hq; exact hq
    refine k [p, q] _ ⟨q, [], rfl, ⟨dx, upd_same⟩, ?_, .nil, Nat.le_refl _, Num.nil⟩ (fun a ha => ?_) ⟨fun b o e n => ?_, fun b o e => ?_⟩
    · rw [upd_ne npq.symm]; exact upd_same
    · simp only [List.mem_cons, List.not_mem_nil, or_false] at ha
      rcases ha with rfl | rfl
      · exact .inl rfl
      · exact .inr q0
    · have nb : b ≠ p := fun z => by
        subst z
        rcases n with n | ⟨xs, n⟩
        · exact n (by simp)
        · rw [hp] at e; cases e; cases n
      rw [upd_ne nb, upd_ne (ne_of_none e q0), upd_ne nb]
      exact e
    · by_cases z : b = p
      · subst z; exact ⟨_, upd_same⟩
      · rw [upd_ne z, upd_ne (ne_of_none e q0), upd_ne z]; exact ⟨o, e⟩
theorem ok_Log_last {f C : Addr} {fd : FuncData} (F : Fun K "last" "Log.last" s_Log_last f fd) (T : LogT K C) (ml : mg "len" = none) : FnOk P w K mg base CX0 1 f fd p_Log_last (spLast0 C) := by
  refine F.ok sc_Log_last (fun vs H Q E h => ?_) (fun cdv A outer s H vs Q E hr h => ?_)
  · obtain ⟨Fs, p, rs, g, rfl, _⟩ := h
    rfl
  · obtain ⟨Fs, p, rs, g, rfl, ⟨q, ts, rfl, L⟩, k⟩ := h
    obtain ⟨dx, hp⟩ := L.ob
    refine ⟨_, pss_one (ps_ret (pe_op op_add (pe_fld (pv 0) rfl) (pe_callB call_len_seq (by rfl) ml PySem.boot_len (pa_cons (pe_fld (pv 0) rfl) pa_nil)))), ?_⟩
    refine ⟨_, rfl, p, C, dx, _, _, rfl, hp, T.cl, T.nF, zf_get (i := 0) (by decide +kernel) rfl, _, rfl, p, C, dx, _, _, rfl, hp, T.cl, T.nK, zf_get (i := 1) (by decide +kernel) rfl, q, _, rfl, .inl (SqL.of L.kp), _, _, rfl, rfl, ?_⟩
    have e : (g : Int) + ((ts.map V.ref).length : Int) = (rs.length : Int) := by
      rw [List.length_map, L.len]
      have := L.le
      omega
    show Q (.int ((g : Int) + ((ts.map V.ref).length : Int))) H
    rw [e]
    exact k
theorem ok_Log_first {f C : Addr} {fd : FuncData} (F : Fun K "first" "Log.first" s_Log_first f fd) (T : LogT K C) : FnOk P w K mg base CX0 1 f fd p_Log_first (spFirst0 C) := by
  refine F.ok sc_Log_first (fun vs H Q E h => ?_) (fun cdv A outer s H vs Q E hr h => ?_)
  · obtain ⟨Fs, p, rs, g, rfl, _⟩ := h
    rfl
  · obtain ⟨Fs, p, rs, g, rfl, ⟨q, ts, rfl, L⟩, k⟩ := h
    obtain ⟨dx, hp⟩ := L.ob
    refine ⟨_, pss_one (ps_ret (pe_op op_add (pe_fld (pv 0) rfl) pe_int)), ?_⟩
    exact ⟨_, rfl, p, C, dx, _, _, rfl, hp, T.cl, T.nF, zf_get (i := 0) (by decide +kernel) rfl, _, _, rfl, rfl, k⟩
theorem ok_Log_note {f fL C : Addr} {fd fdL : FuncData} {psL : List Str} (F : Fun K "note" "Log.note" s_Log_note f fd) (T : LogT K C) (mL : Meth K C "last" fL) (bL : Binds K fdL psL []) (GL : FnOk P w K mg base CX0 1 fL fdL psL (spLast0 C)) :
    FnOk P w K mg base CX0 2 f fd p_Log_note (spLogNote (LgP C)) := by
  refine F.ok sc_Log_note (fun vs H Q E h => ?_) (fun cdv A outer s H vs Q E hr h => ?_)
  · obtain ⟨Fs, p, t, wd, ky, v, rs, g, rfl, _⟩ := h
    rfl
  · obtain ⟨Fs, p, t, wd, ky, v, rs, g, rfl, LP, hl, ok, k⟩ := h
    obtain ⟨q, ts, rfl, L⟩ := id LP
    obtain ⟨dx, hp⟩ := L.ob
    refine ⟨_, pss_cons (ps_set (i := 5) sc_Log_note.nd rfl (Or.inl rfl) (pe_op op_add (pe_meth0 (pv 0) T.cl mL GL hr bL .nil pass0) pe_int))
      (pss_cons (ps_expr (pe_bm PySem.F.plainAttrs_list PySem.F.slot_list_append PySem.F.type_list_append mt_append (pe_fld (pv 0) rfl) (pa_cons (pe_tup (pa_cons (pv 5) (pa_cons (pv 1) (pa_cons (pv 2) (pa_cons (pv 3) (pa_cons (pv 4) pa_nil)))))) pa_nil)))
      (pss_one (ps_ret (pv 5)))), ?_⟩
    refine ⟨_, rfl, p, dx, _, rfl, hp, zf_no (by decide +kernel), _, p, rs, g, rfl, LP, _, _, rfl, rfl, ?_⟩
    refine ⟨_, rfl, p, C, dx, _, _, rfl, hp, T.cl, T.nK, zf_get (i := 1) (by decide +kernel) rfl, .inl ⟨rfl, _, .inl (.inl L.kp)⟩, _, rfl, _, rfl, _, rfl, _, rfl, _, rfl, (by show 5 ≤ sizeLine; decide), fun x hx => ?_⟩
    have nxq : q ≠ x := ne_of_none L.kp hx
    have nxp : p ≠ x := ne_of_none hp hx
    have hl2 : (ts.map V.ref).length < sizeLine := by
      rw [List.length_map, L.len]
      exact smallS (by omega)
    refine ⟨q, ts.map V.ref, .ref x, rfl, rfl, by rw [upd_ne nxq]; exact L.kp, hl2, ?_⟩
    refine ⟨_, rfl, ?_⟩
    have c1 : Ch H (upd (upd H x (.tup [.int ((rs.length : Int) + 1), .int t, .str wd, .str ky, .str v])) q (.lst (ts.map V.ref ++ [.ref x]))) [p, q] :=
      ((Ch.refl H [p, q]).new _ hx).mut (by simp) L.kp (fun xs e => by cases e)
    refine k [p, q] _ ⟨q, ts ++ [x], rfl, ⟨dx, ?_⟩, ?_, ?_, ?_, ?_⟩ (Grow.refl _ _) c1
    · rw [upd_ne L.pq, upd_ne nxp]; exact hp
    · rw [upd_same, List.map_append]; rfl
    · rw [List.drop_append_of_le_length L.le]
      refine Paired.snoc (L.at_.keep c1.tup) ?_
      show upd _ q _ x = _
      rw [upd_ne nxq.symm]
      exact upd_same
    · rw [List.length_append]
      exact Nat.le_trans L.le (Nat.le_add_right _ _)
    · exact L.num.snoc rfl
end
end KL

/-! sorted of texts, any number of them; the order of texts; tables of texts -/
namespace LX
open PySem PySem.Spec PyProof.Rows L2 L2H
section
variable {X : Cx}
def rSortedSL (K : PySem.W.Frag) : List V → Hp → VK → Prop := fun vs H Q => ∃ (a : Addr) (xs : List Str), vs = [V.ref a] ∧ SqL K H a (xs.map V.str) ∧
  ∀ (ys : List Str) (p : Addr), ys.Perm xs → sortedS ys = true → H p = none → Q (.ref p) (upd H p (.lst (ys.map V.str)))
theorem cr_sortedSL : CallR X (.builtin "sorted") (rSortedSL X.K) := by
  intro pins s σ H vs us Q I r h
  obtain ⟨a, xs, rfl, hs, q⟩ := h
  obtain ⟨its, rv, hl, hz⟩ := I.list hs
  rw [Vals.ref1 r]
  have hlen0 := rv.length
  refine PyProof.Rows.sorted_strsAny hl.isList rv.strs (by rw [← hlen0]; exact hz) fun out ys h1 h2 h3 => ?_
  obtain ⟨ep, he'⟩ := PyProof.Rows.sortedAll_at s.heap its out
  have hlen : (ys.map V.str).length ≤ sizeLine := by
    rw [List.length_map] at hz ⊢
    rw [h2.length_eq]
    exact hz
  exact ⟨.ref _, upd H (s.heap.objs.size + 1) (.lst (ys.map V.str)), I.laid (t' := s.toks) (fun _ _ => PyProof.Rows.sortedAll_old) (Nat.le_succ _) ⟨hlen, out.toList, ep, vals_of_strs h1, he'⟩, rfl, q ys _ h2 h3 (I.hok.fresh (Nat.le_succ _))⟩
def rSortedDL : List V → Hp → VK → Prop := fun xs H Q => ∃ (a : Addr) (kvs : List (Key × V)) (ks : List Str), xs = [.ref a] ∧ Rd H a (.dK kvs) ∧ kvs.map (·.1) = ks.map Sum.inr ∧
    ∀ ys p, ys.Perm ks → sortedS ys = true → H p = none → Q (.ref p) (upd H p (.lst (ys.map V.str)))
theorem cr_sortedDL (hcalm : X.calm = true) : CallR X (.builtin "sorted") rSortedDL := by
  intro pins s σ H xs us Q I r q
  obtain ⟨a, kvs, ks, ex, hd, hks, q⟩ := q
  subst ex
  obtain ⟨u, eu, rx⟩ := vals1 r
  subst eu
  cases rx
  obtain ⟨z, lo, vs, rel, dd⟩ := dk_rd I.hok hd
  obtain ⟨ep, hat⟩ := dd.dictAt
  have hkeys : vs.map (·.1) = ks.map Sum.inr := rel.keys.symm.trans hks
  have hl : vs.length = ks.length := by
    have e := congrArg List.length hkeys
    rw [List.length_map, List.length_map] at e
    exact e
  have hkl : kvs.length = vs.length := by
    have e := congrArg List.length rel.keys
    rw [List.length_map, List.length_map] at e
    exact e
  have h16 : vs.length ≤ sizeLine := by rw [← hkl]; exact z
  refine Calls.call_function_entry PyProof.Rows.kind_sorted PyProof.Rows.plain_sorted PyProof.Rows.entry_sorted (PyProof.Rows.args_sorted1 _) ?_
  unfold Builtin.«sorted»
  refine wpAny_bind (m := checkCount "sorted" 1 1 _) (wpAny_pure ?_)
  refine wpAny_bind (PySem.W.kdu_collect (A := X.A.in1) (PySem.W.kdl_dict (knd := mixKind X.prog X.w) (kvs := vs) (ep := ep) lo) (I.ok.hd hcalm) hat h16 fun h' tk acc hk hacc => ?_)
  have hal : acc.toList.length = ks.length := by rw [Array.length_toList, hacc.1, hl]
  have hS : StrsAre acc.toList ks := strs_at hal fun j v e => by
    obtain ⟨k, x, e1, e2⟩ := hacc.2 j v (by rw [← Array.getElem?_toList]; exact e)
    have e3 : (vs.map (·.1))[j]? = some k := by rw [List.getElem?_map, e1]; all_goals rfl
    rw [hkeys, List.getElem?_map] at e3
    cases e4 : ks[j]? with
    | none => rw [e4] at e3; cases e3
    | some y =>
      rw [e4] at e3
      have e5 : Sum.inr y = k := Option.some.inj e3
      subst e5
      obtain ⟨t, ev⟩ := Value.isStrOf_shape (x := y) (v := v) e2
      exact ⟨y, t, rfl, ev⟩
  have I1 : Inv X pins σ H { s with heap := h', toks := tk } := I.kept hk
  refine wpAny_bind (wpAny_newList ?_ (by rw [hal, ← hl]; exact h16))
  have hoL : (h'.push (seqObj "list" acc.toList.toArray 0)).get? h'.objs.size = some (seqObj "list" acc.toList.toArray 0) := Heap.get?_push_size _ rfl
  show wpAny _ _ _ _ _ { s with heap := h'.push (seqObj "list" acc.toList.toArray 0), toks := tk }
  refine wpAny_bind (wpAny_holding (wpAny_call_entry PyProof.Rows.slot_list_sort ⟨_, hoL, rfl⟩ PyProof.Rows.entry_list_sort
    (list_sort_treeKAny strKind_oneLt (s := { s with heap := h'.push (seqObj "list" acc.toList.toArray 0), toks := tk }) hoL hS.keysOf (fun v₁ v₂ rest e => keyKind_strs (by rw [← e]; exact hS)) (by rw [hal, ← hl]; exact h16) fun st' hp hs => ⟨_, rfl, ?_⟩)
    (PyProof.Rows.args_list_sort _)))
  obtain ⟨ys, g1, g2, g3⟩ := sorted_out_str hS hp hs
  obtain ⟨e', he'⟩ := PyProof.Rows.sortedHeap_at (vs := acc.toList) (out := (arrOf st').map (·.2)) hoL
  have hlen : (ys.map V.str).length ≤ sizeLine := by
    rw [List.length_map, g2.length_eq, ← hl]
    exact h16
  refine wpAny_pure ⟨_, rfl, .ref h'.objs.size, upd H h'.objs.size (.lst (ys.map V.str)), I1.laid (t' := tk) (fun b u e => ?_) (Nat.le_refl _)
    (show ObjOk X.prog X.w _ _ _ (.lst (ys.map V.str)) from ⟨hlen, ((arrOf st').map (·.2)).toList, e', vals_of_strs g1, by rw [Array.toArray_toList]; exact he'⟩), rfl, q ys _ g2 g3 (I1.hok.fresh (Nat.le_refl _))⟩
  have hb : b < h'.objs.size := Heap.lt_size e
  rw [PyProof.Rows.sortedHeap_old (Nat.ne_of_lt hb) (by rw [size_push']; exact Nat.lt_succ_of_lt hb)]
  exact Heap.get?_push_of_some _ e
end
end LX
namespace KB
open PySem L2 L2H LX
/-! ### the order of texts -/
abbrev ltS (x y : Str) : Prop := tl x < tl y
abbrev leS (x y : Str) : Prop := PySem.Spec.ltCps y.cps.toList x.cps.toList = false
theorem leS_iff {x y : Str} : leS x y ↔ ¬ tl y < tl x := by
  unfold leS
  rw [PyProof.Rows.ltCps_eq, decide_eq_false_iff_not]
theorem leS_refl (x : Str) : leS x x := leS_iff.mpr (List.lt_irrefl _)
theorem leS_trans {x y z : Str} (a : leS x y) (b : leS y z) : leS x z := by
  rw [leS_iff] at a b ⊢
  exact List.not_lt.mpr (List.le_trans (List.not_lt.mp a) (List.not_lt.mp b))
theorem leS_antisymm {x y : Str} (a : leS x y) (b : leS y x) : x = y := by
  rw [leS_iff] at a b
  exact TL.ext_tl (List.le_antisymm (List.not_lt.mp a) (List.not_lt.mp b))
theorem rising_pw : ∀ (p : Str) (l : List Str), PyProof.Rows.risingS p l = true → (p :: l).Pairwise leS
  | p, [], _ => List.pairwise_singleton _ _
  | p, x :: r, h => by
    unfold PyProof.Rows.risingS at h
    rw [Bool.and_eq_true, Bool.not_eq_true'] at h
    have q := rising_pw x r h.2
    refine List.pairwise_cons.mpr ⟨fun y hy => ?_, q⟩
    rcases List.mem_cons.mp hy with e | hy
    · rw [e]; exact h.1
    · exact leS_trans h.1 ((List.pairwise_cons.mp q).1 y hy)
theorem sortedS_pw {l : List Str} (h : PyProof.Rows.sortedS l = true) : l.Pairwise leS := by
  cases l with
  | nil => exact .nil
  | cons x r => exact rising_pw x r h
theorem pw_uniq : ∀ {l m : List Str}, l.Pairwise leS → m.Pairwise leS → l.Perm m → l = m
  | [], m, _, _, h => (List.Perm.eq_nil h.symm).symm
  | x :: l, [], _, _, h => absurd h.length_eq (by simp)
  | x :: l, y :: m, a, b, h => by
    have h1 : leS y x := by
      rcases List.mem_cons.mp (h.mem_iff.mp (List.mem_cons_self (a := x) (l := l))) with e | hx
      · rw [e]; exact leS_refl y
      · exact (List.pairwise_cons.mp b).1 x hx
    have h2 : leS x y := by
      rcases List.mem_cons.mp (h.mem_iff.mpr (List.mem_cons_self (a := y) (l := m))) with e | hx
      · rw [e]; exact leS_refl x
      · exact (List.pairwise_cons.mp a).1 y hx
    have e := leS_antisymm h2 h1
    subst e
    rw [pw_uniq (List.pairwise_cons.mp a).2 (List.pairwise_cons.mp b).2 h.cons_inv]
theorem sortedS_uniq {l m : List Str} (a : PyProof.Rows.sortedS l = true) (b : PyProof.Rows.sortedS m = true) (h : l.Perm m) : l = m := pw_uniq (sortedS_pw a) (sortedS_pw b) h
/-! ### tables of texts -/
abbrev KVs := List (Str × Str)
def getP (d : KVs) (k : Str) : Option Str := (d.find? fun p => decide (p.1 = k)).map (·.2)
def putP (d : KVs) (k v : Str) : KVs := if (d.any fun p => decide (p.1 = k)) = true then d.map (fun p => if p.1 = k then (p.1, v) else p) else d ++ [(k, v)]
def dropP (d : KVs) (k : Str) : KVs := d.filter fun p => decide (p.1 ≠ k)
def dV (d : KVs) : List (Key × V) := d.map fun p => ((Sum.inr p.1 : Key), V.str p.2)
theorem inrD (a b : Str) : decide ((Sum.inr a : Key) = Sum.inr b) = decide (a = b) := by
  by_cases e : a = b
  · rw [decide_eq_true e, decide_eq_true (congrArg Sum.inr e)]
  · rw [decide_eq_false e, decide_eq_false fun z => e (Sum.inr.inj z)]
theorem valV_dV (d : KVs) (k : Str) : valV (dV d) (Sum.inr k) = (getP d k).map V.str := by
  induction d with
  | nil => rfl
  | cons p r ih =>
    by_cases e : p.1 = k
    · show valV ((Sum.inr p.1, V.str p.2) :: dV r) (Sum.inr k) = _
      rw [valV_pos (by exact congrArg Sum.inr e)]
      unfold getP
      rw [List.find?_cons_of_pos (by exact decide_eq_true e)]
      rfl
    · show valV ((Sum.inr p.1, V.str p.2) :: dV r) (Sum.inr k) = _
      rw [valV_neg (by exact fun z => e (Sum.inr.inj z)), ih]
      unfold getP
      rw [List.find?_cons_of_neg (by rw [decide_eq_false e]; decide)]
theorem any_dV (d : KVs) (k : Str) : ((dV d).any fun kv => decide (kv.1 = Sum.inr k)) = d.any fun p => decide (p.1 = k) := by
  unfold dV
  rw [List.any_map]
  congr 1
  funext p
  exact inrD p.1 k
theorem putK_dV (d : KVs) (k v : Str) : putK (dV d) (Sum.inr k) (.str v) = dV (putP d k v) := by
  unfold putK putP
  rw [any_dV]
  by_cases e : (d.any fun p => decide (p.1 = k)) = true
  · rw [if_pos e, if_pos e]
    unfold dV
    rw [List.map_map, List.map_map]
    refine List.map_congr_left fun p _ => ?_
    show (if (Sum.inr p.1 : Key) = Sum.inr k then _ else _) = _
    by_cases z : p.1 = k
    · rw [if_pos (congrArg Sum.inr z)]
      simp only [Function.comp_apply, if_pos z]
    · rw [if_neg fun y => z (Sum.inr.inj y)]
      simp only [Function.comp_apply, if_neg z]
  · rw [if_neg e, if_neg e]
    unfold dV
    rw [List.map_append]
    rfl
theorem dropK_dV (d : KVs) (k : Str) : dropK (dV d) (Sum.inr k) = dV (dropP d k) := by
  unfold dropK dropP dV
  rw [List.filter_map]
  congr 1
  refine List.filter_congr fun p _ => ?_
  show decide ((Sum.inr p.1 : Key) ≠ Sum.inr k) = decide (p.1 ≠ k)
  refine decide_eq_decide.mpr (not_congr ⟨fun y => Sum.inr.inj y, fun y => congrArg Sum.inr y⟩)
theorem keys_dV (d : KVs) : (dV d).map (·.1) = (d.map (·.1)).map Sum.inr := by
  unfold dV
  rw [List.map_map, List.map_map]
  rfl
theorem getP_any (d : KVs) (k : Str) : (d.any fun p => decide (p.1 = k)) = (getP d k).isSome := by
  induction d with
  | nil => rfl
  | cons p r ih =>
    rw [List.any_cons]
    unfold getP
    by_cases e : p.1 = k
    · rw [List.find?_cons_of_pos (by exact decide_eq_true e), decide_eq_true e]; rfl
    · rw [List.find?_cons_of_neg (by rw [decide_eq_false e]; decide), decide_eq_false e, Bool.false_or, ih]; rfl
theorem getP_none {d : KVs} {k : Str} : getP d k = none ↔ k ∉ d.map (·.1) := by
  rw [← Option.not_isSome_iff_eq_none, ← getP_any, List.any_eq_true]
  constructor
  · intro h m
    obtain ⟨p, hp, e⟩ := List.mem_map.mp m
    exact h ⟨p, hp, decide_eq_true e⟩
  · rintro h ⟨p, hp, e⟩
    exact h (List.mem_map.mpr ⟨p, hp, of_decide_eq_true e⟩)
theorem getP_mem {d : KVs} {k v : Str} (h : getP d k = some v) : (k, v) ∈ d := by
  unfold getP at h
  cases e : d.find? (fun p => decide (p.1 = k)) with
  | none => rw [e] at h; cases h
  | some p =>
    rw [e] at h
    have h1 : p.2 = v := Option.some.inj h
    have h2 : p.1 = k := of_decide_eq_true (List.find?_some (p := fun p : Str × Str => decide (p.1 = k)) e)
    have h3 := List.mem_of_find?_eq_some e
    rw [← h1, ← h2]
    exact h3
theorem getP_of {d : KVs} (n : (d.map (·.1)).Nodup) {p : Str × Str} (h : p ∈ d) : getP d p.1 = some p.2 := by
  induction d with
  | nil => cases h
  | cons q r ih =>
    rw [List.map_cons, List.nodup_cons] at n
    unfold getP
    rcases List.mem_cons.mp h with e | h
    · subst e
      rw [List.find?_cons_of_pos (by exact decide_eq_true rfl)]; rfl
    · have ne : ¬ q.1 = p.1 := fun z => n.1 (z ▸ List.mem_map.mpr ⟨p, h, rfl⟩)
      rw [List.find?_cons_of_neg (by rw [decide_eq_false ne]; decide)]
      exact ih n.2 h
theorem keys_putP_old {d : KVs} {k v : Str} (h : (d.any fun p => decide (p.1 = k)) = true) : (putP d k v).map (·.1) = d.map (·.1) := by
  unfold putP
  rw [if_pos h, List.map_map]
  refine List.map_congr_left fun p _ => ?_
  by_cases z : p.1 = k
  · simp only [Function.comp_apply, if_pos z]
  · simp only [Function.comp_apply, if_neg z]
theorem putP_nodup {d : KVs} {k v : Str} (n : (d.map (·.1)).Nodup) : ((putP d k v).map (·.1)).Nodup := by
  by_cases h : (d.any fun p => decide (p.1 = k)) = true
  · rw [keys_putP_old h]; exact n
  · unfold putP
    rw [if_neg h, List.map_append, List.map_cons, List.map_nil]
    have nk : k ∉ d.map (·.1) := by
      rw [← getP_none, ← Option.not_isSome_iff_eq_none, ← getP_any]
      exact h
    refine List.nodup_append.mpr ⟨n, List.nodup_cons.mpr ⟨fun z => (nomatch z), List.nodup_nil⟩, fun a ha b hb z => nk ?_⟩
    have z2 : a = k := z.trans (List.mem_singleton.mp hb)
    rw [← z2]
    exact ha
theorem putP_len (d : KVs) (k v : Str) : (putP d k v).length ≤ d.length + 1 := by
  unfold putP
  split
  · rw [List.length_map]; exact Nat.le_succ _
  · rw [List.length_append]; exact Nat.le_refl _
theorem dropP_len (d : KVs) (k : Str) : (dropP d k).length ≤ d.length := List.length_filter_le _ _
theorem dropP_nodup {d : KVs} {k : Str} (n : (d.map (·.1)).Nodup) : ((dropP d k).map (·.1)).Nodup := n.sublist (List.Sublist.map _ List.filter_sublist)
theorem getP_putP (d : KVs) (k v j : Str) : getP (putP d k v) j = if k = j then some v else getP d j := by
  unfold putP
  by_cases h : (d.any fun p => decide (p.1 = k)) = true
  · rw [if_pos h]
    induction d with
    | nil => cases h
    | cons p r ih =>
      rw [List.map_cons]
      unfold getP
      by_cases z : p.1 = k
      · rw [if_pos z]
        by_cases e : k = j
        · rw [if_pos e, List.find?_cons_of_pos (by exact decide_eq_true (z.trans e))]; rfl
        · have e' : ¬ p.1 = j := fun y => e (z.symm.trans y)
          rw [if_neg e, List.find?_cons_of_neg (by rw [decide_eq_false e']; decide), List.find?_cons_of_neg (by rw [decide_eq_false e']; decide)]
          by_cases h' : (r.any fun p => decide (p.1 = k)) = true
          · have := ih h'
            rw [if_neg e] at this
            exact this
          · have : r.map (fun p => if p.1 = k then (p.1, v) else p) = r := by
              refine (List.map_congr_left fun q hq => ?_).trans (List.map_id r)
              rw [if_neg fun y => h' (List.any_eq_true.mpr ⟨q, hq, decide_eq_true y⟩)]
              rfl
            rw [this]
      · rw [if_neg z]
        have h' : (r.any fun p => decide (p.1 = k)) = true := by
          rw [List.any_cons, decide_eq_false z, Bool.false_or] at h
          exact h
        by_cases e : p.1 = j
        · rw [List.find?_cons_of_pos (by exact decide_eq_true e), List.find?_cons_of_pos (by exact decide_eq_true e), if_neg fun y => z (e.trans y.symm)]
        · rw [List.find?_cons_of_neg (by rw [decide_eq_false e]; decide), List.find?_cons_of_neg (by rw [decide_eq_false e]; decide)]
          exact ih h'
  · rw [if_neg h]
    induction d with
    | nil =>
      show getP [(k, v)] j = _
      unfold getP
      by_cases e : k = j
      · rw [if_pos e, List.find?_cons_of_pos (by exact decide_eq_true e)]; rfl
      · rw [if_neg e, List.find?_cons_of_neg (by rw [decide_eq_false e]; decide)]
    | cons p r ih =>
      have h2 := h
      rw [List.any_cons, Bool.or_eq_true, not_or] at h2
      have z : ¬ p.1 = k := fun y => h2.1 (decide_eq_true y)
      rw [List.cons_append]
      unfold getP
      by_cases e : p.1 = j
      · rw [List.find?_cons_of_pos (by exact decide_eq_true e), List.find?_cons_of_pos (by exact decide_eq_true e), if_neg fun y => z (e.trans y.symm)]
      · rw [List.find?_cons_of_neg (by rw [decide_eq_false e]; decide), List.find?_cons_of_neg (by rw [decide_eq_false e]; decide)]
        exact ih h2.2
theorem getP_dropP (d : KVs) (k j : Str) : getP (dropP d k) j = if k = j then none else getP d j := by
  induction d with
  | nil => split <;> rfl
  | cons p r ih =>
    unfold dropP at ih ⊢
    by_cases z : p.1 = k
    · rw [List.filter_cons_of_neg (by simp [z]), ih]
      by_cases e : k = j
      · rw [if_pos e, if_pos e]
      · rw [if_neg e, if_neg e]
        unfold getP
        rw [List.find?_cons_of_neg (by rw [decide_eq_false fun y => e (z.symm.trans y)]; decide)]
    · rw [List.filter_cons_of_pos (by simp [z])]
      unfold getP at ih ⊢
      by_cases e : p.1 = j
      · rw [List.find?_cons_of_pos (by exact decide_eq_true e), List.find?_cons_of_pos (by exact decide_eq_true e), if_neg fun y => z (e.trans y.symm)]
      · rw [List.find?_cons_of_neg (by rw [decide_eq_false e]; decide), List.find?_cons_of_neg (by rw [decide_eq_false e]; decide)]
        exact ih
/-- just what f tells, in the keys' order -/
structure Told (f : Str → Option Str) (ps : KVs) : Prop where
  srt : PyProof.Rows.sortedS (ps.map (·.1)) = true
  nd : (ps.map (·.1)).Nodup
  get : ∀ k, getP ps k = f k
theorem Told.uniq {f : Str → Option Str} {ps qs : KVs} (a : Told f ps) (b : Told f qs) : ps = qs := by
  have pe : (ps.map (·.1)).Perm (qs.map (·.1)) := by
    refine (List.perm_ext_iff_of_nodup a.nd b.nd).mpr fun k => ?_
    have h1 := getP_none (d := ps) (k := k)
    have h2 := getP_none (d := qs) (k := k)
    rw [a.get] at h1
    rw [b.get] at h2
    exact Decidable.not_iff_not.mp (h1.symm.trans h2)
  have ke := sortedS_uniq a.srt b.srt pe
  have self : ∀ {xs : KVs}, Told f xs → xs = (xs.map (·.1)).map fun k => (k, (f k).getD "") := fun {xs} t => by
    rw [List.map_map]
    refine (List.map_id xs).symm.trans (List.map_congr_left fun p hp => ?_)
    have g := getP_of t.nd hp
    rw [t.get] at g
    show p = (p.1, (f p.1).getD "")
    rw [g]
    rfl
  rw [self a, self b, ke]
/-- sorted keys of a table, each with what it holds -/
theorem told_of {d : KVs} (n : (d.map (·.1)).Nodup) {ys : List Str} (p : ys.Perm (d.map (·.1))) (s : PyProof.Rows.sortedS ys = true) : Told (getP d) (ys.map fun k => (k, (getP d k).getD "")) := by
  have e : (ys.map fun k => (k, (getP d k).getD "")).map (·.1) = ys := by
    rw [List.map_map]
    exact (List.map_congr_left fun _ _ => rfl).trans (List.map_id ys)
  have nd := p.nodup_iff.mpr n
  refine ⟨by rw [e]; exact s, by rw [e]; exact nd, fun k => ?_⟩
  by_cases h : k ∈ ys
  · have := getP_of (d := ys.map fun k => (k, (getP d k).getD "")) (by rw [e]; exact nd) (List.mem_map.mpr ⟨k, h, rfl⟩)
    rw [this]
    cases g : getP d k with
    | some v => rfl
    | none => exact absurd (p.mem_iff.mp h) (getP_none.mp g)
  · rw [getP_none.mpr (by rw [e]; exact h), getP_none.mpr fun z => h (p.mem_iff.mpr z)]
end KB

namespace KB
open PySem L2 L2H LX
/-! ### ears by themselves, as plain lists -/
structure GoodR (r : Row) : Prop where
  ok : r.Ok
  wd : r.w = "put" ∨ r.w = "cut"
/-- the number of the last that was taken in -/
def lastN (b : Int) (tk : List Row) : Int := match tk.getLast? with
  | some r => r.n
  | none => b - 1
def takeM (b : Int) (tk : List Row) : List Row → List Row
  | [] => tk
  | r :: rs => takeM b (if r.n > lastN b tk then tk ++ [r] else tk) rs
def stepM (f : Str → Option Str) (r : Row) : Str → Option Str := fun k => if r.k = k then (if r.w = "put" then some r.v else none) else f k
def holdM (gv : KVs) (tk : List Row) : Str → Option Str := tk.foldl stepM (getP gv)
theorem lastN_snoc (b : Int) (tk : List Row) (r : Row) : lastN b (tk ++ [r]) = r.n := by
  unfold lastN
  rw [List.getLast?_concat]
theorem takeM_len (b : Int) : ∀ (rs tk : List Row), (takeM b tk rs).length ≤ tk.length + rs.length
  | [], tk => Nat.le_refl _
  | r :: rs, tk => by
    unfold takeM
    refine Nat.le_trans (takeM_len b rs _) ?_
    split
    · rw [List.length_append, List.length_cons, List.length_cons, List.length_nil]; omega
    · rw [List.length_cons]; omega
theorem takeM_good {b : Int} : ∀ {rs tk : List Row}, (∀ r ∈ tk, GoodR r) → (∀ r ∈ rs, GoodR r) → ∀ r ∈ takeM b tk rs, GoodR r
  | [], tk, h, _ => h
  | r :: rs, tk, h, g => by
    unfold takeM
    refine takeM_good (rs := rs) ?_ (fun x hx => g x (List.mem_cons_of_mem _ hx))
    split
    · intro x hx
      rcases List.mem_append.mp hx with hx | hx
      · exact h x hx
      · rw [List.mem_singleton.mp hx]; exact g r List.mem_cons_self
    · exact h
theorem takeM_app (b : Int) : ∀ (rs tk ss : List Row), takeM b tk (rs ++ ss) = takeM b (takeM b tk rs) ss
  | [], tk, ss => rfl
  | r :: rs, tk, ss => by
    rw [List.cons_append]
    show takeM b _ (rs ++ ss) = takeM b (takeM b _ rs) ss
    exact takeM_app b rs _ ss
def PairOkF (f : Str → Option Str) : Prop := ∀ k v, f k = some v → TOk 60 k ∧ TOk 60 v
theorem holdF {gv : KVs} (h : ∀ p ∈ gv, PairOk p) : PairOkF (getP gv) := fun k v e => h (k, v) (getP_mem e)
theorem stepF {f : Str → Option Str} {r : Row} (h : PairOkF f) (g : r.Ok) : PairOkF (stepM f r) := fun k v e => by
  unfold stepM at e
  by_cases c : r.k = k
  · rw [if_pos c] at e
    by_cases d : r.w = "put"
    · rw [if_pos d] at e
      cases e
      exact ⟨c ▸ g.k, g.v⟩
    · rw [if_neg d] at e
      cases e
  · rw [if_neg c] at e
    exact h k v e
theorem foldF {f : Str → Option Str} : ∀ {tk : List Row}, PairOkF f → (∀ r ∈ tk, GoodR r) → PairOkF (tk.foldl stepM f)
  | [], h, _ => h
  | r :: tk, h, g => foldF (tk := tk) (stepF h (g r List.mem_cons_self).ok) fun x hx => g x (List.mem_cons_of_mem _ hx)
theorem Told.ok {f : Str → Option Str} {ps : KVs} (h : PairOkF f) (t : Told f ps) : ∀ p ∈ ps, PairOk p := fun p hp => by
  have := getP_of t.nd hp
  rw [t.get] at this
  exact h _ _ this
/-! ### what stands by an ear, whatever it is made of -/
abbrev ErT := List Addr → Hp → Addr → Int → KVs → List Row → Prop
def spEarInit (K : PySem.W.Frag) (C : Addr) (Er : ErT) : Sp := fun vs H Q _ => ∃ (p dx : Addr) (b : Int) (gv : KVs) (pv : V), vs = [.ref p, .int b, pv] ∧ H p = some (.ins C dx []) ∧ 1 ≤ b ∧ (gv.map (·.1)).Nodup ∧ (∀ x ∈ gv, PairOk x) ∧ gv.length ≤ 200 ∧
  ((pv = .non ∧ gv = []) ∨ ∃ q ts, pv = .ref q ∧ (SqL K H q (ts.map V.ref) ∨ SqT K H q (ts.map V.ref)) ∧ PairsAt H ts gv) ∧
  ∀ F H', Er F H' p b gv [] → (∀ a ∈ F, a = p ∨ H a = none) → Ch H H' [p] → Q .non H'
def spEarHear (Er : ErT) : Sp := fun vs H Q _ => ∃ (F : List Addr) (p q : Addr) (b : Int) (gv : KVs) (tk rs : List Row) (ts : List Addr), vs = [.ref p, .ref q] ∧ Er F H p b gv tk ∧ H q = some (.lst (ts.map V.ref)) ∧ q ∉ F ∧ RowsAt H ts rs ∧ (∀ r ∈ rs, GoodR r) ∧
  gv.length + tk.length + rs.length ≤ 990 ∧ ∀ F' H', Er F' H' p b gv (takeM b tk rs) → Grow F F' H → Ch H H' F → Q (.int (lastN b (takeM b tk rs))) H'
def spEarHeard (Er : ErT) : Sp := fun vs H Q _ => ∃ (F : List Addr) (p : Addr) (b : Int) (gv : KVs) (tk : List Row), vs = [.ref p] ∧ Er F H p b gv tk ∧
  ∀ F' q ts H', Er F' H' p b gv tk → Grow F F' H → Ch H H' F → H q = none → q ∉ F' → H' q = some (.lst (ts.map V.ref)) → RowsAt H' ts tk → Q (.ref q) H'
def spEarState (Er : ErT) : Sp := fun vs H Q _ => ∃ (F : List Addr) (p : Addr) (b : Int) (gv : KVs) (tk : List Row), vs = [.ref p] ∧ Er F H p b gv tk ∧ gv.length + tk.length ≤ 990 ∧ (∀ r ∈ tk, GoodR r) ∧
  ∀ F' q ts ps H', Er F' H' p b gv tk → Grow F F' H → Ch H H' F → H q = none → q ∉ F' → H' q = some (.lst (ts.map V.ref)) → PairsAt H' ts ps → Told (holdM gv tk) ps → Q (.ref q) H'
def spEarMany (Er : ErT) : Sp := fun vs H Q _ => ∃ (F : List Addr) (p : Addr) (b : Int) (gv : KVs) (tk : List Row), vs = [.ref p] ∧ Er F H p b gv tk ∧ ∀ F' H', Er F' H' p b gv tk → Grow F F' H → Ch H H' F → Q (.int tk.length) H'
structure EarApi (P : Program) (w : World) (K : PySem.W.Frag) (mg : Str → Option Value) (base : Heap) (C : Addr) (Er : ErT) (hs : List Str) : Prop where
  frame : ∀ {F H H' p b gv tk l}, Er F H p b gv tk → Ch H H' l → (∀ a ∈ F, a ∉ l) → Er F H' p b gv tk
  own : ∀ {F H p b gv tk}, Er F H p b gv tk → ∀ a ∈ F, ∃ o, H a = some o
  inst : ∀ {F H p b gv tk}, Er F H p b gv tk → p ∈ F ∧ ∃ dx fs, H p = some (.ins C dx fs) ∧ ∀ m ∈ ([("hear" : Str), "heard", "state", "many"] : List Str), fs.lookup m = none
  make : ∃ f fd ps, Mk K C f ∧ FnOk P w K mg base CX0 4 f fd ps (spEarInit K C Er) ∧ Binds K fd ps [] ∧ (∃ ds, Vals [.non] ds ∧ Binds K fd ps ds) ∧ (∃ ds, Vals [.int 1, .non] ds ∧ Binds K fd ps ds) ∧
    ∃ g, KBn K fd ps 1 ["pairs", "start"] g fun vs zs => vs ++ zs.reverse
  hear : MDef P w K mg base C "hear" CX0 4 (spEarHear Er)
  heard : MDef P w K mg base C "heard" CX0 4 (spEarHeard Er)
  state : ("state" : Str) ∈ hs → MDef P w K mg base C "state" CX0 4 (spEarState Er)
  many : ("many" : Str) ∈ hs → MDef P w K mg base C "many" CX0 4 (spEarMany Er)
end KB

namespace KB
open PySem L2 L2H LX
/-! ### tables of any kind, beside the dicts that hold them -/
section
variable {α β : Type} [DecidableEq α]
def getA (d : List (α × β)) (k : α) : Option β := (d.find? fun p => decide (p.1 = k)).map (·.2)
def putA (d : List (α × β)) (k : α) (v : β) : List (α × β) := if (d.any fun p => decide (p.1 = k)) = true then d.map (fun p => if p.1 = k then (p.1, v) else p) else d ++ [(k, v)]
def dropA (d : List (α × β)) (k : α) : List (α × β) := d.filter fun p => decide (p.1 ≠ k)
theorem getA_nil (k : α) : getA ([] : List (α × β)) k = none := rfl
theorem getA_pos {p : α × β} {r : List (α × β)} {k : α} (e : p.1 = k) : getA (p :: r) k = some p.2 := by
  unfold getA
  rw [List.find?_cons_of_pos (by exact decide_eq_true e)]; rfl
theorem getA_neg {p : α × β} {r : List (α × β)} {k : α} (e : ¬ p.1 = k) : getA (p :: r) k = getA r k := by
  unfold getA
  rw [List.find?_cons_of_neg (by rw [decide_eq_false e]; decide)]
theorem getA_any (d : List (α × β)) (k : α) : (d.any fun p => decide (p.1 = k)) = (getA d k).isSome := by
  induction d with
  | nil => rfl
  | cons p r ih =>
    rw [List.any_cons]
    by_cases e : p.1 = k
    · rw [getA_pos e, decide_eq_true e]; rfl
    · rw [getA_neg e, decide_eq_false e, Bool.false_or, ih]
theorem getA_none {d : List (α × β)} {k : α} : getA d k = none ↔ k ∉ d.map (·.1) := by
  rw [← Option.not_isSome_iff_eq_none, ← getA_any, List.any_eq_true]
  constructor
  · intro h m
    obtain ⟨p, hp, e⟩ := List.mem_map.mp m
    exact h ⟨p, hp, decide_eq_true e⟩
  · rintro h ⟨p, hp, e⟩
    exact h (List.mem_map.mpr ⟨p, hp, of_decide_eq_true e⟩)
theorem getA_mem {d : List (α × β)} {k : α} {v : β} (h : getA d k = some v) : (k, v) ∈ d := by
  induction d with
  | nil => cases h
  | cons p r ih =>
    by_cases e : p.1 = k
    · rw [getA_pos e] at h
      have : p.2 = v := Option.some.inj h
      rw [← this, ← e]
      exact List.mem_cons_self
    · rw [getA_neg e] at h
      exact List.mem_cons_of_mem _ (ih h)
theorem getA_of {d : List (α × β)} (n : (d.map (·.1)).Nodup) {p : α × β} (h : p ∈ d) : getA d p.1 = some p.2 := by
  induction d with
  | nil => cases h
  | cons q r ih =>
    rw [List.map_cons, List.nodup_cons] at n
    rcases List.mem_cons.mp h with e | h
    · subst e
      exact getA_pos rfl
    · rw [getA_neg fun z => n.1 (z ▸ List.mem_map.mpr ⟨p, h, rfl⟩)]
      exact ih n.2 h
theorem putA_new {d : List (α × β)} {k : α} {v : β} (h : getA d k = none) : putA d k v = d ++ [(k, v)] := by
  unfold putA
  rw [getA_any, h, if_neg (fun z => by cases z)]
theorem keys_putA_old {d : List (α × β)} {k : α} {v : β} (h : (d.any fun p => decide (p.1 = k)) = true) : (putA d k v).map (·.1) = d.map (·.1) := by
  unfold putA
  rw [if_pos h, List.map_map]
  refine List.map_congr_left fun p _ => ?_
  by_cases z : p.1 = k
  · simp only [Function.comp_apply, if_pos z]
  · simp only [Function.comp_apply, if_neg z]
theorem putA_nodup {d : List (α × β)} {k : α} {v : β} (n : (d.map (·.1)).Nodup) : ((putA d k v).map (·.1)).Nodup := by
  cases h : getA d k with
  | some x => rw [keys_putA_old (by rw [getA_any, h]; rfl)]; exact n
  | none =>
    rw [putA_new h, List.map_append, List.map_cons, List.map_nil]
    refine List.nodup_append.mpr ⟨n, List.nodup_cons.mpr ⟨fun z => (nomatch z), List.nodup_nil⟩, fun a ha b hb z => getA_none.mp h ?_⟩
    have z2 : a = k := z.trans (List.mem_singleton.mp hb)
    rw [← z2]
    exact ha
theorem putA_len (d : List (α × β)) (k : α) (v : β) : (putA d k v).length ≤ d.length + 1 := by
  unfold putA
  split
  · rw [List.length_map]; exact Nat.le_succ _
  · rw [List.length_append]; exact Nat.le_refl _
theorem dropA_len (d : List (α × β)) (k : α) : (dropA d k).length ≤ d.length := List.length_filter_le _ _
theorem dropA_nodup {d : List (α × β)} {k : α} (n : (d.map (·.1)).Nodup) : ((dropA d k).map (·.1)).Nodup := n.sublist (List.Sublist.map _ List.filter_sublist)
theorem getA_mapneg {d : List (α × β)} {k j : α} {v : β} (e : ¬ k = j) : getA (d.map fun p => if p.1 = k then (p.1, v) else p) j = getA d j := by
  induction d with
  | nil => rfl
  | cons p r ih =>
    rw [List.map_cons]
    by_cases z : p.1 = k
    · rw [if_pos z, getA_neg (p := (p.1, v)) (fun y => e (z.symm.trans y)), getA_neg (p := p) (fun y => e (z.symm.trans y)), ih]
    · rw [if_neg z]
      by_cases y : p.1 = j
      · rw [getA_pos y, getA_pos y]
      · rw [getA_neg y, getA_neg y, ih]
theorem getA_mappos {d : List (α × β)} {k : α} {v : β} (h : (getA d k).isSome = true) : getA (d.map fun p => if p.1 = k then (p.1, v) else p) k = some v := by
  induction d with
  | nil => cases h
  | cons p r ih =>
    rw [List.map_cons]
    by_cases z : p.1 = k
    · rw [if_pos z]; exact getA_pos z
    · rw [if_neg z, getA_neg z]
      rw [getA_neg z] at h
      exact ih h
theorem getA_app {d : List (α × β)} {k j : α} {v : β} (h : getA d k = none) : getA (d ++ [(k, v)]) j = if k = j then some v else getA d j := by
  induction d with
  | nil =>
    show getA [(k, v)] j = _
    by_cases e : k = j
    · rw [if_pos e]; exact getA_pos e
    · rw [if_neg e]; exact getA_neg e
  | cons p r ih =>
    have z : ¬ p.1 = k := fun y => by rw [getA_pos y] at h; cases h
    rw [getA_neg z] at h
    rw [List.cons_append]
    by_cases e : p.1 = j
    · rw [getA_pos e, getA_pos e, if_neg fun y => z (e.trans y.symm)]
    · rw [getA_neg e, getA_neg e, ih h]
theorem getA_putA (d : List (α × β)) (k j : α) (v : β) : getA (putA d k v) j = if k = j then some v else getA d j := by
  cases h : getA d k with
  | none => rw [putA_new h, getA_app h]
  | some x =>
    have e : (d.any fun p => decide (p.1 = k)) = true := by rw [getA_any, h]; rfl
    unfold putA
    rw [if_pos e]
    by_cases z : k = j
    · rw [if_pos z, ← z]
      exact getA_mappos (by rw [h]; rfl)
    · rw [if_neg z]
      exact getA_mapneg z
theorem getA_dropA (d : List (α × β)) (k j : α) : getA (dropA d k) j = if k = j then none else getA d j := by
  induction d with
  | nil => split <;> rfl
  | cons p r ih =>
    unfold dropA at ih ⊢
    by_cases z : p.1 = k
    · rw [List.filter_cons_of_neg (by simp [z]), ih]
      by_cases e : k = j
      · rw [if_pos e, if_pos e]
      · rw [if_neg e, if_neg e, getA_neg fun y => e (z.symm.trans y)]
    · rw [List.filter_cons_of_pos (by simp [z])]
      by_cases e : p.1 = j
      · rw [getA_pos e, getA_pos e, if_neg fun y => z (e.trans y.symm)]
      · rw [getA_neg e, getA_neg e, ih]
/-- a dict's pairs beside a table's -/
abbrev DRel (inj : α → Key) (R : β → V → Prop) (d : List (α × β)) (kvs : List (Key × V)) : Prop := Paired (fun (p : α × β) (q : Key × V) => q.1 = inj p.1 ∧ R p.2 q.2) d kvs
theorem DRel.mono {inj : α → Key} {R R' : β → V → Prop} {d : List (α × β)} {kvs : List (Key × V)} (h : DRel inj R d kvs) (s : ∀ b v, R b v → R' b v) : DRel inj R' d kvs := Paired.mono (fun _ _ q => ⟨q.1, s _ _ q.2⟩) h
theorem DRel.get {inj : α → Key} (hi : ∀ a b, inj a = inj b → a = b) {R : β → V → Prop} : ∀ {d : List (α × β)} {kvs : List (Key × V)}, DRel inj R d kvs → ∀ k, (getA d k = none ∧ valV kvs (inj k) = none) ∨ ∃ b v, getA d k = some b ∧ valV kvs (inj k) = some v ∧ R b v
  | _, _, .nil, k => .inl ⟨rfl, rfl⟩
  | p :: r, q :: s, .cons h m, k => by
    by_cases e : p.1 = k
    · exact .inr ⟨p.2, q.2, getA_pos e, valV_pos (h.1.trans (congrArg inj e)), h.2⟩
    · rw [getA_neg e, valV_neg (fun z => e (hi _ _ (h.1.symm.trans z)))]
      exact DRel.get hi m k
theorem DRel.some_ {inj : α → Key} (hi : ∀ a b, inj a = inj b → a = b) {R : β → V → Prop} {d : List (α × β)} {kvs : List (Key × V)} (h : DRel inj R d kvs) {k : α} {b : β} (e : getA d k = some b) : ∃ v, valV kvs (inj k) = some v ∧ R b v := by
  rcases h.get hi k with ⟨z, _⟩ | ⟨b', v, e1, e2, e3⟩
  · rw [e] at z; cases z
  · rw [e] at e1
    cases e1
    exact ⟨v, e2, e3⟩
theorem DRel.none_ {inj : α → Key} (hi : ∀ a b, inj a = inj b → a = b) {R : β → V → Prop} {d : List (α × β)} {kvs : List (Key × V)} (h : DRel inj R d kvs) {k : α} (e : getA d k = none) : valV kvs (inj k) = none := by
  rcases h.get hi k with ⟨_, z⟩ | ⟨b', v, e1, e2, e3⟩
  · exact z
  · rw [e] at e1; cases e1
theorem DRel.isSome {inj : α → Key} (hi : ∀ a b, inj a = inj b → a = b) {R : β → V → Prop} {d : List (α × β)} {kvs : List (Key × V)} (h : DRel inj R d kvs) (k : α) : (valV kvs (inj k)).isSome = (getA d k).isSome := by
  rcases h.get hi k with ⟨z1, z2⟩ | ⟨b', v, e1, e2, e3⟩
  · rw [z1, z2]; rfl
  · rw [e1, e2]; rfl
theorem DRel.put {inj : α → Key} (hi : ∀ a b, inj a = inj b → a = b) {R : β → V → Prop} {d : List (α × β)} {kvs : List (Key × V)} (h : DRel inj R d kvs) {k : α} {b : β} {v : V} (r : R b v) : DRel inj R (putA d k b) (putK kvs (inj k) v) := by
  have any_ : (kvs.any fun kv => decide (kv.1 = inj k)) = d.any fun p => decide (p.1 = k) := by
    rw [valV_any, getA_any]
    exact h.isSome hi k
  unfold putA putK
  rw [any_]
  by_cases e : (d.any fun p => decide (p.1 = k)) = true
  · rw [if_pos e, if_pos e]
    clear e any_
    induction h with
    | nil => exact .nil
    | cons x m ih =>
      rename_i p q l1 l2
      refine .cons ?_ ih
      show (if q.1 = inj k then (q.1, v) else q).1 = inj (if p.1 = k then (p.1, b) else p).1 ∧ R (if p.1 = k then (p.1, b) else p).2 (if q.1 = inj k then (q.1, v) else q).2
      by_cases z : p.1 = k
      · rw [if_pos z, if_pos (x.1.trans (congrArg inj z))]
        exact ⟨x.1, r⟩
      · rw [if_neg z, if_neg fun y => z (hi _ _ (x.1.symm.trans y))]
        exact x
  · rw [if_neg e, if_neg e]
    exact Paired.snoc h ⟨rfl, r⟩
theorem DRel.drop {inj : α → Key} (hi : ∀ a b, inj a = inj b → a = b) {R : β → V → Prop} {d : List (α × β)} {kvs : List (Key × V)} (h : DRel inj R d kvs) (k : α) : DRel inj R (dropA d k) (dropK kvs (inj k)) := by
  unfold dropA dropK
  induction h with
  | nil => exact .nil
  | cons x m ih =>
    rename_i p q l1 l2
    by_cases z : p.1 = k
    · rw [List.filter_cons_of_neg (by simp [z]), List.filter_cons_of_neg (by simp [x.1, z])]
      exact ih
    · have z2 : ¬ q.1 = inj k := fun y => z (hi _ _ (x.1.symm.trans y))
      rw [List.filter_cons_of_pos (by simp [z]), List.filter_cons_of_pos (by simp [z2])]
      exact .cons x ih
theorem DRel.keys {inj : α → Key} {R : β → V → Prop} {d : List (α × β)} {kvs : List (Key × V)} (h : DRel inj R d kvs) : kvs.map (·.1) = (d.map (·.1)).map inj := by
  induction h with
  | nil => rfl
  | cons x m ih => rw [List.map_cons, List.map_cons, List.map_cons, ih, x.1]
theorem DRel.len {inj : α → Key} {R : β → V → Prop} {d : List (α × β)} {kvs : List (Key × V)} (h : DRel inj R d kvs) : kvs.length = d.length := (Paired.length h).symm
end
theorem inl_inj (a b : Int) (h : (Sum.inl a : Key) = Sum.inl b) : a = b := Sum.inl.inj h
theorem inr_inj (a b : Str) (h : (Sum.inr a : Key) = Sum.inr b) : a = b := Sum.inr.inj h
end KB

namespace KA1
open PySem L2 L2H LX KB
/-! ### pairs of ints: the mathematics -/
abbrev Al := List (Int × Int)
def kv (l : Al) : List (Key × V) := l.map fun p => (Sum.inl p.1, V.int p.2)
def aget : Al → Int → Option Int
  | [], _ => none
  | p :: r, k => if p.1 = k then some p.2 else aget r k
def aput (l : Al) (k v : Int) : Al :=
  if (l.any fun p => decide (p.1 = k)) = true then l.map (fun p => if p.1 = k then (p.1, v) else p) else l ++ [(k, v)]
def adrop (l : Al) (k : Int) : Al := l.filter fun p => decide (p.1 ≠ k)
def NDup (l : Al) : Prop := (l.map (·.1)).Nodup
theorem kv_len (l : Al) : (kv l).length = l.length := List.length_map _
theorem inl_iff {a b : Int} : ((Sum.inl a : Key) = Sum.inl b) ↔ a = b := ⟨fun h => Sum.inl.inj h, fun h => by rw [h]⟩
theorem valV_kv (k : Int) : ∀ l : Al, valV (kv l) (Sum.inl k) = (aget l k).map V.int
  | [] => rfl
  | p :: r => by
    show valV ((Sum.inl p.1, V.int p.2) :: kv r) (Sum.inl k) = _
    by_cases h : p.1 = k
    · rw [valV_pos (p := ((Sum.inl p.1 : Key), V.int p.2)) (show (Sum.inl p.1 : Key) = Sum.inl k by rw [h])]
      simp [aget, h]
    · rw [valV_neg (p := ((Sum.inl p.1 : Key), V.int p.2)) (fun e => h (inl_iff.mp e)), valV_kv k r]
      simp [aget, h]
theorem any_kv (k : Int) (l : Al) : ((kv l).any fun q => decide (q.1 = (Sum.inl k : Key))) = l.any fun p => decide (p.1 = k) := by
  unfold kv
  rw [List.any_map]
  congr 1
  funext p
  show decide ((Sum.inl p.1 : Key) = Sum.inl k) = decide (p.1 = k)
  by_cases h : p.1 = k
  · rw [decide_eq_true h, decide_eq_true (inl_iff.mpr h)]
  · rw [decide_eq_false h, decide_eq_false fun e => h (inl_iff.mp e)]
theorem put_kv (l : Al) (k v : Int) : putK (kv l) (Sum.inl k : Key) (V.int v) = kv (aput l k v) := by
  unfold putK aput
  rw [any_kv]
  by_cases h : (l.any fun p => decide (p.1 = k)) = true
  · rw [if_pos h, if_pos h]
    unfold kv
    rw [List.map_map, List.map_map]
    congr 1
    funext p
    show (if (Sum.inl p.1 : Key) = Sum.inl k then ((Sum.inl p.1 : Key), V.int v) else (Sum.inl p.1, V.int p.2)) = ((Sum.inl (if p.1 = k then (p.1, v) else p).1 : Key), V.int (if p.1 = k then (p.1, v) else p).2)
    by_cases e : p.1 = k
    · rw [if_pos (inl_iff.mpr e), if_pos e]
    · rw [if_neg (fun z => e (inl_iff.mp z)), if_neg e]
  · rw [if_neg h, if_neg h]
    unfold kv
    rw [List.map_append]; rfl
theorem drop_kv (l : Al) (k : Int) : dropK (kv l) (Sum.inl k : Key) = kv (adrop l k) := by
  unfold dropK adrop kv
  rw [List.filter_map]
  congr 1
  congr 1
  funext p
  show decide ((Sum.inl p.1 : Key) ≠ Sum.inl k) = decide (p.1 ≠ k)
  exact decide_eq_decide.mpr (not_congr inl_iff)
theorem mapint_inj {a b : Option Int} (h : a.map V.int = b.map V.int) : a = b := by
  cases a <;> cases b <;> simp_all
theorem aget_put (l : Al) (k v j : Int) : aget (aput l k v) j = if j = k then some v else aget l j := by
  have h : (aget (aput l k v) j).map V.int = (if j = k then some v else aget l j).map V.int := by
    rw [← valV_kv, ← put_kv, valV_put]
    by_cases e : j = k
    · rw [if_pos (inl_iff.mpr e), if_pos e]; rfl
    · rw [if_neg (fun z => e (inl_iff.mp z)), if_neg e, valV_kv]
  exact mapint_inj h
theorem aget_any (k : Int) : ∀ l : Al, (l.any fun p => decide (p.1 = k)) = (aget l k).isSome
  | [] => rfl
  | p :: r => by
    rw [List.any_cons, aget_any k r]
    by_cases h : p.1 = k
    · simp [aget, h]
    · simp [aget, h]
theorem len_put (l : Al) (k v : Int) : (aput l k v).length ≤ l.length + 1 := by
  unfold aput
  split
  · rw [List.length_map]; omega
  · rw [List.length_append]; simp
theorem len_drop (l : Al) (k : Int) : (adrop l k).length ≤ l.length := List.length_filter_le _ _
theorem aget_mem {k v : Int} : ∀ {l : Al}, aget l k = some v → (k, v) ∈ l
  | [], h => by cases h
  | p :: r, h => by
    unfold aget at h
    by_cases e : p.1 = k
    · rw [if_pos e] at h
      cases h
      exact List.mem_cons.mpr (.inl (by rw [← e]))
    · rw [if_neg e] at h
      exact List.mem_cons.mpr (.inr (aget_mem h))
theorem aget_of {k v : Int} : ∀ {l : Al}, NDup l → (k, v) ∈ l → aget l k = some v
  | [], _, h => by cases h
  | p :: r, nd, h => by
    obtain ⟨h1, h2⟩ := List.nodup_cons.mp (show (p.1 :: r.map (·.1)).Nodup from nd)
    unfold aget
    rcases List.mem_cons.mp h with e | e
    · rw [← e]; simp
    · have ne : ¬ p.1 = k := fun z => h1 (List.mem_map.mpr ⟨(k, v), e, z.symm⟩)
      rw [if_neg ne]
      exact aget_of h2 e
theorem nd_adrop {l : Al} (k : Int) (h : NDup l) : NDup (adrop l k) := h.sublist (List.filter_sublist.map _)
theorem nd_aput {l : Al} (k v : Int) (h : NDup l) : NDup (aput l k v) := by
  unfold aput
  by_cases e : (l.any fun p => decide (p.1 = k)) = true
  · rw [if_pos e]
    unfold NDup
    rw [List.map_map]
    have q : ((fun x : Int × Int => x.1) ∘ fun p : Int × Int => if p.1 = k then (p.1, v) else p) = fun p => p.1 := by
      funext p
      show (if p.1 = k then (p.1, v) else p).1 = p.1
      split <;> rfl
    rw [q]
    exact h
  · rw [if_neg e]
    unfold NDup
    rw [List.map_append]
    refine L2.nd_snoc h fun m => e ?_
    obtain ⟨p, hp, ep⟩ := List.mem_map.mp m
    exact List.any_eq_true.mpr ⟨p, hp, decide_eq_true ep⟩
theorem aget_drop {l : Al} {k j v : Int} (nd : NDup l) (h : aget (adrop l k) j = some v) : aget l j = some v ∧ j ≠ k := by
  have m := List.mem_filter.mp (aget_mem h)
  exact ⟨aget_of nd m.1, of_decide_eq_true m.2⟩
theorem aget_drop_ne {l : Al} {k j v : Int} (nd : NDup l) (h : aget l j = some v) (ne : j ≠ k) : aget (adrop l k) j = some v :=
  aget_of (nd_adrop k nd) (List.mem_filter.mpr ⟨aget_mem h, decide_eq_true ne⟩)
/-- which end up to a tick -/
def dueL (E : Al) (u : Int) : Al := (E.filter fun p => decide (p.2 ≤ u)).map fun p => (p.2, p.1)
/-- the order of pairs -/
def Asc (l : Al) : Prop := l.Pairwise fun x y => SrtO.lexB y x = false
theorem asc_uniq : ∀ {p q : Al}, Asc p → Asc q → p.Perm q → p = q
  | [], q, _, _, h => (List.nil_perm.mp h).symm
  | a :: p, q, hp, hq, h => by
    cases q with
    | nil => exact absurd h.length_eq (by simp)
    | cons b q =>
      obtain ⟨p1, p2⟩ := List.pairwise_cons.mp hp
      obtain ⟨q1, q2⟩ := List.pairwise_cons.mp hq
      have ab : a = b := by
        have ma : a ∈ b :: q := h.mem_iff.mp List.mem_cons_self
        have mb : b ∈ a :: p := h.mem_iff.mpr List.mem_cons_self
        rcases List.mem_cons.mp ma with e | ma
        · exact e
        rcases List.mem_cons.mp mb with e | mb
        · exact e.symm
        have x1 := SrtO.lexB_no.mp (p1 b mb)
        have x2 := SrtO.lexB_no.mp (q1 a ma)
        obtain ⟨a1, a2⟩ := a
        obtain ⟨b1, b2⟩ := b
        dsimp only at x1 x2
        have e1 : a1 = b1 := by omega
        have e2 : a2 = b2 := by omega
        rw [e1, e2]
      subst ab
      rw [asc_uniq p2 q2 (List.perm_cons a |>.mp h)]

end KA1

namespace KL
open PySem L2 L2H LX KB KA1
/-! ### a lot of leases -/
theorem k_tg : ¬ (("_ticks" : Str) = "_given") := by decide +kernel
theorem k_eg : ¬ (("_ends" : Str) = "_given") := by decide +kernel
theorem k_et : ¬ (("_ends" : Str) = "_ticks") := by decide +kernel
def flds (n : Int) (dt de : Addr) : List (Str × V) := putF "_ends" (.ref de) (putF "_ticks" (.ref dt) (putF "_given" (.int n) []))
theorem flds_eq (n : Int) (dt de : Addr) : flds n dt de = [(("_given" : Str), V.int n), ("_ticks", V.ref dt), ("_ends", V.ref de)] := by
  have h1 : ¬ (("_given" : Str) = "_ticks") := fun e => k_tg e.symm
  have h2 : ¬ (("_given" : Str) = "_ends") := fun e => k_eg e.symm
  have h3 : ¬ (("_ticks" : Str) = "_ends") := fun e => k_et e.symm
  unfold flds
  simp only [putF, if_neg h1, if_neg h2, if_neg h3]
theorem flds_n (n : Int) (dt de : Addr) : (flds n dt de).lookup ("_given" : Str) = some (.int n) := by
  unfold flds
  rw [lookup_putF, if_neg (fun e => k_eg e.symm), lookup_putF, if_neg (fun e => k_tg e.symm), lookup_putF, if_pos rfl]
theorem flds_t (n : Int) (dt de : Addr) : (flds n dt de).lookup ("_ticks" : Str) = some (.ref dt) := by
  unfold flds
  rw [lookup_putF, if_neg (fun e => k_et e.symm), lookup_putF, if_pos rfl]
theorem flds_e (n : Int) (dt de : Addr) : (flds n dt de).lookup ("_ends" : Str) = some (.ref de) := by
  unfold flds
  rw [lookup_putF, if_pos rfl]
theorem flds_no (n : Int) (dt de : Addr) {m : Str} (h1 : ¬ m = "_given") (h2 : ¬ m = "_ticks") (h3 : ¬ m = "_ends") : (flds n dt de).lookup m = none := by
  unfold flds
  rw [lookup_putF, if_neg h3, lookup_putF, if_neg h2, lookup_putF, if_neg h1]
  all_goals rfl
theorem flds_put (n y : Int) (dt de : Addr) : putF "_given" (.int y) (flds n dt de) = flds y dt de := by
  rw [flds_eq, flds_eq]
  simp only [putF, if_pos]
structure LotAt (C : Addr) (H : Hp) (p dt de : Addr) (n : Int) (T E : Al) : Prop where
  ob : ∃ dx, H p = some (.ins C dx (flds n dt de))
  tk : H dt = some (.dK (kv T))
  en : H de = some (.dK (kv E))
  ne : dt ≠ de
/-- what the walk asks of the class -/
structure LeaT (K : PySem.W.Frag) (mg : Str → Option Value) (C : Addr) : Prop where
  cl : Cls K C
  nG : NoAttr K C "_given"
  nT : NoAttr K C "_ticks"
  nE : NoAttr K C "_ends"
  mgC : mg "Leases" = some (.ref C)
/-- an own error class, made with a text -/
structure ErrT (K : PySem.W.Frag) (mg : Str → Option Value) (x : Str) (B : Addr) : Prop where
  g : mg x = some (.ref B)
  x : PySem.W.excIn K B [.type "ValueError", .type "Exception", .type "BaseException", .type "object"] "ValueError.__new__" = true
  k : PySem.W.keepIn K (.ref B) = true
  b : PySem.W.subIn K (.ref B) (.type "BaseException") = some true
  t : PySem.W.typeIn K (.ref B) = some (.type "type")
/-! ### the promises -/
def spLeInit (C : Addr) : Sp := fun vs H Q _ => ∃ (p dx : Addr), vs = [.ref p] ∧ H p = some (.ins C dx []) ∧
  ∀ (dt de : Addr) (H' : Hp), H dt = none → H de = none → LotAt C H' p dt de 0 [] [] → Ch H H' [p] → Q .non H'
def spLeRefuse (C NL : Addr) : Sp := fun vs H Q E => ∃ (p dt de : Addr) (n k : Int) (T En : Al), vs = [.ref p, .int k] ∧ LotAt C H p dt de n T En ∧
  (aget En k = none → E (.ref NL) none H) ∧ ((aget En k).isSome = true → Q .non H)
def spLeGrant (C BT : Addr) : Sp := fun vs H Q E => ∃ (p dt de : Addr) (n now t : Int) (T En : Al), vs = [.ref p, .int now, .int t] ∧ LotAt C H p dt de n T En ∧ T.length ≤ 900 ∧ En.length ≤ 900 ∧
  (t < 1 ∨ 1000000 < t → E (.ref BT) none H) ∧
  (1 ≤ t → t ≤ 1000000 → ∀ H', LotAt C H' p dt de (n + 1) (aput T (n + 1) t) (aput En (n + 1) (now + t)) → Ch H H' [p, dt, de] → Q (.int (n + 1)) H')
def spLeRenew (C NL : Addr) : Sp := fun vs H Q E => ∃ (p dt de : Addr) (n now k : Int) (T En : Al), vs = [.ref p, .int now, .int k] ∧ LotAt C H p dt de n T En ∧ En.length ≤ 900 ∧
  (aget En k = none → E (.ref NL) none H) ∧
  ((aget En k).isSome = true → ∃ t, aget T k = some t ∧ ∀ H', LotAt C H' p dt de n T (aput En k (now + t)) → Ch H H' [p, dt, de] → Q .non H')
def spLeDrop (C NL : Addr) : Sp := fun vs H Q E => ∃ (p dt de : Addr) (n k : Int) (T En : Al), vs = [.ref p, .int k] ∧ LotAt C H p dt de n T En ∧
  (aget En k = none → E (.ref NL) none H) ∧
  ((aget En k).isSome = true → (aget T k).isSome = true ∧ ∀ H', LotAt C H' p dt de n (adrop T k) (adrop En k) → Ch H H' [p, dt, de] → Q .non H')
/-- a list's items: tuples of two ints -/
abbrev Tups (H : Hp) (ts : List Addr) (ps : Al) : Prop := Paired (fun (t : Addr) (p : Int × Int) => H t = some (.tup [.int p.1, .int p.2])) ts ps
def spLeDue (C : Addr) : Sp := fun vs H Q _ => ∃ (p dt de : Addr) (n u : Int) (T En : Al), vs = [.ref p, .int u] ∧ LotAt C H p dt de n T En ∧ En.length ≤ 900 ∧
  ∀ (q : Addr) (ts : List Addr) (ps : Al) (H' : Hp), H q = none → H' q = some (.lst (ts.map V.ref)) → Tups H' ts ps → Asc ps → ps.Perm (dueL En u) → Same H H' → Q (.ref q) H'
section
variable {P : Program} {w : World} {K : PySem.W.Frag} {mg : Str → Option Value} {base : Heap}
theorem ok_Leases_init {f C : Addr} {fd : FuncData} (F : Fun K "__init__" "Leases.__init__" s_Leases_init f fd) (T : LeaT K mg C) : FnOk P w K mg base CX0 1 f fd ["self"] (spLeInit C) := by
  refine F.ok sc_Leases_init (fun vs H Q E h => ?_) (fun cdv A outer s H vs Q E hr h => ?_)
  · obtain ⟨p, dx, rfl, _⟩ := h
    rfl
  · obtain ⟨p, dx, rfl, hp, k⟩ := h
    refine ⟨_, pss_cons (ps_fld (pv 0) pe_int rfl) (pss_cons (ps_fld (pv 0) pe_dnewK rfl) (pss_one (ps_fld (pv 0) pe_dnewK rfl))), ?_⟩
    refine ⟨_, rfl, p, C, dx, [], rfl, hp, T.cl, T.nG, (by show 0 < 1000; decide), ?_⟩
    intro dt hdt
    have npt : p ≠ dt := ne_of_none upd_same hdt
    refine ⟨_, rfl, p, C, dx, _, rfl, (by rw [upd_ne npt]; exact upd_same), T.cl, T.nT, (by show 1 < 1000; decide), ?_⟩
    intro de hde
    have npe : p ≠ de := ne_of_none upd_same hde
    have nte : dt ≠ de := ne_of_none (by rw [upd_ne npt.symm]; exact upd_same) hde
    refine ⟨_, rfl, p, C, dx, _, rfl, (by rw [upd_ne npe]; exact upd_same), T.cl, T.nE, (by show 2 < 1000; decide), ?_⟩
    have d0 : H dt = none := by rw [upd_ne npt.symm] at hdt; exact hdt
    have e0 : H de = none := by rw [upd_ne npe.symm, upd_ne nte.symm, upd_ne npe.symm] at hde; exact hde
    refine k dt de _ d0 e0 ⟨⟨dx, upd_same⟩, ?_, ?_, nte⟩ ((((((Ch.refl H [p]).mut (by simp) hp (fun _ z => by cases z)).new _ d0).mut (by simp) hp (fun _ z => by cases z)).new _ e0).mut (by simp) hp (fun _ z => by cases z))
    · rw [upd_ne npt.symm, upd_ne nte, upd_ne npt.symm]; exact upd_same
    · rw [upd_ne npe.symm]; exact upd_same
theorem ok_Leases_refuse {f C NL : Addr} {fd : FuncData} (F : Fun K "refuse_unknown" "Leases.refuse_unknown" s_Leases_refuse_unknown f fd) (T : LeaT K mg C) (N : ErrT K mg "NoLease" NL) : FnOk P w K mg base (L2.CX P w) 1 f fd ["self", "lease"] (spLeRefuse C NL) := by
  refine F.okX sc_Leases_refuse_unknown (fun vs H Q E h => ?_) (fun cdv A outer s H vs Q E hr h => ?_)
  · obtain ⟨p, dt, de, n, k, T, En, rfl, _⟩ := h
    rfl
  · obtain ⟨p, dt, de, n, k, T1, En, rfl, L, h1, h2⟩ := h
    have hu := hu_of hr
    obtain ⟨⟨dx, hp⟩, ht, he, _⟩ := id L
    refine ⟨_, pss_one (ps_if (pt_cmp (pc_dnotin hu (pv 1) (pe_fld (pv 0) rfl)))
      (pss_one (ps_raise rfl (takes_of rfl rfl rfl rfl) (pmk_own PySem.F.excBase_ValueError N.x N.g N.k (raises_own N.b N.t) rfl))) pss_nil), ?_⟩
    refine ⟨_, rfl, _, rfl, p, C, dx, _, _, rfl, hp, T.cl, T.nE, flds_e _ _ _, de, _, rfl, DGet.k (k := Sum.inl k) he, _, rfl, ?_⟩
    rw [valV_kv]
    cases e : aget En k with
    | none =>
      refine iteT ?_
      exact h1 e
    | some v =>
      refine iteF ?_
      exact h2 (by rw [e]; rfl)
end
theorem small900 {l : Al} (h : l.length ≤ 900) : (kv l).length < sizeLine := by
  rw [kv_len]
  exact small1000 (by omega)

end KL

namespace KB
open PySem L2 L2H LX
/-! ### rooms by themselves, as plain tables -/
/-- a watcher: what it wants, up to where it has had all, up to where it was told all -/
structure Wt where
  pre : Str
  had : Int
  told : Int
structure Rm where
  now : Int
  given : Nat
  span : Int → Option Int
  ends : Int → Option Int
  held : Str → Option (Str × Int)
  rows : List Row
  gone : Nat
  met : Nat
  wat : Int → Option Wt
def Rm.init : Rm := ⟨0, 0, fun _ => none, fun _ => none, fun _ => none, [], 0, 0, fun _ => none⟩
def setF {α β : Type} [DecidableEq α] (f : α → Option β) (k : α) (v : Option β) : α → Option β := fun j => if k = j then v else f j
inductive Deed
  | grant (t : Int)
  | renew (h : Int)
  | drop (h : Int)
  | wait (t : Int)
  | put (k v : Str) (h : Int)
  | cut (k : Str) (h : Int)
def Deed.V : Deed → List V
  | .grant t => [.str "grant", .int t]
  | .renew h => [.str "renew", .int h]
  | .drop h => [.str "drop", .int h]
  | .wait t => [.str "wait", .int t]
  | .put k v h => [.str "put", .str k, .str v, .int h]
  | .cut k h => [.str "cut", .str k, .int h]
inductive Kd
  | ticks
  | lease
  | key
  | held
inductive Ans
  | num (n : Int)
  | non
  | bad (w : Kd)
def Kd.s : Kd → Str
  | .ticks => "BadTicks"
  | .lease => "NoLease"
  | .key => "NoKey"
  | .held => "Held"
def Ans.V : Ans → V
  | .num n => .int n
  | .non => .non
  | .bad w => .str w.s
def noteM (s : Rm) (t : Int) (w k v : Str) : Rm := { s with rows := s.rows ++ [⟨(s.rows.length : Int) + 1, t, w, k, v⟩] }
def cutM (t : Int) (s : Rm) (k : Str) : Rm := noteM { s with held := setF s.held k none } t "cut" k ""
def cutAll (s : Rm) (t : Int) (ks : List Str) : Rm := ks.foldl (cutM t) s
/-- the keys that a lease holds, in their order -/
structure HandKeys (held : Str → Option (Str × Int)) (h : Int) (ks : List Str) : Prop where
  srt : PyProof.Rows.sortedS ks = true
  nd : ks.Nodup
  mem : ∀ k, k ∈ ks ↔ ∃ v, held k = some (v, h)
theorem HandKeys.uniq {held : Str → Option (Str × Int)} {h : Int} {ks js : List Str} (a : HandKeys held h ks) (b : HandKeys held h js) : ks = js :=
  sortedS_uniq a.srt b.srt ((List.perm_ext_iff_of_nodup a.nd b.nd).mpr fun k => (a.mem k).trans (b.mem k).symm)
/-- a lease ends -/
def OverR (s : Rm) (h t : Int) (s' : Rm) : Prop := ∃ ks, HandKeys s.held h ks ∧ s' = cutAll { s with ends := setF s.ends h none } t ks
theorem OverR.uniq {s a b : Rm} {h t : Int} (x : OverR s h t a) (y : OverR s h t b) : a = b := by
  obtain ⟨ks, k1, rfl⟩ := x
  obtain ⟨js, j1, rfl⟩ := y
  rw [k1.uniq j1]
def OversR : List (Int × Int) → Rm → Rm → Prop
  | [], s, s' => s' = s
  | e :: r, s, s' => ∃ s1, OverR s e.2 e.1 s1 ∧ OversR r s1 s'
theorem OversR.uniq : ∀ {es : List (Int × Int)} {s a b : Rm}, OversR es s a → OversR es s b → a = b
  | [], s, a, b, x, y => by
    have x : a = s := x
    have y : b = s := y
    rw [x, y]
  | e :: r, s, a, b, ⟨s1, x1, x2⟩, ⟨s2, y1, y2⟩ => by
    have z := x1.uniq y1
    subst z
    exact OversR.uniq x2 y2
/-- earlier ends first, of the same end the lesser number first -/
abbrev AscE (l : List (Int × Int)) : Prop := l.Pairwise fun x y => SrtO.lexB y x = false
theorem ascE_uniq : ∀ {p q : List (Int × Int)}, AscE p → AscE q → p.Perm q → p = q
  | [], q, _, _, h => (List.Perm.eq_nil h.symm).symm
  | a :: p, [], _, _, h => absurd h.length_eq (by simp)
  | a :: p, b :: q, hp, hq, h => by
    have h1 : SrtO.lexB a b = false := by
      rcases List.mem_cons.mp (h.mem_iff.mp (List.mem_cons_self (a := a) (l := p))) with e | m
      · rw [e]; exact SrtO.lexB_no.mpr (by omega)
      · exact (List.pairwise_cons.mp hq).1 a m
    have h2 : SrtO.lexB b a = false := by
      rcases List.mem_cons.mp (h.mem_iff.mpr (List.mem_cons_self (a := b) (l := q))) with e | m
      · rw [e]; exact SrtO.lexB_no.mpr (by omega)
      · exact (List.pairwise_cons.mp hp).1 b m
    have e : a = b := by
      have x1 := SrtO.lexB_no.mp h1
      have x2 := SrtO.lexB_no.mp h2
      exact Prod.ext (by omega) (by omega)
    subst e
    rw [ascE_uniq (List.pairwise_cons.mp hp).2 (List.pairwise_cons.mp hq).2 h.cons_inv]
/-- the leases whose end is not later than u -/
structure EndsTo (ends : Int → Option Int) (u : Int) (es : List (Int × Int)) : Prop where
  asc : AscE es
  nd : es.Nodup
  mem : ∀ e, e ∈ es ↔ ends e.2 = some e.1 ∧ e.1 ≤ u
theorem EndsTo.uniq {ends : Int → Option Int} {u : Int} {es fs : List (Int × Int)} (a : EndsTo ends u es) (b : EndsTo ends u fs) : es = fs :=
  ascE_uniq a.asc b.asc ((List.perm_ext_iff_of_nodup a.nd b.nd).mpr fun e => (a.mem e).trans (b.mem e).symm)
def GoR (s : Rm) (t : Int) (s' : Rm) : Prop := ∃ es s1, EndsTo s.ends (s.now + t) es ∧ OversR es s s1 ∧ s' = { s1 with now := s.now + t }
theorem GoR.uniq {s a b : Rm} {t : Int} (x : GoR s t a) (y : GoR s t b) : a = b := by
  obtain ⟨es, s1, x1, x2, rfl⟩ := x
  obtain ⟨fs, s2, y1, y2, rfl⟩ := y
  have e := x1.uniq y1
  subst e
  rw [x2.uniq y2]
def badT (lo t : Int) : Prop := t < lo ∨ 1000000 < t
/-- does a refusal of point 8 come of a put or a cut: of the lease, of the key, of the holder -/
def noLease (s : Rm) (h : Int) : Prop := h ≠ 0 ∧ s.ends h = none
def heldBy (s : Rm) (k : Str) (h : Int) : Prop := ∃ v j, s.held k = some (v, j) ∧ j ≠ 0 ∧ j ≠ h
def grantM (s : Rm) (t : Int) : Rm := { s with given := s.given + 1, span := setF s.span ((s.given : Int) + 1) (some t), ends := setF s.ends ((s.given : Int) + 1) (some (s.now + t)) }
def putM (s : Rm) (k v : Str) (h : Int) : Rm := noteM { s with held := setF s.held k (some (v, h)) } s.now "put" k v
/-- what a deed comes to -/
def DoR (s : Rm) : Deed → Ans → Rm → Prop
  | .grant t, a, s' => (badT 1 t ∧ a = .bad .ticks ∧ s' = s) ∨ (¬ badT 1 t ∧ a = .num ((s.given : Int) + 1) ∧ s' = grantM s t)
  | .wait t, a, s' => (badT 0 t ∧ a = .bad .ticks ∧ s' = s) ∨ (¬ badT 0 t ∧ a = .non ∧ GoR s t s')
  | .renew h, a, s' => (s.ends h = none ∧ a = .bad .lease ∧ s' = s) ∨ (s.ends h ≠ none ∧ a = .non ∧ ∃ t, s.span h = some t ∧ s' = { s with ends := setF s.ends h (some (s.now + t)) })
  | .drop h, a, s' => (s.ends h = none ∧ a = .bad .lease ∧ s' = s) ∨ (s.ends h ≠ none ∧ a = .non ∧ OverR s h s.now s')
  | .put k v h, a, s' => (noLease s h ∧ a = .bad .lease ∧ s' = s) ∨ (¬ noLease s h ∧ heldBy s k h ∧ a = .bad .held ∧ s' = s) ∨ (¬ noLease s h ∧ ¬ heldBy s k h ∧ a = .num ((s.rows.length : Int) + 1) ∧ s' = putM s k v h)
  | .cut k h, a, s' => (noLease s h ∧ a = .bad .lease ∧ s' = s) ∨ (¬ noLease s h ∧ s.held k = none ∧ a = .bad .key ∧ s' = s) ∨ (¬ noLease s h ∧ heldBy s k h ∧ a = .bad .held ∧ s' = s) ∨
    (¬ noLease s h ∧ s.held k ≠ none ∧ ¬ heldBy s k h ∧ a = .num ((s.rows.length : Int) + 1) ∧ s' = cutM s.now s k)
theorem DoR.uniq {s : Rm} {d : Deed} {a b : Ans} {x y : Rm} (p : DoR s d a x) (q : DoR s d b y) : a = b ∧ x = y := by
  cases d with
  | grant t =>
    rcases p with ⟨p1, rfl, rfl⟩ | ⟨p1, rfl, rfl⟩ <;> rcases q with ⟨q1, rfl, rfl⟩ | ⟨q1, rfl, rfl⟩
    · exact ⟨rfl, rfl⟩
    · exact absurd p1 q1
    · exact absurd q1 p1
    · exact ⟨rfl, rfl⟩
  | wait t =>
    rcases p with ⟨p1, rfl, rfl⟩ | ⟨p1, rfl, p2⟩ <;> rcases q with ⟨q1, rfl, rfl⟩ | ⟨q1, rfl, q2⟩
    · exact ⟨rfl, rfl⟩
    · exact absurd p1 q1
    · exact absurd q1 p1
    · exact ⟨rfl, p2.uniq q2⟩
  | renew h =>
    rcases p with ⟨p1, rfl, rfl⟩ | ⟨p1, rfl, t, p2, rfl⟩ <;> rcases q with ⟨q1, rfl, rfl⟩ | ⟨q1, rfl, u, q2, rfl⟩
    · exact ⟨rfl, rfl⟩
    · exact absurd p1 q1
    · exact absurd q1 p1
    · rw [p2] at q2
      cases q2
      exact ⟨rfl, rfl⟩
  | drop h =>
    rcases p with ⟨p1, rfl, rfl⟩ | ⟨p1, rfl, p2⟩ <;> rcases q with ⟨q1, rfl, rfl⟩ | ⟨q1, rfl, q2⟩
    · exact ⟨rfl, rfl⟩
    · exact absurd p1 q1
    · exact absurd q1 p1
    · exact ⟨rfl, p2.uniq q2⟩
  | put k v h =>
    rcases p with ⟨p1, rfl, rfl⟩ | ⟨p1, p2, rfl, rfl⟩ | ⟨p1, p2, rfl, rfl⟩ <;> rcases q with ⟨q1, rfl, rfl⟩ | ⟨q1, q2, rfl, rfl⟩ | ⟨q1, q2, rfl, rfl⟩
    · exact ⟨rfl, rfl⟩
    · exact absurd p1 q1
    · exact absurd p1 q1
    · exact absurd q1 p1
    · exact ⟨rfl, rfl⟩
    · exact absurd p2 q2
    · exact absurd q1 p1
    · exact absurd q2 p2
    · exact ⟨rfl, rfl⟩
  | cut k h =>
    have hb : ∀ {s : Rm}, heldBy s k h → s.held k ≠ none := fun {s} ⟨v, j, e, _⟩ z => by rw [e] at z; cases z
    rcases p with ⟨p1, rfl, rfl⟩ | ⟨p1, p2, rfl, rfl⟩ | ⟨p1, p2, rfl, rfl⟩ | ⟨p1, p2, p3, rfl, rfl⟩ <;> rcases q with ⟨q1, rfl, rfl⟩ | ⟨q1, q2, rfl, rfl⟩ | ⟨q1, q2, rfl, rfl⟩ | ⟨q1, q2, q3, rfl, rfl⟩
    · exact ⟨rfl, rfl⟩
    · exact absurd p1 q1
    · exact absurd p1 q1
    · exact absurd p1 q1
    · exact absurd q1 p1
    · exact ⟨rfl, rfl⟩
    · exact absurd p2 (hb q2)
    · exact absurd p2 q2
    · exact absurd q1 p1
    · exact absurd q2 (hb p2)
    · exact ⟨rfl, rfl⟩
    · exact absurd p2 q3
    · exact absurd q1 p1
    · exact absurd q2 p2
    · exact absurd q2 p3
    · exact ⟨rfl, rfl⟩
/-! watchers -/
def dueW (s : Rm) (w : Wt) (most : Int) : List Row := wantedM s.rows s.gone w.pre w.told most
/-- up to where it was told, behind such a pull -/
def toldW (s : Rm) (w : Wt) (most : Int) : Int := if ((dueW s w most).length : Int) < most then s.rows.length else lastN (w.told + 1) (dueW s w most)
def pullM (s : Rm) (n : Int) (w : Wt) (most : Int) : Rm := { s with wat := setF s.wat n (some { w with told := toldW s w most }) }
/-- up to where all was had, by every watcher that is there -/
structure TrimTo (s : Rm) (u : Int) : Prop where
  le : ∀ n w, s.wat n = some w → u ≤ w.had
  at_ : (∃ n w, s.wat n = some w ∧ w.had = u) ∨ ((∀ n, s.wat n = none) ∧ u = s.rows.length)
theorem TrimTo.uniq {s : Rm} {u v : Int} (a : TrimTo s u) (b : TrimTo s v) : u = v := by
  rcases a.at_ with ⟨n, w, h1, h2⟩ | ⟨h1, h2⟩ <;> rcases b.at_ with ⟨n', w', h3, h4⟩ | ⟨h3, h4⟩
  · have := b.le n w h1
    have := a.le n' w' h3
    omega
  · rw [h3 n] at h1; cases h1
  · rw [h1 n'] at h3; cases h3
  · rw [h2, h4]
/-! ### what stands by a room, whatever it is made of -/
abbrev RsT := List Addr → Hp → Addr → Rm → Prop
structure Kinds where
  LE : Addr
  BT : Addr
  NL : Addr
  NK : Addr
  HE : Addr
  NS : Addr
  NW : Addr
def Kinds.at_ (k : Kinds) : Kd → Addr
  | .ticks => k.BT
  | .lease => k.NL
  | .key => k.NK
  | .held => k.HE
/-- what a deed's answer comes to -/
def Out (kk : Kinds) (Q : VK) (E : XK) (H : Hp) : Ans → Prop
  | .num n => Q (.int n) H
  | .non => Q .non H
  | .bad w => E (.ref (kk.at_ w)) none H
/-- a room that is not too large for its lists -/
structure Fits (s : Rm) : Prop where
  rows : s.rows.length ≤ 900
  given : s.given ≤ 900
  met : s.met ≤ 900
def spRInit (C : Addr) (Rs : RsT) : Sp := fun vs H Q _ => ∃ (p dx : Addr), vs = [.ref p] ∧ H p = some (.ins C dx []) ∧ ∀ F H', Rs F H' p .init → (∀ a ∈ F, a = p ∨ H a = none) → Ch H H' [p] → Q .non H'
/-- a method that does a deed: how its arguments stand -/
def spRDo (kk : Kinds) (Rs : RsT) (args : Deed → List V → Prop) : Sp := fun vs H Q E => ∃ (F : List Addr) (p : Addr) (s : Rm) (d : Deed) (xs : List V), vs = .ref p :: xs ∧ args d xs ∧ Rs F H p s ∧ Fits s ∧
  ∀ a s' F' H', DoR s d a s' → Rs F' H' p s' → Grow F F' H → Ch H H' F → Out kk Q E H' a
def argG : Deed → List V → Prop := fun d xs => ∃ t, d = .grant t ∧ xs = [.int t]
def argW : Deed → List V → Prop := fun d xs => ∃ t, d = .wait t ∧ xs = [.int t]
def argR : Deed → List V → Prop := fun d xs => ∃ h, d = .renew h ∧ xs = [.int h]
def argD : Deed → List V → Prop := fun d xs => ∃ h, d = .drop h ∧ xs = [.int h]
def argP : Deed → List V → Prop := fun d xs => ∃ k v h, d = .put k v h ∧ xs = [.str k, .str v, .int h] ∧ TOk 60 k ∧ TOk 60 v
def argC : Deed → List V → Prop := fun d xs => ∃ k h, d = .cut k h ∧ xs = [.str k, .int h] ∧ TOk 60 k
def spRValue (Rs : RsT) : Sp := fun vs H Q _ => ∃ (F : List Addr) (p : Addr) (k : Str) (s : Rm), vs = [.ref p, .str k] ∧ Rs F H p s ∧ TOk 60 k ∧ ∀ F' H', Rs F' H' p s → Grow F F' H → Ch H H' F → Q (match s.held k with | some (v, _) => .str v | none => .non) H'
def spRHolder (Rs : RsT) : Sp := fun vs H Q _ => ∃ (F : List Addr) (p : Addr) (k : Str) (s : Rm), vs = [.ref p, .str k] ∧ Rs F H p s ∧ TOk 60 k ∧ ∀ F' H', Rs F' H' p s → Grow F F' H → Ch H H' F → Q (.int (match s.held k with | some (_, h) => h | none => 0)) H'
/-- the keys that begin with a prefix, with their values -/
def byPre (s : Rm) (z : Str) : Str → Option Str := fun k => if isPre z k = true then (s.held k).map (·.1) else none
def spRPairs (Rs : RsT) : Sp := fun vs H Q _ => ∃ (F : List Addr) (p : Addr) (z : Str) (s : Rm), vs = [.ref p, .str z] ∧ Rs F H p s ∧ TOk 60 z ∧ Fits s ∧
  ∀ F' q ts ps H', Rs F' H' p s → Grow F F' H → Ch H H' F → H q = none → q ∉ F' → H' q = some (.lst (ts.map V.ref)) → PairsAt H' ts ps → Told (byPre s z) ps → Q (.ref q) H'
def spRLast (Rs : RsT) : Sp := fun vs H Q _ => ∃ (F : List Addr) (p : Addr) (s : Rm), vs = [.ref p] ∧ Rs F H p s ∧ ∀ F' H', Rs F' H' p s → Grow F F' H → Ch H H' F → Q (.int s.rows.length) H'
def spRFirst (Rs : RsT) : Sp := fun vs H Q _ => ∃ (F : List Addr) (p : Addr) (s : Rm), vs = [.ref p] ∧ Rs F H p s ∧ ∀ F' H', Rs F' H' p s → Grow F F' H → Ch H H' F → Q (.int ((s.gone : Int) + 1)) H'
def spRWatch (kk : Kinds) (Rs : RsT) : Sp := fun vs H Q E => ∃ (F : List Addr) (p : Addr) (z : Str) (st : Int) (s : Rm), vs = [.ref p, .str z, .int st] ∧ Rs F H p s ∧ TOk 60 z ∧ Fits s ∧
  (st < (s.gone : Int) + 1 ∨ (s.rows.length : Int) + 1 < st → ∀ F' H', Rs F' H' p s → Grow F F' H → Ch H H' F → E (.ref kk.NS) none H') ∧
  ((s.gone : Int) + 1 ≤ st → st ≤ (s.rows.length : Int) + 1 → ∀ F' H', Rs F' H' p { s with met := s.met + 1, wat := setF s.wat ((s.met : Int) + 1) (some ⟨z, st - 1, st - 1⟩) } → Grow F F' H → Ch H H' F → Q (.int ((s.met : Int) + 1)) H')
/-- a method that names a watcher: refused where it isn't there -/
def spRWat (kk : Kinds) (Rs : RsT) (xs : List V → Prop) (then_ : List V → List Addr → Hp → Addr → Rm → Int → Wt → VK → Prop) : Sp := fun vs H Q E => ∃ (F : List Addr) (p : Addr) (n : Int) (ys : List V) (s : Rm), vs = .ref p :: .int n :: ys ∧ xs ys ∧ Rs F H p s ∧ Fits s ∧
  (s.wat n = none → ∀ F' H', Rs F' H' p s → Grow F F' H → Ch H H' F → E (.ref kk.NW) none H') ∧ ∀ w, s.wat n = some w → then_ ys F H p s n w Q
def thenPull (Rs : RsT) : List V → List Addr → Hp → Addr → Rm → Int → Wt → VK → Prop := fun ys F H p s n w Q => ∃ m : Int, ys = [.int m] ∧ 0 ≤ m ∧
  ∀ F' q ts H', Rs F' H' p (pullM s n w m) → Grow F F' H → Ch H H' F → H q = none → q ∉ F' → H' q = some (.lst (ts.map V.ref)) → RowsAt H' ts (dueW s w m) → Q (.ref q) H'
def thenSet (Rs : RsT) (f : Wt → Option Wt) : List V → List Addr → Hp → Addr → Rm → Int → Wt → VK → Prop := fun _ F H p s n w Q =>
  ∀ F' H', Rs F' H' p { s with wat := setF s.wat n (f w) } → Grow F F' H → Ch H H' F → Q .non H'
def spRTrim (Rs : RsT) : Sp := fun vs H Q _ => ∃ (F : List Addr) (p : Addr) (s : Rm), vs = [.ref p] ∧ Rs F H p s ∧ Fits s ∧
  ∀ u F' H', TrimTo s u → Rs F' H' p { s with gone := goneM s.rows.length s.gone u } → Grow F F' H → Ch H H' F → Q (.int ((goneM s.rows.length s.gone u : Int) - s.gone)) H'
def roomMs : List Str := ["grant", "renew", "drop", "wait", "put", "cut", "value", "holder", "pairs", "last", "first", "watch", "pull", "confirm", "broken", "leave", "trim"]
structure RoomApi (P : Program) (w : World) (K : PySem.W.Frag) (mg : Str → Option Value) (base : Heap) (C : Addr) (kk : Kinds) (Rs : RsT) (hs : List Str) : Prop where
  frame : ∀ {F H H' p s l}, Rs F H p s → Ch H H' l → (∀ a ∈ F, a ∉ l) → Rs F H' p s
  own : ∀ {F H p s}, Rs F H p s → ∀ a ∈ F, ∃ o, H a = some o
  inst : ∀ {F H p s}, Rs F H p s → p ∈ F ∧ ∃ dx fs, H p = some (.ins C dx fs) ∧ fs.lookup ("now" : Str) = some (.int s.now) ∧ ∀ m ∈ roomMs, fs.lookup m = none
  make : ∃ f fd ps, Mk K C f ∧ Binds K fd ps [] ∧ FnOk P w K mg base CX0 4 f fd ps (spRInit C Rs)
  grant : ("grant" : Str) ∈ hs → MDef P w K mg base C "grant" (L2.CX P w) 8 (spRDo kk Rs argG)
  renew : ("renew" : Str) ∈ hs → MDef P w K mg base C "renew" (L2.CX P w) 8 (spRDo kk Rs argR)
  drop : ("drop" : Str) ∈ hs → MDef P w K mg base C "drop" (L2.CX P w) 8 (spRDo kk Rs argD)
  wait : ("wait" : Str) ∈ hs → MDef P w K mg base C "wait" (L2.CX P w) 8 (spRDo kk Rs argW)
  put : ("put" : Str) ∈ hs → ∃ f fd ps, Meth K C "put" f ∧ Binds K fd ps [] ∧ (∃ ds, Vals [.int 0] ds ∧ Binds K fd ps ds) ∧ (∃ g, KBn K fd ps 3 ["lease"] g fun vs zs => vs ++ zs) ∧ FnOk P w K mg base (L2.CX P w) 8 f fd ps (spRDo kk Rs argP)
  cut : ("cut" : Str) ∈ hs → ∃ f fd ps, Meth K C "cut" f ∧ Binds K fd ps [] ∧ (∃ ds, Vals [.int 0] ds ∧ Binds K fd ps ds) ∧ (∃ g, KBn K fd ps 2 ["lease"] g fun vs zs => vs ++ zs) ∧ FnOk P w K mg base (L2.CX P w) 8 f fd ps (spRDo kk Rs argC)
  value : ("value" : Str) ∈ hs → MDef P w K mg base C "value" CX0 8 (spRValue Rs)
  holder : ("holder" : Str) ∈ hs → MDef P w K mg base C "holder" CX0 8 (spRHolder Rs)
  pairs : ("pairs" : Str) ∈ hs → MDef P w K mg base C "pairs" CX0 8 (spRPairs Rs)
  last : ("last" : Str) ∈ hs → MDef P w K mg base C "last" CX0 8 (spRLast Rs)
  first : ("first" : Str) ∈ hs → MDef P w K mg base C "first" CX0 8 (spRFirst Rs)
  watch : ("watch" : Str) ∈ hs → MDef P w K mg base C "watch" (L2.CX P w) 8 (spRWatch kk Rs)
  pull : ("pull" : Str) ∈ hs → MDef P w K mg base C "pull" (L2.CX P w) 8 (spRWat kk Rs (fun ys => ∃ m : Int, ys = [.int m]) (thenPull Rs))
  confirm : ("confirm" : Str) ∈ hs → MDef P w K mg base C "confirm" (L2.CX P w) 8 (spRWat kk Rs (fun ys => ys = []) (thenSet Rs fun w => some { w with had := w.told }))
  broken : ("broken" : Str) ∈ hs → MDef P w K mg base C "broken" (L2.CX P w) 8 (spRWat kk Rs (fun ys => ys = []) (thenSet Rs fun w => some { w with told := w.had }))
  leave : ("leave" : Str) ∈ hs → MDef P w K mg base C "leave" (L2.CX P w) 8 (spRWat kk Rs (fun ys => ys = []) (thenSet Rs fun _ => none))
  trim : ("trim" : Str) ∈ hs → MDef P w K mg base C "trim" CX0 8 (spRTrim Rs)
end KB

namespace KL
open PySem L2 L2H LX KB KA1
/-! ### the program's room: what stands by it -/
abbrev nsRoom : List Str := ["now", "_leases", "_log", "_values", "_holders", "_entered", "_watchers"]
abbrev nsWat : List Str := ["prefix", "told", "had"]
structure Cs where
  C : Addr
  CL : Addr
  CG : Addr
  CW : Addr
structure Rc where
  pl : Addr
  dt : Addr
  de : Addr
  pg : Addr
  Fg : List Addr
  dv : Addr
  dh : Addr
  dw : Addr
  T : Al
  E : Al
  HV : List (Str × (Str × Int))
  vk : List (Key × V)
  hk : List (Key × V)
  WS : List (Int × (Addr × Wt))
  wk : List (Key × V)
def Rc.o (R : Rc) (p : Addr) : List Addr := p :: R.pl :: R.dt :: R.de :: R.dv :: R.dh :: R.dw :: R.WS.map (·.2.1)
def Rc.F (R : Rc) (p : Addr) : List Addr := R.o p ++ R.Fg
abbrev rFl (s : Rm) (R : Rc) : List (Str × V) := nsRoom.zip [.int s.now, .ref R.pl, .ref R.pg, .ref R.dv, .ref R.dh, .int s.met, .ref R.dw]
abbrev wFl (w : Wt) : List (Str × V) := nsWat.zip [.str w.pre, .int w.told, .int w.had]
abbrev isV1 (b : Str × Int) (v : V) : Prop := v = .str b.1
abbrev isV2 (b : Str × Int) (v : V) : Prop := v = .int b.2
abbrev isW (b : Addr × Wt) (v : V) : Prop := v = .ref b.1
structure RcAt (c : Cs) (H : Hp) (p : Addr) (R : Rc) (s : Rm) : Prop where
  ob : ∃ dx, H p = some (.ins c.C dx (rFl s R))
  lt : LotAt c.CL H R.pl R.dt R.de s.given R.T R.E
  lg : LgP c.CG R.Fg H R.pg s.rows s.gone
  va : H R.dv = some (.dK R.vk)
  ho : H R.dh = some (.dK R.hk)
  wa : H R.dw = some (.dK R.wk)
  wo : ∀ x ∈ R.WS, ∃ dx, H x.2.1 = some (.ins c.CW dx (wFl x.2.2))
  rv : DRel Sum.inr isV1 R.HV R.vk
  rh : DRel Sum.inr isV2 R.HV R.hk
  rw_ : DRel Sum.inl isW R.WS R.wk
  nd : (R.o p).Nodup
  dj : ∀ a ∈ R.Fg, a ∉ R.o p
  fe : s.ends = getA R.E
  fs : ∀ h e, getA R.E h = some e → ∃ t, getA R.T h = some t ∧ s.span h = some t
  fh : s.held = getA R.HV
  fw : s.wat = fun n => (getA R.WS n).map (·.2)
  nE : (R.E.map (·.1)).Nodup
  nH : (R.HV.map (·.1)).Nodup
  nW : (R.WS.map (·.1)).Nodup
  kW : ∀ x ∈ R.WS, x.1 ≤ s.met
  kH : ∀ x ∈ R.HV, TOk 60 x.1
  wP : ∀ x ∈ R.WS, TOk 60 x.2.2.pre
structure RcSz (R : Rc) (s : Rm) : Prop where
  t : R.T.length ≤ s.given
  e : R.E.length ≤ s.given
  h : R.HV.length ≤ s.rows.length
  w : R.WS.length ≤ s.met
  wt : ∀ x ∈ R.WS, x.2.2.told ≤ s.rows.length ∧ x.2.2.had ≤ s.rows.length
def RsP (c : Cs) : RsT := fun F H p s => ∃ R, F = Rc.F R p ∧ RcAt c H p R s ∧ RcSz R s
theorem aget_eq (k : Int) : ∀ l : Al, aget l k = getA l k
  | [] => rfl
  | q :: r => by
    by_cases e : q.1 = k
    · rw [getA_pos e]; simp [aget, e]
    · rw [getA_neg e, ← aget_eq k r]; simp [aget, e]
theorem LotAt.ch {C : Addr} {H H' : Hp} {p dt de : Addr} {n : Int} {T E : Al} {l : List Addr} (L : LotAt C H p dt de n T E) (c : Ch H H' l) (h1 : p ∉ l) (h2 : dt ∉ l) (h3 : de ∉ l) : LotAt C H' p dt de n T E :=
  ⟨let ⟨dx, h⟩ := L.ob; ⟨dx, c.at h h1⟩, c.at L.tk h2, c.at L.en h3, L.ne⟩
section
variable {c : Cs} {H H' : Hp} {p : Addr} {R : Rc} {s : Rm} {l : List Addr}
theorem RcAt.ch (A : RcAt c H p R s) (k : Ch H H' l) (d : ∀ a ∈ R.F p, a ∉ l) : RcAt c H' p R s := by
  have o : ∀ {a}, a ∈ R.o p → a ∉ l := fun {a} h => d a (List.mem_append_left _ h)
  obtain ⟨dx, h⟩ := A.ob
  exact ⟨⟨dx, k.at h (o (by simp [Rc.o]))⟩, A.lt.ch k (o (by simp [Rc.o])) (o (by simp [Rc.o])) (o (by simp [Rc.o])), A.lg.frame k (fun a ha => d a (List.mem_append_right _ ha)), k.at A.va (o (by simp [Rc.o])), k.at A.ho (o (by simp [Rc.o])), k.at A.wa (o (by simp [Rc.o])),
    fun x hx => (let ⟨dy, h⟩ := A.wo x hx; ⟨dy, k.at h (o (by unfold Rc.o; simp only [List.mem_cons]; right; right; right; right; right; right; right; exact List.mem_map.mpr ⟨x, hx, rfl⟩))⟩), A.rv, A.rh, A.rw_, A.nd, A.dj, A.fe, A.fs, A.fh, A.fw, A.nE, A.nH, A.nW, A.kW, A.kH, A.wP⟩
theorem RcAt.own (A : RcAt c H p R s) : ∀ a ∈ R.F p, ∃ o, H a = some o := by
  intro a ha
  rcases List.mem_append.mp ha with h | h
  · unfold Rc.o at h
    simp only [List.mem_cons] at h
    rcases h with rfl | rfl | rfl | rfl | rfl | rfl | rfl | h
    · obtain ⟨dx, h⟩ := A.ob; exact ⟨_, h⟩
    · obtain ⟨dx, h⟩ := A.lt.ob; exact ⟨_, h⟩
    · exact ⟨_, A.lt.tk⟩
    · exact ⟨_, A.lt.en⟩
    · exact ⟨_, A.va⟩
    · exact ⟨_, A.ho⟩
    · exact ⟨_, A.wa⟩
    · obtain ⟨x, hx, rfl⟩ := List.mem_map.mp h
      obtain ⟨dy, h⟩ := A.wo x hx
      exact ⟨_, h⟩
  · exact A.lg.own a h
theorem RsP.frame {F : List Addr} (A : RsP c F H p s) (k : Ch H H' l) (d : ∀ a ∈ F, a ∉ l) : RsP c F H' p s := by
  obtain ⟨R, rfl, A, z⟩ := A
  exact ⟨R, rfl, A.ch k d, z⟩
theorem RsP.own {F : List Addr} (A : RsP c F H p s) : ∀ a ∈ F, ∃ o, H a = some o := by
  obtain ⟨R, rfl, A, z⟩ := A
  exact A.own
theorem RsP.inst {F : List Addr} (A : RsP c F H p s) : p ∈ F ∧ ∃ dx fs, H p = some (.ins c.C dx fs) ∧ fs.lookup ("now" : Str) = some (.int s.now) ∧ ∀ m ∈ roomMs, fs.lookup m = none := by
  obtain ⟨R, rfl, A, z⟩ := A
  obtain ⟨dx, h⟩ := A.ob
  refine ⟨List.mem_append_left _ (by simp [Rc.o]), dx, _, h, zf_get (i := 0) (by decide +kernel) rfl, fun m hm => ?_⟩
  have q : ∀ m ∈ roomMs, pos m nsRoom = none := by decide +kernel
  exact zf_no (q m hm)
/-- no two of the seven places are one -/
theorem RcAt.ne7 (A : RcAt c H p R s) : (p ≠ R.pl ∧ p ≠ R.dt ∧ p ≠ R.de ∧ p ≠ R.dv ∧ p ≠ R.dh ∧ p ≠ R.dw) ∧ (R.pl ≠ R.dt ∧ R.pl ≠ R.de ∧ R.pl ≠ R.dv ∧ R.pl ≠ R.dh ∧ R.pl ≠ R.dw) ∧ (R.dt ≠ R.de ∧ R.dt ≠ R.dv ∧ R.dt ≠ R.dh ∧ R.dt ≠ R.dw) ∧
    (R.de ≠ R.dv ∧ R.de ≠ R.dh ∧ R.de ≠ R.dw) ∧ (R.dv ≠ R.dh ∧ R.dv ≠ R.dw) ∧ R.dh ≠ R.dw := by
  have n := A.nd
  unfold Rc.o at n
  simp only [List.nodup_cons, List.mem_cons, not_or] at n
  obtain ⟨⟨a1, a2, a3, a4, a5, a6, _⟩, ⟨b1, b2, b3, b4, b5, _⟩, ⟨c1, c2, c3, c4, _⟩, ⟨d1, d2, d3, _⟩, ⟨e1, e2, _⟩, ⟨f1, _⟩, _⟩ := n
  exact ⟨⟨a1, a2, a3, a4, a5, a6⟩, ⟨b1, b2, b3, b4, b5⟩, ⟨c1, c2, c3, c4⟩, ⟨d1, d2, d3⟩, ⟨e1, e2⟩, f1⟩
theorem RcAt.neW (A : RcAt c H p R s) {x : Int × (Addr × Wt)} (hx : x ∈ R.WS) : x.2.1 ≠ p ∧ x.2.1 ≠ R.pl ∧ x.2.1 ≠ R.dt ∧ x.2.1 ≠ R.de ∧ x.2.1 ≠ R.dv ∧ x.2.1 ≠ R.dh ∧ x.2.1 ≠ R.dw := by
  have n := A.nd
  have m : x.2.1 ∈ R.WS.map (·.2.1) := List.mem_map.mpr ⟨x, hx, rfl⟩
  unfold Rc.o at n
  simp only [List.nodup_cons, List.mem_cons, not_or] at n
  obtain ⟨⟨_, _, _, _, _, _, a⟩, ⟨_, _, _, _, _, b⟩, ⟨_, _, _, _, c⟩, ⟨_, _, _, d⟩, ⟨_, _, e⟩, ⟨_, f⟩, g, _⟩ := n
  exact ⟨fun z => a (z ▸ m), fun z => b (z ▸ m), fun z => c (z ▸ m), fun z => d (z ▸ m), fun z => e (z ▸ m), fun z => f (z ▸ m), fun z => g (z ▸ m)⟩
theorem RcAt.wIn (A : RcAt c H p R s) {x : Int × (Addr × Wt)} (hx : x ∈ R.WS) : x.2.1 ∈ R.o p := by
  unfold Rc.o
  simp only [List.mem_cons]
  right; right; right; right; right; right; right
  exact List.mem_map.mpr ⟨x, hx, rfl⟩
/-- the log goes on -/
theorem RcAt.log (A : RcAt c H p R s) {F' : List Addr} {rs' : List Row} {g' : Nat} (L : LgP c.CG F' H' R.pg rs' g') (g : Grow R.Fg F' H) (k : Ch H H' R.Fg) : RcAt c H' p { R with Fg := F' } { s with rows := rs', gone := g' } := by
  have o : ∀ {a}, a ∈ R.o p → a ∉ R.Fg := fun {a} h z => A.dj a z h
  obtain ⟨dx, h⟩ := A.ob
  have ex : ∀ a ∈ R.o p, ∃ u, H a = some u := fun a ha => A.own a (List.mem_append_left _ ha)
  exact ⟨⟨dx, k.at h (o (by simp [Rc.o]))⟩, A.lt.ch k (o (by simp [Rc.o])) (o (by simp [Rc.o])) (o (by simp [Rc.o])), L, k.at A.va (o (by simp [Rc.o])), k.at A.ho (o (by simp [Rc.o])), k.at A.wa (o (by simp [Rc.o])),
    fun x hx => (let ⟨dy, h⟩ := A.wo x hx; ⟨dy, k.at h (o (A.wIn hx))⟩), A.rv, A.rh, A.rw_, A.nd, g.apart A.dj ex, A.fe, A.fs, A.fh, A.fw, A.nE, A.nH, A.nW, A.kW, A.kH, A.wP⟩
/-- the leases go on -/
theorem RcAt.lot (A : RcAt c H p R s) {n : Nat} {T E : Al} {sp : Int → Option Int} (L : LotAt c.CL H' R.pl R.dt R.de n T E) (k : Ch H H' [R.pl, R.dt, R.de]) (nE : (E.map (·.1)).Nodup) (fs : ∀ h e, getA E h = some e → ∃ t, getA T h = some t ∧ sp h = some t) :
    RcAt c H' p { R with T := T, E := E } { s with given := n, span := sp, ends := getA E } := by
  obtain ⟨⟨a1, a2, a3, a4, a5, a6⟩, ⟨b1, b2, b3, b4, b5⟩, ⟨c1, c2, c3, c4⟩, ⟨d1, d2, d3⟩, ⟨e1, e2⟩, f1⟩ := A.ne7
  have o3 : ∀ {a}, a ≠ R.pl → a ≠ R.dt → a ≠ R.de → a ∉ [R.pl, R.dt, R.de] := fun h1 h2 h3 z => by
    simp only [List.mem_cons, List.not_mem_nil, or_false] at z
    rcases z with z | z | z
    · exact h1 z
    · exact h2 z
    · exact h3 z
  obtain ⟨dx, h⟩ := A.ob
  refine ⟨⟨dx, k.at h (o3 a1 a2 a3)⟩, L, A.lg.frame k (fun a ha => o3 ?_ ?_ ?_), k.at A.va (o3 b3.symm c2.symm d1.symm), k.at A.ho (o3 b4.symm c3.symm d2.symm), k.at A.wa (o3 b5.symm c4.symm d3.symm),
    fun x hx => (let ⟨dy, h⟩ := A.wo x hx; let q := A.neW hx; ⟨dy, k.at h (o3 q.2.1 q.2.2.1 q.2.2.2.1)⟩), A.rv, A.rh, A.rw_, A.nd, A.dj, rfl, fs, A.fh, A.fw, nE, A.nH, A.nW, A.kW, A.kH, A.wP⟩
  all_goals (intro z; exact A.dj a ha (by rw [z]; simp [Rc.o]))
/-- keys go, come or change -/
theorem RcAt.keys (A : RcAt c H p R s) {HV : List (Str × (Str × Int))} {vk hk : List (Key × V)} (k : Ch H H' [R.dv, R.dh]) (h1 : H' R.dv = some (.dK vk)) (h2 : H' R.dh = some (.dK hk)) (rv : DRel Sum.inr isV1 HV vk) (rh : DRel Sum.inr isV2 HV hk)
    (nH : (HV.map (·.1)).Nodup) (kH : ∀ x ∈ HV, TOk 60 x.1) : RcAt c H' p { R with HV := HV, vk := vk, hk := hk } { s with held := getA HV } := by
  obtain ⟨⟨a1, a2, a3, a4, a5, a6⟩, ⟨b1, b2, b3, b4, b5⟩, ⟨c1, c2, c3, c4⟩, ⟨d1, d2, d3⟩, ⟨e1, e2⟩, f1⟩ := A.ne7
  have o2 : ∀ {a}, a ≠ R.dv → a ≠ R.dh → a ∉ [R.dv, R.dh] := fun h1 h2 z => by
    simp only [List.mem_cons, List.not_mem_nil, or_false] at z
    rcases z with z | z
    · exact h1 z
    · exact h2 z
  obtain ⟨dx, h⟩ := A.ob
  refine ⟨⟨dx, k.at h (o2 a4 a5)⟩, A.lt.ch k (o2 b3 b4) (o2 c2 c3) (o2 d1 d2), A.lg.frame k (fun a ha => o2 ?_ ?_), h1, h2, k.at A.wa (o2 e2.symm f1.symm),
    fun x hx => (let ⟨dy, h⟩ := A.wo x hx; let q := A.neW hx; ⟨dy, k.at h (o2 q.2.2.2.2.1 q.2.2.2.2.2.1)⟩), rv, rh, A.rw_, A.nd, A.dj, A.fe, A.fs, rfl, A.fw, A.nE, nH, A.nW, A.kW, kH, A.wP⟩
  all_goals (intro z; exact A.dj a ha (by rw [z]; simp [Rc.o]))
/-- the tick goes on -/
theorem RcAt.tick (A : RcAt c H p R s) {dx : Addr} {n : Int} (k : Ch H H' [p]) (h1 : H' p = some (.ins c.C dx (rFl { s with now := n } R))) : RcAt c H' p R { s with now := n } := by
  obtain ⟨⟨a1, a2, a3, a4, a5, a6⟩, ⟨b1, b2, b3, b4, b5⟩, ⟨c1, c2, c3, c4⟩, ⟨d1, d2, d3⟩, ⟨e1, e2⟩, f1⟩ := A.ne7
  have o1 : ∀ {a}, a ≠ p → a ∉ [p] := fun h1 z => h1 (List.mem_singleton.mp z)
  refine ⟨⟨dx, h1⟩, A.lt.ch k (o1 a1.symm) (o1 a2.symm) (o1 a3.symm), A.lg.frame k (fun a ha => o1 ?_), k.at A.va (o1 a4.symm), k.at A.ho (o1 a5.symm), k.at A.wa (o1 a6.symm),
    fun x hx => (let ⟨dy, h⟩ := A.wo x hx; ⟨dy, k.at h (o1 (A.neW hx).1)⟩), A.rv, A.rh, A.rw_, A.nd, A.dj, A.fe, A.fs, A.fh, A.fw, A.nE, A.nH, A.nW, A.kW, A.kH, A.wP⟩
  intro z
  exact A.dj a ha (by rw [z]; simp [Rc.o])
end
/-- what is asked of the class -/
structure RomT (K : PySem.W.Frag) (C : Addr) : Prop where
  cl : Cls K C
  n0 : NoAttr K C "now"
  n1 : NoAttr K C "_leases"
  n2 : NoAttr K C "_log"
  n3 : NoAttr K C "_values"
  n4 : NoAttr K C "_holders"
  n5 : NoAttr K C "_entered"
  n6 : NoAttr K C "_watchers"
end KL

namespace KL
open PySem L2 L2H LX KB KA1
/-! ### the program's room: a new one -/
theorem made_same {C : Addr} {H H' : Hp} {x dx : Addr} (nx : H x = none) (ndx : H dx = none) (c : Ch (upd (upd H dx (.own x)) x (.ins C dx [])) H' [x]) : Same H H' ∧ Same H (upd (upd H dx (.own x)) x (.ins C dx [])) := by
  have s0 : Same H (upd (upd H dx (.own x)) x (.ins C dx [])) := fun b o e => by
    rw [upd_ne (ne_of_none e nx), upd_ne (ne_of_none e ndx)]; exact e
  exact ⟨fun b o e => c.at (s0 _ _ e) fun z => ne_of_none e nx (List.mem_singleton.mp z), s0⟩
theorem ex_ne {H : Hp} {a b : Addr} (x : ∃ o, H a = some o) (n : H b = none) : a ≠ b := fun z => by
  obtain ⟨o, e⟩ := x
  rw [z, n] at e
  cases e
section
variable {P : Program} {w : World} {K : PySem.W.Frag} {mg : Str → Option Value} {base : Heap} {c : Cs}
theorem ok_Room_init {f fL fG : Addr} {fd fdL fdG : FuncData} {psL psG : List Str} (F : Fun K "__init__" "Room.__init__" s_Room_init f fd) (T : RomT K c.C) (gL : mg "Leases" = some (.ref c.CL)) (gG : mg "Log" = some (.ref c.CG))
    (ML : Mk K c.CL fL) (bL : Binds K fdL psL []) (GL : FnOk P w K mg base CX0 1 fL fdL psL (spLeInit c.CL)) (MG : Mk K c.CG fG) (bG : Binds K fdG psG []) (GG : FnOk P w K mg base CX0 1 fG fdG psG (spLogInit c.CG (LgP c.CG))) :
    FnOk P w K mg base CX0 3 f fd p_Room_init (spRInit c.C (RsP c)) := by
  refine F.ok sc_Room_init (fun vs H Q E h => ?_) (fun cdv A outer s H vs Q E hr h => ?_)
  · obtain ⟨p, dx, rfl, _⟩ := h
    rfl
  · obtain ⟨p, dx, rfl, hp, k⟩ := h
    refine ⟨_, pss_cons (ps_fld (pv 0) pe_int rfl) (pss_cons (ps_fld (pv 0) (pe_make0 ML GL hr rfl gL bL .nil pass0) rfl) (pss_cons (ps_fld (pv 0) (pe_make0 MG GG hr rfl gG bG .nil pass0) rfl)
      (pss_cons (ps_fld (pv 0) pe_dnewK rfl) (pss_cons (ps_fld (pv 0) pe_dnewK rfl) (pss_cons (ps_fld (pv 0) pe_int rfl) (pss_one (ps_fld (pv 0) pe_dnewK rfl))))))), ?_⟩
    have nt : ∀ fs : List (Str × V), ∀ xs, HO.ins c.C dx fs ≠ .tup xs := fun fs xs z => by cases z
    refine ⟨_, rfl, p, c.C, dx, [], rfl, hp, T.cl, T.n0, (by show 0 < 1000; decide), ?_⟩
    have c0 : Ch H (upd H p (.ins c.C dx (putF "now" (.int 0) []))) [p] := (Ch.refl H [p]).mut (by simp) hp (nt _)
    have h0 : upd H p (.ins c.C dx (putF "now" (.int 0) [])) p = some (.ins c.C dx (putF "now" (.int 0) [])) := upd_same
    generalize upd H p (.ins c.C dx (putF "now" (.int 0) [])) = H0 at c0 h0 ⊢
    intro pl dl nl ndl nel
    refine ⟨pl, dl, rfl, upd_same, fun dt de H1 nt1 ne1 L1 c1 => ⟨rfl, ?_⟩⟩
    obtain ⟨s1, sb⟩ := made_same nl ndl c1
    have hp1 := s1 _ _ h0
    have npl : p ≠ pl := ne_of_none h0 nl
    have npt : p ≠ dt := ne_of_none (sb _ _ h0) nt1
    have npe : p ≠ de := ne_of_none (sb _ _ h0) ne1
    have nlt : pl ≠ dt := ne_of_none upd_same nt1
    have nle : pl ≠ de := ne_of_none upd_same ne1
    have nte := L1.ne
    have fl : H0 dt = none := sb.free nt1
    have fe : H0 de = none := sb.free ne1
    clear c1 nt1 ne1 sb
    -- the leases stand
    refine ⟨_, rfl, p, c.C, dx, _, rfl, hp1, T.cl, T.n1, (by show 1 < 1000; decide), ?_⟩
    have o1 : ∀ {a : Addr}, p ≠ a → a ∉ [p] := fun h z => h (List.mem_singleton.mp z).symm
    have c2 : Ch H1 (upd H1 p (.ins c.C dx (putF "_leases" (.ref pl) (putF "now" (.int 0) [])))) [p] := (Ch.refl _ _).mut (by simp) hp1 (nt _)
    have L2 := L1.ch c2 (o1 npl) (o1 npt) (o1 npe)
    have h2 : upd H1 p (.ins c.C dx (putF "_leases" (.ref pl) (putF "now" (.int 0) []))) p = some (.ins c.C dx (putF "_leases" (.ref pl) (putF "now" (.int 0) []))) := upd_same
    have t2 : Ch H0 (upd H1 p (.ins c.C dx (putF "_leases" (.ref pl) (putF "now" (.int 0) [])))) [p] := (Ch.of s1 _).trans c2
    generalize upd H1 p (.ins c.C dx (putF "_leases" (.ref pl) (putF "now" (.int 0) []))) = H2 at L2 h2 t2 ⊢
    clear c2 hp1 L1 s1
    intro pg dg ng ndg neg
    refine ⟨pg, dg, rfl, upd_same, fun Fg H3 G3 fg c3 => ⟨rfl, ?_⟩⟩
    obtain ⟨s3, sb⟩ := made_same ng ndg c3
    have h3 := s3 _ _ h2
    have L3 := L2.ch (Ch.of s3 []) (fun z => nomatch z) (fun z => nomatch z) (fun z => nomatch z)
    have fg2 : ∀ a ∈ Fg, H2 a = none := fun a ha => by
      rcases fg a ha with rfl | q
      · exact ng
      · exact sb.free q
    clear c3 sb fg
    have notG : ∀ {a : Addr}, (∃ o, H2 a = some o) → a ∉ Fg := fun {a} x m => ex_ne x (fg2 a m) rfl
    obtain ⟨dl2, hl2⟩ := L2.ob
    have gp : p ∉ Fg := notG ⟨_, h2⟩
    have gl : pl ∉ Fg := notG ⟨_, hl2⟩
    have gt : dt ∉ Fg := notG ⟨_, L2.tk⟩
    have ge : de ∉ Fg := notG ⟨_, L2.en⟩
    have fg0 : ∀ a ∈ Fg, H0 a = none := fun a ha => t2.none a (fg2 a ha)
    clear notG fg2
    have t3 : Ch H0 H3 [p] := t2.same s3
    refine ⟨_, rfl, p, c.C, dx, _, rfl, h3, T.cl, T.n2, (by show 2 < 1000; decide), ?_⟩
    have c4 : Ch H3 (upd H3 p (.ins c.C dx (putF "_log" (.ref pg) (putF "_leases" (.ref pl) (putF "now" (.int 0) []))))) [p] := (Ch.refl _ _).mut (by simp) h3 (nt _)
    have L4 := L3.ch c4 (o1 npl) (o1 npt) (o1 npe)
    have og : ∀ a ∈ Fg, a ∉ [p] := fun a ha z => gp (by rw [← List.mem_singleton.mp z]; exact ha)
    have G4 := G3.frame c4 og
    have h4 : upd H3 p (.ins c.C dx (putF "_log" (.ref pg) (putF "_leases" (.ref pl) (putF "now" (.int 0) [])))) p = some (.ins c.C dx (putF "_log" (.ref pg) (putF "_leases" (.ref pl) (putF "now" (.int 0) [])))) := upd_same
    have t4 := t3.trans c4
    generalize upd H3 p (.ins c.C dx (putF "_log" (.ref pg) (putF "_leases" (.ref pl) (putF "now" (.int 0) [])))) = H4 at L4 G4 h4 t4 ⊢
    clear c4 L3 G3 h3 t3 s3 L2 h2 t2 hl2
    -- the keys' tables
    intro dv hdv
    obtain ⟨dl4, hl4⟩ := L4.ob
    have nv : p ≠ dv ∧ pl ≠ dv ∧ dt ≠ dv ∧ de ≠ dv := ⟨ne_of_none h4 hdv, ne_of_none hl4 hdv, ne_of_none L4.tk hdv, ne_of_none L4.en hdv⟩
    have gv : dv ∉ Fg := fun m => ex_ne (G4.own dv m) hdv rfl
    have f4 : H0 dv = none := t4.none dv hdv
    have s5 := same_new (o := .dK []) hdv
    have h5 := s5 _ _ h4
    have v5 : upd H4 dv (.dK []) dv = some (.dK []) := upd_same
    have L5 := L4.ch (Ch.of s5 []) (fun z => nomatch z) (fun z => nomatch z) (fun z => nomatch z)
    have G5 := G4.frame (Ch.of s5 []) (fun _ _ z => nomatch z)
    have t5 := t4.same s5
    generalize upd H4 dv (.dK []) = H5 at h5 v5 L5 G5 t5 ⊢
    clear s5 h4 L4 G4 t4 hl4 hdv
    refine ⟨_, rfl, p, c.C, dx, _, rfl, h5, T.cl, T.n3, (by show 3 < 1000; decide), ?_⟩
    have c6 : Ch H5 (upd H5 p (.ins c.C dx (putF "_values" (.ref dv) (putF "_log" (.ref pg) (putF "_leases" (.ref pl) (putF "now" (.int 0) [])))))) [p] := (Ch.refl _ _).mut (by simp) h5 (nt _)
    have L6 := L5.ch c6 (o1 npl) (o1 npt) (o1 npe)
    have G6 := G5.frame c6 og
    have v6 := c6.at v5 (o1 nv.1)
    have h6 : upd H5 p (.ins c.C dx (putF "_values" (.ref dv) (putF "_log" (.ref pg) (putF "_leases" (.ref pl) (putF "now" (.int 0) []))))) p = some (.ins c.C dx (putF "_values" (.ref dv) (putF "_log" (.ref pg) (putF "_leases" (.ref pl) (putF "now" (.int 0) []))))) := upd_same
    have t6 := t5.trans c6
    generalize upd H5 p (.ins c.C dx (putF "_values" (.ref dv) (putF "_log" (.ref pg) (putF "_leases" (.ref pl) (putF "now" (.int 0) []))))) = H6 at h6 v6 L6 G6 t6 ⊢
    clear c6 h5 v5 L5 G5 t5
    intro dh hdh
    obtain ⟨dl6, hl6⟩ := L6.ob
    have nh : p ≠ dh ∧ pl ≠ dh ∧ dt ≠ dh ∧ de ≠ dh ∧ dv ≠ dh := ⟨ne_of_none h6 hdh, ne_of_none hl6 hdh, ne_of_none L6.tk hdh, ne_of_none L6.en hdh, ne_of_none v6 hdh⟩
    have gh : dh ∉ Fg := fun m => ex_ne (G6.own dh m) hdh rfl
    have f6 : H0 dh = none := t6.none dh hdh
    have s7 := same_new (o := .dK []) hdh
    have h7 := s7 _ _ h6
    have v7 := s7 _ _ v6
    have k7 : upd H6 dh (.dK []) dh = some (.dK []) := upd_same
    have L7 := L6.ch (Ch.of s7 []) (fun z => nomatch z) (fun z => nomatch z) (fun z => nomatch z)
    have G7 := G6.frame (Ch.of s7 []) (fun _ _ z => nomatch z)
    have t7 := t6.same s7
    generalize upd H6 dh (.dK []) = H7 at h7 v7 k7 L7 G7 t7 ⊢
    clear s7 h6 v6 L6 G6 t6 hl6 hdh
    refine ⟨_, rfl, p, c.C, dx, _, rfl, h7, T.cl, T.n4, (by show 4 < 1000; decide), ?_⟩
    refine ⟨_, rfl, p, c.C, dx, _, rfl, upd_same, T.cl, T.n5, (by show 5 < 1000; decide), ?_⟩
    have c8 : Ch H7 (upd (upd H7 p (.ins c.C dx (putF "_holders" (.ref dh) (putF "_values" (.ref dv) (putF "_log" (.ref pg) (putF "_leases" (.ref pl) (putF "now" (.int 0) []))))))) p (.ins c.C dx (putF "_entered" (.int 0) (putF "_holders" (.ref dh) (putF "_values" (.ref dv) (putF "_log" (.ref pg) (putF "_leases" (.ref pl) (putF "now" (.int 0) [])))))))) [p] := ((Ch.refl _ _).mut (by simp) h7 (nt _)).mut (by simp) h7 (nt _)
    have L8 := L7.ch c8 (o1 npl) (o1 npt) (o1 npe)
    have G8 := G7.frame c8 og
    have v8 := c8.at v7 (o1 nv.1)
    have k8 := c8.at k7 (o1 nh.1)
    have h8 : (upd (upd H7 p (.ins c.C dx (putF "_holders" (.ref dh) (putF "_values" (.ref dv) (putF "_log" (.ref pg) (putF "_leases" (.ref pl) (putF "now" (.int 0) []))))))) p (.ins c.C dx (putF "_entered" (.int 0) (putF "_holders" (.ref dh) (putF "_values" (.ref dv) (putF "_log" (.ref pg) (putF "_leases" (.ref pl) (putF "now" (.int 0) [])))))))) p = some (.ins c.C dx (putF "_entered" (.int 0) (putF "_holders" (.ref dh) (putF "_values" (.ref dv) (putF "_log" (.ref pg) (putF "_leases" (.ref pl) (putF "now" (.int 0) []))))))) := upd_same
    have t8 := t7.trans c8
    generalize upd (upd H7 p (.ins c.C dx (putF "_holders" (.ref dh) (putF "_values" (.ref dv) (putF "_log" (.ref pg) (putF "_leases" (.ref pl) (putF "now" (.int 0) []))))))) p (.ins c.C dx (putF "_entered" (.int 0) (putF "_holders" (.ref dh) (putF "_values" (.ref dv) (putF "_log" (.ref pg) (putF "_leases" (.ref pl) (putF "now" (.int 0) []))))))) = H8 at h8 v8 k8 L8 G8 t8 ⊢
    clear c8 h7 v7 k7 L7 G7 t7
    intro dw hdw
    obtain ⟨dl8, hl8⟩ := L8.ob
    have nw : p ≠ dw ∧ pl ≠ dw ∧ dt ≠ dw ∧ de ≠ dw ∧ dv ≠ dw ∧ dh ≠ dw := ⟨ne_of_none h8 hdw, ne_of_none hl8 hdw, ne_of_none L8.tk hdw, ne_of_none L8.en hdw, ne_of_none v8 hdw, ne_of_none k8 hdw⟩
    have gw : dw ∉ Fg := fun m => ex_ne (G8.own dw m) hdw rfl
    have f8 : H0 dw = none := t8.none dw hdw
    have s9 := same_new (o := .dK []) hdw
    have h9 := s9 _ _ h8
    have v9 := s9 _ _ v8
    have k9 := s9 _ _ k8
    have w9 : upd H8 dw (.dK []) dw = some (.dK []) := upd_same
    have L9 := L8.ch (Ch.of s9 []) (fun z => nomatch z) (fun z => nomatch z) (fun z => nomatch z)
    have G9 := G8.frame (Ch.of s9 []) (fun _ _ z => nomatch z)
    have t9 := t8.same s9
    generalize upd H8 dw (.dK []) = H9 at h9 v9 k9 w9 L9 G9 t9 ⊢
    clear s9 h8 v8 k8 L8 G8 t8 hl8 hdw
    refine ⟨_, rfl, p, c.C, dx, _, rfl, h9, T.cl, T.n6, (by show 6 < 1000; decide), ?_⟩
    let R : Rc := ⟨pl, dt, de, pg, Fg, dv, dh, dw, [], [], [], [], [], [], []⟩
    have ef : putF "_watchers" (V.ref dw) (putF "_entered" (.int 0) (putF "_holders" (.ref dh) (putF "_values" (.ref dv) (putF "_log" (.ref pg) (putF "_leases" (.ref pl) (putF "now" (.int 0) [])))))) = rFl .init R := rfl
    rw [ef]
    have ca : Ch H9 (upd H9 p (.ins c.C dx (rFl .init R))) [p] := (Ch.refl _ _).mut (by simp) h9 (nt _)
    have nd : (R.o p).Nodup := by
      show [p, pl, dt, de, dv, dh, dw].Nodup
      simp only [List.nodup_cons, List.mem_cons, List.not_mem_nil, or_false, not_or, List.nodup_nil, not_false_eq_true, and_true]
      exact ⟨⟨npl, npt, npe, nv.1, nh.1, nw.1⟩, ⟨nlt, nle, nv.2.1, nh.2.1, nw.2.1⟩, ⟨nte, nv.2.2.1, nh.2.2.1, nw.2.2.1⟩, ⟨nv.2.2.2, nh.2.2.2.1, nw.2.2.2.1⟩, ⟨nh.2.2.2.2, nw.2.2.2.2.1⟩, nw.2.2.2.2.2⟩
    have A : RcAt c (upd H9 p (.ins c.C dx (rFl .init R))) p R .init := ⟨⟨dx, upd_same⟩, L9.ch ca (o1 npl) (o1 npt) (o1 npe), G9.frame ca og, ca.at v9 (o1 nv.1), ca.at k9 (o1 nh.1), ca.at w9 (o1 nw.1), (fun _ z => nomatch z), .nil, .nil, .nil, nd, fun a ha z => by
        change a ∈ [p, pl, dt, de, dv, dh, dw] at z
        simp only [List.mem_cons, List.not_mem_nil, or_false] at z
        rcases z with rfl | rfl | rfl | rfl | rfl | rfl | rfl
        · exact gp ha
        · exact gl ha
        · exact gt ha
        · exact ge ha
        · exact gv ha
        · exact gh ha
        · exact gw ha, rfl, (fun _ _ z => nomatch z), rfl, rfl, .nil, .nil, .nil, (fun _ z => nomatch z), (fun _ z => nomatch z), (fun _ z => nomatch z)⟩
    refine k _ _ ⟨R, rfl, A, ⟨Nat.le_refl _, Nat.le_refl _, Nat.le_refl _, Nat.le_refl _, (fun _ z => nomatch z)⟩⟩ (fun a ha => ?_) ((c0.trans t9).trans ca)
    rcases List.mem_append.mp ha with h | h
    · change a ∈ [p, pl, dt, de, dv, dh, dw] at h
      simp only [List.mem_cons, List.not_mem_nil, or_false] at h
      rcases h with rfl | rfl | rfl | rfl | rfl | rfl | rfl
      · exact .inl rfl
      · exact .inr (c0.none _ nl)
      · exact .inr (c0.none _ fl)
      · exact .inr (c0.none _ fe)
      · exact .inr (c0.none _ f4)
      · exact .inr (c0.none _ f6)
      · exact .inr (c0.none _ f8)
    · exact .inr (c0.none _ (fg0 a h))
end
end KL

/-! sorted of pairs of texts, any number of them; sorted of a dict's items -/
namespace PT
open PySem PySem.Spec PyProof.Rows L2 L2H
/-- pairs of texts, by their first, then by their second -/
def lexS (p q : Str × Str) : Bool := if p.1 = q.1 then decide (p.2.cps.toList < q.2.cps.toList) else decide (p.1.cps.toList < q.1.cps.toList)
theorem lexS_iff {p q : Str × Str} : lexS p q = true ↔ p.1.cps.toList < q.1.cps.toList ∨ (p.1 = q.1 ∧ p.2.cps.toList < q.2.cps.toList) := by
  unfold lexS
  by_cases e : p.1 = q.1
  · rw [if_pos e, decide_eq_true_eq, e]
    exact ⟨fun h => .inr ⟨rfl, h⟩, fun h => h.elim (fun z => absurd z (List.lt_irrefl _)) fun z => z.2⟩
  · rw [if_neg e, decide_eq_true_eq]
    exact ⟨.inl, fun h => h.elim id fun z => absurd z.1 e⟩
theorem ltL_trans {a b c : List Nat} (h : a < b) (k : b < c) : a < c := List.lt_trans h k
theorem ltL_as {a b : List Nat} (h : a < b) : ¬ b < a := fun k => List.lt_irrefl _ (List.lt_trans h k)
theorem tri {a b : Str} (h : ¬ a.cps.toList < b.cps.toList) (k : ¬ b.cps.toList < a.cps.toList) : a = b := TL.ext_tl (List.le_antisymm (List.not_lt.mp k) (List.not_lt.mp h))
theorem swo_lexS {α : Type} (k : α → Str × Str) : SrtO.Swo fun u v => lexS (k u) (k v) := by
  refine ⟨fun x y h => ?_, fun x y z h1 h2 => ?_⟩
  · refine Bool.eq_false_iff.mpr fun g => ?_
    rcases lexS_iff.mp h with a | ⟨a1, a2⟩ <;> rcases lexS_iff.mp g with b | ⟨b1, b2⟩
    · exact ltL_as a b
    · rw [b1] at a; exact List.lt_irrefl _ a
    · rw [a1] at b; exact List.lt_irrefl _ b
    · exact ltL_as a2 b2
  · refine Bool.eq_false_iff.mpr fun g => ?_
    have n1 : ¬ lexS (k y) (k x) = true := by rw [h1]; decide
    have n2 : ¬ lexS (k z) (k y) = true := by rw [h2]; decide
    rw [lexS_iff, not_or, not_and] at n1 n2
    have q1 := List.not_lt.mp n1.1
    have q2 := List.not_lt.mp n2.1
    rcases lexS_iff.mp g with a | ⟨a1, a2⟩
    · exact List.not_lt.mpr (List.le_trans q1 q2) a
    · have q3 := n2.1
      rw [a1] at q3
      have e : (k x).1 = (k y).1 := tri q3 n1.1
      have r1 := n1.2 e.symm
      have r2 := n2.2 (a1.trans e)
      exact List.not_lt.mpr (List.le_trans (List.not_lt.mp r1) (List.not_lt.mp r2)) a2
section
variable {prog : Program} {w : World} {A : Around} {E : Value → Shared → Prop} {s : Shared}
/-- v is a tuple of two texts in the heap -/
def Two (h : Heap) (v : Value) (p : Str × Str) : Prop := ∃ b o c1 c2 n, v = .ref b ∧ h.get? b = some o ∧ o.cls = .type "tuple" ∧ o.data = .seq #[.str p.1 c1, .str p.2 c2] n
theorem Two.keeps {g g' : Heap} {v : Value} {p : Str × Str} (x : Two g v p) (k : ∀ b o, g.get? b = some o → o.cls = .type "tuple" → g'.get? b = some o) : Two g' v p := by
  obtain ⟨b, o, c1, c2, n, e, h1, h2, h3⟩ := x
  exact ⟨b, o, c1, c2, n, e, k _ _ h1 h2, h2, h3⟩
theorem two_cmp {vs : List Value} {k : Value → Str × Str} (hk : ∀ v ∈ vs, Two s.heap v (k v)) : SrtO.Cmp prog w A s (tuples' true) (fun p => p.1 ∈ vs) (SrtO.lt2 fun v u => lexS (k v) (k u)) := by
  intro p q m1 m2
  have g1 := hk _ m1
  have g2 := hk _ m2
  show wpAny (model prog w) A (keyLt' (tuples' true) p.1 q.1) (fun r z => z = s ∧ r = lexS (k p.1) (k q.1)) (fun _ _ => False) s
  generalize k p.1 = x at g1 ⊢
  generalize k q.1 = y at g2 ⊢
  obtain ⟨x1, x2⟩ := x
  obtain ⟨y1, y2⟩ := y
  obtain ⟨b, o, c1, c2, n, e1, i1, i2, i3⟩ := g1
  obtain ⟨d, u, d1, d2, m, e2, j1, j2, j3⟩ := g2
  rw [e1, e2]
  refine PySem.W.kat_lt i1 i3 j1 j3 ?_
  show PySem.W.KatLex prog w A true (decide (2 < 2)) _ [(.str x1 c1, .str y1 d1), (.str x2 c2, .str y2 d2)] 0 s
  refine PySem.W.kat_cons (SeqAt.EqAt.str_str x1 c1 y1 d1 prog w _ _ ?_)
  refine PySem.W.kat_go (fun a1 => ?_) fun a1 => ?_
  · have ex : x1 = y1 := by simpa using a1
    refine PySem.W.kat_yes (PySem.W.kat_cons (SeqAt.EqAt.str_str x2 c2 y2 d2 prog w _ _ ?_))
    refine PySem.W.kat_go (fun a2 => ?_) fun a2 => ?_
    · have ey : x2 = y2 := by simpa using a2
      have ef : lexS (x1, x2) (y1, y2) = false := by
        unfold lexS
        rw [if_pos ex]
        refine decide_eq_false ?_
        rw [ey]
        exact List.lt_irrefl _
      exact PySem.W.kat_yes (PySem.W.kat_nil ⟨rfl, ef.symm⟩)
    · have ef : lexS (x1, x2) (y1, y2) = decide (x2.cps.toList < y2.cps.toList) := by
        unfold lexS
        rw [if_pos ex]
      refine PySem.W.kat_no (PySem.W.kat_one _ _ (PyProof.Rows.lt_str ?_))
      exact (show s = s ∧ decide (x2.cps.toList < y2.cps.toList) = lexS (x1, x2) (y1, y2) from ⟨rfl, ef.symm⟩)
  · have ex : ¬ x1 = y1 := by simpa using a1
    have ef : lexS (x1, x2) (y1, y2) = decide (x1.cps.toList < y1.cps.toList) := by
      unfold lexS
      rw [if_neg ex]
    exact PySem.W.kat_no (oneLt_str ⟨rfl, ef.symm⟩)
theorem two_firsts {g : Heap} {k : Value → Str × Str} : ∀ {vs : List Value}, (∀ v ∈ vs, Two g v (k v)) → ∃ fs : List Value, PySem.W.KatTups g vs fs ∧ fs.length = vs.length ∧ ∀ f ∈ fs, ∃ x c, f = Value.str x c
  | [], _ => ⟨[], PySem.W.KatTups.nil, rfl, fun _ z => nomatch z⟩
  | v :: vs, h => by
    obtain ⟨fs, a1, a2, a3⟩ := two_firsts (vs := vs) fun x hx => h x (List.mem_cons_of_mem _ hx)
    obtain ⟨b, o, c1, c2, n, e, i1, i2, i3⟩ := h v List.mem_cons_self
    subst e
    refine ⟨.str (k (.ref b)).1 c1 :: fs, PySem.W.KatTups.cons i1 i2 i3 rfl a1, by rw [List.length_cons, List.length_cons, a2], fun f hf => ?_⟩
    rcases List.mem_cons.mp hf with rfl | hf
    · exact ⟨_, _, rfl⟩
    · exact a3 f hf
theorem two_sortable {a : Addr} {vs : List Value} {k : Value → Str × Str} (h0 : 0 < vs.length) (hk : ∀ v ∈ vs, Two s.heap v (k v)) (ha : ∀ o, s.heap.get? a = some o → o.cls ≠ .type "tuple") : SrtO.SortableO prog w A s a vs fun v u => lexS (k v) (k u) := by
  intro g keep
  have hg : ∀ v ∈ vs, Two g v (k v) := fun v hv => (hk v hv).keeps fun b o e c => keep b o (fun z => ha o (z ▸ e) c) e
  obtain ⟨fs, a1, a2, a3⟩ := two_firsts hg
  refine ⟨tuples' true, fun Q F hq => ?_, two_cmp hg⟩
  refine PySem.W.kat_kind (T := .type "str") a1 (by omega) (fun f hf => ?_) (by rfl) ?_
  · obtain ⟨x, c, rfl⟩ := a3 f hf
    exact PySem.W.Looks.now
  · have e : (Value.type "str" != Value.type "tuple") = true := by decide +kernel
    rw [e]
    exact hq
end
end PT
namespace LX
open PySem PySem.Spec PyProof.Rows L2 L2H
section
variable {X : Cx}
/-- sorted(xs), xs a list of pairs of texts -/
def rSortTT (K : PySem.W.Frag) : List V → Hp → VK → Prop := fun vs H Q => ∃ (a : Addr) (xs : List V) (k : V → Str × Str), vs = [V.ref a] ∧ SqL K H a xs ∧ (∀ x ∈ xs, ∃ t, x = V.ref t ∧ H t = some (.tup [.str (k x).1, .str (k x).2])) ∧
  ∀ ys p, ys.Perm xs → ys.Pairwise (fun x y => PT.lexS (k y) (k x) = false) → H p = none → Q (.ref p) (upd H p (.lst ys))
theorem cr_sortTT : CallR X (.builtin "sorted") (rSortTT X.K) := by
  intro pins s σ H vs us Q I r h
  obtain ⟨a, xs, k, rfl, hs, hx, q⟩ := h
  obtain ⟨its, rv, hl, hz⟩ := I.list hs
  obtain ⟨u, rfl, ru⟩ := vals1 r
  obtain rfl : u = Value.ref a := ru
  obtain ⟨e1, e2⟩ := refs_back rv fun x m => let ⟨t, e, _⟩ := hx x m; ⟨t, e⟩
  have two : ∀ v ∈ its, PT.Two s.heap v (k (backV v)) := fun v hv => by
    obtain ⟨t, rfl⟩ := e2 v hv
    have hm : V.ref t ∈ xs := by rw [e1]; exact List.mem_map.mpr ⟨_, hv, rfl⟩
    obtain ⟨t', e, ht⟩ := hx _ hm
    cases e
    obtain ⟨_, its2, r2, o, ho, hc, n, hd⟩ := I.hok _ _ ht
    obtain ⟨u1, u2, rfl, ri, rj⟩ := vals2 r2
    obtain ⟨t1, rfl⟩ := ri
    obtain ⟨t2, rfl⟩ := rj
    exact ⟨t, o, t1, t2, n, rfl, ho, hc, hd⟩
  refine SrtO.sorted_ord (PT.swo_lexS fun v => k (backV v)) hl.isList (by rw [← rv.length]; exact hz) (fun h2 h₁ b hb kk => ?_) fun out hso hst => ?_
  · refine PT.two_sortable (s := { s with heap := h₁ }) (k := fun v => k (backV v)) (by omega) (fun v hv => (two v hv).keeps fun c o e _ => (kk c o e).2) fun o e => ?_
    have z : some o = some (seqObj "list" its.toArray 0) := e.symm.trans hb
    cases z
    intro c
    exact absurd (Value.type.inj c) (by decide)
  · have h3 : ∀ u ∈ out, ∃ b, u = Value.ref b := fun u hu => e2 u (hst.perm.mem_iff.mp hu)
    obtain ⟨n, hn⟩ := sortedAll_at s.heap its out.toArray
    have hp : (out.map backV).Perm xs := by
      rw [e1]
      exact hst.perm.map backV
    refine ⟨.ref (s.heap.objs.size + 1), upd H (s.heap.objs.size + 1) (.lst (out.map backV)), I.laid (t' := s.toks) (fun b o e => sortedAll_old e) (Nat.le_succ _) ⟨?_, out, n, vals_back h3, hn⟩, rfl, q _ _ hp (List.pairwise_map.mpr hso) (I.hok.fresh (Nat.le_succ _))⟩
    rw [hp.length_eq]
    exact hz
end
end LX

/-! sorted(d.items()) of a dict of texts -/
namespace PT
open PySem PySem.Spec PyProof.Rows L2 L2H KB
theorem ent_of {P : Program} {w : World} : ∀ {ps : KVs} {vs : List (Key × Value)} {es : List DictEntry} {j : Nat} {p : Str × Str}, KV (dV ps) vs → PySem.Pairs (mixKind P w) es vs → ps[j]? = some p →
    ∃ e c1 c2, es[j]? = some e ∧ e.key = Value.str p.1 c1 ∧ e.val = Value.str p.2 c2
  | [], _, _, j, p, _, _, h => by simp at h
  | q :: ps, _, _, 0, p, .cons r m, .cons h1 h2 h3, h => by
    have e : q = p := Option.some.inj h
    subst e
    obtain ⟨r1, r2⟩ := r
    obtain ⟨c2, ev⟩ := (show ∃ c, _ = Value.str q.2 c from r2)
    have h1' := h1
    rw [← r1] at h1'
    obtain ⟨c1, ek⟩ := Value.isStrOf_shape (x := q.1) h1'
    exact ⟨_, c1, c2, rfl, ek, h2.trans ev⟩
  | q :: ps, _, _, j + 1, p, .cons r m, .cons h1 h2 h3, h => ent_of (j := j) m h3 (by simpa using h)
end PT
namespace LX
open PySem PySem.Spec PyProof.Rows L2 L2H KB
section
variable {X : Cx}
def rItemsK : V → List V → Hp → VK → Prop := fun x xs H Q => ∃ (a : Addr) (kvs : List (Key × V)), x = .ref a ∧ xs = [] ∧ H a = some (.dK kvs) ∧ ∀ p, H p = none → Q (.ref p) (upd H p (DX.itemsO p a))
theorem mt_itemsK : MtR X "dict.items" rItemsK := by
  intro pins s σ H x xs v us Q I rx rxs h
  obtain ⟨a, kvs, rfl, rfl, ha, q⟩ := h
  cases rx
  cases rxs
  obtain ⟨_, nsys, vs, rel, o, es, ep, g1, g2, g3, _⟩ := dk_of I.hok ha
  refine DT.callItems (es := es) (ep := ep) nsys ⟨o, g1, g2, g3⟩ ?_
  exact ⟨.ref s.heap.objs.size, upd H s.heap.objs.size (DX.itemsO s.heap.objs.size a), I.laid (t' := s.toks) (fun b u e => Heap.get?_push_of_some _ e) (Nat.le_refl _) (DX.itemsO_ok (Heap.get?_push_size _ rfl)), rfl, q _ (I.hok.fresh (Nat.le_refl _))⟩
/-- the view at p of the dict at a, whose keys and values are texts -/
def rSortItK : List V → Hp → VK → Prop := fun vs H Q => ∃ (p a : Addr) (ps : KVs), vs = [.ref p] ∧ H p = some (DX.itemsO p a) ∧ H a = some (.dK (dV ps)) ∧
  ∀ H' l ts qs, Same H H' → H l = none → H' l = some (.lst (ts.map V.ref)) → PairsAt H' ts qs → qs.Perm ps → qs.Pairwise (fun x y => PT.lexS y x = false) → Q (.ref l) H'
theorem cr_sortItK (hc : X.calm = true) : CallR X (.builtin "sorted") rSortItK := by
  intro pins s σ H xs us Q I r h
  obtain ⟨p, a, ps, rfl, hp, ha, q⟩ := h
  obtain rfl := Vals.ref1 r
  have view : s.heap.IsItemsView p a := (show ObjOk X.prog X.w H s.heap p (DX.itemsO p a) from I.hok p _ hp).1
  obtain ⟨z, nsys, vs, rel, o, es, ep, g1, g2, g3, _, g5, _⟩ := dk_of I.hok ha
  have l0 : (dV ps).length = ps.length := List.length_map _
  have l1 : ps.length = vs.length := l0.symm.trans (Paired.length rel)
  have l2 : es.size = vs.length := by rw [← Array.length_toList]; exact g5.length
  refine DT.sortedI (es := es) (ep := ep) (I.ok.hd hc) view ⟨o, g1, g2, g3⟩ (by rw [l2, ← l1, ← l0]; exact z) fun h' tk as hk hlt hl hG => ?_
  have lak : as.length = ps.length := by omega
  have nd : as.Nodup := List.Pairwise.imp (fun h => Nat.ne_of_lt h) hG.rise
  have zk : ((as.zip ps).map (·.1)) = as := List.map_fst_zip (Nat.le_of_eq lak)
  have ndz : ((as.zip ps).map (·.1)).Nodup := by rw [zk]; exact nd
  -- what each of them is
  let k : Value → Str × Str := fun v => match v with
    | .ref b => (getA (as.zip ps) b).getD ("", "")
    | _ => ("", "")
  have kAt : ∀ {j : Nat} {b : Addr}, as[j]? = some b → ∃ pr, ps[j]? = some pr ∧ k (.ref b) = pr := fun {j b} hj => by
    have hlt : j < ps.length := by rw [← lak]; exact (List.getElem?_eq_some_iff.mp hj).1
    refine ⟨ps[j], List.getElem?_eq_getElem hlt, ?_⟩
    have m : (b, ps[j]) ∈ as.zip ps := List.mem_iff_getElem?.mpr ⟨j, List.getElem?_zip_eq_some.mpr ⟨hj, List.getElem?_eq_getElem hlt⟩⟩
    show (getA (as.zip ps) b).getD ("", "") = ps[j]
    rw [getA_of ndz m]
    rfl
  have two : ∀ {j : Nat} {b : Addr}, as[j]? = some b → PT.Two h' (.ref b) (k (.ref b)) := fun {j b} hj => by
    obtain ⟨pr, e1, e2⟩ := kAt hj
    obtain ⟨en, e3, e4⟩ := hG.pairs j b hj
    obtain ⟨en', c1, c2, e5, e6, e7⟩ := PT.ent_of rel g5 e1
    rw [Array.getElem?_toList, e3] at e5
    cases e5
    rw [e6, e7] at e4
    rw [e2]
    exact ⟨b, _, c1, c2, 0, rfl, e4, rfl, rfl⟩
  have twoM : ∀ v ∈ as.map Value.ref, PT.Two h' v (k v) := fun v hv => by
    obtain ⟨b, hb, rfl⟩ := List.mem_map.mp hv
    obtain ⟨j, hj⟩ := List.mem_iff_getElem?.mp hb
    exact two hj
  have hob : (h'.push { cls := .type "list", data := .seq (as.map Value.ref).toArray }).get? h'.objs.size = some (seqObj "list" (as.map Value.ref).toArray 0) := Heap.get?_push_size _ rfl
  have ne0 : ∀ b u, h'.get? b = some u → b ≠ h'.objs.size := fun b u e => Nat.ne_of_lt (Heap.lt_size e)
  have ka : ∀ b u, h'.get? b = some u → (h'.push { cls := .type "list", data := .seq (as.map Value.ref).toArray }).get? b = some u := fun b u e => Heap.get?_push_of_some _ e
  generalize h'.push { cls := .type "list", data := .seq (as.map Value.ref).toArray } = h2 at hob ka ⊢
  have lz : (as.map Value.ref).length ≤ sizeLine := by
    rw [List.length_map, lak, ← l0]
    exact z
  refine wpAny_call_entry PyProof.Rows.slot_list_sort ⟨_, hob, rfl⟩ PyProof.Rows.entry_list_sort (SrtO.list_sort_ord (s := { s with heap := h2, toks := tk }) (PT.swo_lexS k) hob lz (fun hh2 => ?_) fun out hso hst => ⟨_, rfl, ?_⟩) (PyProof.Rows.args_list_sort _)
  · refine PT.two_sortable (s := { s with heap := h2, toks := tk }) (k := k) (by omega) (fun v hv => (twoM v hv).keeps fun b u e _ => ka b u e) fun u e => ?_
    have z2 : some u = some (seqObj "list" (as.map Value.ref).toArray 0) := e.symm.trans hob
    cases z2
    intro c
    exact absurd (Value.type.inj c) (by decide)
  · show EP X pins σ Q (.ref h'.objs.size) { s with heap := sortedHeap h2 h'.objs.size (as.map Value.ref) out.toArray, toks := tk }
    -- the list's items, in their new order
    have back : out = (out.map backV).map (fun v => match v with | .ref b => Value.ref b | _ => Value.none) := by
      rw [List.map_map]
      refine (List.map_id out).symm.trans (List.map_congr_left fun v hv => ?_)
      obtain ⟨b, _, rfl⟩ := List.mem_map.mp (hst.perm.mem_iff.mp hv)
      rfl
    obtain ⟨bs, hbs⟩ : ∃ bs : List Addr, out = bs.map Value.ref := by
      refine ⟨out.map fun v => match v with | .ref b => b | _ => 0, ?_⟩
      rw [List.map_map]
      refine (List.map_id out).symm.trans (List.map_congr_left fun v hv => ?_)
      obtain ⟨b, _, rfl⟩ := List.mem_map.mp (hst.perm.mem_iff.mp hv)
      rfl
    have pbs : bs.Perm as := by
      have e := (hst.perm.map fun v => match v with | .ref b => b | _ => (0 : Addr))
      rw [hbs, List.map_map, List.map_map] at e
      have e1 : ∀ l : List Addr, l.map ((fun v : Value => match v with | .ref b => b | _ => (0 : Addr)) ∘ Value.ref) = l := fun l => (List.map_congr_left fun _ _ => rfl).trans (List.map_id l)
      rw [e1, e1] at e
      exact e
    have kF : ∀ b u, h'.get? b = some u → (sortedHeap h2 h'.objs.size (as.map Value.ref) out.toArray).get? b = some u := fun b u e => (PyProof.Rows.sortedHeap_old (ne0 _ _ e) (Heap.lt_size (ka _ _ e))).trans (ka _ _ e)
    have kS : ∀ b u, s.heap.get? b = some u → (sortedHeap h2 h'.objs.size (as.map Value.ref) out.toArray).get? b = some u := fun b u e => kF b u (hk b u e)
    obtain ⟨eF, heF⟩ := PyProof.Rows.sortedHeap_at (vs := as.map Value.ref) (out := out.toArray) hob
    generalize sortedHeap h2 h'.objs.size (as.map Value.ref) out.toArray = hF at kF kS heF ⊢
    have I1 : Inv X pins σ H { s with heap := hF, toks := tk } := I.kept (t' := tk) kS
    have hn0 : H h'.objs.size = none := I.hok.fresh (Nat.le_of_lt hlt)
    have hlen : (bs.map V.ref).length ≤ sizeLine := by
      rw [List.length_map, pbs.length_eq, ← List.length_map (f := Value.ref)]
      exact lz
    have rv : Vals (bs.map V.ref) out := by
      rw [hbs]
      exact vals_maps (fun b : Addr => V.ref b) (fun b => Value.ref b) bs fun _ _ => rfl
    have I2 : Inv X pins σ (upd H h'.objs.size (.lst (bs.map V.ref))) { s with heap := hF, toks := tk } :=
      I1.take (h' := hF) (t' := tk) (fun b ob _ e => e) (I.fpOk (Nat.le_of_lt hlt) hn0) ⟨hlen, out, eF, rv, heF⟩
    obtain ⟨H2, I3, g, qt⟩ := DX.takeT (P := fun b ws => ws = [.str (k (.ref b)).1, .str (k (.ref b)).2]) I as _ I2 nd fun b hb => by
      obtain ⟨j, hj⟩ := List.mem_iff_getElem?.mp hb
      have hbl : s.heap.objs.size ≤ b := Nat.le_of_lt (hG.above b hb)
      obtain ⟨b', ob, c1, c2, n, eb, t1, t2, t3⟩ := two hj
      cases eb
      refine ⟨hbl, ?_, _, rfl, fun H3 => ⟨(by show 2 ≤ sizeLine; decide), [Value.str (k (.ref b)).1 c1, Value.str (k (.ref b)).2 c2], .cons ⟨_, rfl⟩ (.cons ⟨_, rfl⟩ .nil), ⟨ob, kF _ _ t1, t2, n, t3⟩⟩⟩
      rw [upd_ne (ne0 _ _ t1)]
      exact I.hok.fresh hbl
    have gr : Same H H2 := fun b u e => g b u (by rw [upd_ne (ne_of_none e hn0)]; exact e)
    have pk : (bs.map fun b => k (.ref b)).Perm ps := by
      have e := pbs.map fun b => k (.ref b)
      have e2 : as.map (fun b => k (.ref b)) = ps := by
        refine List.ext_getElem? fun j => ?_
        rw [List.getElem?_map]
        cases ej : as[j]? with
        | none =>
          have : ps.length ≤ j := by rw [← lak]; exact List.getElem?_eq_none_iff.mp ej
          rw [List.getElem?_eq_none this]
          rfl
        | some b =>
          obtain ⟨pr, e3, e4⟩ := kAt ej
          rw [e3, ← e4]
          rfl
      rw [e2] at e
      exact e
    have so : (bs.map fun b => k (.ref b)).Pairwise (fun x y => PT.lexS y x = false) := by
      rw [hbs] at hso
      exact List.pairwise_map.mpr (List.pairwise_map.mp hso)
    refine ⟨.ref h'.objs.size, H2, I3, rfl, q H2 h'.objs.size bs _ gr hn0 (g _ _ upd_same) ?_ pk so⟩
    have all : ∀ l : List Addr, (∀ b ∈ l, b ∈ as) → PairsAt H2 l (l.map fun b => k (.ref b)) := fun l => by
      induction l with
      | nil => exact fun _ => .nil
      | cons b l ih =>
        intro hl
        refine .cons ?_ (ih fun c hc => hl c (List.mem_cons_of_mem _ hc))
        obtain ⟨ws, rfl, hH⟩ := qt b (hl b List.mem_cons_self)
        exact hH
    exact all bs fun b hb => pbs.mem_iff.mp hb
end
end LX
namespace KB
open PySem L2 L2H LX
/-! ### sorted pairs of unlike keys -/
theorem lexS_le {x y : Str × Str} (h : PT.lexS y x = false) : leS x.1 y.1 := by
  rw [leS_iff]
  intro z
  have := PT.lexS_iff (p := y) (q := x) |>.mpr (.inl z)
  rw [this] at h
  cases h
theorem sortedS_of : ∀ {l : List Str}, l.Pairwise leS → PyProof.Rows.sortedS l = true
  | [], _ => rfl
  | x :: l, h => by
    show PyProof.Rows.risingS x l = true
    have go : ∀ (p : Str) (r : List Str), (p :: r).Pairwise leS → PyProof.Rows.risingS p r = true := fun p r => by
      induction r generalizing p with
      | nil => exact fun _ => rfl
      | cons y r ih =>
        intro h
        have h1 := (List.pairwise_cons.mp h).1 y List.mem_cons_self
        have h2 := ih y (List.pairwise_cons.mp h).2
        unfold PyProof.Rows.risingS
        rw [Bool.and_eq_true, Bool.not_eq_true']
        exact ⟨h1, h2⟩
    exact go x l h
theorem told_perm {d qs : KVs} (n : (d.map (·.1)).Nodup) (p : qs.Perm d) (s : qs.Pairwise fun x y => PT.lexS y x = false) : Told (getP d) qs := by
  have nq : (qs.map (·.1)).Nodup := (p.map (·.1)).nodup_iff.mpr n
  refine ⟨sortedS_of (List.pairwise_map.mpr (s.imp fun h => lexS_le h)), nq, fun k => ?_⟩
  cases e : getP d k with
  | none =>
    refine getP_none.mpr fun z => getP_none.mp e ((p.map (·.1)).mem_iff.mp z)
  | some v =>
    have m := p.mem_iff.mpr (getP_mem e)
    exact getP_of nq m
end KB

namespace KL
open PySem L2 L2H LX KB KA1
/-! ### the program's room: what is read of it -/
def heldV (s : Rm) (k : Str) : V := match s.held k with
  | some (v, _) => .str v
  | none => .non
def heldH (s : Rm) (k : Str) : Int := match s.held k with
  | some (_, h) => h
  | none => 0
def spValue0 (c : Cs) : Sp := fun vs H Q _ => ∃ (p : Addr) (k : Str) (R : Rc) (s : Rm), vs = [.ref p, .str k] ∧ RcAt c H p R s ∧ Q (heldV s k) H
def spHolder0 (c : Cs) : Sp := fun vs H Q _ => ∃ (p : Addr) (k : Str) (R : Rc) (s : Rm), vs = [.ref p, .str k] ∧ RcAt c H p R s ∧ Q (.int (heldH s k)) H
def spRLast0 (c : Cs) : Sp := fun vs H Q _ => ∃ (p : Addr) (R : Rc) (s : Rm), vs = [.ref p] ∧ RcAt c H p R s ∧ Q (.int s.rows.length) H
def spRFirst0 (c : Cs) : Sp := fun vs H Q _ => ∃ (p : Addr) (R : Rc) (s : Rm), vs = [.ref p] ∧ RcAt c H p R s ∧ Q (.int ((s.gone : Int) + 1)) H
theorem RcAt.gV {c : Cs} {H : Hp} {p : Addr} {R : Rc} {s : Rm} (A : RcAt c H p R s) (k : Str) : ∃ o : Option V, DGet H R.dv (.str k) o ∧ o.getD .non = heldV s k ∧ o.isSome = (s.held k).isSome := by
  refine ⟨_, DGet.k (k := Sum.inr k) A.va, ?_⟩
  unfold heldV
  rw [A.fh]
  rcases A.rv.get inr_inj k with ⟨e1, e2⟩ | ⟨b, v, e1, e2, e3⟩
  · rw [e1, e2]; exact ⟨rfl, rfl⟩
  · rw [e1, e2, e3]; exact ⟨rfl, rfl⟩
theorem RcAt.gH {c : Cs} {H : Hp} {p : Addr} {R : Rc} {s : Rm} (A : RcAt c H p R s) (k : Str) : ∃ o : Option V, DGet H R.dh (.str k) o ∧ o.getD (.int 0) = .int (heldH s k) := by
  refine ⟨_, DGet.k (k := Sum.inr k) A.ho, ?_⟩
  unfold heldH
  rw [A.fh]
  rcases A.rh.get inr_inj k with ⟨e1, e2⟩ | ⟨b, v, e1, e2, e3⟩
  · rw [e1, e2]; rfl
  · rw [e1, e2, e3]; rfl
/-- the pairs of a table whose keys begin with z -/
def preL (z : Str) (l : List (Str × (Str × Int))) : KVs := (l.filter fun x => isPre z x.1).map fun x => (x.1, x.2.1)
theorem preL_snoc {z : Str} {l : List (Str × (Str × Int))} {i : Nat} {x : Str × (Str × Int)} (h : l[i]? = some x) : preL z (l.take (i + 1)) = preL z (l.take i) ++ (if isPre z x.1 = true then [(x.1, x.2.1)] else []) := by
  have e : l.take (i + 1) = l.take i ++ [x] := by
    rw [List.take_add_one, h]; rfl
  rw [e]
  unfold preL
  rw [List.filter_append, List.map_append]
  congr 1
  by_cases c : isPre z x.1 = true
  · simp [c]
  · simp [c]
theorem preL_len (z : Str) (l : List (Str × (Str × Int))) : (preL z l).length ≤ l.length := by
  unfold preL
  rw [List.length_map]
  exact List.length_filter_le _ _
theorem preL_nodup {z : Str} {l : List (Str × (Str × Int))} (n : (l.map (·.1)).Nodup) : ((preL z l).map (·.1)).Nodup := by
  unfold preL
  rw [List.map_map]
  exact n.sublist (List.filter_sublist.map _)
theorem preL_get (z k : Str) : ∀ l : List (Str × (Str × Int)), getP (preL z l) k = if isPre z k = true then (getA l k).map (·.1) else none
  | [] => by
    split <;> rfl
  | x :: l => by
    have ih := preL_get z k l
    unfold preL at ih ⊢
    by_cases c : isPre z x.1 = true
    · rw [List.filter_cons_of_pos (by exact c), List.map_cons]
      by_cases e : x.1 = k
      · rw [getA_pos e]
        rw [e] at c
        rw [if_pos c]
        unfold getP
        rw [List.find?_cons_of_pos (by exact decide_eq_true e)]
        rfl
      · rw [getA_neg e, ← ih]
        unfold getP
        rw [List.find?_cons_of_neg (by rw [decide_eq_false e]; decide)]
    · rw [List.filter_cons_of_neg (by exact c), ih]
      by_cases e : x.1 = k
      · rw [e] at c
        rw [if_neg c, if_neg c]
      · rw [getA_neg e]
def kOfS (H : Hp) (x : V) : Str × Str := match x with
  | .ref t => (match H t with
    | some (.tup [.str a, .str b]) => (a, b)
    | _ => ("", ""))
  | _ => ("", "")
theorem kOfS_at {H : Hp} {t : Addr} {p : Str × Str} (h : H t = some (.tup [.str p.1, .str p.2])) : kOfS H (.ref t) = p := by
  unfold kOfS
  simp only [h]
theorem tt_prem {H : Hp} : ∀ {ts : List Addr} {qs : KVs}, PairsAt H ts qs → ∀ x ∈ ts.map V.ref, ∃ t, x = V.ref t ∧ H t = some (.tup [.str (kOfS H x).1, .str (kOfS H x).2])
  | _, _, .nil, x, h => by cases h
  | _, _, .cons (a := t) (b := p) r m, x, h => by
    rcases List.mem_cons.mp h with e | h
    · subst e
      exact ⟨t, rfl, by rw [kOfS_at r]; exact r⟩
    · exact tt_prem m x h
theorem tt_keys {H : Hp} : ∀ {ts : List Addr} {qs : KVs}, PairsAt H ts qs → (ts.map V.ref).map (kOfS H) = qs
  | _, _, .nil => rfl
  | _, _, .cons r m => by
    rw [List.map_cons, List.map_cons, kOfS_at r, tt_keys m]
theorem tt_back {H : Hp} : ∀ {ys : List V}, (∀ x ∈ ys, ∃ t, x = V.ref t ∧ H t = some (.tup [.str (kOfS H x).1, .str (kOfS H x).2])) → ∃ ts, ys = ts.map V.ref ∧ PairsAt H ts (ys.map (kOfS H))
  | [], _ => ⟨[], rfl, .nil⟩
  | y :: r, h => by
    obtain ⟨t, e, ht⟩ := h y List.mem_cons_self
    obtain ⟨ts, e2, m⟩ := tt_back (ys := r) fun x hx => h x (List.mem_cons_of_mem _ hx)
    exact ⟨t :: ts, by rw [List.map_cons, ← e, ← e2], .cons ht m⟩
theorem DRel.atL {α β : Type} {inj : α → Key} {R : β → V → Prop} : ∀ {d : List (α × β)} {kvs : List (Key × V)} {i : Nat} {x : α × β}, DRel inj R d kvs → d[i]? = some x → ∃ v, kvs[i]? = some (inj x.1, v) ∧ R x.2 v
  | _, _, i, x, .nil, h => by simp at h
  | _, _, 0, x, .cons (b := q) r m, h => by
    have e := Option.some.inj h
    subst e
    refine ⟨q.2, ?_, r.2⟩
    rw [← r.1]
    rfl
  | _, _, i + 1, x, .cons r m, h => DRel.atL (i := i) m h
section
variable {P : Program} {w : World} {K : PySem.W.Frag} {mg : Str → Option Value} {base : Heap} {c : Cs}
theorem ok_Room_value {f : Addr} {fd : FuncData} (F : Fun K "value" "Room.value" s_Room_value f fd) (T : RomT K c.C) : FnOk P w K mg base CX0 1 f fd p_Room_value (spValue0 c) := by
  refine F.ok sc_Room_value (fun vs H Q E h => ?_) (fun cdv A outer s H vs Q E hr h => ?_)
  · obtain ⟨p, k, R, s, rfl, _⟩ := h
    rfl
  · obtain ⟨p, ky, R, r, rfl, A1, k⟩ := h
    have hu := hu_of hr
    obtain ⟨dx, hp⟩ := A1.ob
    obtain ⟨o, g1, g2, _⟩ := A1.gV ky
    refine ⟨_, pss_one (ps_ret (pe_dget1 hu (pe_fld (pv 0) rfl) (pv 1) ⟨by rfl, by rfl, by rfl, by rfl⟩)), ?_⟩
    refine ⟨_, rfl, p, c.C, dx, _, _, rfl, hp, T.cl, T.n3, zf_get (i := 3) (by decide +kernel) rfl, R.dv, rfl, .inl ⟨_, .inl A1.va⟩, _, rfl, o, g1, ?_⟩
    rw [g2]
    exact k
theorem ok_Room_holder {f : Addr} {fd : FuncData} (F : Fun K "holder" "Room.holder" s_Room_holder f fd) (T : RomT K c.C) : FnOk P w K mg base CX0 1 f fd p_Room_holder (spHolder0 c) := by
  refine F.ok sc_Room_holder (fun vs H Q E h => ?_) (fun cdv A outer s H vs Q E hr h => ?_)
  · obtain ⟨p, k, R, s, rfl, _⟩ := h
    rfl
  · obtain ⟨p, ky, R, r, rfl, A1, k⟩ := h
    have hu := hu_of hr
    obtain ⟨dx, hp⟩ := A1.ob
    obtain ⟨o, g1, g2⟩ := A1.gH ky
    refine ⟨_, pss_one (ps_ret (pe_dget2 hu (pe_fld (pv 0) rfl) (pv 1) pe_int ⟨by rfl, by rfl, by rfl, by rfl⟩)), ?_⟩
    refine ⟨_, rfl, p, c.C, dx, _, _, rfl, hp, T.cl, T.n4, zf_get (i := 4) (by decide +kernel) rfl, R.dh, rfl, .inl ⟨_, .inl A1.ho⟩, _, rfl, o, g1, ?_⟩
    rw [g2]
    exact k
theorem ok_Room_last {f fL : Addr} {fd fdL : FuncData} {psL : List Str} (F : Fun K "last" "Room.last" s_Room_last f fd) (T : RomT K c.C) (TG : LogT K c.CG) (mL : Meth K c.CG "last" fL) (bL : Binds K fdL psL []) (GL : FnOk P w K mg base CX0 1 fL fdL psL (spLast0 c.CG)) :
    FnOk P w K mg base CX0 2 f fd p_Room_last (spRLast0 c) := by
  refine F.ok sc_Room_last (fun vs H Q E h => ?_) (fun cdv A outer s H vs Q E hr h => ?_)
  · obtain ⟨p, R, s, rfl, _⟩ := h
    rfl
  · obtain ⟨p, R, r, rfl, A1, k⟩ := h
    obtain ⟨dx, hp⟩ := A1.ob
    obtain ⟨_, dy, fs, hg, hm⟩ := A1.lg.inst
    refine ⟨_, pss_one (ps_ret (pe_meth0 (pe_fld (pv 0) rfl) TG.cl mL GL hr bL .nil pass0)), ?_⟩
    exact ⟨_, rfl, p, c.C, dx, _, _, rfl, hp, T.cl, T.n2, zf_get (i := 2) (by decide +kernel) rfl, R.pg, dy, fs, rfl, hg, hm _ (by simp), R.Fg, R.pg, r.rows, r.gone, rfl, A1.lg, k⟩
theorem ok_Room_first {f fL : Addr} {fd fdL : FuncData} {psL : List Str} (F : Fun K "first" "Room.first" s_Room_first f fd) (T : RomT K c.C) (TG : LogT K c.CG) (mL : Meth K c.CG "first" fL) (bL : Binds K fdL psL []) (GL : FnOk P w K mg base CX0 1 fL fdL psL (spFirst0 c.CG)) :
    FnOk P w K mg base CX0 2 f fd p_Room_first (spRFirst0 c) := by
  refine F.ok sc_Room_first (fun vs H Q E h => ?_) (fun cdv A outer s H vs Q E hr h => ?_)
  · obtain ⟨p, R, s, rfl, _⟩ := h
    rfl
  · obtain ⟨p, R, r, rfl, A1, k⟩ := h
    obtain ⟨dx, hp⟩ := A1.ob
    obtain ⟨_, dy, fs, hg, hm⟩ := A1.lg.inst
    refine ⟨_, pss_one (ps_ret (pe_meth0 (pe_fld (pv 0) rfl) TG.cl mL GL hr bL .nil pass0)), ?_⟩
    exact ⟨_, rfl, p, c.C, dx, _, _, rfl, hp, T.cl, T.n2, zf_get (i := 2) (by decide +kernel) rfl, R.pg, dy, fs, rfl, hg, hm _ (by simp), R.Fg, R.pg, r.rows, r.gone, rfl, A1.lg, k⟩
theorem api_value {k : Nat} {f : Addr} {fd : FuncData} {ps : List Str} (G : FnOk P w K mg base CX0 k f fd ps (spValue0 c)) : FnOk P w K mg base CX0 k f fd ps (spRValue (RsP c)) :=
  G.imp fun vs H Q E ⟨F, p, ky, s, e, ⟨R, eF, A, Z⟩, o, q⟩ => ⟨p, ky, R, s, e, A, q F H ⟨R, eF, A, Z⟩ (Grow.refl _ _) (Ch.refl _ _)⟩
theorem api_holder {k : Nat} {f : Addr} {fd : FuncData} {ps : List Str} (G : FnOk P w K mg base CX0 k f fd ps (spHolder0 c)) : FnOk P w K mg base CX0 k f fd ps (spRHolder (RsP c)) :=
  G.imp fun vs H Q E ⟨F, p, ky, s, e, ⟨R, eF, A, Z⟩, o, q⟩ => ⟨p, ky, R, s, e, A, q F H ⟨R, eF, A, Z⟩ (Grow.refl _ _) (Ch.refl _ _)⟩
theorem api_last {k : Nat} {f : Addr} {fd : FuncData} {ps : List Str} (G : FnOk P w K mg base CX0 k f fd ps (spRLast0 c)) : FnOk P w K mg base CX0 k f fd ps (spRLast (RsP c)) :=
  G.imp fun vs H Q E ⟨F, p, s, e, ⟨R, eF, A, Z⟩, q⟩ => ⟨p, R, s, e, A, q F H ⟨R, eF, A, Z⟩ (Grow.refl _ _) (Ch.refl _ _)⟩
theorem api_first {k : Nat} {f : Addr} {fd : FuncData} {ps : List Str} (G : FnOk P w K mg base CX0 k f fd ps (spRFirst0 c)) : FnOk P w K mg base CX0 k f fd ps (spRFirst (RsP c)) :=
  G.imp fun vs H Q E ⟨F, p, s, e, ⟨R, eF, A, Z⟩, q⟩ => ⟨p, R, s, e, A, q F H ⟨R, eF, A, Z⟩ (Grow.refl _ _) (Ch.refl _ _)⟩
end
end KL

namespace KL
open PySem L2 L2H LX KB KA1
/-! ### the program's room: a key goes -/
theorem setA_drop {α β : Type} [DecidableEq α] (d : List (α × β)) (k : α) : getA (dropA d k) = setF (getA d) k none := by
  funext j
  rw [getA_dropA]
  rfl
theorem setA_put {α β : Type} [DecidableEq α] (d : List (α × β)) (k : α) (v : β) : getA (putA d k v) = setF (getA d) k (some v) := by
  funext j
  rw [getA_putA]
  rfl
theorem dropA_less {α β : Type} [DecidableEq α] {d : List (α × β)} {k : α} (h : getA d k ≠ none) : (dropA d k).length + 1 ≤ d.length := by
  cases e : getA d k with
  | none => exact absurd e h
  | some v =>
    exact List.length_filter_lt_length_iff_exists (p := fun p : α × β => decide (p.1 ≠ k)) (l := d) |>.mpr ⟨(k, v), getA_mem e, by simp⟩
theorem all_snoc (s : Rm) (t : Int) (ks : List Str) (k : Str) : cutAll s t (ks ++ [k]) = cutM t (cutAll s t ks) k := by
  unfold cutAll
  rw [List.foldl_append]
  rfl
theorem all_held : ∀ (ks : List Str) (s : Rm) (t : Int) (k : Str), k ∉ ks → (cutAll s t ks).held k = s.held k
  | [], s, t, k, _ => rfl
  | j :: ks, s, t, k, h => by
    rw [List.mem_cons, not_or] at h
    show (cutAll (cutM t s j) t ks).held k = _
    rw [all_held ks _ t k h.2]
    show setF s.held j none k = _
    unfold setF
    rw [if_neg fun z => h.1 z.symm]
theorem all_ends : ∀ (ks : List Str) (s : Rm) (t : Int), (cutAll s t ks).ends = s.ends
  | [], s, t => rfl
  | j :: ks, s, t => all_ends ks (cutM t s j) t
theorem all_now : ∀ (ks : List Str) (s : Rm) (t n : Int), cutAll { s with now := n } t ks = { cutAll s t ks with now := n }
  | [], s, t, n => rfl
  | j :: ks, s, t, n => all_now ks (cutM t s j) t n
/-- what a way through the room leaves of the parts' sizes -/
structure Sub (R R' : Rc) (s s' : Rm) : Prop where
  t : R'.T.length ≤ R.T.length
  e : R'.E.length ≤ R.E.length
  h : R'.HV.length ≤ R.HV.length
  w : R'.WS = R.WS
  hr : R'.HV.length + s'.rows.length ≤ R.HV.length + s.rows.length
  r : s.rows.length ≤ s'.rows.length
  g : s'.given = s.given
  m : s'.met = s.met
theorem Sub.refl (R : Rc) (s : Rm) : Sub R R s s := ⟨Nat.le_refl _, Nat.le_refl _, Nat.le_refl _, rfl, Nat.le_refl _, Nat.le_refl _, rfl, rfl⟩
theorem Sub.trans {R R1 R2 : Rc} {s s1 s2 : Rm} (a : Sub R R1 s s1) (b : Sub R1 R2 s1 s2) : Sub R R2 s s2 :=
  ⟨Nat.le_trans b.t a.t, Nat.le_trans b.e a.e, Nat.le_trans b.h a.h, b.w.trans a.w, Nat.le_trans b.hr a.hr, Nat.le_trans a.r b.r, b.g.trans a.g, b.m.trans a.m⟩
theorem Sub.sz {R R' : Rc} {s s' : Rm} (a : Sub R R' s s') (z : RcSz R s) : RcSz R' s' :=
  ⟨by rw [a.g]; exact Nat.le_trans a.t z.t, by rw [a.g]; exact Nat.le_trans a.e z.e, Nat.le_trans a.h (Nat.le_trans z.h a.r), by rw [a.m, a.w]; exact z.w, fun x hx => by have q := z.wt x (a.w ▸ hx); have r := a.r; omega⟩
/-- from one room to the next -/
structure Way (c : Cs) (p : Addr) (H : Hp) (R : Rc) (s : Rm) (H' : Hp) (R' : Rc) (s' : Rm) : Prop where
  at_ : RcAt c H' p R' s'
  sub : Sub R R' s s'
  gr : Grow (R.F p) (R'.F p) H
  ch : Ch H H' (R.F p)
theorem Way.refl {c : Cs} {p : Addr} {H : Hp} {R : Rc} {s : Rm} (A : RcAt c H p R s) : Way c p H R s H R s := ⟨A, Sub.refl _ _, Grow.refl _ _, Ch.refl _ _⟩
theorem Way.trans {c : Cs} {p : Addr} {H H1 H2 : Hp} {R R1 R2 : Rc} {s s1 s2 : Rm} (a : Way c p H R s H1 R1 s1) (b : Way c p H1 R1 s1 H2 R2 s2) : Way c p H R s H2 R2 s2 :=
  ⟨b.at_, a.sub.trans b.sub, a.gr.trans b.gr a.ch.none, a.ch.seq a.gr b.ch⟩
theorem rcF_log {R : Rc} {p : Addr} {F' : List Addr} {H : Hp} (g : Grow R.Fg F' H) : Grow (R.F p) (Rc.F { R with Fg := F' } p) H := fun a ha => by
  rcases List.mem_append.mp ha with h | h
  · exact .inl (List.mem_append_left _ h)
  · rcases g a h with q | q
    · exact .inl (List.mem_append_right _ q)
    · exact .inr q
def spTakeOut (c : Cs) : Sp := fun vs H Q _ => ∃ (p : Addr) (k : Str) (t : Int) (R : Rc) (s : Rm), vs = [.ref p, .str k, .int t] ∧ RcAt c H p R s ∧ s.held k ≠ none ∧ s.rows.length ≤ 100000 ∧
  ∀ R' H', Way c p H R s H' R' (cutM t s k) → Q (.int ((s.rows.length : Int) + 1)) H'
def spRefL (c : Cs) (kk : Kinds) : Sp := fun vs H Q E => ∃ (p : Addr) (h : Int) (R : Rc) (s : Rm), vs = [.ref p, .int h] ∧ RcAt c H p R s ∧ (noLease s h → E (.ref kk.NL) none H) ∧ (¬ noLease s h → Q .non H)
def spRefH (c : Cs) (kk : Kinds) : Sp := fun vs H Q E => ∃ (p : Addr) (k : Str) (h : Int) (R : Rc) (s : Rm), vs = [.ref p, .str k, .int h] ∧ RcAt c H p R s ∧ (heldBy s k h → E (.ref kk.HE) none H) ∧ (¬ heldBy s k h → Q .non H)
theorem RcAt.inK {c : Cs} {H : Hp} {p : Addr} {R : Rc} {s : Rm} (A : RcAt c H p R s) {k : Str} (h : s.held k ≠ none) : TOk 60 k := by
  rw [A.fh] at h
  cases e : getA R.HV k with
  | none => exact absurd e h
  | some v => exact A.kH _ (getA_mem e)
section
variable {P : Program} {w : World} {K : PySem.W.Frag} {mg : Str → Option Value} {base : Heap} {c : Cs} {kk : Kinds}
theorem ok_Room_refuse_lease {f fU : Addr} {fd fdU : FuncData} {psU : List Str} (F : Fun K "_refuse_lease" "Room._refuse_lease" s_Room_u_refuse_lease f fd) (T : RomT K c.C) (TL : LeaT K mg c.CL) (mU : Meth K c.CL "refuse_unknown" fU) (bU : Binds K fdU psU []) (GU : FnOk P w K mg base (L2.CX P w) 1 fU fdU psU (spLeRefuse c.CL kk.NL)) :
    FnOk P w K mg base (L2.CX P w) 2 f fd p_Room_u_refuse_lease (spRefL c kk) := by
  refine F.okX sc_Room_u_refuse_lease (fun vs H Q E h => ?_) (fun cdv A outer s H vs Q E hr h => ?_)
  · obtain ⟨p, h, R, s, rfl, _⟩ := h
    rfl
  · obtain ⟨p, h, R, r, rfl, A1, k1, k2⟩ := h
    obtain ⟨dx, hp⟩ := A1.ob
    obtain ⟨dy, hl⟩ := A1.lt.ob
    refine ⟨_, pss_one (ps_if (pt_cmpR op_ne (pv 1) pe_int (nomark _)) (pss_one (ps_expr (pe_meth (E := E) (pe_fld (pv 0) rfl) TL.cl mU GU hr bU .nil (passes_call (takes_of rfl rfl rfl rfl) (fun _ _ _ _ h => h)) (pa_cons (pv 1) pa_nil)))) pss_nil), ?_⟩
    refine ⟨_, rfl, rfl, _, rfl, ?_⟩
    have ee : ∀ h, aget R.E h = r.ends h := fun h => by rw [aget_eq, A1.fe]
    by_cases c0 : h = 0
    · have nn : ¬ noLease r h := fun z => z.1 c0
      rw [decide_eq_true (congrArg V.int c0)]
      exact iteF (k2 nn)
    rw [decide_eq_false fun z => c0 (V.int.inj z)]
    refine iteT ⟨_, rfl, p, c.C, dx, _, _, rfl, hp, T.cl, T.n1, zf_get (i := 1) (by decide +kernel) rfl, R.pl, dy, _, rfl, hl, flds_no _ _ _ (by decide +kernel) (by decide +kernel) (by decide +kernel), _, rfl, R.pl, R.dt, R.de, _, h, R.T, R.E, rfl, A1.lt, fun z => ?_, fun z => ?_⟩
    · rw [ee] at z
      exact k1 ⟨c0, z⟩
    · rw [ee] at z
      refine k2 fun q => ?_
      rw [q.2] at z
      cases z
theorem ok_Room_refuse_held {f fH : Addr} {fd fdH : FuncData} {psH : List Str} (F : Fun K "_refuse_held" "Room._refuse_held" s_Room_u_refuse_held f fd) (T : RomT K c.C) (N : ErrT K mg "Held" kk.HE) (mH : Meth K c.C "holder" fH) (bH : Binds K fdH psH []) (GH : FnOk P w K mg base CX0 1 fH fdH psH (spHolder0 c)) :
    FnOk P w K mg base (L2.CX P w) 2 f fd p_Room_u_refuse_held (spRefH c kk) := by
  refine F.okX sc_Room_u_refuse_held (fun vs H Q E h => ?_) (fun cdv A outer s H vs Q E hr h => ?_)
  · obtain ⟨p, ky, h, R, s, rfl, _⟩ := h
    rfl
  · obtain ⟨p, ky, h, R, r, rfl, A1, k1, k2⟩ := h
    obtain ⟨dx, hp⟩ := A1.ob
    refine ⟨_, pss_cons (ps_set (i := 3) sc_Room_u_refuse_held.nd rfl (Or.inl rfl) (pe_meth (E := E0) (pv 0) T.cl mH GH hr bH .nil pass0 (pa_cons (pv 1) pa_nil)))
      (pss_one (ps_if (PW.pt (pw_and (pt_cmpR op_ne (pv 3) pe_int (nomark _)) (pw_and1 (pt_cmpR op_ne (pv 3) (pv 2) (nomark _))))) (pss_one (ps_raise rfl (takes_of rfl rfl rfl rfl) (pmk_own PySem.F.excBase_ValueError N.x N.g N.k (raises_own N.b N.t) rfl))) pss_nil)), ?_⟩
    refine ⟨_, rfl, p, dx, _, rfl, hp, zf_no (by decide +kernel), _, rfl, p, ky, R, r, rfl, A1, ?_⟩
    have hb : heldBy r ky h ↔ heldH r ky ≠ 0 ∧ heldH r ky ≠ h := by
      unfold heldBy heldH
      cases e : r.held ky with
      | none => simp
      | some v =>
        obtain ⟨v1, v2⟩ := v
        constructor
        · rintro ⟨a, j, e1, e2, e3⟩
          cases e1
          exact ⟨e2, e3⟩
        · rintro ⟨e2, e3⟩
          exact ⟨v1, v2, rfl, e2, e3⟩
    generalize heldH r ky = j at hb ⊢
    refine ⟨_, rfl, rfl, _, rfl, ?_⟩
    by_cases c1 : j = 0
    · rw [decide_eq_true (congrArg V.int c1)]
      exact iteF (iteF (k2 fun z => (hb.mp z).1 c1))
    rw [decide_eq_false fun z => c1 (V.int.inj z)]
    refine iteT ⟨_, rfl, _, rfl, rfl, _, rfl, ?_⟩
    by_cases c2 : j = h
    · rw [decide_eq_true (congrArg V.int c2)]
      exact iteF (k2 fun z => (hb.mp z).2 c2)
    rw [decide_eq_false fun z => c2 (V.int.inj z)]
    exact iteT (k1 (hb.mpr ⟨c1, c2⟩))
end
end KL

namespace KL
open PySem L2 L2H LX KB KA1
/-! ### the program's room: a put -/
section
variable {P : Program} {w : World} {K : PySem.W.Frag} {mg : Str → Option Value} {base : Heap} {c : Cs} {kk : Kinds}
theorem ok_Room_put {f f1 f2 fN : Addr} {fd fd1 fd2 fdN : FuncData} {ps1 ps2 psN : List Str} (F : FunD K "put" "Room.put" (defArgs s_Room_put) (defBody s_Room_put) (defScope s_Room_put) [.int 0] [] f fd) (T : RomT K c.C) (TG : LogT K c.CG)
    (m1 : Meth K c.C "_refuse_lease" f1) (b1 : Binds K fd1 ps1 []) (G1 : FnOk P w K mg base (L2.CX P w) 2 f1 fd1 ps1 (spRefL c kk)) (m2 : Meth K c.C "_refuse_held" f2) (b2 : Binds K fd2 ps2 []) (G2 : FnOk P w K mg base (L2.CX P w) 2 f2 fd2 ps2 (spRefH c kk))
    (mN : Meth K c.CG "note" fN) (bN : Binds K fdN psN []) (GN : FnOk P w K mg base CX0 2 fN fdN psN (spLogNote (LgP c.CG))) : FnOk P w K mg base (L2.CX P w) 3 f fd p_Room_put (spRDo kk (RsP c) argP) := by
  refine F.ok sc_Room_put (fun vs H Q E h => ?_) (fun cdv A outer s H vs Q E hr h => ?_)
  · obtain ⟨Fo, p, s, d, xs, rfl, ⟨ky, v, h, rfl, rfl, _⟩, _⟩ := h
    rfl
  · obtain ⟨Fo, p, r, d, xs, rfl, ⟨ky, v, h, rfl, rfl, ok, ov⟩, ⟨R, rfl, A1, Z⟩, fit, k⟩ := h
    obtain ⟨dx, hp⟩ := A1.ob
    have hu := hu_of hr
    refine ⟨_, pss_cons (ps_expr (pe_meth (E := E) (pv 0) T.cl m1 G1 hr b1 .nil (passes_call (takes_of rfl rfl rfl rfl) (fun _ _ _ _ h => h)) (pa_cons (pv 3) pa_nil)))
      (pss_cons (ps_expr (pe_meth (E := E) (pv 0) T.cl m2 G2 hr b2 .nil (passes_call (takes_of rfl rfl rfl rfl) (fun _ _ _ _ h => h)) (pa_cons (pv 1) (pa_cons (pv 3) pa_nil))))
      (PSs.nox (pss_cons (ps_dput hu (pe_fld (pv 0) rfl) (pv 1) (pv 2) rfl)
      (pss_cons (ps_dput hu (pe_fld (pv 0) rfl) (pv 1) (pv 3) rfl)
      (pss_one (ps_ret (pe_meth (E := E0) (pe_fld (pv 0) rfl) TG.cl mN GN hr bN .nil pass0 (pa_cons (pe_fld (pv 0) rfl) (pa_cons pe_str (pa_cons (pv 1) (pa_cons (pv 2) pa_nil))))))))))), ?_⟩
    have fr := fit.rows
    have zh := Z.h
    refine ⟨_, rfl, p, dx, _, rfl, hp, zf_no (by decide +kernel), _, rfl, p, h, R, r, rfl, A1, fun n1 => ?_, fun n1 => ?_⟩
    · exact k (.bad .lease) r _ H (.inl ⟨n1, rfl, rfl⟩) ⟨R, rfl, A1, Z⟩ (Grow.refl _ _) (Ch.refl _ _)
    refine ⟨_, rfl, p, dx, _, rfl, hp, zf_no (by decide +kernel), _, rfl, _, rfl, p, ky, h, R, r, rfl, A1, fun n2 => ?_, fun n2 => ?_⟩
    · exact k (.bad .held) r _ H (.inr (.inl ⟨n1, n2, rfl, rfl⟩)) ⟨R, rfl, A1, Z⟩ (Grow.refl _ _) (Ch.refl _ _)
    obtain ⟨⟨a1, a2, a3, a4, a5, a6⟩, ⟨b1, b2, b3, b4, b5⟩, ⟨c1, c2, c3, c4⟩, ⟨d1, d2, d3⟩, ⟨e1, e2⟩, f1⟩ := A1.ne7
    have lv : R.vk.length < sizeLine := by
      have q := A1.rv.len
      exact smallS (by omega)
    have lh : R.hk.length < sizeLine := by
      have q := A1.rh.len
      exact smallS (by omega)
    refine ⟨_, rfl, _, rfl, p, c.C, dx, _, _, rfl, hp, T.cl, T.n3, zf_get (i := 3) (by decide +kernel) rfl, _, rfl, R.dv, _, rfl, DPut.k (k := Sum.inr ky) A1.va lv, ?_⟩
    have hp1 : upd H R.dv (.dK (putK R.vk (Sum.inr ky) (.str v))) p = some (.ins c.C dx (rFl r R)) := by rw [upd_ne a4]; exact hp
    have hh1 : upd H R.dv (.dK (putK R.vk (Sum.inr ky) (.str v))) R.dh = some (.dK R.hk) := by rw [upd_ne e1.symm]; exact A1.ho
    refine ⟨_, rfl, _, rfl, p, c.C, dx, _, _, rfl, hp1, T.cl, T.n4, zf_get (i := 4) (by decide +kernel) rfl, _, rfl, R.dh, _, rfl, DPut.k (k := Sum.inr ky) hh1 lh, ?_⟩
    have ck : Ch H (upd (upd H R.dv (.dK (putK R.vk (Sum.inr ky) (.str v)))) R.dh (.dK (putK R.hk (Sum.inr ky) (.int h)))) [R.dv, R.dh] := ((Ch.refl _ _).mut (by simp) A1.va (fun _ z => by cases z)).mut (by simp) A1.ho (fun _ z => by cases z)
    have kH : ∀ x ∈ putA R.HV ky (v, h), TOk 60 x.1 := fun x hx => by
      unfold putA at hx
      split at hx
      · obtain ⟨y, hy, rfl⟩ := List.mem_map.mp hx
        by_cases e : y.1 = ky
        · rw [if_pos e]; exact A1.kH y hy
        · rw [if_neg e]; exact A1.kH y hy
      · rcases List.mem_append.mp hx with hx | hx
        · exact A1.kH x hx
        · rw [List.mem_singleton.mp hx]; exact ok
    have A2 : RcAt c (upd (upd H R.dv (.dK (putK R.vk (Sum.inr ky) (.str v)))) R.dh (.dK (putK R.hk (Sum.inr ky) (.int h)))) p { R with HV := putA R.HV ky (v, h), vk := putK R.vk (Sum.inr ky) (.str v), hk := putK R.hk (Sum.inr ky) (.int h) } { r with held := getA (putA R.HV ky (v, h)) } :=
      A1.keys ck (by rw [upd_ne e1]; exact upd_same) upd_same (A1.rv.put inr_inj (b := (v, h)) rfl) (A1.rh.put inr_inj (b := (v, h)) rfl) (putA_nodup A1.nH) kH
    have eh : getA (putA R.HV ky (v, h)) = setF r.held ky (some (v, h)) := by rw [setA_put, A1.fh]
    rw [eh] at A2
    have hp2 := A2.ob
    dsimp only
    generalize upd (upd H R.dv (.dK (putK R.vk (Sum.inr ky) (.str v)))) R.dh (.dK (putK R.hk (Sum.inr ky) (.int h))) = H2 at ck A2 hp2 ⊢
    obtain ⟨dx2, hp2⟩ := hp2
    obtain ⟨_, dy, fs, hg, hm⟩ := A2.lg.inst
    refine ⟨_, rfl, p, c.C, dx2, _, _, rfl, hp2, T.cl, T.n2, zf_get (i := 2) (by decide +kernel) rfl, R.pg, dy, fs, rfl, hg, hm _ (by simp), _, rfl, p, c.C, dx2, _, _, rfl, hp2, T.cl, T.n0, zf_get (i := 0) (by decide +kernel) rfl, _, rfl, _, rfl,
      R.Fg, R.pg, r.now, "put", ky, v, r.rows, r.gone, rfl, A2.lg, by omega, ⟨by show PyData.strOk ("put" : Str) = true; decide +kernel, ok, ov⟩, fun F' H3 L3 g3 c3 => ?_⟩
    have A3 := A2.log L3 g3 c3
    have cko : Ch H H2 (R.F p) := ck.mono fun x hx => by
      simp only [List.mem_cons, List.not_mem_nil, or_false] at hx
      rcases hx with rfl | rfl <;> exact List.mem_append_left _ (by simp [Rc.o])
    refine k (.num ((r.rows.length : Int) + 1)) (putM r ky v h) _ H3 (.inr (.inr ⟨n1, n2, rfl, rfl⟩)) ⟨_, rfl, A3, ⟨Z.t, Z.e, ?_, Z.w, fun x hx => ?_⟩⟩ ?_ (cko.trans (c3.mono fun x hx => List.mem_append_right _ hx))
    · show (putA R.HV ky (v, h)).length ≤ (r.rows ++ [_]).length
      rw [List.length_append]
      exact Nat.le_trans (putA_len _ _ _) (Nat.succ_le_succ Z.h)
    · have q := Z.wt x hx
      show _ ≤ (((r.rows ++ [_]).length : Nat) : Int) ∧ _ ≤ (((r.rows ++ [_]).length : Nat) : Int)
      rw [List.length_append]
      simp only [List.length_cons, List.length_nil]
      omega
    · intro a ha
      rcases List.mem_append.mp ha with h | h
      · exact .inl (List.mem_append_left _ h)
      · rcases g3 a h with q | q
        · exact .inl (List.mem_append_right _ q)
        · exact .inr (ck.none a q)
end
end KL

namespace KL
open PySem L2 L2H LX KB KA1
/-! ### the program's room: pairs -/
def spPairs0 (c : Cs) : Sp := fun vs H Q _ => ∃ (p : Addr) (z : Str) (R : Rc) (s : Rm), vs = [.ref p, .str z] ∧ RcAt c H p R s ∧ R.HV.length ≤ 100000 ∧
  ∀ q ts ps H', Same H H' → H q = none → H' q = some (.lst (ts.map V.ref)) → PairsAt H' ts ps → Told (byPre s z) ps → Q (.ref q) H'
section
variable {P : Program} {w : World} {K : PySem.W.Frag} {mg : Str → Option Value} {base : Heap} {c : Cs}
theorem ok_Room_pairs {f : Addr} {fd : FuncData} (F : Fun K "pairs" "Room.pairs" s_Room_pairs f fd) (T : RomT K c.C) (ms : mg "sorted" = none) : FnOk P w K mg base CX0 1 f fd p_Room_pairs (spPairs0 c) := by
  refine F.ok sc_Room_pairs (fun vs H Q E h => ?_) (fun cdv A outer s H vs Q E hr h => ?_)
  · obtain ⟨p, z, R, s, rfl, _⟩ := h
    rfl
  · obtain ⟨p, z, R, r, rfl, A1, hl, k⟩ := h
    obtain ⟨dx, hp⟩ := A1.ob
    have npv : p ≠ R.dv := A1.ne7.1.2.2.2.1
    refine ⟨_, pss_one (ps_ret (pe_callB cr_sortTT (by rfl) ms (by decide +kernel) (pa_cons (pe_lock
      (pe_lc (own := [("key", 2), ("value", 3)]) (g := gTup K 2 (gCons (gName 2) (gCons (gName 3) gNil))) rfl sc_Room_pairs.nd (pi_items (pe_fld (pv 0) rfl)) (blkOk_by (own := [("key", 2), ("value", 3)]) (N := n_Room_pairs) (sc := defScope s_Room_pairs) (by decide +kernel))
        (fun _ _ _ _ _ => pg_tup (n := 2) rfl (pgs_cons (pg_name (i := 2) sc_Room_pairs.nd rfl (Or.inl rfl) (Or.inr rfl)) (pgs_cons (pg_name (i := 3) sc_Room_pairs.nd rfl (Or.inl rfl) (Or.inr rfl)) pgs_nil)))
        (fun _ _ _ _ _ => pts_one (pt_val (pe_m1 PySem.F.slot_str_startswith PySem.F.type_str_startswith mt_startswith (pv 2) (pv 1))))
        (fun _ _ _ _ _ => pe_tup (pa_cons (pv 2) (pa_cons (pv 3) pa_nil))))) pa_nil))), ?_⟩
    refine ⟨R.dv, _, A1.va, trivial, fun od => ?_⟩
    have hpL : upd H R.dv (.frz od (.dK R.vk)) p = some (.ins c.C dx (rFl r R)) := by rw [upd_ne npv]; exact hp
    refine ⟨_, rfl, p, c.C, dx, _, _, rfl, hpL, T.cl, T.n3, zf_get (i := 3) (by decide +kernel) rfl, R.dv, od, _, rfl, upd_same, fun D hD => ?_⟩
    have lv : R.vk.length = R.HV.length := A1.rv.len
    refine lc_it walk_items (fun i H' => ∃ ts, Same (upd H R.dv (.frz od (.dK R.vk))) H' ∧ H' D = some (.lst (ts.map V.ref)) ∧ PairsAt H' ts (preL z (R.HV.take i))) ?_ ?_ ?_ ?_
    · exact ⟨[], same_new hD, upd_same, .nil⟩
    · rintro i H' _ ⟨ts, hs, _⟩
      exact hs _ _ upd_same
    · rintro i x H1 H' hi ⟨ts, hs, hlD, m⟩ ⟨Tt, a, b, rfl, hn, rfl, ea, eb⟩
      have hi' : i < R.HV.length := by rw [← lv]; exact hi
      obtain ⟨q, hq⟩ : ∃ q, R.HV[i]? = some q := ⟨R.HV[i], by simp [hi']⟩
      obtain ⟨v, hv, rfl⟩ := DRel.atL A1.rv hq
      have ea : R.vk[i]?.map (fun kv => kV kv.1) = some a := ea
      have eb : R.vk[i]?.map Prod.snd = some b := eb
      rw [hv] at ea eb
      cases ea
      cases eb
      have hDT : D ≠ Tt := ne_of_none hlD hn
      refine ⟨Tt, _, rfl, .inl (.inl upd_same), rfl, _, _, rfl, _, _, rfl, rfl, rfl, ?_⟩
      refine ⟨_, rfl, ⟨_, rfl⟩, _, rfl, _, _, rfl, rfl, _, rfl, ?_⟩
      have hsT : Same H1 (upd H1 Tt (.tup [kV (Sum.inr q.1, V.str q.2.1).1, V.str q.2.1])) := same_new hn
      rw [starts_isPre]
      by_cases cc : isPre z q.1 = true
      · rw [cc]
        refine iteT ?_
        refine ⟨_, rfl, _, rfl, (by show 2 ≤ sizeLine; decide), fun y hy => ?_⟩
        have hy1 : H1 y = none := hsT.free hy
        have hDy : D ≠ y := ne_of_none hlD hy1
        refine ⟨ts.map V.ref, ?_, ?_, ts ++ [y], fun b o e => ?_, ?_, ?_⟩
        · rw [upd_ne hDy]
          exact hsT _ _ hlD
        · have := Paired.length m
          have l2 := preL_len z (R.HV.take i)
          have l3 := List.length_take_le i R.HV
          rw [List.length_map]
          exact smallS (by omega)
        · rw [upd_ne (ne_of_none e hD), upd_ne (ne_of_none (hs b o e) hy1)]
          exact hsT _ _ (hs b o e)
        · rw [upd_same, List.map_append]; rfl
        · rw [preL_snoc hq, if_pos cc]
          refine Paired.snoc (m.keep fun b xs e => ?_) ?_
          · have nb : b ≠ D := ne_of e hlD (by intro z; cases z)
            rw [upd_ne nb, upd_ne (ne_of_none e hy1)]
            exact hsT _ _ e
          · show upd _ D _ y = _
            rw [upd_ne hDy.symm]; exact upd_same
      · rw [Bool.eq_false_iff.mpr cc]
        refine iteF ⟨ts, fun b o e => hsT _ _ (hs b o e), hsT _ _ hlD, ?_⟩
        rw [preL_snoc hq, if_neg cc, List.append_nil]
        exact m.keep fun b xs e => hsT _ _ e
    · rintro H' ⟨ts, hs, hlD, m⟩
      have hde : H' R.dv = some (.frz od (.dK R.vk)) := hs _ _ upd_same
      rw [lv, List.take_length] at m
      have hDe : D ≠ R.dv := ne_of hlD hde (by intro z; cases z)
      have m2 : PairsAt (upd H' R.dv (.dK R.vk)) ts (preL z R.HV) := m.keep fun b xs e => by
        rw [upd_ne (ne_of e hde (by intro z; cases z))]; exact e
      refine ⟨hde, D, ts.map V.ref, kOfS (upd H' R.dv (.dK R.vk)), rfl, .inl (.inl (by rw [upd_ne hDe]; exact hlD)), tt_prem m2, fun ys q h1 h2 hq => ?_⟩
      have hb : ∀ x ∈ ys, ∃ t, x = V.ref t ∧ (upd H' R.dv (.dK R.vk)) t = some (.tup [.str (kOfS (upd H' R.dv (.dK R.vk)) x).1, .str (kOfS (upd H' R.dv (.dK R.vk)) x).2]) := fun x hx => tt_prem m2 x (h1.mem_iff.mp hx)
      obtain ⟨ts', rfl, m3⟩ := tt_back hb
      have pk : ((ts'.map V.ref).map (kOfS (upd H' R.dv (.dK R.vk)))).Perm (preL z R.HV) := by
        have e := h1.map (kOfS (upd H' R.dv (.dK R.vk)))
        rw [tt_keys m2] at e
        exact e
      have sm : Same H (upd H' R.dv (.dK R.vk)) := fun b o e => by
        by_cases hb : b = R.dv
        · subst hb
          rw [A1.va] at e
          cases e
          exact upd_same
        · rw [upd_ne hb]
          exact hs b o (by rw [upd_ne hb]; exact e)
      refine k q ts' _ _ (sm.trans (same_new hq)) (sm.free hq) upd_same (m3.keep fun b xs e => ?_) ?_
      · rw [upd_ne (ne_of_none e hq)]; exact e
      · have t := told_perm (preL_nodup A1.nH) pk (List.pairwise_map.mpr h2)
        have e : getP (preL z R.HV) = byPre r z := by
          funext k
          rw [preL_get]
          unfold byPre
          rw [A1.fh]
        rw [e] at t
        exact t
theorem api_pairs {k : Nat} {f : Addr} {fd : FuncData} {ps : List Str} (G : FnOk P w K mg base CX0 k f fd ps (spPairs0 c)) : FnOk P w K mg base CX0 k f fd ps (spRPairs (RsP c)) :=
  G.imp fun vs H Q E ⟨F, p, z, s, e, ⟨R, eF, A, Z⟩, oz, fit, q⟩ => ⟨p, z, R, s, e, A, Nat.le_trans (Nat.le_trans Z.h fit.rows) (by decide), fun x ts qs H' sm hx h1 h2 h3 =>
    q F x ts qs H' (RsP.frame ⟨R, eF, A, Z⟩ (Ch.of sm []) (fun _ _ z => nomatch z)) (Grow.refl _ _) (Ch.of sm _) hx (fun y => by
      subst eF
      obtain ⟨o, e⟩ := A.own x y
      rw [hx] at e
      cases e) h1 h2 h3⟩
end
end KL

namespace KL
open PySem L2 L2H LX KB KA1
/-! ### the program's room: watchers -/
structure WatT (K : PySem.W.Frag) (C : Addr) : Prop where
  cl : Cls K C
  n0 : NoAttr K C "prefix"
  n1 : NoAttr K C "told"
  n2 : NoAttr K C "had"
def spWatInit (C : Addr) : Sp := fun vs H Q _ => ∃ (p dx : Addr) (z : Str) (st : Int), vs = [.ref p, .str z, .int st] ∧ H p = some (.ins C dx []) ∧
  ∀ H', H' p = some (.ins C dx (wFl ⟨z, st - 1, st - 1⟩)) → Ch H H' [p] → Q .non H'
def spRefW (c : Cs) (kk : Kinds) : Sp := fun vs H Q E => ∃ (p : Addr) (n : Int) (R : Rc) (s : Rm), vs = [.ref p, .int n] ∧ RcAt c H p R s ∧ (s.wat n = none → E (.ref kk.NW) none H) ∧ (s.wat n ≠ none → Q .non H)
def spWatching (c : Cs) (kk : Kinds) : Sp := fun vs H Q E => ∃ (p : Addr) (n : Int) (R : Rc) (s : Rm), vs = [.ref p, .int n] ∧ RcAt c H p R s ∧ (s.wat n = none → E (.ref kk.NW) none H) ∧
  (∀ x w, getA R.WS n = some (x, w) → s.wat n = some w → Q (.ref x) H)
/-- a watcher goes on -/
def setW (R : Rc) (n : Int) (w : Wt) : List (Int × (Addr × Wt)) := R.WS.map fun y => if y.1 = n then (y.1, (y.2.1, w)) else y
theorem setW_addr (R : Rc) (n : Int) (w : Wt) : (setW R n w).map (·.2.1) = R.WS.map (·.2.1) := by
  unfold setW
  rw [List.map_map]
  refine List.map_congr_left fun y _ => ?_
  show (if y.1 = n then (y.1, (y.2.1, w)) else y).2.1 = y.2.1
  split <;> rfl
theorem setW_key (R : Rc) (n : Int) (w : Wt) : (setW R n w).map (·.1) = R.WS.map (·.1) := by
  unfold setW
  rw [List.map_map]
  refine List.map_congr_left fun y _ => ?_
  show (if y.1 = n then (y.1, (y.2.1, w)) else y).1 = y.1
  split <;> rfl
theorem setW_get {R : Rc} {n : Int} {w : Wt} {x : Addr} {w0 : Wt} (h : getA R.WS n = some (x, w0)) (j : Int) : getA (setW R n w) j = if n = j then some (x, w) else getA R.WS j := by
  unfold setW
  have go : ∀ l : List (Int × (Addr × Wt)), getA l n = some (x, w0) ∨ getA l n = none → getA (l.map fun y => if y.1 = n then (y.1, (y.2.1, w)) else y) j = if n = j then (getA l n).map fun y => (y.1, w) else getA l j := fun l => by
    induction l with
    | nil => intro _; split <;> rfl
    | cons q r ih =>
      intro hl
      rw [List.map_cons]
      by_cases e : q.1 = n
      · rw [if_pos e]
        by_cases c : n = j
        · rw [if_pos c, getA_pos (show ((q.1, (q.2.1, w)) : Int × (Addr × Wt)).1 = j from e.trans c), getA_pos e]
          rfl
        · rw [if_neg c, getA_neg (show ¬ ((q.1, (q.2.1, w)) : Int × (Addr × Wt)).1 = j from fun z => c (e.symm.trans z)), getA_neg fun z => c (e.symm.trans z)]
          have hr : ∀ r : List (Int × (Addr × Wt)), getA (r.map fun y => if y.1 = n then (y.1, (y.2.1, w)) else y) j = getA r j := fun r => by
            induction r with
            | nil => rfl
            | cons q r ih2 =>
              rw [List.map_cons]
              by_cases e2 : q.1 = n
              · rw [if_pos e2, getA_neg (show ¬ ((q.1, (q.2.1, w)) : Int × (Addr × Wt)).1 = j from fun z => c (e2.symm.trans z)), getA_neg fun z => c (e2.symm.trans z), ih2]
              · rw [if_neg e2]
                by_cases e3 : q.1 = j
                · rw [getA_pos e3, getA_pos e3]
                · rw [getA_neg e3, getA_neg e3, ih2]
          exact hr r
      · rw [if_neg e]
        rw [getA_neg e] at hl ⊢
        by_cases e3 : q.1 = j
        · have c : ¬ n = j := fun z => e (e3.trans z.symm)
          rw [getA_pos e3, if_neg c, getA_pos e3]
        · rw [getA_neg e3, ih hl, getA_neg e3]
  rw [go R.WS (.inl h), h]
  rfl
section
variable {c : Cs} {H H' : Hp} {p : Addr} {R : Rc} {s : Rm}
theorem RcAt.watF (A : RcAt c H p R s) {n : Int} {x : Addr} {w0 w : Wt} {dy : Addr} (g : getA R.WS n = some (x, w0)) (k : Ch H H' [x]) (h1 : H' x = some (.ins c.CW dy (wFl w))) (ep : w.pre = w0.pre) :
    RcAt c H' p { R with WS := setW R n w } { s with wat := setF s.wat n (some w) } := by
  have mx := getA_mem g
  obtain ⟨x1, x2, x3, x4, x5, x6, x7⟩ := A.neW mx
  have o : ∀ {a}, x ≠ a → a ∉ [x] := fun h z => h (List.mem_singleton.mp z).symm
  obtain ⟨dx, h⟩ := A.ob
  have an : (R.WS.map (·.2.1)).Nodup := by
    have n := A.nd
    unfold Rc.o at n
    simp only [List.nodup_cons, List.mem_cons, not_or] at n
    exact n.2.2.2.2.2.2.2
  have eo : Rc.o { R with WS := setW R n w } p = R.o p := by
    unfold Rc.o
    show _ :: _ :: _ :: _ :: _ :: _ :: _ :: (setW R n w).map (·.2.1) = _
    rw [setW_addr]
  have uniq : ∀ y ∈ R.WS, y.2.1 = x → y = (n, (x, w0)) := fun y hy e => by
    obtain ⟨i, hi⟩ := List.mem_iff_getElem?.mp hy
    obtain ⟨j, hj⟩ := List.mem_iff_getElem?.mp mx
    have hi2 : (R.WS.map (·.2.1))[i]? = some x := by rw [List.getElem?_map, hi]; exact congrArg some e
    have hj2 : (R.WS.map (·.2.1))[j]? = some x := by rw [List.getElem?_map, hj]; rfl
    have ij : i = j := (List.getElem?_inj (List.getElem?_eq_some_iff.mp hi2).1 an).mp (hi2.trans hj2.symm)
    subst ij
    rw [hi] at hj
    exact Option.some.inj hj
  refine ⟨⟨dx, k.at h (o x1)⟩, A.lt.ch k (o x2) (o x3) (o x4), A.lg.frame k (fun a ha => o fun z => A.dj a ha (by rw [← z]; exact A.wIn mx)), k.at A.va (o x5), k.at A.ho (o x6), k.at A.wa (o x7), fun y hy => ?_, A.rv, A.rh, ?_, by rw [eo]; exact A.nd, fun a ha => by rw [eo]; exact A.dj a ha,
    A.fe, A.fs, A.fh, ?_, A.nE, A.nH, by show ((setW R n w).map (·.1)).Nodup; rw [setW_key]; exact A.nW, fun y hy => ?_, A.kH, fun y hy => ?_⟩
  · obtain ⟨y0, hy0, rfl⟩ := List.mem_map.mp hy
    by_cases e : y0.1 = n
    · rw [if_pos e]
      have e2 : y0.2 = (x, w0) := by
        have g2 := getA_of A.nW hy0
        rw [e, g] at g2
        exact (Option.some.inj g2).symm
      refine ⟨dy, ?_⟩
      show H' y0.2.1 = _
      rw [e2]
      exact h1
    · rw [if_neg e]
      obtain ⟨dz, hz⟩ := A.wo y0 hy0
      exact ⟨dz, k.at hz (o fun z => e (by rw [uniq y0 hy0 z.symm]))⟩
  · show DRel Sum.inl isW (setW R n w) R.wk
    have go : ∀ {l : List (Int × (Addr × Wt))} {kvs : List (Key × V)}, DRel Sum.inl isW l kvs → DRel Sum.inl isW (l.map fun y => if y.1 = n then (y.1, (y.2.1, w)) else y) kvs := fun m => by
      induction m with
      | nil => exact .nil
      | cons r m ih =>
        rename_i a b l1 l2
        refine .cons ?_ ih
        show b.1 = Sum.inl (if a.1 = n then (a.1, (a.2.1, w)) else a).1 ∧ b.2 = V.ref (if a.1 = n then (a.1, (a.2.1, w)) else a).2.1
        by_cases e : a.1 = n
        · rw [if_pos e]; exact r
        · rw [if_neg e]; exact r
    exact go A.rw_
  · funext j
    show setF s.wat n (some w) j = (getA (setW R n w) j).map (·.2)
    rw [setW_get g, A.fw]
    unfold setF
    split <;> rfl
  · obtain ⟨y0, hy0, rfl⟩ := List.mem_map.mp hy
    have q := A.kW y0 hy0
    split <;> exact q
  · obtain ⟨y0, hy0, rfl⟩ := List.mem_map.mp hy
    by_cases e : y0.1 = n
    · rw [if_pos e]
      show TOk 60 w.pre
      rw [ep]
      exact A.wP _ mx
    · rw [if_neg e]
      exact A.wP y0 hy0
end
section
variable {P : Program} {w : World} {K : PySem.W.Frag} {mg : Str → Option Value} {base : Heap} {c : Cs} {kk : Kinds}
theorem ok_Watcher_init {f C : Addr} {fd : FuncData} (F : Fun K "__init__" "Watcher.__init__" s_Watcher_init f fd) (T : WatT K C) : FnOk P w K mg base CX0 1 f fd p_Watcher_init (spWatInit C) := by
  refine F.ok sc_Watcher_init (fun vs H Q E h => ?_) (fun cdv A outer s H vs Q E hr h => ?_)
  · obtain ⟨p, dx, z, st, rfl, _⟩ := h
    rfl
  · obtain ⟨p, dx, z, st, rfl, hp, k⟩ := h
    refine ⟨_, pss_cons (ps_fld (pv 0) (pv 1) rfl) (pss_cons (ps_fld (pv 0) (pe_op op_sub (pv 2) pe_int) rfl) (pss_one (ps_fld (pv 0) (pe_op op_sub (pv 2) pe_int) rfl))), ?_⟩
    refine ⟨_, rfl, _, rfl, p, C, dx, [], rfl, hp, T.cl, T.n0, (by show 0 < 1000; decide), ?_⟩
    refine ⟨_, rfl, _, _, rfl, rfl, _, rfl, p, C, dx, _, rfl, upd_same, T.cl, T.n1, (by show 1 < 1000; decide), ?_⟩
    refine ⟨_, rfl, _, _, rfl, rfl, _, rfl, p, C, dx, _, rfl, upd_same, T.cl, T.n2, (by show 2 < 1000; decide), ?_⟩
    exact k _ upd_same ((((Ch.refl H [p]).mut (by simp) hp (fun _ z => by cases z)).mut (by simp) hp (fun _ z => by cases z)).mut (by simp) hp (fun _ z => by cases z))
theorem ok_Room_refuse_watcher {f : Addr} {fd : FuncData} (F : Fun K "_refuse_watcher" "Room._refuse_watcher" s_Room_u_refuse_watcher f fd) (T : RomT K c.C) (N : ErrT K mg "NoWatch" kk.NW) : FnOk P w K mg base (L2.CX P w) 1 f fd p_Room_u_refuse_watcher (spRefW c kk) := by
  refine F.okX sc_Room_u_refuse_watcher (fun vs H Q E h => ?_) (fun cdv A outer s H vs Q E hr h => ?_)
  · obtain ⟨p, n, R, s, rfl, _⟩ := h
    rfl
  · obtain ⟨p, n, R, r, rfl, A1, k1, k2⟩ := h
    obtain ⟨dx, hp⟩ := A1.ob
    have hu := hu_of hr
    refine ⟨_, pss_one (ps_if (pt_cmp (pc_dnotin hu (pv 1) (pe_fld (pv 0) rfl))) (pss_one (ps_raise rfl (takes_of rfl rfl rfl rfl) (pmk_own PySem.F.excBase_ValueError N.x N.g N.k (raises_own N.b N.t) rfl))) pss_nil), ?_⟩
    refine ⟨_, rfl, _, rfl, p, c.C, dx, _, _, rfl, hp, T.cl, T.n6, zf_get (i := 6) (by decide +kernel) rfl, R.dw, _, rfl, DGet.k (k := Sum.inl n) A1.wa, _, rfl, ?_⟩
    have ev := A1.rw_.isSome inl_inj n
    have ew : r.wat n = (getA R.WS n).map (·.2) := congrFun A1.fw n
    cases e : valV R.wk (Sum.inl n) with
    | none =>
      rw [e] at ev
      refine iteT (k1 ?_)
      rw [ew]
      cases g : getA R.WS n with
      | none => rfl
      | some x => rw [g] at ev; cases ev
    | some x =>
      rw [e] at ev
      refine iteF (k2 fun z => ?_)
      rw [ew] at z
      cases g : getA R.WS n with
      | none => rw [g] at ev; cases ev
      | some x => rw [g] at z; cases z
theorem ok_Room_watching {f fW : Addr} {fd fdW : FuncData} {psW : List Str} (F : Fun K "_watching" "Room._watching" s_Room_u_watching f fd) (T : RomT K c.C) (mW : Meth K c.C "_refuse_watcher" fW) (bW : Binds K fdW psW []) (GW : FnOk P w K mg base (L2.CX P w) 1 fW fdW psW (spRefW c kk)) :
    FnOk P w K mg base (L2.CX P w) 2 f fd p_Room_u_watching (spWatching c kk) := by
  refine F.okX sc_Room_u_watching (fun vs H Q E h => ?_) (fun cdv A outer s H vs Q E hr h => ?_)
  · obtain ⟨p, n, R, s, rfl, _⟩ := h
    rfl
  · obtain ⟨p, n, R, r, rfl, A1, k1, k2⟩ := h
    obtain ⟨dx, hp⟩ := A1.ob
    have hu := hu_of hr
    refine ⟨_, pss_cons (ps_expr (pe_meth (E := E) (pv 0) T.cl mW GW hr bW .nil (passes_call (takes_of rfl rfl rfl rfl) (fun _ _ _ _ h => h)) (pa_cons (pv 1) pa_nil)))
      (pss_one (ps_ret (pe_dget hu (pe_fld (pv 0) rfl) (pv 1) (fun _ _ => rfl)))), ?_⟩
    refine ⟨_, rfl, p, dx, _, rfl, hp, zf_no (by decide +kernel), _, rfl, p, n, R, r, rfl, A1, k1, fun ne => ?_⟩
    have ew : r.wat n = (getA R.WS n).map (·.2) := congrFun A1.fw n
    cases g : getA R.WS n with
    | none => rw [ew, g] at ne; exact absurd rfl ne
    | some x =>
      obtain ⟨v, e1, e2⟩ := A1.rw_.some_ inl_inj g
      have gg := DGet.k (k := Sum.inl n) A1.wa
      rw [e1, e2] at gg
      refine ⟨_, rfl, p, c.C, dx, _, _, rfl, hp, T.cl, T.n6, zf_get (i := 6) (by decide +kernel) rfl, _, rfl, R.dw, _, rfl, gg, k2 x.1 x.2 g ?_⟩
      rw [ew, g]
      rfl
end
end KL

namespace KL
open PySem L2 L2H LX KB KA1
/-! ### the program's room: a watcher is put in -/
section
variable {c : Cs} {H H' : Hp} {p : Addr} {R : Rc} {s : Rm}
theorem RcAt.watN (A : RcAt c H p R s) {x dx dy : Addr} {w : Wt} (nx : H x = none) (k : Ch H H' [p, R.dw]) (h1 : H' p = some (.ins c.C dx (rFl { s with met := s.met + 1 } R))) (h2 : H' R.dw = some (.dK (putK R.wk (Sum.inl ((s.met : Int) + 1)) (.ref x)))) (h3 : H' x = some (.ins c.CW dy (wFl w))) (ok : TOk 60 w.pre) :
    RcAt c H' p { R with WS := R.WS ++ [((s.met : Int) + 1, (x, w))], wk := putK R.wk (Sum.inl ((s.met : Int) + 1)) (.ref x) } { s with met := s.met + 1, wat := setF s.wat ((s.met : Int) + 1) (some w) } := by
  obtain ⟨⟨a1, a2, a3, a4, a5, a6⟩, ⟨b1, b2, b3, b4, b5⟩, ⟨c1, c2, c3, c4⟩, ⟨d1, d2, d3⟩, ⟨e1, e2⟩, f1⟩ := A.ne7
  have o2 : ∀ {a}, a ≠ p → a ≠ R.dw → a ∉ [p, R.dw] := fun h1 h2 z => by
    simp only [List.mem_cons, List.not_mem_nil, or_false] at z
    rcases z with z | z
    · exact h1 z
    · exact h2 z
  have g : getA R.WS ((s.met : Int) + 1) = none := by
    refine getA_none.mpr fun m => ?_
    obtain ⟨y, hy, e⟩ := List.mem_map.mp m
    have q := A.kW y hy
    omega
  have eo : ∀ a, a ∈ Rc.o { R with WS := R.WS ++ [((s.met : Int) + 1, (x, w))], wk := putK R.wk (Sum.inl ((s.met : Int) + 1)) (.ref x) } p ↔ a ∈ R.o p ∨ a = x := fun a => by
    unfold Rc.o
    simp only [List.map_append, List.map_cons, List.map_nil, List.mem_cons, List.mem_append, List.not_mem_nil, or_false, or_assoc]
  have nin : x ∉ R.o p := fun m => by
    obtain ⟨o, e⟩ := A.own x (List.mem_append_left _ m)
    rw [nx] at e
    cases e
  have ng : x ∉ R.Fg := fun m => by
    obtain ⟨o, e⟩ := A.own x (List.mem_append_right _ m)
    rw [nx] at e
    cases e
  refine ⟨⟨dx, h1⟩, A.lt.ch k (o2 a1.symm b5) (o2 a2.symm c4) (o2 a3.symm d3), A.lg.frame k (fun a ha => o2 ?_ ?_), k.at A.va (o2 a4.symm e2), k.at A.ho (o2 a5.symm f1), h2, fun y hy => ?_, A.rv, A.rh, ?_, ?_, fun a ha z => ?_,
    A.fe, A.fs, A.fh, ?_, A.nE, A.nH, ?_, fun y hy => ?_, A.kH, fun y hy => ?_⟩
  · intro z; exact A.dj a ha (by rw [z]; simp [Rc.o])
  · intro z; exact A.dj a ha (by rw [z]; simp [Rc.o])
  · rcases List.mem_append.mp hy with hy | hy
    · obtain ⟨dz, hz⟩ := A.wo y hy
      have q := A.neW hy
      exact ⟨dz, k.at hz (o2 q.1 q.2.2.2.2.2.2)⟩
    · rw [List.mem_singleton.mp hy]
      exact ⟨dy, h3⟩
  · have q := A.rw_.put inl_inj (k := (s.met : Int) + 1) (b := (x, w)) (v := .ref x) rfl
    rw [putA_new g] at q
    exact q
  · have nd := A.nd
    unfold Rc.o at nd nin ⊢
    simp only [List.map_append, List.map_cons, List.map_nil]
    have e : p :: R.pl :: R.dt :: R.de :: R.dv :: R.dh :: R.dw :: (R.WS.map (·.2.1) ++ [x]) = (p :: R.pl :: R.dt :: R.de :: R.dv :: R.dh :: R.dw :: R.WS.map (·.2.1)) ++ [x] := rfl
    show (p :: R.pl :: R.dt :: R.de :: R.dv :: R.dh :: R.dw :: (R.WS.map (·.2.1) ++ [x])).Nodup
    rw [e]
    refine List.nodup_append.mpr ⟨nd, List.nodup_cons.mpr ⟨by simp, List.nodup_nil⟩, fun a ha b hb z => nin ?_⟩
    rw [← List.mem_singleton.mp hb, ← z]
    exact ha
  · rcases (eo a).mp z with z | z
    · exact A.dj a ha z
    · exact ng (z ▸ ha)
  · funext j
    show setF s.wat ((s.met : Int) + 1) (some w) j = (getA (R.WS ++ [((s.met : Int) + 1, (x, w))]) j).map (·.2)
    rw [getA_app g, A.fw]
    unfold setF
    split <;> rfl
  · rw [List.map_append]
    refine List.nodup_append.mpr ⟨A.nW, List.nodup_cons.mpr ⟨by simp, List.nodup_nil⟩, fun a ha b hb z => getA_none.mp g ?_⟩
    have hb : b = (s.met : Int) + 1 := List.mem_singleton.mp hb
    rw [← hb, ← z]
    exact ha
  · show y.1 ≤ (((s.met + 1 : Nat)) : Int)
    rcases List.mem_append.mp hy with hy | hy
    · have q := A.kW y hy
      omega
    · rw [List.mem_singleton.mp hy]
      show (s.met : Int) + 1 ≤ _
      omega
  · rcases List.mem_append.mp hy with hy | hy
    · exact A.wP y hy
    · rw [List.mem_singleton.mp hy]
      exact ok
end
section
variable {P : Program} {w : World} {K : PySem.W.Frag} {mg : Str → Option Value} {base : Heap} {c : Cs} {kk : Kinds}
theorem ok_Room_watch {f fI fF fL : Addr} {fd fdI fdF fdL : FuncData} {psI psF psL : List Str} (F : Fun K "watch" "Room.watch" s_Room_watch f fd) (T : RomT K c.C) (N : ErrT K mg "NoStart" kk.NS) (gW : mg "Watcher" = some (.ref c.CW)) (MW : Mk K c.CW fI) (bI : Binds K fdI psI []) (GI : FnOk P w K mg base CX0 1 fI fdI psI (spWatInit c.CW))
    (mF : Meth K c.C "first" fF) (bF : Binds K fdF psF []) (GF : FnOk P w K mg base CX0 2 fF fdF psF (spRFirst0 c)) (mL : Meth K c.C "last" fL) (bL : Binds K fdL psL []) (GL : FnOk P w K mg base CX0 2 fL fdL psL (spRLast0 c)) :
    FnOk P w K mg base (L2.CX P w) 3 f fd p_Room_watch (spRWatch kk (RsP c)) := by
  refine F.okX sc_Room_watch (fun vs H Q E h => ?_) (fun cdv A outer s H vs Q E hr h => ?_)
  · obtain ⟨Fo, p, z, st, s, rfl, _⟩ := h
    rfl
  · obtain ⟨Fo, p, z, st, r, rfl, ⟨R, rfl, A1, Z⟩, oz, fit, kb, k⟩ := h
    obtain ⟨dx, hp⟩ := A1.ob
    have hu := hu_of hr
    have hr2 : Room 2 _ := hr.mono (by decide)
    refine ⟨_, pss_cons (ps_if (PW.pt (pw_or (pt_cmpR op_lt (pv 2) (pe_meth0 (E := E0) (pv 0) T.cl mF GF hr2 bF .nil pass0) (nomark _)) (pw_or1 (pt_cmpR op_gt (pv 2) (pe_op op_add (pe_meth0 (E := E0) (pv 0) T.cl mL GL hr2 bL .nil pass0) pe_int) (nomark _)))))
        (pss_one (ps_raise rfl (takes_of rfl rfl rfl rfl) (pmk_own PySem.F.excBase_ValueError N.x N.g N.k (raises_own N.b N.t) rfl))) pss_nil)
      (PSs.nox (pss_cons (ps_fldaug (pv 0) pe_int in_add)
      (pss_cons (ps_dput hu (pe_fld (pv 0) rfl) (pe_fld (pv 0) rfl) (pe_make (E := E0) MW GI (hr.mono (by decide)) rfl gW bI .nil pass0 (pa_cons (pv 1) (pa_cons (pv 2) pa_nil))) rfl)
      (pss_one (ps_ret (pe_fld (pv 0) rfl)))))), ?_⟩
    refine ⟨_, rfl, _, rfl, p, dx, _, rfl, hp, zf_no (by decide +kernel), p, R, r, rfl, A1, _, _, rfl, rfl, _, rfl, ?_⟩
    by_cases c1 : st < (r.gone : Int) + 1
    · rw [decide_eq_true c1]
      exact iteT (iteT (kb (.inl c1) _ H ⟨R, rfl, A1, Z⟩ (Grow.refl _ _) (Ch.refl _ _)))
    rw [decide_eq_false c1]
    refine iteF ⟨_, rfl, _, rfl, p, dx, _, rfl, hp, zf_no (by decide +kernel), p, R, r, rfl, A1, _, _, rfl, rfl, _, _, rfl, rfl, _, rfl, ?_⟩
    by_cases c2 : st > (r.rows.length : Int) + 1
    · rw [decide_eq_true c2]
      exact iteT (kb (.inr c2) _ H ⟨R, rfl, A1, Z⟩ (Grow.refl _ _) (Ch.refl _ _))
    rw [decide_eq_false c2]
    refine iteF ?_
    have k := k (Int.not_lt.mp c1) (Int.not_lt.mp c2)
    refine ⟨_, rfl, p, c.C, dx, _, _, rfl, hp, T.cl, T.n5, zf_get (i := 5) (by decide +kernel) rfl, _, _, rfl, rfl, dx, _, hp, (by show 7 < 1000; decide), ?_⟩
    rw [zf_put (i := 5) (by decide +kernel) rfl]
    have cp : Ch H (upd H p (.ins c.C dx (rFl { r with met := r.met + 1 } R))) [p] := (Ch.refl _ _).mut (by simp) hp (fun _ z => by cases z)
    have hp2 : upd H p (.ins c.C dx (rFl { r with met := r.met + 1 } R)) p = some (.ins c.C dx (rFl { r with met := r.met + 1 } R)) := upd_same
    change tSeq _ _ _ _ (upd H p (.ins c.C dx (rFl { r with met := r.met + 1 } R)))
    generalize upd H p (.ins c.C dx (rFl { r with met := r.met + 1 } R)) = H2 at cp hp2 ⊢
    refine ⟨_, rfl, _, rfl, fun x dy nx ndy ndx => ⟨x, dy, z, st, rfl, upd_same, fun H3 h3 c3 => ⟨rfl, ?_⟩⟩⟩
    obtain ⟨s3, _⟩ := made_same nx ndy c3
    have hp3 := s3 _ _ hp2
    have nw : p ≠ R.dw := A1.ne7.1.2.2.2.2.2
    have hw3 : H3 R.dw = some (.dK R.wk) := s3 _ _ (cp.at A1.wa fun z => nw (List.mem_singleton.mp z).symm)
    have g5 : (rFl { r with met := r.met + 1 } R).lookup ("_entered" : Str) = some (.int ((r.met : Int) + 1)) := zf_get (i := 5) (by decide +kernel) rfl
    have f1 := fit.met
    have z1 := Z.w
    have z2 := A1.rw_.len
    refine ⟨_, rfl, p, c.C, dx, _, _, rfl, hp3, T.cl, T.n6, zf_get (i := 6) (by decide +kernel) rfl, _, rfl, p, c.C, dx, _, _, rfl, hp3, T.cl, T.n5, g5, R.dw, _, rfl, DPut.k (k := Sum.inl ((r.met : Int) + 1)) hw3 (smallS (by omega)), ?_⟩
    have nx0 : H x = none := cp.none x nx
    have npx : p ≠ x := ne_of_none hp nx0
    have nwx : R.dw ≠ x := ne_of_none A1.wa nx0
    have c4 : Ch H3 (upd H3 R.dw (.dK (putK R.wk (Sum.inl ((r.met : Int) + 1)) (.ref x)))) [R.dw] := (Ch.refl _ _).mut (by simp) hw3 (fun _ z => by cases z)
    have call : Ch H (upd H3 R.dw (.dK (putK R.wk (Sum.inl ((r.met : Int) + 1)) (.ref x)))) [p, R.dw] := ((cp.same s3).mono (by simp)).trans (c4.mono (by simp))
    have A2 := A1.watN (dx := dx) (dy := dy) (w := ⟨z, st - 1, st - 1⟩) nx0 call (by rw [upd_ne nw]; exact hp3) upd_same (by rw [upd_ne nwx.symm]; exact h3) oz
    refine ⟨_, rfl, p, c.C, dx, _, _, rfl, by rw [upd_ne nw]; exact hp3, T.cl, T.n5, g5, ?_⟩
    refine k _ _ ⟨_, rfl, A2, ⟨Z.t, Z.e, Z.h, ?_, fun y hy => ?_⟩⟩ (fun a ha => ?_) (call.mono fun a ha => ?_)
    · show (R.WS ++ [_]).length ≤ r.met + 1
      rw [List.length_append]
      exact Nat.succ_le_succ z1
    · rcases List.mem_append.mp hy with hy | hy
      · exact Z.wt y hy
      · rw [List.mem_singleton.mp hy]
        show st - 1 ≤ (r.rows.length : Int) ∧ st - 1 ≤ (r.rows.length : Int)
        omega
    · rcases List.mem_append.mp ha with h | h
      · unfold Rc.o at h
        simp only [List.map_append, List.map_cons, List.map_nil, List.mem_cons, List.mem_append, List.not_mem_nil, or_false] at h
        have q : a ∈ R.o p ∨ a = x := by
          unfold Rc.o
          simp only [List.mem_cons]
          rcases h with h | h | h | h | h | h | h | h | h
          · exact .inl (.inl h)
          · exact .inl (.inr (.inl h))
          · exact .inl (.inr (.inr (.inl h)))
          · exact .inl (.inr (.inr (.inr (.inl h))))
          · exact .inl (.inr (.inr (.inr (.inr (.inl h)))))
          · exact .inl (.inr (.inr (.inr (.inr (.inr (.inl h))))))
          · exact .inl (.inr (.inr (.inr (.inr (.inr (.inr (.inl h)))))))
          · exact .inl (.inr (.inr (.inr (.inr (.inr (.inr (.inr h)))))))
          · exact .inr h
        rcases q with q | q
        · exact .inl (List.mem_append_left _ q)
        · exact .inr (q ▸ nx0)
      · exact .inl (List.mem_append_right _ h)
    · simp only [List.mem_cons, List.not_mem_nil, or_false] at ha
      rcases ha with rfl | rfl <;> exact List.mem_append_left _ (by simp [Rc.o])
end
end KL

namespace KL
open PySem L2 L2H LX KB
/-! ### what a log is wanted for -/
theorem numDrop {rs : List Row} (h : Num rs) {g i : Nat} {r : Row} (e : (rs.drop g)[i]? = some r) : r.n = (g : Int) + i + 1 := by
  rw [List.getElem?_drop] at e
  have := h _ _ e
  omega
/-- the first ones that are not above b are passed over at once -/
theorem filter_from {rs : List Row} (h : Num rs) (g : Nat) (p : Str) (b : Int) : (rs.drop g).filter (fun r => decide (r.n > b) && isPre p r.k) = ((rs.drop g).drop (b - g).toNat).filter fun r => isPre p r.k := by
  rw [← List.take_append_drop (b - g).toNat (rs.drop g), List.filter_append]
  have e1 : ((rs.drop g).take (b - g).toNat).filter (fun r => decide (r.n > b) && isPre p r.k) = [] := by
    refine List.filter_eq_nil_iff.mpr fun r hr => ?_
    obtain ⟨i, hi⟩ := List.mem_iff_getElem?.mp hr
    rw [List.getElem?_take] at hi
    by_cases c : i < (b - g).toNat
    · rw [if_pos c] at hi
      have := numDrop h hi
      rw [decide_eq_false (by omega), Bool.false_and]
      decide
    · rw [if_neg c] at hi; cases hi
  have e2 : ((rs.drop g).drop (b - g).toNat).filter (fun r => decide (r.n > b) && isPre p r.k) = ((rs.drop g).drop (b - g).toNat).filter fun r => isPre p r.k := by
    refine List.filter_congr fun r hr => ?_
    obtain ⟨i, hi⟩ := List.mem_iff_getElem?.mp hr
    rw [List.drop_drop] at hi
    have := numDrop h hi
    rw [decide_eq_true (by omega), Bool.true_and]
  rw [e1, e2, List.nil_append, List.take_append_drop]
theorem take_snoc {l : List Row} {i : Nat} {r : Row} (h : l[i]? = some r) : l.take (i + 1) = l.take i ++ [r] := by
  rw [List.take_add_one, h]; rfl
section
variable {P : Program} {w : World} {K : PySem.W.Frag} {mg : Str → Option Value} {base : Heap}
theorem ok_Log_wanted {f C : Addr} {fd : FuncData} (F : Fun K "wanted" "Log.wanted" s_Log_wanted f fd) (T : LogT K C) (ml : mg "len" = none) (mm : mg "max" = none) (mr : mg "range" = none) : FnOk P w K mg base CX0 1 f fd p_Log_wanted (spLogWanted (LgP C)) := by
  refine F.ok sc_Log_wanted (fun vs H Q E h => ?_) (fun cdv A outer s H vs Q E hr h => ?_)
  · obtain ⟨Fs, p, z, b, m, rs, g, rfl, _⟩ := h
    rfl
  · obtain ⟨Fs, p, z, b, m, rs, g, rfl, LP, oz, hm, hb, hl, k⟩ := h
    obtain ⟨q, ts, rfl, L⟩ := id LP
    obtain ⟨dx, hp⟩ := L.ob
    refine ⟨_, pss_cons (ps_set (i := 4) sc_Log_wanted.nd rfl (Or.inl rfl) (pe_lst pa_nil))
      (pss_cons (ps_for PassesOwn.never rfl (pi_range2 (by rfl) mr (pa_cons (pe_callB (call_max2 rfl) (by rfl) mm (by decide +kernel) (pa_cons pe_int (pa_cons (pe_op op_sub (pv 2) (pe_fld (pv 0) rfl)) pa_nil)))
          (pa_cons (pe_callB call_len_seq (by rfl) ml PySem.boot_len (pa_cons (pe_fld (pv 0) rfl) pa_nil)) pa_nil))) (pg_name (i := 5) sc_Log_wanted.nd rfl (Or.inl rfl))
        (pss_cons (ps_if (pt_cmpR op_ge (pe_callB call_len_seq (by rfl) ml PySem.boot_len (pa_cons (pv 4) pa_nil)) (pv 3) (nomark _)) (pss_one ps_break) pss_nil)
        (pss_cons (ps_set (i := 6) sc_Log_wanted.nd rfl (Or.inl rfl) (pe_ix ix_list (pe_fld (pv 0) rfl) (pv 5) (fun _ _ => rfl)))
        (pss_one (ps_if (pt_val (pe_m1 PySem.F.slot_str_startswith PySem.F.type_str_startswith mt_startswith (pe_ix ix_tup (pv 6) pe_int (fun _ _ => rfl)) (pv 1))) (pss_one (ps_expr (pe_bm PySem.F.plainAttrs_list PySem.F.slot_list_append PySem.F.type_list_append mt_append (pv 4) (pa_cons (pv 6) pa_nil)))) pss_nil)))))
      (pss_one (ps_ret (pv 4)))), ?_⟩
    refine ⟨(by show 0 ≤ sizeLine; decide), fun d hd => ?_⟩
    have npd : p ≠ d := ne_of_none hp hd
    have nqd : q ≠ d := ne_of_none L.kp hd
    have hp1 : upd H d (.lst []) p = some (.ins C dx (nsLog.zip [.int g, .ref q])) := by rw [upd_ne npd]; exact hp
    have hq1 : upd H d (.lst []) q = some (.lst (ts.map V.ref)) := by rw [upd_ne nqd]; exact L.kp
    have gF : (nsLog.zip [V.int (g : Int), V.ref q]).lookup ("_forgotten" : Str) = some (.int g) := zf_get (i := 0) (by decide +kernel) rfl
    have gK : (nsLog.zip [V.int (g : Int), V.ref q]).lookup ("_kept" : Str) = some (.ref q) := zf_get (i := 1) (by decide +kernel) rfl
    have lt : (ts.map V.ref).length = rs.length - g := by rw [List.length_map, L.len]
    refine ⟨_, rfl, _, rfl, p, C, dx, _, _, rfl, hp1, T.cl, T.nF, gF, _, _, rfl, rfl, _, _, rfl, _, rfl, p, C, dx, _, _, rfl, hp1, T.cl, T.nK, gK, q, _, rfl, .inl (SqL.of hq1), _, _, rfl, ?_⟩
    have elo : (if b - (g : Int) > 0 then b - (g : Int) else 0) = (((b - g).toNat : Nat) : Int) := by split <;> omega
    rw [elo, lt]
    have le := L.le
    refine ⟨by omega, ?_⟩
    have en : (((rs.length - g : Nat) : Int) - (((b - g).toNat : Nat) : Int)).toNat = ((rs.drop g).drop (b - g).toNat).length := by
      rw [List.length_drop, List.length_drop]
      omega
    rw [en]
    have ekey : wantedM rs g z b m = (((rs.drop g).drop (b - g).toNat).filter fun r => isPre z r.k).take m.toNat := by
      unfold wantedM
      rw [filter_from L.num]
    generalize hks : (rs.drop g).drop (b - g).toNat = ks at en ekey ⊢
    have s1 : Same H (upd H d (.lst [])) := same_new hd
    -- what is told at the end
    have fin : ∀ {us : List Addr} {H' : Hp}, Same H H' → H' d = some (.lst (us.map V.ref)) → RowsAt H' us (wantedM rs g z b m) → Q (.ref d) H' := fun {us H'} sm h1 h2 =>
      k [p, q] d us H' (LP.frame (Ch.of sm []) (fun _ _ z => nomatch z)) (Grow.refl _ _) (Ch.of sm _) hd (fun y => by
        simp only [List.mem_cons, List.not_mem_nil, or_false] at y
        rcases y with y | y
        · exact npd y.symm
        · exact nqd y.symm) h1 h2
    refine for_range (lo := (((b - g).toNat : Nat) : Int)) (n := ks.length) (fun i σ H' => ∃ (us : List Addr) (y5 y6 : Option V), σ = [some (.ref p), some (.str z), some (.int b), some (.int m), some (.ref d), y5, y6] ∧ Same H H' ∧ H' d = some (.lst (us.map V.ref)) ∧
      RowsAt H' us ((ks.take i).filter fun r => isPre z r.k) ∧ (us.length : Int) ≤ m) ⟨[], none, none, rfl, s1, upd_same, .nil, hm⟩ ?_ ?_
    · rintro i σ H1 hi ⟨us, y5, y6, rfl, sm, hd1, hr1, hlm⟩
      obtain ⟨r, hr⟩ : ∃ r, ks[i]? = some r := ⟨ks[i], by simp [hi]⟩
      have hp2 := sm _ _ hp
      have hq2 := sm _ _ L.kp
      have hul : us.length ≤ rs.length := by
        have h1 := Paired.length hr1
        have h2 := List.length_filter_le (fun r => isPre z r.k) (ks.take i)
        have h3 := List.length_take_le i ks
        have h4 : ks.length ≤ rs.length := by
          rw [← hks, List.length_drop, List.length_drop]
          omega
        omega
      refine ⟨_, rfl, d, _, rfl, .inl (SqL.of hd1), _, rfl, _, _, rfl, rfl, _, rfl, ?_⟩
      rw [List.length_map]
      by_cases c1 : (us.length : Int) ≥ m
      · rw [decide_eq_true c1]
        refine iteT ⟨_, rfl, fin sm hd1 ?_⟩
        have e : wantedM rs g z b m = (ks.take i).filter fun r => isPre z r.k := by
          rw [ekey]
          have h1 := Paired.length hr1
          conv => lhs; rw [← List.take_append_drop i ks, List.filter_append]
          exact List.take_left' (by omega)
        rw [e]
        exact hr1
      rw [decide_eq_false c1]
      refine iteF ?_
      have hx : (rs.drop g)[(b - g).toNat + i]? = some r := by
        rw [← hks, List.getElem?_drop] at hr
        exact hr
      obtain ⟨t, ht, ht2⟩ : ∃ t, (ts.map V.ref)[(b - g).toNat + i]? = some (.ref t) ∧ H1 t = some (.tup r.V) := by
        have hlt : (b - g).toNat + i < (ts.map V.ref).length := by
          rw [List.length_map, Paired.length L.at_]
          exact (List.getElem?_eq_some_iff.mp hx).1
        obtain ⟨t, r', e1, e2, e3⟩ := RowsAt.at L.at_ (List.getElem?_eq_getElem hlt)
        rw [hx] at e2
        cases e2
        exact ⟨t, by rw [List.getElem?_eq_getElem hlt, e1], sm _ _ e3⟩
      have hat : atI (ts.map V.ref) ((((b - g).toNat : Nat) : Int) + (i : Int)) = some (.ref t) := by
        have e : ((((b - g).toNat : Nat) : Int) + (i : Int)) = (((b - g).toNat + i : Nat) : Int) := by omega
        rw [e]
        exact atI_nat ht
      refine ⟨_, rfl, p, C, dx, _, _, rfl, hp2, T.cl, T.nK, gK, _, rfl, q, _, _, _, rfl, rfl, SqL.of hq2, hat, ?_⟩
      refine ⟨_, rfl, t, _, 3, .str r.k, rfl, rfl, SqT.of ht2, rfl, ⟨_, rfl⟩, _, rfl, _, _, rfl, rfl, _, rfl, ?_⟩
      rw [starts_isPre, take_snoc hr, List.filter_append]
      by_cases c2 : isPre z r.k = true
      · rw [c2, List.filter_cons_of_pos (by exact c2), List.filter_nil]
        refine iteT ⟨_, rfl, .inl ⟨rfl, _, SqL.of hd1⟩, _, rfl, d, _, _, rfl, rfl, hd1, by rw [List.length_map]; exact smallS (by omega), ?_⟩
        have cD : Ch H1 (upd H1 d (.lst (us.map V.ref ++ [.ref t]))) [d] := (Ch.refl _ _).mut (List.mem_singleton.mpr rfl) hd1 (fun xs e => by cases e)
        refine ⟨us ++ [t], _, _, rfl, ?_, by rw [upd_same, List.map_append]; rfl, Paired.snoc (hr1.keep cD.tup) (cD.tup _ _ ht2), by rw [List.length_append]; simp only [List.length_cons, List.length_nil]; omega⟩
        exact fun b o e => cD.at (sm _ _ e) fun y => ne_of_none e hd (List.mem_singleton.mp y)
      · rw [Bool.eq_false_iff.mpr c2, List.filter_cons_of_neg (by exact c2), List.filter_nil, List.append_nil]
        exact iteF ⟨us, _, _, rfl, sm, hd1, hr1, hlm⟩
    · rintro σ H1 ⟨us, y5, y6, rfl, sm, hd1, hr1, hlm⟩
      rw [List.take_length] at hr1
      refine ⟨_, rfl, fin sm hd1 ?_⟩
      rw [ekey, List.take_of_length_le (by have := Paired.length hr1; omega)]
      exact hr1
end
end KL

namespace KL
open PySem L2 L2H LX KB KA1
/-! ### the program's room: a watcher goes on -/
section
variable {c : Cs} {H H' : Hp} {p : Addr} {R : Rc} {s : Rm}
theorem setW_F (R : Rc) (n : Int) (w : Wt) (p : Addr) : Rc.F { R with WS := setW R n w } p = R.F p := by
  unfold Rc.F Rc.o
  show (_ :: _ :: _ :: _ :: _ :: _ :: _ :: (setW R n w).map (·.2.1)) ++ _ = _
  rw [setW_addr]
theorem RsP.watU (A : RcAt c H p R s) (Z : RcSz R s) {n : Int} {x dy : Addr} {w0 w : Wt} (g : getA R.WS n = some (x, w0)) (hx : H x = some (.ins c.CW dy (wFl w0))) (ep : w.pre = w0.pre) (b1 : w.told ≤ s.rows.length) (b2 : w.had ≤ s.rows.length) :
    RsP c (R.F p) (upd H x (.ins c.CW dy (wFl w))) p { s with wat := setF s.wat n (some w) } ∧ Ch H (upd H x (.ins c.CW dy (wFl w))) (R.F p) := by
  have mx := getA_mem g
  have k : Ch H (upd H x (.ins c.CW dy (wFl w))) [x] := (Ch.refl _ _).mut (by simp) hx (fun _ z => by cases z)
  refine ⟨⟨_, (setW_F R n w p).symm, A.watF g k upd_same ep, ⟨Z.t, Z.e, Z.h, ?_, fun y hy => ?_⟩⟩, k.mono fun a ha => ?_⟩
  · show (setW R n w).length ≤ _
    unfold setW
    rw [List.length_map]
    exact Z.w
  · obtain ⟨y0, hy0, rfl⟩ := List.mem_map.mp hy
    by_cases e : y0.1 = n
    · rw [if_pos e]
      exact ⟨b1, b2⟩
    · rw [if_neg e]
      exact Z.wt y0 hy0
  · rw [List.mem_singleton.mp ha]
    exact List.mem_append_left _ (A.wIn mx)
theorem setF_same {f : Int → Option Wt} {n : Int} {w : Wt} (h : f n = some w) : setF f n (some w) = f := by
  funext j
  unfold setF
  by_cases e : n = j
  · rw [if_pos e, ← e, h]
  · rw [if_neg e]
theorem lastN_le {rs : List Row} {b : Int} {l : List Row} {t : Int} (hb : b - 1 ≤ t) (h : ∀ r ∈ l, r.n ≤ t) : lastN b l ≤ t := by
  unfold lastN
  cases e : l.getLast? with
  | none => exact hb
  | some r => exact h r (List.mem_of_getLast? e)
theorem wanted_le {rs : List Row} (hn : Num rs) {g : Nat} {z : Str} {b m : Int} : ∀ r ∈ wantedM rs g z b m, r.n ≤ rs.length := fun r hr => by
  have h := List.mem_of_mem_drop (List.mem_filter.mp (List.mem_of_mem_take hr)).1
  obtain ⟨i, hi⟩ := List.mem_iff_getElem?.mp h
  have q := hn i r hi
  have l := (List.getElem?_eq_some_iff.mp hi).1
  omega
end
section
variable {P : Program} {w : World} {K : PySem.W.Frag} {mg : Str → Option Value} {base : Heap} {c : Cs} {kk : Kinds}
theorem ok_Room_pull {f fW fN fL : Addr} {fd fdW fdN fdL : FuncData} {psW psN psL : List Str} (F : Fun K "pull" "Room.pull" s_Room_pull f fd) (T : RomT K c.C) (TW : WatT K c.CW) (TG : LogT K c.CG) (ml : mg "len" = none)
    (mW : Meth K c.C "_watching" fW) (bW : Binds K fdW psW []) (GW : FnOk P w K mg base (L2.CX P w) 2 fW fdW psW (spWatching c kk)) (mN : Meth K c.CG "wanted" fN) (bN : Binds K fdN psN []) (GN : FnOk P w K mg base CX0 1 fN fdN psN (spLogWanted (LgP c.CG)))
    (mL : Meth K c.C "last" fL) (bL : Binds K fdL psL []) (GL : FnOk P w K mg base CX0 2 fL fdL psL (spRLast0 c)) :
    FnOk P w K mg base (L2.CX P w) 3 f fd p_Room_pull (spRWat kk (RsP c) (fun ys => ∃ m : Int, ys = [.int m]) (thenPull (RsP c))) := by
  refine F.okX sc_Room_pull (fun vs H Q E h => ?_) (fun cdv A outer s H vs Q E hr h => ?_)
  · obtain ⟨Fo, p, n, ys, s, rfl, ⟨m, rfl⟩, _⟩ := h
    rfl
  · obtain ⟨Fo, p, n, ys, r, rfl, ⟨m, rfl⟩, ⟨R, rfl, A1, Z⟩, fit, kb, k⟩ := h
    obtain ⟨dx, hp⟩ := A1.ob
    have hr2 : Room 2 _ := hr.mono (by decide)
    refine ⟨_, pss_cons (ps_set (i := 3) sc_Room_pull.nd rfl (Or.inl rfl) (pe_meth (E := E) (pv 0) T.cl mW GW hr bW .nil (passes_call (takes_of rfl rfl rfl rfl) (fun _ _ _ _ h => h)) (pa_cons (pv 1) pa_nil)))
      (PSs.nox (pss_cons (ps_set (i := 4) sc_Room_pull.nd rfl (Or.inl rfl) (pe_meth (E := E0) (pe_fld (pv 0) rfl) TG.cl mN GN (hr.mono (by decide)) bN .nil pass0 (pa_cons (pe_fld (pv 3) rfl) (pa_cons (pe_fld (pv 3) rfl) (pa_cons (pv 2) pa_nil)))))
      (pss_cons (ps_if (pt_cmpR op_lt (pe_callB call_len_seq (by rfl) ml PySem.boot_len (pa_cons (pv 4) pa_nil)) (pv 2) (nomark _)) (pss_one (ps_fld (pv 3) (pe_meth0 (E := E0) (pv 0) T.cl mL GL hr2 bL .nil pass0) rfl))
        (pss_one (ps_if (pt_truth (pv 4) (fun _ => rfl)) (pss_one (ps_fld (pv 3) (pe_ix ix_tup (pe_ix ix_list (pv 4) (pe_un un_neg pe_int) (fun _ _ => rfl)) pe_int (fun _ _ => rfl)) rfl)) pss_nil)))
      (pss_one (ps_ret (pv 4)))))), ?_⟩
    refine ⟨_, rfl, p, dx, _, rfl, hp, zf_no (by decide +kernel), _, rfl, p, n, R, r, rfl, A1, fun e => kb e _ H ⟨R, rfl, A1, Z⟩ (Grow.refl _ _) (Ch.refl _ _), fun x w gx ew => ?_⟩
    obtain ⟨m', em, hm, k⟩ := k w ew
    cases em
    have mx := getA_mem gx
    obtain ⟨dz, hx⟩ := A1.wo _ mx
    have hx : H x = some (.ins c.CW dz (wFl w)) := hx
    obtain ⟨_, dy, fs, hg, hmm⟩ := A1.lg.inst
    have tb := Z.wt _ mx
    have tb1 : w.told ≤ r.rows.length := tb.1
    have tb2 : w.had ≤ r.rows.length := tb.2
    have f1 := fit.rows
    have hnum : Num r.rows := by
      obtain ⟨_, _, _, L⟩ := A1.lg
      exact L.num
    refine ⟨_, rfl, p, c.C, dx, _, _, rfl, hp, T.cl, T.n2, zf_get (i := 2) (by decide +kernel) rfl, R.pg, dy, fs, rfl, hg, hmm _ (by simp), _, rfl, x, c.CW, dz, _, _, rfl, hx, TW.cl, TW.n0, zf_get (i := 0) (by decide +kernel) rfl,
      _, rfl, x, c.CW, dz, _, _, rfl, hx, TW.cl, TW.n1, zf_get (i := 1) (by decide +kernel) rfl, _, rfl, R.Fg, R.pg, w.pre, w.told, m, r.rows, r.gone, rfl, A1.lg, A1.wP _ mx, hm, by omega, f1, fun F' q ts H2 L2 g2 c2 hq nq hq2 hts => ?_⟩
    have A2 : RcAt c H2 p { R with Fg := F' } r := A1.log L2 g2 c2
    have Z2 : RcSz { R with Fg := F' } r := ⟨Z.t, Z.e, Z.h, Z.w, Z.wt⟩
    have gx2 : getA (Rc.WS { R with Fg := F' }) n = some (x, w) := gx
    have xng : x ∉ R.Fg := fun z => A1.dj x z (A1.wIn mx)
    have hx2 : H2 x = some (.ins c.CW dz (wFl w)) := c2.at hx xng
    have gr : Grow (R.F p) (Rc.F { R with Fg := F' } p) H := fun a ha => by
      rcases List.mem_append.mp ha with h | h
      · exact .inl (List.mem_append_left _ h)
      · rcases g2 a h with z | z
        · exact .inl (List.mem_append_right _ z)
        · exact .inr z
    have nqF : q ∉ Rc.F { R with Fg := F' } p := fun y => by
      rcases List.mem_append.mp y with y | y
      · obtain ⟨o, e⟩ := A1.own q (List.mem_append_left _ y)
        rw [hq] at e
        cases e
      · exact nq y
    have cF : Ch H H2 (R.F p) := c2.mono fun a ha => List.mem_append_right _ ha
    have nxq : q ≠ x := fun z => nqF (by rw [z]; exact List.mem_append_left _ (A1.wIn mx))
    have ld := Paired.length hts
    -- what stands at the end, when the watcher is told up to t
    have fin : ∀ t : Int, t = toldW r w m → t ≤ r.rows.length → Q (.ref q) (upd H2 x (.ins c.CW dz (wFl { w with told := t }))) := fun t et ht => by
      obtain ⟨B1, B2⟩ := RsP.watU A2 Z2 (w := { w with told := t }) gx2 hx2 rfl ht tb2
      have B3 : RsP c (Rc.F { R with Fg := F' } p) (upd H2 x (.ins c.CW dz (wFl { w with told := t }))) p (pullM r n w m) := by
        unfold pullM
        rw [← et]
        exact B1
      have cx : Ch H2 (upd H2 x (.ins c.CW dz (wFl { w with told := t }))) [x] := (Ch.refl _ _).mut (by simp) hx2 (fun _ z => by cases z)
      refine k _ q ts _ B3 gr (cF.trans (cx.mono fun a ha => ?_)) hq nqF (by rw [upd_ne nxq]; exact hq2) (hts.keep cx.tup)
      rw [List.mem_singleton.mp ha]
      exact List.mem_append_left _ (A1.wIn mx)
    obtain ⟨dx2, hp2⟩ := A2.ob
    refine ⟨_, rfl, q, _, rfl, .inl (SqL.of hq2), _, rfl, _, _, rfl, rfl, _, rfl, ?_⟩
    rw [List.length_map]
    by_cases c1 : (ts.length : Int) < m
    · rw [decide_eq_true c1]
      refine iteT ⟨_, rfl, p, dx2, _, rfl, hp2, zf_no (by decide +kernel), p, _, r, rfl, A2, _, rfl, x, c.CW, dz, _, rfl, hx2, TW.cl, TW.n1, (by show 3 < 1000; decide), ?_⟩
      rw [zf_put (i := 1) (by decide +kernel) rfl]
      refine ⟨_, rfl, fin _ ?_ (Int.le_refl _)⟩
      unfold toldW dueW
      rw [if_pos (by omega)]
    rw [decide_eq_false c1]
    have et : toldW r w m = lastN (w.told + 1) (dueW r w m) := by
      unfold toldW
      rw [if_neg]
      show ¬ (((wantedM r.rows r.gone w.pre w.told m).length : Nat) : Int) < m
      omega
    refine iteF ⟨_, rfl, !(ts.map V.ref).isEmpty, .inl ⟨_, SqL.of hq2, rfl⟩, ?_⟩
    cases ts with
    | nil =>
      refine iteF ⟨_, rfl, ?_⟩
      have e0 : dueW r w m = [] := by
        unfold dueW
        exact List.length_eq_zero_iff.mp ld.symm
      have e1 : pullM r n w m = r := by
        unfold pullM
        rw [et, e0]
        show ({ r with wat := setF r.wat n (some { w with told := (w.told + 1) - 1 }) } : Rm) = r
        rw [Int.add_sub_cancel, setF_same ew]
      refine k _ q [] H2 ?_ gr cF hq nqF hq2 hts
      rw [e1]
      exact ⟨_, rfl, A2, Z2⟩
    | cons t ts =>
      obtain ⟨ta, ro, ha, hta, el⟩ := RowsAt.last hts (by rw [← ld]; simp)
      refine iteT ⟨_, rfl, _, rfl, q, _, _, _, rfl, rfl, SqL.of hq2, ha, ta, _, 0, .int ro.n, rfl, rfl, SqT.of hta, rfl, _, rfl, x, c.CW, dz, _, rfl, hx2, TW.cl, TW.n1, (by show 3 < 1000; decide), ?_⟩
      rw [zf_put (i := 1) (by decide +kernel) rfl]
      have e2 : ro.n = toldW r w m := by
        rw [et]
        unfold lastN dueW
        rw [List.getLast?_eq_getElem?, el]
      refine ⟨_, rfl, fin ro.n e2 ?_⟩
      exact wanted_le hnum ro (List.mem_of_getElem? el)
end
end KL

namespace KL
open PySem L2 L2H LX KB KA1
/-! ### the program's room: what a watcher has had -/
section
variable {P : Program} {w : World} {K : PySem.W.Frag} {mg : Str → Option Value} {base : Heap} {c : Cs} {kk : Kinds}
theorem ok_Room_confirm {f fW : Addr} {fd fdW : FuncData} {psW : List Str} (F : Fun K "confirm" "Room.confirm" s_Room_confirm f fd) (T : RomT K c.C) (TW : WatT K c.CW) (mW : Meth K c.C "_watching" fW) (bW : Binds K fdW psW []) (GW : FnOk P w K mg base (L2.CX P w) 2 fW fdW psW (spWatching c kk)) :
    FnOk P w K mg base (L2.CX P w) 3 f fd p_Room_confirm (spRWat kk (RsP c) (fun ys => ys = []) (thenSet (RsP c) fun w => some { w with had := w.told })) := by
  refine F.okX sc_Room_confirm (fun vs H Q E h => ?_) (fun cdv A outer s H vs Q E hr h => ?_)
  · obtain ⟨Fo, p, n, ys, s, rfl, rfl, _⟩ := h
    rfl
  · obtain ⟨Fo, p, n, ys, r, rfl, rfl, ⟨R, rfl, A1, Z⟩, fit, kb, k⟩ := h
    obtain ⟨dx, hp⟩ := A1.ob
    refine ⟨_, pss_cons (ps_set (i := 2) sc_Room_confirm.nd rfl (Or.inl rfl) (pe_meth (E := E) (pv 0) T.cl mW GW hr bW .nil (passes_call (takes_of rfl rfl rfl rfl) (fun _ _ _ _ h => h)) (pa_cons (pv 1) pa_nil)))
      (pss_one (ps_fld (pv 2) (pe_fld (pv 2) rfl) rfl)), ?_⟩
    refine ⟨_, rfl, p, dx, _, rfl, hp, zf_no (by decide +kernel), _, rfl, p, n, R, r, rfl, A1, fun e => kb e _ H ⟨R, rfl, A1, Z⟩ (Grow.refl _ _) (Ch.refl _ _), fun x w gx ew => ?_⟩
    have mx := getA_mem gx
    obtain ⟨dz, hx⟩ := A1.wo _ mx
    have hx : H x = some (.ins c.CW dz (wFl w)) := hx
    refine ⟨_, rfl, x, c.CW, dz, _, _, rfl, hx, TW.cl, TW.n1, zf_get (i := 1) (by decide +kernel) rfl, _, rfl, x, c.CW, dz, _, rfl, hx, TW.cl, TW.n2, (by show 3 < 1000; decide), ?_⟩
    rw [zf_put (i := 2) (by decide +kernel) rfl]
    obtain ⟨B1, B2⟩ := RsP.watU A1 Z (w := { w with had := w.told }) gx hx rfl (Z.wt _ mx).1 (Z.wt _ mx).1
    exact k w ew _ _ B1 (Grow.refl _ _) B2
theorem ok_Room_broken {f fW : Addr} {fd fdW : FuncData} {psW : List Str} (F : Fun K "broken" "Room.broken" s_Room_broken f fd) (T : RomT K c.C) (TW : WatT K c.CW) (mW : Meth K c.C "_watching" fW) (bW : Binds K fdW psW []) (GW : FnOk P w K mg base (L2.CX P w) 2 fW fdW psW (spWatching c kk)) :
    FnOk P w K mg base (L2.CX P w) 3 f fd p_Room_broken (spRWat kk (RsP c) (fun ys => ys = []) (thenSet (RsP c) fun w => some { w with told := w.had })) := by
  refine F.okX sc_Room_broken (fun vs H Q E h => ?_) (fun cdv A outer s H vs Q E hr h => ?_)
  · obtain ⟨Fo, p, n, ys, s, rfl, rfl, _⟩ := h
    rfl
  · obtain ⟨Fo, p, n, ys, r, rfl, rfl, ⟨R, rfl, A1, Z⟩, fit, kb, k⟩ := h
    obtain ⟨dx, hp⟩ := A1.ob
    refine ⟨_, pss_cons (ps_set (i := 2) sc_Room_broken.nd rfl (Or.inl rfl) (pe_meth (E := E) (pv 0) T.cl mW GW hr bW .nil (passes_call (takes_of rfl rfl rfl rfl) (fun _ _ _ _ h => h)) (pa_cons (pv 1) pa_nil)))
      (pss_one (ps_fld (pv 2) (pe_fld (pv 2) rfl) rfl)), ?_⟩
    refine ⟨_, rfl, p, dx, _, rfl, hp, zf_no (by decide +kernel), _, rfl, p, n, R, r, rfl, A1, fun e => kb e _ H ⟨R, rfl, A1, Z⟩ (Grow.refl _ _) (Ch.refl _ _), fun x w gx ew => ?_⟩
    have mx := getA_mem gx
    obtain ⟨dz, hx⟩ := A1.wo _ mx
    have hx : H x = some (.ins c.CW dz (wFl w)) := hx
    refine ⟨_, rfl, x, c.CW, dz, _, _, rfl, hx, TW.cl, TW.n2, zf_get (i := 2) (by decide +kernel) rfl, _, rfl, x, c.CW, dz, _, rfl, hx, TW.cl, TW.n1, (by show 3 < 1000; decide), ?_⟩
    rw [zf_put (i := 1) (by decide +kernel) rfl]
    obtain ⟨B1, B2⟩ := RsP.watU A1 Z (w := { w with told := w.had }) gx hx rfl (Z.wt _ mx).2 (Z.wt _ mx).2
    exact k w ew _ _ B1 (Grow.refl _ _) B2
end
end KL

namespace KL
open PySem L2 L2H LX KB KA1
/-! ### the program's room: a watcher leaves -/
section
variable {c : Cs} {H H' : Hp} {p : Addr} {R : Rc} {s : Rm}
theorem outF (R : Rc) (n : Int) (wk : List (Key × V)) (p : Addr) : ∀ a ∈ Rc.o { R with WS := dropA R.WS n, wk := wk } p, a ∈ R.o p := fun a h => by
  unfold Rc.o at h ⊢
  have sub : ((dropA R.WS n).map (·.2.1)).Sublist (R.WS.map (·.2.1)) := List.filter_sublist.map _
  change a ∈ p :: R.pl :: R.dt :: R.de :: R.dv :: R.dh :: R.dw :: (dropA R.WS n).map (·.2.1) at h
  exact (((((((sub.cons₂ R.dw).cons₂ R.dh).cons₂ R.dv).cons₂ R.de).cons₂ R.dt).cons₂ R.pl).cons₂ p).subset h
theorem RcAt.watD (A : RcAt c H p R s) (n : Int) (k : Ch H H' [R.dw]) (h2 : H' R.dw = some (.dK (dropK R.wk (Sum.inl n)))) :
    RcAt c H' p { R with WS := dropA R.WS n, wk := dropK R.wk (Sum.inl n) } { s with wat := setF s.wat n none } := by
  obtain ⟨⟨a1, a2, a3, a4, a5, a6⟩, ⟨b1, b2, b3, b4, b5⟩, ⟨c1, c2, c3, c4⟩, ⟨d1, d2, d3⟩, ⟨e1, e2⟩, f1⟩ := A.ne7
  have o1 : ∀ {a}, a ≠ R.dw → a ∉ [R.dw] := fun h1 z => h1 (List.mem_singleton.mp z)
  obtain ⟨dx, h⟩ := A.ob
  refine ⟨⟨dx, k.at h (o1 a6)⟩, A.lt.ch k (o1 b5) (o1 c4) (o1 d3), A.lg.frame k (fun a ha => o1 ?_), k.at A.va (o1 e2), k.at A.ho (o1 f1), h2, fun y hy => ?_, A.rv, A.rh, A.rw_.drop inl_inj n, ?_, fun a ha z => A.dj a ha (outF R n _ p a z),
    A.fe, A.fs, A.fh, ?_, A.nE, A.nH, dropA_nodup A.nW, fun y hy => A.kW y (List.mem_filter.mp hy).1, A.kH, fun y hy => A.wP y (List.mem_filter.mp hy).1⟩
  · intro z; exact A.dj a ha (by rw [z]; simp [Rc.o])
  · have hy := (List.mem_filter.mp hy).1
    obtain ⟨dz, hz⟩ := A.wo y hy
    exact ⟨dz, k.at hz (o1 (A.neW hy).2.2.2.2.2.2)⟩
  · have nd := A.nd
    unfold Rc.o at nd ⊢
    have sub : ((dropA R.WS n).map (·.2.1)).Sublist (R.WS.map (·.2.1)) := List.filter_sublist.map _
    exact nd.sublist (((((((sub.cons₂ R.dw).cons₂ R.dh).cons₂ R.dv).cons₂ R.de).cons₂ R.dt).cons₂ R.pl).cons₂ p)
  · funext j
    show setF s.wat n none j = (getA (dropA R.WS n) j).map (·.2)
    rw [getA_dropA, A.fw]
    unfold setF
    split <;> rfl
end
section
variable {P : Program} {w : World} {K : PySem.W.Frag} {mg : Str → Option Value} {base : Heap} {c : Cs} {kk : Kinds}
theorem ok_Room_leave {f fW : Addr} {fd fdW : FuncData} {psW : List Str} (F : Fun K "leave" "Room.leave" s_Room_leave f fd) (T : RomT K c.C) (mW : Meth K c.C "_refuse_watcher" fW) (bW : Binds K fdW psW []) (GW : FnOk P w K mg base (L2.CX P w) 1 fW fdW psW (spRefW c kk)) :
    FnOk P w K mg base (L2.CX P w) 2 f fd p_Room_leave (spRWat kk (RsP c) (fun ys => ys = []) (thenSet (RsP c) fun _ => none)) := by
  refine F.okX sc_Room_leave (fun vs H Q E h => ?_) (fun cdv A outer s H vs Q E hr h => ?_)
  · obtain ⟨Fo, p, n, ys, s, rfl, rfl, _⟩ := h
    rfl
  · obtain ⟨Fo, p, n, ys, r, rfl, rfl, ⟨R, rfl, A1, Z⟩, fit, kb, k⟩ := h
    obtain ⟨dx, hp⟩ := A1.ob
    refine ⟨_, pss_cons (ps_expr (pe_meth (E := E) (pv 0) T.cl mW GW hr bW .nil (passes_call (takes_of rfl rfl rfl rfl) (fun _ _ _ _ h => h)) (pa_cons (pv 1) pa_nil)))
      (pss_one (ps_ddel (pe_fld (pv 0) rfl) (pv 1))), ?_⟩
    refine ⟨_, rfl, p, dx, _, rfl, hp, zf_no (by decide +kernel), _, rfl, p, n, R, r, rfl, A1, fun e => kb e _ H ⟨R, rfl, A1, Z⟩ (Grow.refl _ _) (Ch.refl _ _), fun ne => ?_⟩
    have ew : r.wat n = (getA R.WS n).map (·.2) := congrFun A1.fw n
    obtain ⟨x, gx⟩ : ∃ x, getA R.WS n = some x := by
      cases e : getA R.WS n with
      | none => rw [ew, e] at ne; exact absurd rfl ne
      | some x => exact ⟨x, rfl⟩
    refine ⟨_, rfl, p, c.C, dx, _, _, rfl, hp, T.cl, T.n6, zf_get (i := 6) (by decide +kernel) rfl, _, rfl, R.dw, _, Sum.inl n, rfl, A1.wa, rfl, by rw [A1.rw_.isSome inl_inj, gx]; rfl, ?_⟩
    have c1 : Ch H (upd H R.dw (.dK (dropK R.wk (Sum.inl n)))) [R.dw] := (Ch.refl _ _).mut (by simp) A1.wa (fun _ z => by cases z)
    have A2 := A1.watD n c1 upd_same
    refine k x.2 (by rw [ew, gx]; rfl) _ _ ⟨_, rfl, A2, ⟨Z.t, Z.e, Z.h, Nat.le_trans (dropA_len _ _) Z.w, fun y hy => Z.wt y (List.mem_filter.mp hy).1⟩⟩ (fun a ha => ?_) (c1.mono fun a ha => ?_)
    · rcases List.mem_append.mp ha with h | h
      · exact .inl (List.mem_append_left _ (outF R n _ p a h))
      · exact .inl (List.mem_append_right _ h)
    · rw [List.mem_singleton.mp ha]
      exact List.mem_append_left _ (by simp [Rc.o])
end
end KL

namespace LX
open PySem PySem.Spec PyProof.Rows L2 L2H
/-- a name that holds a list or a tuple, walked -/
def iSeq (K : PySem.W.Frag) (i : Nat) : TI := fun σ H R => ∃ a, σ[i]? = some (some (.ref a)) ∧ (((∃ xs, SqL K H a xs) ∧ R (Itl K a) H) ∨ ((∃ xs, SqT K H a xs) ∧ R (Itt K a) H))
theorem pi_seq {X : Cx} {tg : Expr} {i : Nat} {x : Str} {pos : Pos} (h : PE X (.Name x pos) (tVar i)) : PI X tg (.Name x pos) (iSeq X.K i) := by
  refine ⟨fun pins s σ H R I q => ?_⟩
  obtain ⟨a, e, ⟨h1, h2⟩ | ⟨h1, h2⟩⟩ := q
  · exact (pi_list (tg := tg) h).run pins s σ H R I ⟨_, e, a, rfl, h1, h2⟩
  · exact (pi_tup (tg := tg) h).run pins s σ H R I ⟨_, e, a, rfl, h1, h2⟩
end LX
namespace KL
open PySem L2 L2H LX KB
/-! ### the program's ear -/
abbrev nsEar : List Str := ["_last", "_taken", "_standing"]
structure EarT (K : PySem.W.Frag) (C : Addr) : Prop where
  cl : Cls K C
  nL : NoAttr K C "_last"
  nT : NoAttr K C "_taken"
  nS : NoAttr K C "_standing"
structure EaAt (C : Addr) (H : Hp) (p q d : Addr) (ts : List Addr) (ps : KVs) (b : Int) (gv : KVs) (tk : List Row) : Prop where
  ob : ∃ dx, H p = some (.ins C dx (nsEar.zip [.int (lastN b tk), .ref q, .ref d]))
  kp : H q = some (.lst (ts.map V.ref))
  at_ : RowsAt H ts tk
  st : H d = some (.dK (dV ps))
  nd : (ps.map (·.1)).Nodup
  fn : getP ps = holdM gv tk
  ln : ps.length ≤ gv.length + tk.length
def ErP (C : Addr) : ErT := fun F H p b gv tk => ∃ q d ts ps, F = [p, q, d] ∧ EaAt C H p q d ts ps b gv tk
section
variable {C : Addr} {H H' : Hp} {p q d : Addr} {ts : List Addr} {ps : KVs} {b : Int} {gv : KVs} {tk : List Row} {F l : List Addr}
theorem EaAt.ne (L : EaAt C H p q d ts ps b gv tk) : p ≠ q ∧ p ≠ d ∧ q ≠ d := by
  obtain ⟨dx, h⟩ := L.ob
  exact ⟨ne_of h L.kp (by intro z; cases z), ne_of h L.st (by intro z; cases z), ne_of L.kp L.st (by intro z; cases z)⟩
theorem EaAt.len (L : EaAt C H p q d ts ps b gv tk) : ts.length = tk.length := Paired.length L.at_
theorem ErP.frame (L : ErP C F H p b gv tk) (c : Ch H H' l) (k : ∀ a ∈ F, a ∉ l) : ErP C F H' p b gv tk := by
  obtain ⟨q, d, ts, ps, rfl, L⟩ := L
  obtain ⟨dx, h⟩ := L.ob
  exact ⟨q, d, ts, ps, rfl, ⟨dx, c.at h (k p (by simp))⟩, c.at L.kp (k q (by simp)), L.at_.keep c.tup, c.at L.st (k d (by simp)), L.nd, L.fn, L.ln⟩
theorem ErP.own (L : ErP C F H p b gv tk) : ∀ a ∈ F, ∃ o, H a = some o := by
  obtain ⟨q, d, ts, ps, rfl, L⟩ := L
  obtain ⟨dx, h⟩ := L.ob
  intro a ha
  simp only [List.mem_cons, List.not_mem_nil, or_false] at ha
  rcases ha with rfl | rfl | rfl
  · exact ⟨_, h⟩
  · exact ⟨_, L.kp⟩
  · exact ⟨_, L.st⟩
theorem ErP.inst (L : ErP C F H p b gv tk) : p ∈ F ∧ ∃ dx fs, H p = some (.ins C dx fs) ∧ ∀ m ∈ ([("hear" : Str), "heard", "state", "many"] : List Str), fs.lookup m = none := by
  obtain ⟨q, d, ts, ps, rfl, L⟩ := L
  obtain ⟨dx, h⟩ := L.ob
  refine ⟨by simp, dx, _, h, fun m hm => ?_⟩
  simp only [List.mem_cons, List.not_mem_nil, or_false] at hm
  rcases hm with rfl | rfl | rfl | rfl <;> exact zf_no (by decide +kernel)
end
/-- one change is taken in -/
def spTakeIn (C : Addr) : Sp := fun vs H Q _ => ∃ (p q d t : Addr) (ts : List Addr) (ps : KVs) (b : Int) (gv : KVs) (tk : List Row) (r : Row), vs = [.ref p, .ref t] ∧ EaAt C H p q d ts ps b gv tk ∧ H t = some (.tup r.V) ∧ GoodR r ∧ gv.length + tk.length ≤ 989 ∧
  ∀ ps' H', EaAt C H' p q d (ts ++ [t]) ps' b gv (tk ++ [r]) → Ch H H' [p, q, d] → Q .non H'
def spMany (C : Addr) : Sp := fun vs H Q _ => ∃ (F : List Addr) (p : Addr) (b : Int) (gv : KVs) (tk : List Row), vs = [.ref p] ∧ ErP C F H p b gv tk ∧ Q (.int tk.length) H
theorem holdM_snoc (gv : KVs) (tk : List Row) (r : Row) : holdM gv (tk ++ [r]) = stepM (holdM gv tk) r := by
  unfold holdM
  rw [List.foldl_append]
  rfl
theorem putK_pairs (ps : KVs) (k v : Str) : putK (dV ps) (Sum.inr k) (.str v) = dV (putP ps k v) := putK_dV ps k v
/-- pairs put in one by one -/
def putAll (ps qs : KVs) : KVs := qs.foldl (fun d x => putP d x.1 x.2) ps
theorem putAll_new : ∀ {qs ps : KVs}, ((ps ++ qs).map (·.1)).Nodup → putAll ps qs = ps ++ qs
  | [], ps, _ => (List.append_nil ps).symm
  | x :: qs, ps, n => by
    have h : ¬ (ps.any fun y => decide (y.1 = x.1)) = true := by
      rw [getP_any]
      have : getP ps x.1 = none := by
        refine getP_none.mpr fun z => ?_
        rw [List.map_append] at n
        exact (List.nodup_append.mp n).2.2 _ z _ (by simp) rfl
      rw [this]
      decide
    show putAll (putP ps x.1 x.2) qs = _
    have e : putP ps x.1 x.2 = ps ++ [x] := by
      unfold putP
      rw [if_neg h]
    rw [e, putAll_new (by rw [List.append_assoc]; exact n), List.append_assoc]
    rfl
section
variable {P : Program} {w : World} {K : PySem.W.Frag} {mg : Str → Option Value} {base : Heap}
theorem ok_Ear_take_in {f C : Addr} {fd : FuncData} (F : Fun K "_take_in" "Ear._take_in" s_Ear_u_take_in f fd) (T : EarT K C) : FnOk P w K mg base CX0 1 f fd p_Ear_u_take_in (spTakeIn C) := by
  refine F.ok sc_Ear_u_take_in (fun vs H Q E h => ?_) (fun cdv A outer s H vs Q E hr h => ?_)
  · obtain ⟨p, q, d, t, ts, ps, b, gv, tk, r, rfl, _⟩ := h
    rfl
  · obtain ⟨p, q, d, t, ts, ps, b, gv, tk, r, rfl, L, ht, gr, hl, k⟩ := h
    have hu := hu_of hr
    obtain ⟨dx, hp⟩ := L.ob
    obtain ⟨npq, npd, nqd⟩ := L.ne
    refine ⟨_, pss_cons (ps_asg (pv 1) (pg_tup (n := 5) rfl (pgs_cons (pg_name (i := 2) sc_Ear_u_take_in.nd rfl (Or.inl rfl)) (pgs_cons (pg_name (i := 3) sc_Ear_u_take_in.nd rfl (Or.inl rfl)) (pgs_cons (pg_name (i := 4) sc_Ear_u_take_in.nd rfl (Or.inl rfl))
        (pgs_cons (pg_name (i := 5) sc_Ear_u_take_in.nd rfl (Or.inl rfl)) (pgs_cons (pg_name (i := 6) sc_Ear_u_take_in.nd rfl (Or.inl rfl)) pgs_nil)))))))
      (pss_cons (ps_fld (pv 0) (pv 2) rfl)
      (pss_cons (ps_expr (pe_bm PySem.F.plainAttrs_list PySem.F.slot_list_append PySem.F.type_list_append mt_append (pe_fld (pv 0) rfl) (pa_cons (pv 1) pa_nil)))
      (pss_one (ps_if (pt_cmpR op_eq (pv 4) pe_str (nomark _)) (pss_one (ps_dput hu (pe_fld (pv 0) rfl) (pv 5) (pv 6) rfl))
        (pss_one (ps_expr (pe_dpop2 (pe_fld (pv 0) rfl) (pv 5) pe_non ⟨by rfl, by rfl, by rfl, by rfl⟩))))))), ?_⟩
    refine ⟨_, rfl, t, _, rfl, SqT.of ht, rfl, ?_⟩
    refine ⟨_, _, rfl, _, _, rfl, _, _, rfl, _, _, rfl, _, _, rfl, rfl, ?_⟩
    refine ⟨_, rfl, _, rfl, p, C, dx, _, rfl, hp, T.cl, T.nL, (by show 3 < 1000; decide), ?_⟩
    rw [zf_put (i := 0) (by decide +kernel) rfl]
    have c1 : Ch H (upd H p (.ins C dx (nsEar.zip [.int r.n, .ref q, .ref d]))) [p, q, d] := (Ch.refl H [p, q, d]).mut (by simp) hp (fun _ z => by cases z)
    have q1 : upd H p (.ins C dx (nsEar.zip [.int r.n, .ref q, .ref d])) q = some (.lst (ts.map V.ref)) := by rw [upd_ne npq.symm]; exact L.kp
    refine ⟨_, rfl, p, C, dx, _, _, rfl, upd_same, T.cl, T.nT, zf_get (i := 1) (by decide +kernel) rfl, .inl ⟨rfl, _, .inl (.inl q1)⟩, _, rfl, q, _, .ref t, rfl, rfl, q1, ?_, ?_⟩
    · rw [List.length_map, L.len]
      exact smallS (by omega)
    have c2 : Ch H (upd (upd H p (.ins C dx (nsEar.zip [.int r.n, .ref q, .ref d]))) q (.lst (ts.map V.ref ++ [.ref t]))) [p, q, d] := c1.mut (by simp) L.kp (fun _ z => by cases z)
    have p2 : (upd (upd H p (.ins C dx (nsEar.zip [.int r.n, .ref q, .ref d]))) q (.lst (ts.map V.ref ++ [.ref t]))) p = some (.ins C dx (nsEar.zip [.int r.n, .ref q, .ref d])) := by rw [upd_ne npq]; exact upd_same
    have q2 : (upd (upd H p (.ins C dx (nsEar.zip [.int r.n, .ref q, .ref d]))) q (.lst (ts.map V.ref ++ [.ref t]))) q = some (.lst ((ts ++ [t]).map V.ref)) := by rw [upd_same, List.map_append]; rfl
    have d2 : (upd (upd H p (.ins C dx (nsEar.zip [.int r.n, .ref q, .ref d]))) q (.lst (ts.map V.ref ++ [.ref t]))) d = some (.dK (dV ps)) := by rw [upd_ne nqd.symm, upd_ne npd.symm]; exact L.st
    have a2 : RowsAt (upd (upd H p (.ins C dx (nsEar.zip [.int r.n, .ref q, .ref d]))) q (.lst (ts.map V.ref ++ [.ref t]))) (ts ++ [t]) (tk ++ [r]) := Paired.snoc (L.at_.keep c2.tup) (c2.tup _ _ ht)
    dsimp only [List.set]
    generalize upd (upd H p (.ins C dx (nsEar.zip [.int r.n, .ref q, .ref d]))) q (.lst (ts.map V.ref ++ [.ref t])) = H2 at c2 p2 q2 d2 a2 ⊢
    have gS : (nsEar.zip [V.int r.n, V.ref q, V.ref d]).lookup ("_standing" : Str) = some (.ref d) := zf_get (i := 2) (by decide +kernel) rfl
    have eh : ∀ {ps' : KVs}, getP ps' = stepM (getP ps) r → getP ps' = holdM gv (tk ++ [r]) := fun {ps'} e => by rw [holdM_snoc, ← L.fn]; exact e
    have lz : (dV ps).length < sizeLine := by
      show (ps.map _).length < sizeLine
      rw [List.length_map]
      have := L.ln
      exact smallS (by omega)
    have fin : ∀ (ps' : KVs) (H' : Hp), H' d = some (.dK (dV ps')) → (ps'.map (·.1)).Nodup → getP ps' = stepM (getP ps) r → ps'.length ≤ ps.length + 1 → Ch H2 H' [d] → Q .non H' := fun ps' H' h1 h2 h3 h4 ck => by
      have o : ∀ {a}, a ≠ d → a ∉ [d] := fun h z => h (List.mem_singleton.mp z)
      refine k ps' H' ⟨⟨dx, ?_⟩, ck.at q2 (o nqd), a2.keep ck.tup, h1, h2, eh h3, ?_⟩ (c2.trans (ck.mono fun x hx => by rw [List.mem_singleton.mp hx]; simp))
      · rw [lastN_snoc]
        exact ck.at p2 (o npd)
      · have := L.ln
        rw [List.length_append]
        simp only [List.length_cons, List.length_nil]
        omega
    refine ⟨_, rfl, rfl, _, rfl, ?_⟩
    rcases gr.wd with ew | ew
    · rw [decide_eq_true (congrArg V.str ew)]
      refine iteT ⟨_, rfl, _, rfl, p, C, dx, _, _, rfl, p2, T.cl, T.nS, gS, _, rfl, d, _, rfl, DPut.k (k := Sum.inr r.k) d2 lz, ?_⟩
      rw [putK_dV]
      refine fin _ _ upd_same (putP_nodup L.nd) ?_ (putP_len _ _ _) ((Ch.refl _ _).mut (by simp) d2 (fun _ z => by cases z))
      funext j
      rw [getP_putP]
      unfold stepM
      rw [if_pos ew]
    · have nw : ¬ r.w = "put" := fun z => absurd (ew.symm.trans z) (by decide +kernel)
      rw [decide_eq_false fun z => nw (V.str.inj z)]
      refine iteF ⟨_, rfl, p, C, dx, _, _, rfl, p2, T.cl, T.nS, gS, d, rfl, .inl ⟨_, .inl d2⟩, _, rfl, _, Sum.inr r.k, d2, rfl, fun v hv => ?_, fun hn => ?_⟩
      · rw [dropK_dV]
        refine fin _ _ upd_same (dropP_nodup L.nd) ?_ (Nat.le_succ_of_le (dropP_len _ _)) ((Ch.refl _ _).mut (by simp) d2 (fun _ z => by cases z))
        funext j
        rw [getP_dropP]
        unfold stepM
        rw [if_neg nw]
      · refine fin ps _ d2 L.nd ?_ (Nat.le_succ _) (Ch.refl _ _)
        funext j
        unfold stepM
        by_cases c : r.k = j
        · rw [if_pos c, if_neg nw, ← c]
          rw [valV_dV] at hn
          cases g : getP ps r.k with
          | none => rfl
          | some v => rw [g] at hn; cases hn
        · rw [if_neg c]
theorem ok_Ear_hear {f fT C : Addr} {fd fdT : FuncData} {psT : List Str} (F : Fun K "hear" "Ear.hear" s_Ear_hear f fd) (T : EarT K C) (mT : Meth K C "_take_in" fT) (bT : Binds K fdT psT []) (GT : FnOk P w K mg base CX0 1 fT fdT psT (spTakeIn C)) :
    FnOk P w K mg base CX0 2 f fd p_Ear_hear (spEarHear (ErP C)) := by
  refine F.ok sc_Ear_hear (fun vs H Q E h => ?_) (fun cdv A outer s H vs Q E hr h => ?_)
  · obtain ⟨Fo, p, q, b, gv, tk, rs, ts, rfl, _⟩ := h
    rfl
  · obtain ⟨Fo, p, ql, b, gv, tk, rs, rts, rfl, LP, hql, nq, hrs, gr, hl, k⟩ := h
    obtain ⟨q, d, ts, ps, rfl, L⟩ := id LP
    obtain ⟨npq, npd, nqd⟩ := L.ne
    refine ⟨_, pss_cons (ps_for PassesOwn.never rfl (pi_list (pv 1)) (pg_name (i := 2) sc_Ear_hear.nd rfl (Or.inl rfl))
        (pss_one (ps_if (pt_cmpR op_gt (pe_ix ix_tup (pv 2) pe_int (fun _ _ => rfl)) (pe_fld (pv 0) rfl) (nomark _)) (pss_one (ps_expr (pe_meth (E := E0) (pv 0) T.cl mT GT hr bT .nil pass0 (pa_cons (pv 2) pa_nil)))) pss_nil)))
      (pss_one (ps_ret (pe_fld (pv 0) rfl))), ?_⟩
    have nql : ∀ a ∈ [p, q, d], a ≠ ql := fun a ha z => nq (z ▸ ha)
    refine ⟨_, rfl, ql, rfl, ⟨_, SqL.of hql⟩, ?_⟩
    refine for_list (xs := rts.map V.ref) (fun i σ H' => ∃ (y : Option V) (ts' : List Addr) (ps' : KVs), σ = [some (.ref p), some (.ref ql), y] ∧ EaAt C H' p q d ts' ps' b gv (takeM b tk (rs.take i)) ∧ Ch H H' [p, q, d]) ⟨none, ts, ps, rfl, L, Ch.refl _ _⟩ ?_ ?_ ?_
    · rintro i σ H1 _ ⟨y, ts', ps', rfl, L1, c1⟩
      exact SqL.of (c1.at hql nq)
    · rintro i x σ H1 hx ⟨y, ts', ps', rfl, L1, c1⟩
      obtain ⟨t, r, rfl, er, et⟩ := RowsAt.at hrs hx
      have et1 := c1.tup _ _ et
      obtain ⟨dx, hp⟩ := L1.ob
      have e1 : rs.take (i + 1) = rs.take i ++ [r] := by
        rw [List.take_add_one, er]; rfl
      have e2 : takeM b tk (rs.take (i + 1)) = if r.n > lastN b (takeM b tk (rs.take i)) then takeM b tk (rs.take i) ++ [r] else takeM b tk (rs.take i) := by
        rw [e1, takeM_app]
        rfl
      refine ⟨_, rfl, t, _, 0, .int r.n, rfl, rfl, SqT.of et1, rfl, _, rfl, p, C, dx, _, _, rfl, hp, T.cl, T.nL, zf_get (i := 0) (by decide +kernel) rfl, _, _, rfl, rfl, _, rfl, ?_⟩
      rw [e2]
      by_cases cc : r.n > lastN b (takeM b tk (rs.take i))
      · rw [decide_eq_true cc, if_pos cc]
        have ln := takeM_len b (rs.take i) tk
        have l2 := List.length_take_le i rs
        have l3 : i < rs.length := (List.getElem?_eq_some_iff.mp er).1
        have l4 : (rs.take i).length = i := List.length_take_of_le (Nat.le_of_lt l3)
        refine iteT ⟨_, rfl, p, dx, _, rfl, hp, zf_no (by decide +kernel), _, rfl, p, q, d, t, ts', ps', b, gv, _, r, rfl, L1, et1, gr r (List.mem_of_getElem? er), by omega, fun ps2 H2 L2 c2 => ?_⟩
        exact ⟨_, _, ps2, rfl, L2, c1.trans c2⟩
      · rw [decide_eq_false cc, if_neg cc]
        exact iteF ⟨_, ts', ps', rfl, L1, c1⟩
    · rintro σ H1 ⟨y, ts', ps', rfl, L1, c1⟩
      rw [List.length_map, Paired.length hrs, List.take_length] at L1
      obtain ⟨dx, hp⟩ := L1.ob
      exact ⟨_, rfl, p, C, dx, _, _, rfl, hp, T.cl, T.nL, zf_get (i := 0) (by decide +kernel) rfl, k [p, q, d] H1 ⟨q, d, ts', ps', rfl, L1⟩ (Grow.refl _ _) c1⟩
theorem ok_Ear_heard {f C : Addr} {fd : FuncData} (F : Fun K "heard" "Ear.heard" s_Ear_heard f fd) (T : EarT K C) (ml : mg "list" = none) : FnOk P w K mg base CX0 1 f fd p_Ear_heard (spEarHeard (ErP C)) := by
  refine F.ok sc_Ear_heard (fun vs H Q E h => ?_) (fun cdv A outer s H vs Q E hr h => ?_)
  · obtain ⟨Fo, p, b, gv, tk, rfl, _⟩ := h
    rfl
  · obtain ⟨Fo, p, b, gv, tk, rfl, LP, k⟩ := h
    obtain ⟨q, d, ts, ps, rfl, L⟩ := id LP
    obtain ⟨dx, hp⟩ := L.ob
    refine ⟨_, pss_one (ps_ret (pe_callTy call_list_of (by rfl) ml (by decide +kernel) (pa_cons (pe_fld (pv 0) rfl) pa_nil))), ?_⟩
    refine ⟨_, rfl, p, C, dx, _, _, rfl, hp, T.cl, T.nT, zf_get (i := 1) (by decide +kernel) rfl, q, _, rfl, .inl (SqL.of L.kp), fun l hl => ?_⟩
    have sm := same_new (o := .lst (ts.map V.ref)) hl
    refine k [p, q, d] l ts _ (LP.frame (Ch.of sm []) (fun _ _ z => nomatch z)) (Grow.refl _ _) (Ch.of sm _) hl (fun y => ?_) upd_same (L.at_.keep fun b xs e => sm _ _ e)
    obtain ⟨o, e⟩ := LP.own l y
    rw [hl] at e
    cases e
theorem pairsAt2 {H : Hp} : ∀ {ts : List Addr} {ps : KVs} {j : Nat} {y : V}, PairsAt H ts ps → (ts.map V.ref)[j]? = some y → ∃ t r, y = V.ref t ∧ ps[j]? = some r ∧ H t = some (.tup [.str r.1, .str r.2])
  | _, _, j, y, .nil, h => by simp at h
  | _, _, 0, y, .cons r m, h => ⟨_, _, (Option.some.inj h).symm, rfl, r⟩
  | _, _, j + 1, y, .cons r m, h => pairsAt2 (j := j) m (by simpa using h)
/-- a new ear -/
theorem ok_Ear_init {f C : Addr} {fd : FuncData} (F : FunD K "__init__" "Ear.__init__" (defArgs s_Ear_init) (defBody s_Ear_init) (defScope s_Ear_init) [.int 1, .non] [] f fd) (T : EarT K C) : FnOk P w K mg base CX0 1 f fd p_Ear_init (spEarInit K C (ErP C)) := by
  refine F.ok sc_Ear_init (fun vs H Q E h => ?_) (fun cdv A outer s H vs Q E hr h => ?_)
  · obtain ⟨p, dx, b, gv, pv, rfl, _⟩ := h
    rfl
  · obtain ⟨p, dx, b, gv, pw, rfl, hp, hb, nd, okp, hl, hpv, k⟩ := h
    have hu := hu_of hr
    refine ⟨_, PSs.nox (pss_cons (ps_fld (pv 0) (pe_op op_sub (pv 1) pe_int) rfl) (pss_cons (ps_fld (pv 0) (pe_lst pa_nil) rfl) (pss_cons (ps_fld (pv 0) pe_dnewK rfl)
      (pss_one (ps_if (pt_cmp (pc_notN (pv 2))) (pss_one (ps_for PassesOwn.never rfl (pi_seq (pv 2)) (pg_tup (n := 2) rfl (pgs_cons (pg_name (i := 3) sc_Ear_init.nd rfl (Or.inl rfl)) (pgs_cons (pg_name (i := 4) sc_Ear_init.nd rfl (Or.inl rfl)) pgs_nil)))
        (pss_one (ps_dput hu (pe_fld (pv 0) rfl) (pv 3) (pv 4) rfl)))) pss_nil))))), ?_⟩
    refine ⟨_, rfl, _, _, rfl, rfl, _, rfl, p, C, dx, [], rfl, hp, T.cl, T.nL, (by show 0 < 1000; decide), ?_⟩
    refine ⟨(by show 0 ≤ sizeLine; decide), fun q hq => ?_⟩
    have npq : p ≠ q := ne_of_none upd_same hq
    refine ⟨_, rfl, p, C, dx, _, rfl, (by rw [upd_ne npq]; exact upd_same), T.cl, T.nT, (by show 1 < 1000; decide), ?_⟩
    intro d hd
    have npd : p ≠ d := ne_of_none upd_same hd
    have nqd : q ≠ d := ne_of_none (by rw [upd_ne npq.symm]; exact upd_same) hd
    refine ⟨_, rfl, p, C, dx, _, rfl, (by rw [upd_ne npd]; exact upd_same), T.cl, T.nS, (by show 2 < 1000; decide), ?_⟩
    have q0 : H q = none := by rw [upd_ne npq.symm] at hq; exact hq
    have d0 : H d = none := by rw [upd_ne npd.symm, upd_ne nqd.symm, upd_ne npd.symm] at hd; exact hd
    have ed : putF "_standing" (V.ref d) (putF "_taken" (V.ref q) (putF "_last" (V.int (b - 1)) [])) = nsEar.zip [.int (b - 1), .ref q, .ref d] := rfl
    rw [ed]
    have c0 : Ch H (upd (upd (upd (upd (upd H p (.ins C dx (putF "_last" (V.int (b - 1)) []))) q (.lst [])) p (.ins C dx (putF "_taken" (V.ref q) (putF "_last" (V.int (b - 1)) [])))) d (.dK [])) p (.ins C dx (nsEar.zip [.int (b - 1), .ref q, .ref d]))) [p] :=
      ((((((Ch.refl H [p]).mut (by simp) hp (fun _ z => by cases z)).new _ q0).mut (by simp) hp (fun _ z => by cases z)).new _ d0).mut (by simp) hp (fun _ z => by cases z))
    have e1 : ∀ H0 : Hp, upd H0 p (.ins C dx (nsEar.zip [.int (b - 1), .ref q, .ref d])) p = some (.ins C dx (nsEar.zip [.int (b - 1), .ref q, .ref d])) := fun _ => upd_same
    have e2 : (upd (upd (upd (upd (upd H p (.ins C dx (putF "_last" (V.int (b - 1)) []))) q (.lst [])) p (.ins C dx (putF "_taken" (V.ref q) (putF "_last" (V.int (b - 1)) [])))) d (.dK [])) p (.ins C dx (nsEar.zip [.int (b - 1), .ref q, .ref d]))) q = some (.lst []) := by
      rw [upd_ne npq.symm, upd_ne nqd, upd_ne npq.symm]; exact upd_same
    have e3 : (upd (upd (upd (upd (upd H p (.ins C dx (putF "_last" (V.int (b - 1)) []))) q (.lst [])) p (.ins C dx (putF "_taken" (V.ref q) (putF "_last" (V.int (b - 1)) [])))) d (.dK [])) p (.ins C dx (nsEar.zip [.int (b - 1), .ref q, .ref d]))) d = some (.dK []) := by
      rw [upd_ne npd.symm]; exact upd_same
    have e1 := e1 (upd (upd (upd (upd H p (.ins C dx (putF "_last" (V.int (b - 1)) []))) q (.lst [])) p (.ins C dx (putF "_taken" (V.ref q) (putF "_last" (V.int (b - 1)) [])))) d (.dK []))
    generalize upd (upd (upd (upd (upd H p (.ins C dx (putF "_last" (V.int (b - 1)) []))) q (.lst [])) p (.ins C dx (putF "_taken" (V.ref q) (putF "_last" (V.int (b - 1)) [])))) d (.dK [])) p (.ins C dx (nsEar.zip [.int (b - 1), .ref q, .ref d])) = H1 at c0 e1 e2 e3 ⊢
    -- the pairs, one by one
    have gS : (nsEar.zip [V.int (b - 1), V.ref q, V.ref d]).lookup ("_standing" : Str) = some (.ref d) := zf_get (i := 2) (by decide +kernel) rfl
    have fin : ∀ {H' : Hp}, H' d = some (.dK (dV gv)) → Ch H1 H' [d] → Q .non H' := fun {H'} h1 ck => by
      have o : ∀ {a}, a ≠ d → a ∉ [d] := fun h z => h (List.mem_singleton.mp z)
      have cc : Ch H H' [p] := ⟨fun x u e n => ck.st x u (c0.st x u e n) (.inl (o (ne_of_none e d0))), fun x u e => let ⟨_, z⟩ := c0.th x u e; ck.th x _ z⟩
      refine k [p, q, d] H' ⟨q, d, [], gv, rfl, ⟨dx, ck.at e1 (o npd)⟩, ck.at e2 (o nqd), .nil, h1, nd, rfl, Nat.le_refl _⟩ (fun a ha => ?_) cc
      simp only [List.mem_cons, List.not_mem_nil, or_false] at ha
      rcases ha with rfl | rfl | rfl
      · exact .inl rfl
      · exact .inr q0
      · exact .inr d0
    have nsq : ∀ {qs ps : KVs} {x : Str × Str}, ((ps ++ x :: qs).map (·.1)).Nodup → putP ps x.1 x.2 = ps ++ [x] := fun {qs ps x} n => by
      have h : getP ps x.1 = none := by
        refine getP_none.mpr fun z => ?_
        rw [List.map_append] at n
        exact (List.nodup_append.mp n).2.2 _ z _ (by simp) rfl
      unfold putP
      rw [getP_any, h]
      rfl
    -- a turn
    have turn : ∀ {i : Nat} {x : Str × Str} {y3 y4 : Option V} {H2 : Hp}, gv[i]? = some x → H2 d = some (.dK (dV (gv.take i))) → Ch H1 H2 [d] →
        H2 p = some (.ins C dx (nsEar.zip [.int (b - 1), .ref q, .ref d])) ∧ (dV (gv.take i)).length < sizeLine ∧ upd H2 d (.dK (putK (dV (gv.take i)) (Sum.inr x.1) (.str x.2))) d = some (.dK (dV (gv.take (i + 1)))) ∧ Ch H1 (upd H2 d (.dK (putK (dV (gv.take i)) (Sum.inr x.1) (.str x.2)))) [d] := fun {i x y3 y4 H2} hx h1 ck => by
      have o : ∀ {a}, a ≠ d → a ∉ [d] := fun h z => h (List.mem_singleton.mp z)
      have et : gv.take (i + 1) = gv.take i ++ [x] := by
        rw [List.take_add_one, hx]; rfl
      refine ⟨ck.at e1 (o npd), ?_, ?_, ck.mut (by simp) e3 (fun _ z => by cases z)⟩
      · show ((gv.take i).map _).length < sizeLine
        rw [List.length_map]
        have := List.length_take_le' i gv
        exact smallS (by omega)
      · rw [upd_same, putK_dV, nsq (qs := gv.drop (i + 1)), et]
        have e : gv.take i ++ x :: gv.drop (i + 1) = gv := by
          have h2 := List.take_append_drop i gv
          rw [List.drop_eq_getElem_cons (List.getElem?_eq_some_iff.mp hx).1] at h2
          rw [← (List.getElem?_eq_some_iff.mp hx).2]
          exact h2
        rw [e]
        exact nd
    have one : ∀ {a x : Addr}, a ≠ x → a ∉ [x] := fun h z => h (List.mem_singleton.mp z)
    have keepL : ∀ {H2 : Hp} {a : Addr} {xs : List V}, Ch H1 H2 [d] → SqL K H a xs → SqL K H2 a xs := fun {H2 a xs} ck h => by
      rcases h with (h | ⟨u, h⟩) | h
      · exact .inl (.inl (ck.st _ _ (c0.st _ _ h (.inl (one (ne_of h hp (by intro z; cases z))))) (.inl (one (ne_of_none h d0)))))
      · exact .inl (.inr ⟨u, ck.st _ _ (c0.st _ _ h (.inl (one (ne_of h hp (by intro z; cases z))))) (.inl (one (ne_of_none h d0)))⟩)
      · exact .inr h
    have keepT : ∀ {H2 : Hp} {a : Addr} {xs : List V}, Ch H1 H2 [d] → SqT K H a xs → SqT K H2 a xs := fun {H2 a xs} ck h => by
      rcases h with (h | ⟨u, h⟩) | h
      · exact .inl (.inl (ck.st _ _ (c0.st _ _ h (.inl (one (ne_of h hp (by intro z; cases z))))) (.inl (one (ne_of_none h d0)))))
      · exact .inl (.inr ⟨u, ck.st _ _ (c0.st _ _ h (.inl (one (ne_of h hp (by intro z; cases z))))) (.inl (one (ne_of_none h d0)))⟩)
      · exact .inr h
    rcases hpv with ⟨rfl, rfl⟩ | ⟨pq, pts, rfl, hsq, hpt⟩
    · exact ⟨_, rfl, false, by rw [decide_eq_true rfl]; rfl, iteF (fin e3 (Ch.refl _ _))⟩
    · refine ⟨_, rfl, true, by rw [decide_eq_false (fun z => by cases z)]; rfl, iteT ?_⟩
      have len : (pts.map V.ref).length = gv.length := by rw [List.length_map, Paired.length hpt]
      have step : ∀ {i : Nat} {x : V} {y3 y4 : Option V} {H2 : Hp} {D : Ends}, (pts.map V.ref)[i]? = some x → H2 d = some (.dK (dV (gv.take i))) → Ch H1 H2 [d] →
          (∀ y3 y4 H3, H3 d = some (.dK (dV (gv.take (i + 1)))) → Ch H1 H3 [d] → D.nx [some (V.ref p), some (V.int b), some (V.ref pq), y3, y4] H3) →
          gTup K 2 (gCons (gName 3) (gCons (gName 4) gNil)) x [some (V.ref p), some (V.int b), some (V.ref pq), y3, y4] H2 fun σ2 H3 => sDPut (tFld K (tVar 0) "_standing") (tVar 3) (tVar 4) D σ2 H3 := fun {i x y3 y4 H2 D} hx h1 ck hN => by
        obtain ⟨t, a, v, rfl, ht⟩ := PairsAt.at hpt hx
        have hlt : i < gv.length := by rw [← len]; exact (List.getElem?_eq_some_iff.mp hx).1
        obtain ⟨x, hgx⟩ : ∃ x, gv[i]? = some x := ⟨gv[i], by simp [hlt]⟩
        have ht2 := ck.tup _ _ (c0.tup _ _ ht)
        have exv : x = (a, v) := by
          obtain ⟨t', r', e1', e2', e3'⟩ := pairsAt2 hpt hx
          cases e1'
          rw [hgx] at e2'
          cases e2'
          rw [ht] at e3'
          cases e3'
          rfl
        subst exv
        obtain ⟨t1, t2, t3, t4⟩ := turn (y3 := none) (y4 := none) hgx h1 ck
        exact ⟨t, _, rfl, SqT.of ht2, rfl, _, _, rfl, _, _, rfl, rfl, _, rfl, _, rfl, p, C, dx, _, _, rfl, t1, T.cl, T.nS, gS, _, rfl, d, _, rfl, DPut.k (k := Sum.inr a) h1 t2, hN _ _ _ t3 t4⟩
      rcases hsq with hs | hs
      · refine ⟨pq, rfl, .inl ⟨⟨_, keepL (Ch.refl _ _) hs⟩, ?_⟩⟩
        refine for_list (xs := pts.map V.ref) (fun i σ H' => (∃ y3 y4 : Option V, σ = [some (.ref p), some (.int b), some (.ref pq), y3, y4]) ∧ H' d = some (.dK (dV (gv.take i))) ∧ Ch H1 H' [d]) ⟨⟨none, none, rfl⟩, e3, Ch.refl _ _⟩ ?_ ?_ ?_
        · rintro i σ H2 _ ⟨⟨y3, y4, rfl⟩, h1, ck⟩
          exact keepL ck hs
        · rintro i x σ H2 hx ⟨⟨y3, y4, rfl⟩, h1, ck⟩
          exact step hx h1 ck fun y3 y4 H3 h3 c3 => ⟨⟨y3, y4, rfl⟩, h3, c3⟩
        · rintro σ H2 ⟨⟨y3, y4, rfl⟩, h1, ck⟩
          rw [len, List.take_length] at h1
          exact fin h1 ck
      · refine ⟨pq, rfl, .inr ⟨⟨_, keepT (Ch.refl _ _) hs⟩, ?_⟩⟩
        refine for_tup (xs := pts.map V.ref) (fun i σ H' => (∃ y3 y4 : Option V, σ = [some (.ref p), some (.int b), some (.ref pq), y3, y4]) ∧ H' d = some (.dK (dV (gv.take i))) ∧ Ch H1 H' [d]) ⟨⟨none, none, rfl⟩, e3, Ch.refl _ _⟩ ?_ ?_ ?_
        · rintro i σ H2 _ ⟨⟨y3, y4, rfl⟩, h1, ck⟩
          exact keepT ck hs
        · rintro i x σ H2 hx ⟨⟨y3, y4, rfl⟩, h1, ck⟩
          exact step hx h1 ck fun y3 y4 H3 h3 c3 => ⟨⟨y3, y4, rfl⟩, h3, c3⟩
        · rintro σ H2 ⟨⟨y3, y4, rfl⟩, h1, ck⟩
          rw [len, List.take_length] at h1
          exact fin h1 ck
end
end KL

namespace KL
open PySem L2 L2H LX KB
section
variable {P : Program} {w : World} {K : PySem.W.Frag} {mg : Str → Option Value} {base : Heap}
theorem ok_Ear_state {f C : Addr} {fd : FuncData} (F : Fun K "state" "Ear.state" s_Ear_state f fd) (T : EarT K C) (ms : mg "sorted" = none) : FnOk P w K mg base CX0 1 f fd p_Ear_state (spEarState (ErP C)) := by
  refine F.ok sc_Ear_state (fun vs H Q E h => ?_) (fun cdv A outer s H vs Q E hr h => ?_)
  · obtain ⟨Fo, p, b, gv, tk, rfl, _⟩ := h
    rfl
  · obtain ⟨Fo, p, b, gv, tk, rfl, LP, hl, gr, k⟩ := h
    obtain ⟨q, d, ts, ps, rfl, L⟩ := id LP
    obtain ⟨dx, hp⟩ := L.ob
    refine ⟨_, pss_one (ps_ret (pe_callB (cr_sortItK rfl) (by rfl) ms (by decide +kernel) (pa_cons (pe_bm0 PySem.F.plainAttrs_dict PySem.F.slot_dict_items PySem.F.type_dict_items mt_itemsK (pe_fld (pv 0) rfl)) pa_nil))), ?_⟩
    refine ⟨_, rfl, p, C, dx, _, _, rfl, hp, T.cl, T.nS, zf_get (i := 2) (by decide +kernel) rfl, .inr (.inr (.inl ⟨rfl, .inl ⟨_, L.st⟩⟩)), d, _, rfl, rfl, L.st, fun v hv => ?_⟩
    have s1 := same_new (o := L2.DX.itemsO v d) hv
    refine ⟨v, d, ps, rfl, upd_same, s1 _ _ L.st, fun H' l us qs s2 hl2 hat m pm so => ?_⟩
    have sm := s1.trans s2
    have t := told_perm L.nd pm so
    rw [L.fn] at t
    refine k [p, q, d] l us qs H' (LP.frame (Ch.of sm []) (fun _ _ z => nomatch z)) (Grow.refl _ _) (Ch.of sm _) (s1.free hl2) (fun y => ?_) hat m t
    obtain ⟨o, e⟩ := LP.own l y
    rw [s1 _ _ e] at hl2
    cases hl2
end
end KL

namespace KL
open PySem L2 L2H LX KB
section
variable {P : Program} {w : World} {K : PySem.W.Frag} {mg : Str → Option Value} {base : Heap}
theorem ok_Ear_many {f C : Addr} {fd : FuncData} (F : Fun K "many" "Ear.many" s_Ear_many f fd) (T : EarT K C) (ml : mg "len" = none) : FnOk P w K mg base CX0 1 f fd p_Ear_many (spMany C) := by
  refine F.ok sc_Ear_many (fun vs H Q E h => ?_) (fun cdv A outer s H vs Q E hr h => ?_)
  · obtain ⟨Fo, p, b, gv, tk, rfl, _⟩ := h
    rfl
  · obtain ⟨Fo, p, b, gv, tk, rfl, ⟨q, d, ts, ps, rfl, L⟩, k⟩ := h
    obtain ⟨dx, hp⟩ := L.ob
    refine ⟨_, pss_one (ps_ret (pe_callB call_len_seq (by rfl) ml PySem.boot_len (pa_cons (pe_fld (pv 0) rfl) pa_nil))), ?_⟩
    refine ⟨_, rfl, p, C, dx, _, _, rfl, hp, T.cl, T.nT, zf_get (i := 1) (by decide +kernel) rfl, q, _, rfl, .inl (SqL.of L.kp), ?_⟩
    rw [List.length_map, L.len]
    exact k
theorem api_many {k : Nat} {f C : Addr} {fd : FuncData} {ps : List Str} (G : FnOk P w K mg base CX0 k f fd ps (spMany C)) : FnOk P w K mg base CX0 k f fd ps (spEarMany (ErP C)) :=
  G.imp fun vs H Q E ⟨F, p, b, gv, tk, e, L, q⟩ => ⟨F, p, b, gv, tk, e, L, q F H L (Grow.refl _ _) (Ch.refl _ _)⟩
end
end KL

namespace KL
open PySem L2 L2H LX KB
/-! ### a law's plain helpers: whole, cell_at, sign, text, pool, prefix -/
structure LTxt (mg : Str → Option Value) : Prop where
  isi : mg "isinstance" = none
  int : mg "int" = none
  bool : mg "bool" = none
  str : mg "str" = none
  len : mg "len" = none
  sorted : mg "sorted" = none
  list : mg "list" = none
  tuple : mg "tuple" = none
  range : mg "range" = none
/-- a def of the law as its callers see it -/
structure Def (P : Program) (w : World) (K : PySem.W.Frag) (mg : Str → Option Value) (base : Heap) (x : Str) (k : Nat) (ps : List Str) (sp : Sp) : Prop where
  ex : ∃ f fd, mg x = some (.ref f) ∧ PySem.W.keepIn K (.ref f) = true ∧ Binds K fd ps [] ∧ FnOk P w K mg base CX0 k f fd ps sp
def Plain (v : V) (b : Bool) : Prop := ((∃ i, v = .int i) ∧ b = true) ∨ ((v = .non ∨ ∃ z, v = .str z) ∧ b = false)
def spWhole : Sp := fun vs H Q _ => ∃ (v : V) (b : Bool), vs = [v] ∧ Plain v b ∧ Q (.bl b) H
def spCellA (K : PySem.W.Frag) : Sp := fun vs H Q _ => ∃ (a : Addr) (ns : List Int) (j : Nat), vs = [.ref a, .int j] ∧ SqL K H a (ns.map V.int) ∧ ∀ t, Q (.int t) H
def spSign : Sp := fun vs H Q _ => ∃ (c : Int), vs = [.int c] ∧ ∀ z, TOk 1 z → z.length = 1 → Q (.str z) H
def spText : Sp := fun vs H Q _ => ∃ (c n : Int), vs = [.int c, .int n] ∧ 0 ≤ n ∧ n ≤ 60 ∧ ∀ z H', TOk n.toNat z → z.length = n.toNat → Same H H' → Q (.str z) H'
def spPool : Sp := fun vs H Q _ => ∃ (c o : Int), vs = [.int c, .int o] ∧ ∀ (q : Addr) (zs : List Str) (H' : Hp), H q = none → H' q = some (.lst (zs.map V.str)) → zs.length = 6 → (∀ z ∈ zs, TOk 60 z) → (∀ z, zs[0]? = some z → 0 < z.length) → Same H H' → Q (.ref q) H'
def spPrefix : Sp := fun vs H Q _ => ∃ (q : Addr) (zs : List Str) (c : Int), vs = [.ref q, .int c] ∧ H q = some (.lst (zs.map V.str)) ∧ zs.length = 6 ∧ (∀ z ∈ zs, TOk 60 z) ∧ ∀ z H', TOk 60 z → Same H H' → Q (.str z) H'
section
variable {P : Program} {w : World} {K : PySem.W.Frag} {mg : Str → Option Value} {base : Heap}
theorem ok_whole {f : Addr} {fd : FuncData} (F : Fun K "_law_whole" "_law_whole" s_whole f fd) (T : LTxt mg) : FnOk P w K mg base CX0 1 f fd p_whole spWhole := by
  refine F.ok sc_whole (fun vs H Q E h => ?_) (fun cdv A outer s H vs Q E hr h => ?_)
  · obtain ⟨v, b, rfl, _⟩ := h
    rfl
  · obtain ⟨v, b, rfl, hb, k⟩ := h
    refine ⟨_, pss_one (ps_ret (pe_and (pe_callB call_isi (by rfl) T.isi (by decide +kernel) (pa_cons (pv 0) (pa_cons (pe_bltn (v := V.ty "int") (by rfl) T.int (by decide +kernel) rfl) pa_nil)))
      (pe_one (pe_not (pe_callB call_isi (by rfl) T.isi (by decide +kernel) (pa_cons (pv 0) (pa_cons (pe_bltn (v := V.ty "bool") (by rfl) T.bool (by decide +kernel) rfl) pa_nil))))))), ?_⟩
    rcases hb with ⟨⟨i, rfl⟩, rfl⟩ | ⟨hv, rfl⟩
    · refine ⟨_, rfl, _, _, _, _, true, rfl, .ty _, .base (.int i), kit_ty (by decide +kernel), true, rfl, ?_⟩
      refine iteT ?_
      exact ⟨_, rfl, _, _, _, _, false, rfl, .ty _, .base (.int i), kit_ty (by decide +kernel), false, rfl, k⟩
    · rcases hv with rfl | ⟨z, rfl⟩
      · refine ⟨_, rfl, _, _, _, _, false, rfl, .ty _, .base .non, kit_ty (by decide +kernel), false, rfl, ?_⟩
        exact iteF k
      · refine ⟨_, rfl, _, _, _, _, false, rfl, .ty _, .base (.str z), kit_ty (by decide +kernel), false, rfl, ?_⟩
        exact iteF k
theorem ok_cell {f : Addr} {fd : FuncData} (F : Fun K "_law_cell_at" "_law_cell_at" s_cell_at f fd) (T : LTxt mg) : FnOk P w K mg base CX0 1 f fd p_cell_at (spCellA K) := by
  refine F.ok sc_cell_at (fun vs H Q E h => ?_) (fun cdv A outer s H vs Q E hr h => ?_)
  · obtain ⟨a, ns, j, rfl, _⟩ := h
    rfl
  · obtain ⟨a, ns, j, rfl, hs, k⟩ := h
    refine ⟨_, pss_cons (ps_if (pt_cmpR op_lt (pv 1) (pe_callB call_len_seq (by rfl) T.len PySem.boot_len (pa_cons (pv 0) pa_nil)) (nomark _)) (pss_one (ps_ret (pe_ix ix_list (pv 0) (pv 1) (fun _ _ => rfl)))) pss_nil)
      (pss_one (ps_ret pe_int)), ?_⟩
    refine ⟨_, rfl, _, rfl, a, _, rfl, .inl hs, _, _, rfl, rfl, _, rfl, ?_⟩
    rw [List.length_map]
    by_cases c : (j : Int) < ns.length
    · rw [decide_eq_true c]
      refine iteT ?_
      obtain ⟨t, _, e⟩ := at_ints (ns := ns) (z := (j : Int)) (by omega) c
      exact ⟨_, rfl, _, rfl, a, _, _, _, rfl, rfl, hs, e, k t⟩
    · rw [decide_eq_false c]
      refine iteF ?_
      exact k 0
theorem sign_go {z : Str} {i : Int} {H : Hp} {Q : VK} (h1 : z.length = 94) (h2 : PyData.strOk z = true) (k : ∀ y, TOk 1 y → y.length = 1 → Q (.str y) H) :
    ∃ x j c, V.str z = .str x ∧ V.int (i % 94) = .int j ∧ x.length ≤ sizeLine ∧ atI x.cps.toList j = some c ∧ Q (.str ⟨#[c]⟩) H := by
  have hl : z.cps.toList.length = 94 := by rw [Array.length_toList]; exact h1
  obtain ⟨j, hj⟩ := Int.eq_ofNat_of_zero_le (a := i % 94) (by omega)
  have hlt : j < z.cps.toList.length := by omega
  refine ⟨z, _, z.cps.toList[j], rfl, rfl, by rw [h1]; decide, by rw [hj]; exact atI_nat (List.getElem?_eq_getElem hlt), k _ (TOk.one ?_) rfl⟩
  unfold PyData.strOk at h2
  rw [← Array.all_toList, List.all_eq_true] at h2
  exact of_decide_eq_true (h2 _ (List.getElem_mem hlt))
theorem ok_sign {f : Addr} {fd : FuncData} (F : Fun K "_law_sign" "_law_sign" s_sign f fd) : FnOk P w K mg base CX0 1 f fd p_sign spSign := by
  refine F.ok sc_sign (fun vs H Q E h => ?_) (fun cdv A outer s H vs Q E hr h => ?_)
  · obtain ⟨c, rfl, _⟩ := h
    rfl
  · obtain ⟨c, rfl, k⟩ := h
    refine ⟨_, pss_cons (ps_set (i := 1) sc_sign.nd rfl (Or.inl rfl) pe_str) (pss_cons (ps_set (i := 1) sc_sign.nd rfl (Or.inl rfl) (pe_op op_add_str (pv 1) pe_str))
      (pss_one (ps_ret (pe_ix ix_str (pv 1) (pe_op op_mod (pv 0) pe_int) (fun _ _ => rfl))))), ?_⟩
    refine ⟨_, rfl, _, _, rfl, rfl, (by decide +kernel), ?_⟩
    refine ⟨_, rfl, _, rfl, _, _, rfl, rfl, (by show (0 : Int) < 94; decide), ?_⟩
    exact sign_go (by decide +kernel) (by decide +kernel) k
theorem join_full : ∀ {ys : List Str}, (∀ y ∈ ys, y.length = 1) → (Str.join "" ys).length = ys.length
  | [], _ => rfl
  | [x], h => h x List.mem_cons_self
  | x :: z :: r, h => by
    have a := h x List.mem_cons_self
    have b := join_full (ys := z :: r) fun y hy => h y (List.mem_cons_of_mem _ hy)
    show ((x ++ ("" : Str)) ++ Str.join "" (z :: r)).length = _
    have lap : ∀ x y : Str, (x ++ y).length = x.length + y.length := fun x y => by
      have e : tl (x ++ y) = tl x ++ tl y := TL.tl_append x y
      rw [← tl_len, e, List.length_append, tl_len, tl_len]
    rw [lap, lap, a, b]
    show 1 + 0 + _ = _
    simp only [List.length_cons]
    omega
theorem ok_text {f : Addr} {fd : FuncData} (F : Fun K "_law_text" "_law_text" s_text f fd) (T : LTxt mg) (D1 : Def P w K mg base "_law_sign" 1 p_sign spSign) : FnOk P w K mg base CX0 2 f fd p_text spText := by
  obtain ⟨fS, fdS, gS, kS, bS, GS⟩ := D1.ex
  refine F.ok sc_text (fun vs H Q E h => ?_) (fun cdv A outer s H vs Q E hr h => ?_)
  · obtain ⟨c, n, rfl, _⟩ := h
    rfl
  · obtain ⟨c, n, rfl, n0, n1, k⟩ := h
    refine ⟨_, pss_one (ps_ret (pe_join pe_str (pe_lc (own := [("_law_k", 2)]) (g := gName 2) rfl sc_text.nd (pi_range1 (by rfl) T.range (pa_cons (pv 1) pa_nil)) (blkOk_by (own := [("_law_k", 2)]) (N := n_text) (sc := defScope s_text) (by decide +kernel))
      (fun _ _ _ _ _ => pg_name (i := 2) sc_text.nd rfl (Or.inl rfl) (Or.inr rfl)) (fun _ _ _ _ _ => pts_nil)
      (fun _ _ _ _ _ => pe_call GS hr rfl gS kS bS .nil pass0 (pa_cons (pe_op op_add (pv 0) (pe_op op_mul (pe_op op_mul pe_int (pv 2)) (pv 2))) pa_nil))))), ?_⟩
    refine ⟨⟨_, rfl⟩, _, rfl, n, rfl, by omega, by omega, fun D hD => ?_⟩
    refine lc_range (lo := 0) (n := n.toNat) (fun i H' => ∃ ys : List Str, Same H H' ∧ H' D = some (.lst (ys.map V.str)) ∧ ys.length = i ∧ (∀ y ∈ ys, TOk 1 y) ∧ ∀ y ∈ ys, y.length = 1) ⟨[], same_new hD, upd_same, rfl, (fun y hy => by cases hy), fun y hy => by cases hy⟩ ?_ ?_
    · rintro i H1 hi ⟨ys, hs, hl, len, ok, one⟩
      refine ⟨rfl, _, rfl, _, rfl, _, _, rfl, rfl, .inl ⟨by decide, by decide⟩, _, rfl, _, _, rfl, rfl, .inl ⟨by omega, by omega⟩, _, _, rfl, rfl, _, rfl, fun z hz hz1 => ?_⟩
      refine ⟨_, hl, by rw [List.length_map]; exact small1000 (by omega), ys ++ [z], fun b o e => ?_, by rw [upd_same, List.map_append]; rfl, by rw [List.length_append, len]; rfl, fun y hy => ?_, fun y hy => ?_⟩
      · rw [upd_ne (ne_of_none e hD)]; exact hs b o e
      · rcases List.mem_append.mp hy with hy | hy
        · exact ok y hy
        · rw [List.mem_singleton.mp hy]; exact hz
      · rcases List.mem_append.mp hy with hy | hy
        · exact one y hy
        · rw [List.mem_singleton.mp hy]; exact hz1
    · rintro H1 ⟨ys, hs, hl, len, ok, one⟩
      refine ⟨_, D, ys, rfl, rfl, .inl (SqL.of hl), Nat.le_trans (join_len ok) (by omega), ?_⟩
      rw [TL.join_eq]
      refine k _ _ ?_ ?_ hs
      · rw [← len]
        exact join_ok ok
      · rw [← len]
        exact join_full one
theorem ok_pool {f : Addr} {fd : FuncData} (F : Fun K "_law_pool" "_law_pool" s_pool f fd) (T : LTxt mg) (D1 : Def P w K mg base "_law_sign" 1 p_sign spSign) (D2 : Def P w K mg base "_law_text" 2 p_text spText) : FnOk P w K mg base CX0 3 f fd p_pool spPool := by
  obtain ⟨fS, fdS, gS, kS, bS, GS⟩ := D1.ex
  obtain ⟨fT, fdT, gT, kT, bT, GT⟩ := D2.ex
  refine F.ok sc_pool (fun vs H Q E h => ?_) (fun cdv A outer s H vs Q E hr h => ?_)
  · obtain ⟨c, o, rfl, _⟩ := h
    rfl
  · obtain ⟨c, o, rfl, k⟩ := h
    have hr1 : Room 1 _ := hr.mono (by decide)
    refine ⟨_, pss_cons (ps_set (i := 2) sc_pool.nd rfl (Or.inl rfl) (pe_call GT hr rfl gT kT bT .nil pass0 (pa_cons (pv 0) (pa_cons (pe_ix ix_list (pe_lst (pa_cons (pe_op op_add pe_int (pe_op op_mod (pv 0) pe_int)) (pa_cons (pe_op op_add pe_int (pe_op op_mod (pv 0) pe_int)) pa_nil)))
          (pe_op op_mod (pe_op op_fdiv (pv 0) pe_int) pe_int) (fun _ _ => rfl)) pa_nil))))
      (pss_cons (ps_set (i := 3) sc_pool.nd rfl (Or.inl rfl) (pe_call GS hr1 rfl gS kS bS .nil pass0 (pa_cons (pv 1) pa_nil)))
      (pss_cons (ps_set (i := 4) sc_pool.nd rfl (Or.inl rfl) (pe_call GS hr1 rfl gS kS bS .nil pass0 (pa_cons (pe_op op_fdiv (pv 1) pe_int) pa_nil)))
      (pss_cons (ps_set (i := 5) sc_pool.nd rfl (Or.inl rfl) (pe_op op_mod (pe_op op_fdiv (pv 1) pe_int) (pe_op op_add (pe_callB call_len_str (by rfl) T.len PySem.boot_len (pa_cons (pv 2) pa_nil)) pe_int)))
      (pss_one (ps_ret (pe_lst (pa_cons (pv 2) (pa_cons (pe_op op_add_str (pv 2) (pv 3)) (pa_cons (pe_op op_add_str (pe_op op_add_str (pe_slice sl_str (pv 2) po_none (po_some (pv 5))) (pv 4)) (pe_slice sl_str (pv 2) (po_some (pv 5)) po_none))
        (pa_cons (pv 3) (pa_cons (pe_op op_add_str (pv 4) (pv 2)) (pa_cons (pe_call GT hr rfl gT kT bT .nil pass0 (pa_cons (pv 1) (pa_cons (pe_op op_sub pe_int (pe_op op_mod (pv 1) pe_int)) pa_nil))) pa_nil)))))))))))), ?_⟩
    refine ⟨_, rfl, _, rfl, _, _, rfl, rfl, (by show (0 : Int) < 4; decide), _, _, rfl, rfl, _, rfl, _, _, rfl, rfl, (by show (0 : Int) < 18; decide), _, _, rfl, rfl, (by show 2 ≤ sizeLine; decide), fun l hl => ?_⟩
    obtain ⟨n, hn, e⟩ := at_ints (ns := [1 + c % 4, 1 + c % 18]) (z := c / 4 % 2) (by omega) (by show c / 4 % 2 < 2; omega)
    have hn1 : 1 ≤ n ∧ n ≤ 18 := by
      simp only [List.mem_cons, List.not_mem_nil, or_false] at hn
      omega
    refine ⟨_, rfl, _, _, rfl, rfl, ⟨by decide, by decide⟩, _, _, rfl, rfl, (by show (0 : Int) < 2; decide), l, _, _, _, rfl, rfl, SqL.of upd_same, e, c, n, rfl, by omega, by omega, fun z1 H1 t1 l1 s1 => ?_⟩
    have t1 : TOk 18 z1 := t1.mono (by omega)
    refine ⟨_, rfl, _, rfl, fun z2 t2 _ => ?_⟩
    refine ⟨_, rfl, _, _, rfl, rfl, ⟨by decide, by decide⟩, _, rfl, fun z3 t3 _ => ?_⟩
    refine ⟨_, rfl, _, _, rfl, rfl, ⟨by decide, by decide⟩, _, rfl, _, rfl, t1.line (by decide), _, _, rfl, rfl, _, _, rfl, rfl, ?_, ?_⟩
    · show (0 : Int) < (z1.length : Int) + 1
      omega
    have c1 := t1.cut none (some (o / 8836 % ((z1.length : Int) + 1)))
    have c2 := t1.cut (some (o / 8836 % ((z1.length : Int) + 1))) none
    have a1 := (c1.app t3).app c2
    have a2 := t1.app t2
    have a3 := t3.app t1
    have L1 : ∀ {x y : Str} {n m : Nat}, TOk n x → TOk m y → n + m ≤ 1000 → x.length + y.length ≤ sizeLine := fun {x y n m} a b h => by
      have := a.le
      have := b.le
      exact Nat.le_of_lt (small1000 (by omega))
    refine ⟨_, rfl, _, rfl, _, rfl, _, _, rfl, rfl, L1 t1 t2 (by decide), ?_⟩
    refine ⟨_, rfl, _, rfl, _, rfl, _, rfl, t1.line (by decide), _, rfl, _, _, rfl, rfl, L1 c1 t3 (by decide), ?_⟩
    refine ⟨_, rfl, _, rfl, _, rfl, _, rfl, t1.line (by decide), _, _, rfl, rfl, L1 (c1.app t3) c2 (by decide), ?_⟩
    refine ⟨_, rfl, _, rfl, _, rfl, _, _, rfl, rfl, L1 t3 t1 (by decide), ?_⟩
    refine ⟨_, rfl, _, rfl, _, _, rfl, rfl, (by show (0 : Int) < 3; decide), _, _, rfl, rfl, o, 20 - o % 3, rfl, by omega, by omega, fun z4 H2 t4 _ s2 => ?_⟩
    refine ⟨(by show 6 ≤ sizeLine; decide), fun q hq => ?_⟩
    have s0 : Same H H2 := fun b u e => s2 _ _ (s1 _ _ (same_new hl _ _ e))
    refine k q [z1, z1 ++ z2, cutS z1 none (some (o / 8836 % ((z1.length : Int) + 1))) ++ z3 ++ cutS z1 (some (o / 8836 % ((z1.length : Int) + 1))) none, z2, z3 ++ z1, z4] _ (s0.free hq) upd_same rfl (fun z hz => ?_) (fun z hz => ?_) fun b u e => ?_
    · simp only [List.mem_cons, List.not_mem_nil, or_false] at hz
      rcases hz with rfl | rfl | rfl | rfl | rfl | rfl
      · exact t1.mono (by decide)
      · exact a2.mono (by decide)
      · exact a1.mono (by decide)
      · exact t2.mono (by decide)
      · exact a3.mono (by decide)
      · exact t4.mono (by omega)
    · cases hz
      rw [l1]
      omega
    · rw [upd_ne (ne_of_none (s0 _ _ e) hq)]; exact s0 _ _ e
theorem ok_prefix {f : Addr} {fd : FuncData} (F : Fun K "_law_prefix" "_law_prefix" s_prefix f fd) : FnOk P w K mg base CX0 1 f fd p_prefix spPrefix := by
  refine F.ok sc_prefix (fun vs H Q E h => ?_) (fun cdv A outer s H vs Q E hr h => ?_)
  · obtain ⟨q, zs, c, rfl, _⟩ := h
    rfl
  · obtain ⟨q, zs, c, rfl, hq, hl, ok, k⟩ := h
    obtain ⟨z0, z1, z2, z3, z4, z5, rfl⟩ : ∃ z0 z1 z2 z3 z4 z5, zs = [z0, z1, z2, z3, z4, z5] := by
      match zs, hl with
      | [z0, z1, z2, z3, z4, z5], _ => exact ⟨z0, z1, z2, z3, z4, z5, rfl⟩
    have o4 := ok z4 (by simp)
    refine ⟨_, pss_one (ps_ret (pe_ix ix_list (pe_lst (pa_cons pe_str (pa_cons pe_str (pa_cons (pe_ix ix_list (pv 0) pe_int (fun _ _ => rfl)) (pa_cons (pe_ix ix_list (pv 0) pe_int (fun _ _ => rfl)) (pa_cons (pe_ix ix_list (pv 0) pe_int (fun _ _ => rfl))
      (pa_cons (pe_slice sl_str (pe_ix ix_list (pv 0) pe_int (fun _ _ => rfl)) po_none (po_some pe_int)) (pa_cons (pe_ix ix_list (pv 0) pe_int (fun _ _ => rfl)) pa_nil))))))))
      (pe_op op_mod (pv 1) pe_int) (fun _ _ => rfl))), ?_⟩
    refine ⟨_, rfl, q, _, 0, .str z0, rfl, rfl, SqL.of hq, rfl, _, rfl, q, _, 3, .str z3, rfl, rfl, SqL.of hq, rfl, _, rfl, q, _, 1, .str z1, rfl, rfl, SqL.of hq, rfl, _, rfl, q, _, 4, .str z4, rfl, rfl, SqL.of hq, rfl, _, rfl, _, rfl, o4.line (by decide),
      _, rfl, q, _, 5, .str z5, rfl, rfl, SqL.of hq, rfl, (by show 7 ≤ sizeLine; decide), fun l hl => ?_⟩
    obtain ⟨z, hz, e⟩ := at_strs (ns := ["", "", z0, z3, z1, cutS z4 none (some 1), z5]) (z := c % 7) (by omega) (by show c % 7 < 7; omega)
    refine ⟨_, rfl, _, _, rfl, rfl, (by show (0 : Int) < 7; decide), l, _, _, _, rfl, rfl, SqL.of upd_same, e, ?_⟩
    refine k z _ ?_ (same_new hl)
    simp only [List.mem_cons, List.not_mem_nil, or_false] at hz
    rcases hz with rfl | rfl | rfl | rfl | rfl | rfl | rfl
    · exact TOk.nil.mono (by decide)
    · exact TOk.nil.mono (by decide)
    · exact ok _ (by simp)
    · exact ok _ (by simp)
    · exact ok _ (by simp)
    · exact o4.cut _ _
    · exact ok _ (by simp)
end
end KL

namespace KB
open PySem L2 L2H LX
/-! ### a line: a watcher of a room, and an ear with the same start -/
abbrev nsLine : List Str := ["_room", "watcher", "ear"]
def LnAt (C : Addr) (H : Hp) (p pr : Addr) (n : Int) (e : Addr) : Prop := ∃ dx, H p = some (.ins C dx (nsLine.zip [.ref pr, .int n, .ref e]))
/-- what of a row comes to the ear -/
def arriveM (row : List Row) (luck : Int) : List Row := if luck = 1 then [] else if luck = 3 then row.take (row.length / 2) else row
/-- a line is put in: refused where its start is, else its watcher and its ear stand -/
def spLnInit (C : Addr) (kk : Kinds) (Rs : RsT) (Er : ErT) : Sp := fun vs H Q E => ∃ (p dx pr : Addr) (z : Str) (st : Int) (pv : V) (gv : KVs) (F : List Addr) (s : Rm), vs = [.ref p, .ref pr, .str z, .int st, pv] ∧ H p = some (.ins C dx []) ∧ Rs F H pr s ∧ p ∉ F ∧ TOk 60 z ∧ Fits s ∧
  (gv.map (·.1)).Nodup ∧ (∀ x ∈ gv, PairOk x) ∧ gv.length ≤ 200 ∧ ((pv = .non ∧ gv = []) ∨ ∃ q ts, pv = .ref q ∧ q ∉ F ∧ q ≠ p ∧ (H q = some (.lst (ts.map V.ref)) ∨ H q = some (.tup (ts.map V.ref))) ∧ PairsAt H ts gv) ∧
  (st < (s.gone : Int) + 1 ∨ (s.rows.length : Int) + 1 < st → ∀ F' H', Rs F' H' pr s → Grow F F' H → Ch H H' (p :: F) → E (.ref kk.NS) none H') ∧
  ((s.gone : Int) + 1 ≤ st → st ≤ (s.rows.length : Int) + 1 → ∀ F' Fe e H', Rs F' H' pr { s with met := s.met + 1, wat := setF s.wat ((s.met : Int) + 1) (some ⟨z, st - 1, st - 1⟩) } → LnAt C H' p pr ((s.met : Int) + 1) e → Er Fe H' e st gv [] →
    Grow F F' H → (∀ a ∈ Fe, H a = none) → (∀ a ∈ Fe, a ∉ F') → p ∉ F' → Ch H H' (p :: F) → Q .non H')
/-- a turn -/
def spLnTurn (C : Addr) (kk : Kinds) (Rs : RsT) (Er : ErT) : Sp := fun vs H Q E => ∃ (p pr e : Addr) (n most luck : Int) (F Fe : List Addr) (s : Rm) (b : Int) (gv : KVs) (tk : List Row), vs = [.ref p, .int most, .int luck] ∧ LnAt C H p pr n e ∧ Rs F H pr s ∧ Er Fe H e b gv tk ∧ p ∉ F ∧ p ∉ Fe ∧ (∀ a ∈ Fe, a ∉ F) ∧ Fits s ∧ 0 ≤ most ∧
  gv.length + tk.length + s.rows.length ≤ 990 ∧ (∀ r ∈ s.rows, GoodR r) ∧
  (s.wat n = none → ∀ F' H', Rs F' H' pr s → Grow F F' H → Ch H H' F → E (.ref kk.NW) none H') ∧
  ∀ w, s.wat n = some w → ∀ F' Fe' H' s' w', (luck = 0 → w' = { w with told := toldW s w most, had := toldW s w most }) → (luck ≠ 0 → w' = { w with told := w.had }) →
    s' = { s with wat := setF (setF s.wat n (some { w with told := toldW s w most })) n (some w') } → Rs F' H' pr s' → Er Fe' H' e b gv (takeM b tk (arriveM (dueW s w most) luck)) → LnAt C H' p pr n e →
    Grow F F' H → Grow Fe Fe' H → (∀ a ∈ Fe', a ∉ F') → p ∉ F' → p ∉ Fe' → Ch H H' (F ++ Fe) → Q (.int (((takeM b tk (arriveM (dueW s w most) luck)).length : Int) - tk.length)) H'
end KB

namespace KL
open PySem L2 L2H LX KB
/-! ### the program's line: what of a row comes to the ear -/
def spArr : Sp := fun vs H Q _ => ∃ (q : Addr) (ts : List Addr) (rs : List Row) (luck : Int), vs = [.ref q, .int luck] ∧ H q = some (.lst (ts.map V.ref)) ∧ RowsAt H ts rs ∧
  ∀ q' ts' H', H' q' = some (.lst (ts'.map V.ref)) → RowsAt H' ts' (arriveM rs luck) → Same H H' → (q' = q ∨ H q' = none) → Q (.ref q') H'
section
variable {P : Program} {w : World} {K : PySem.W.Frag} {mg : Str → Option Value} {base : Heap}
theorem ok_arriving {f : Addr} {fd : FuncData} {t1 t3 : Tok} (F : Fun K "arriving" "arriving" s_arriving f fd) (gR : mg "ROW_LOST" = some (.int 1 t1)) (gB : mg "BROKEN_MIDST" = some (.int 3 t3)) (ml : mg "len" = none) : FnOk P w K mg base CX0 1 f fd p_arriving spArr := by
  refine F.ok sc_arriving (fun vs H Q E h => ?_) (fun cdv A outer s H vs Q E hr h => ?_)
  · obtain ⟨q, ts, rs, luck, rfl, _⟩ := h
    rfl
  · obtain ⟨q, ts, rs, luck, rfl, hq, mq, k⟩ := h
    refine ⟨_, pss_cons (ps_if (pt_cmpR op_eq (pv 1) (pe_glob (v := V.int 1) rfl gR ⟨_, rfl⟩) (nomark _)) (pss_one (ps_ret (pe_lst pa_nil))) pss_nil)
      (pss_cons (ps_if (pt_cmpR op_eq (pv 1) (pe_glob (v := V.int 3) rfl gB ⟨_, rfl⟩) (nomark _)) (pss_one (ps_ret (pe_slice sl_list (pv 0) po_none (po_some (pe_op op_fdiv (pe_callB call_len_seq (by rfl) ml PySem.boot_len (pa_cons (pv 0) pa_nil)) pe_int))))) pss_nil)
      (pss_one (ps_ret (pv 0)))), ?_⟩
    refine ⟨_, rfl, rfl, _, rfl, ?_⟩
    by_cases c1 : luck = 1
    · rw [decide_eq_true (congrArg V.int c1)]
      refine iteT ⟨(by show 0 ≤ sizeLine; decide), fun l hl => k l [] _ upd_same ?_ (same_new hl) (.inr hl)⟩
      unfold arriveM
      rw [if_pos c1]
      exact .nil
    rw [decide_eq_false fun z => c1 (V.int.inj z)]
    refine iteF ⟨_, rfl, rfl, _, rfl, ?_⟩
    by_cases c3 : luck = 3
    · rw [decide_eq_true (congrArg V.int c3)]
      refine iteT ⟨_, rfl, _, rfl, q, _, rfl, .inl (SqL.of hq), _, _, rfl, rfl, ⟨by decide, by decide⟩, _, rfl, q, _, rfl, SqL.of hq, fun l hl => ?_⟩
      have e : ((((ts.map V.ref).length : Nat) : Int) / 2).toNat = rs.length / 2 := by
        rw [List.length_map, Paired.length mq]
        omega
      rw [cutV_upto _ (by omega), ← List.map_take, e]
      have s1 := same_new (o := .lst ((ts.take (rs.length / 2)).map V.ref)) hl
      refine k l _ _ upd_same ?_ s1 (.inr hl)
      unfold arriveM
      rw [if_neg c1, if_pos c3]
      exact (mq.take _).keep fun a xs e => s1 _ _ e
    rw [decide_eq_false fun z => c3 (V.int.inj z)]
    refine iteF ⟨_, rfl, ?_⟩
    refine k q ts H hq ?_ (Same.refl H) (.inl rfl)
    unfold arriveM
    rw [if_neg c1, if_neg c3]
    exact mq
theorem mk_same {C : Addr} {H H' : Hp} {x dx : Addr} (nx : H x = none) (ndx : H dx = none) (c : Ch (upd (upd H dx (.own x)) x (.ins C dx [])) H' [x]) : Same H H' ∧ Same H (upd (upd H dx (.own x)) x (.ins C dx [])) := by
  have s0 : Same H (upd (upd H dx (.own x)) x (.ins C dx [])) := fun b o e => by
    rw [upd_ne (ne_of_none e nx), upd_ne (ne_of_none e ndx)]; exact e
  exact ⟨fun b o e => c.at (s0 _ _ e) fun z => ne_of_none e nx (List.mem_singleton.mp z), s0⟩
structure LineT (K : PySem.W.Frag) (C : Addr) : Prop where
  cl : Cls K C
  n0 : NoAttr K C "_room"
  n1 : NoAttr K C "watcher"
  n2 : NoAttr K C "ear"
theorem ok_Line_init {f fW fE CL CR CE : Addr} {fd fdW fdE : FuncData} {psW psE : List Str} {kk : Kinds} {Rs : RsT} {Er : ErT} (F : FunD K "__init__" "Line.__init__" (defArgs s_Line_init) (defBody s_Line_init) (defScope s_Line_init) [.non] [] f fd) (T : LineT K CL) (clR : Cls K CR)
    (rfr : ∀ {F H H' p s l}, Rs F H p s → Ch H H' l → (∀ a ∈ F, a ∉ l) → Rs F H' p s) (rown : ∀ {F H p s}, Rs F H p s → ∀ a ∈ F, ∃ o, H a = some o) (rin : ∀ {F H p s}, Rs F H p s → p ∈ F ∧ ∃ dx fs, H p = some (.ins CR dx fs) ∧ fs.lookup ("watch" : Str) = none)
    (efr : ∀ {F H H' p b gv tk l}, Er F H p b gv tk → Ch H H' l → (∀ a ∈ F, a ∉ l) → Er F H' p b gv tk) (eown : ∀ {F H p b gv tk}, Er F H p b gv tk → ∀ a ∈ F, ∃ o, H a = some o) (ein : ∀ {F H p b gv tk}, Er F H p b gv tk → p ∈ F)
    (mW : Meth K CR "watch" fW) (bW : Binds K fdW psW []) (GW : FnOk P w K mg base (L2.CX P w) 8 fW fdW psW (spRWatch kk Rs)) (gE : mg "Ear" = some (.ref CE)) (ME : Mk K CE fE) (bE : Binds K fdE psE []) (GE : FnOk P w K mg base CX0 4 fE fdE psE (spEarInit K CE Er)) :
    FnOk P w K mg base (L2.CX P w) 9 f fd p_Line_init (spLnInit CL kk Rs Er) := by
  refine F.ok sc_Line_init (fun vs H Q E h => ?_) (fun cdv A outer s H vs Q E hr h => ?_)
  · obtain ⟨p, dx, pr, z, st, pv, gv, Fo, s, rfl, _⟩ := h
    rfl
  · obtain ⟨p, dx, pr, z, st, pvv, gv, Fo, r, rfl, hp, R0, pF, oz, fit, gn, go, gl, hpv, kb, k⟩ := h
    refine ⟨_, pss_cons (ps_fld (pv 0) (pv 1) rfl) (pss_cons (ps_fld (pv 0) (pe_meth (E := E) (pv 1) clR mW GW hr bW .nil (passes_call (takes_of rfl rfl rfl rfl) (fun _ _ _ _ h => h)) (pa_cons (pv 2) (pa_cons (pv 3) pa_nil))) rfl)
      (PSs.nox (pss_one (ps_fld (pv 0) (pe_make (E := E0) ME GE (hr.mono (by decide)) rfl gE bE .nil pass0 (pa_cons (pv 3) (pa_cons (pv 4) pa_nil))) rfl)))), ?_⟩
    refine ⟨_, rfl, _, rfl, p, CL, dx, [], rfl, hp, T.cl, T.n0, (by show 0 < 1000; decide), ?_⟩
    have nt : ∀ fs : List (Str × V), ∀ xs, HO.ins CL dx fs ≠ .tup xs := fun fs xs z => by cases z
    have c1 : Ch H (upd H p (.ins CL dx (putF "_room" (.ref pr) []))) [p] := (Ch.refl _ _).mut (List.mem_singleton.mpr rfl) hp (nt _)
    have hp1 : upd H p (.ins CL dx (putF "_room" (.ref pr) [])) p = some (.ins CL dx (putF "_room" (.ref pr) [])) := upd_same
    generalize upd H p (.ins CL dx (putF "_room" (.ref pr) [])) = H1 at c1 hp1 ⊢
    have R1 := rfr R0 c1 fun a ha z => pF (by rw [← List.mem_singleton.mp z]; exact ha)
    obtain ⟨_, dxr, fsr, hobr, hfsr⟩ := rin R1
    refine ⟨_, rfl, pr, dxr, fsr, rfl, hobr, hfsr, _, rfl, _, rfl, Fo, pr, z, st, r, rfl, R1, oz, fit, fun bad F2 H2 R2 gr2 c2 => ?_, fun h1 h2 F2 H2 R2 gr2 c2 => ?_⟩
    · exact kb bad F2 H2 R2 (fun a ha => (gr2 a ha).imp id fun e => c1.none a e) ((c1.mono fun a ha => by rw [List.mem_singleton.mp ha]; exact List.mem_cons_self).trans (c2.mono fun a ha => List.mem_cons_of_mem _ ha))
    have hp2 := c2.at hp1 pF
    have pF2 : p ∉ F2 := fun z => by
      rcases gr2 p z with z | z
      · exact pF z
      · rw [hp1] at z; cases z
    refine ⟨_, rfl, p, CL, dx, _, rfl, hp2, T.cl, T.n1, (by show 1 < 1000; decide), ?_⟩
    have c3 : Ch H2 (upd H2 p (.ins CL dx (putF "watcher" (.int ((r.met : Int) + 1)) (putF "_room" (.ref pr) [])))) [p] := (Ch.refl _ _).mut (List.mem_singleton.mpr rfl) hp2 (nt _)
    have hp3 : upd H2 p (.ins CL dx (putF "watcher" (.int ((r.met : Int) + 1)) (putF "_room" (.ref pr) []))) p = some (.ins CL dx (putF "watcher" (.int ((r.met : Int) + 1)) (putF "_room" (.ref pr) []))) := upd_same
    generalize upd H2 p (.ins CL dx (putF "watcher" (.int ((r.met : Int) + 1)) (putF "_room" (.ref pr) []))) = H3 at c3 hp3 ⊢
    have R3 := rfr R2 c3 fun a ha z => pF2 (by rw [← List.mem_singleton.mp z]; exact ha)
    have c03 : Ch H H3 (p :: Fo) := ((c1.mono fun a ha => by rw [List.mem_singleton.mp ha]; exact List.mem_cons_self).trans (c2.mono fun a ha => List.mem_cons_of_mem _ ha)).trans (c3.mono fun a ha => by rw [List.mem_singleton.mp ha]; exact List.mem_cons_self)
    refine ⟨_, rfl, _, rfl, fun e de ne nde nee => ⟨e, de, st, gv, pvv, rfl, upd_same, by omega, gn, go, gl, ?_, fun Fe H5 E5 fe c5 => ⟨rfl, ?_⟩⟩⟩
    · have sx : Same H3 (upd (upd H3 de (.own e)) e (.ins CE de [])) := fun b o q => by
        rw [upd_ne (ne_of_none q ne), upd_ne (ne_of_none q nde)]; exact q
      rcases hpv with h | ⟨q, ts, rfl, qF, qp, hq, mq⟩
      · exact .inl h
      · have qn : q ∉ p :: Fo := fun z => by
          rcases List.mem_cons.mp z with z | z
          · exact qp z
          · exact qF z
        exact .inr ⟨q, ts, rfl, hq.imp (fun h => SqL.of (sx _ _ (c03.at h qn))) (fun h => SqT.of (sx _ _ (c03.at h qn))), (mq.keep c03.tup).keep fun b xs q => sx _ _ q⟩
    obtain ⟨s35, s3x⟩ := mk_same ne nde c5
    have hp5 := s35 _ _ hp3
    refine ⟨_, rfl, p, CL, dx, _, rfl, hp5, T.cl, T.n2, (by show 2 < 1000; decide), ?_⟩
    have c6 : Ch H5 (upd H5 p (.ins CL dx (nsLine.zip [.ref pr, .int ((r.met : Int) + 1), .ref e]))) [p] := (Ch.refl _ _).mut (List.mem_singleton.mpr rfl) hp5 (nt _)
    have ef : putF "ear" (V.ref e) (putF "watcher" (.int ((r.met : Int) + 1)) (putF "_room" (.ref pr) [])) = nsLine.zip [.ref pr, .int ((r.met : Int) + 1), .ref e] := rfl
    rw [ef]
    have freshE : ∀ a ∈ Fe, H3 a = none := fun a ha => by
      rcases fe a ha with q | q
      · rw [q]; exact ne
      · exact s3x.free q
    have pFe : p ∉ Fe := fun z => by rw [freshE p z] at hp3; cases hp3
    have one : ∀ {l : List Addr}, p ∉ l → ∀ a ∈ l, a ∉ [p] := fun n a ha z => n (by rw [← List.mem_singleton.mp z]; exact ha)
    have R6 := rfr (rfr R3 (Ch.of s35 []) (fun _ _ z => nomatch z)) c6 (one pF2)
    refine k h1 h2 F2 Fe e _ R6 ⟨dx, upd_same⟩ (efr E5 c6 (one pFe)) (fun a ha => (gr2 a ha).imp id fun q => c1.none a q) (fun a ha => c03.none a (freshE a ha)) (fun a ha z => ?_) pF2 ((c03.same s35).trans (c6.mono fun a ha => by rw [List.mem_singleton.mp ha]; exact List.mem_cons_self))
    obtain ⟨o, q⟩ := rown R3 a z
    rw [freshE a ha] at q; cases q
end
end KL

namespace KL
open PySem L2 L2H LX KB
/-! ### the program's line: a turn -/
def spManyE (Er : ErT) : Sp := fun vs H Q _ => ∃ (F : List Addr) (p : Addr) (b : Int) (gv : KVs) (tk : List Row), vs = [.ref p] ∧ Er F H p b gv tk ∧ ∀ F' H', Er F' H' p b gv tk → Grow F F' H → Ch H H' F → Q (.int tk.length) H'
section
variable {P : Program} {w : World} {K : PySem.W.Frag} {mg : Str → Option Value} {base : Heap}
theorem ok_Line_turn {f fA fU fC fB fM fH CL CR CE : Addr} {fd fdA fdU fdC fdB fdM fdH : FuncData} {psU psC psB psM psH : List Str} {t0 : Tok} {kk : Kinds} {Rs : RsT} {Er : ErT} (F : Fun K "turn" "Line.turn" s_Line_turn f fd) (T : LineT K CL) (clR : Cls K CR) (clE : Cls K CE)
    (rfr : ∀ {F H H' p s l}, Rs F H p s → Ch H H' l → (∀ a ∈ F, a ∉ l) → Rs F H' p s) (rown : ∀ {F H p s}, Rs F H p s → ∀ a ∈ F, ∃ o, H a = some o) (rin : ∀ {F H p s}, Rs F H p s → ∃ dx fs, H p = some (.ins CR dx fs) ∧ fs.lookup ("pull" : Str) = none ∧ fs.lookup ("confirm" : Str) = none ∧ fs.lookup ("broken" : Str) = none)
    (efr : ∀ {F H H' p b gv tk l}, Er F H p b gv tk → Ch H H' l → (∀ a ∈ F, a ∉ l) → Er F H' p b gv tk) (eown : ∀ {F H p b gv tk}, Er F H p b gv tk → ∀ a ∈ F, ∃ o, H a = some o) (ein : ∀ {F H p b gv tk}, Er F H p b gv tk → ∃ dx fs, H p = some (.ins CE dx fs) ∧ fs.lookup ("many" : Str) = none ∧ fs.lookup ("hear" : Str) = none)
    (gA : mg "arriving" = some (.ref fA)) (kA : PySem.W.keepIn K (.ref fA) = true) (bA : Binds K fdA p_arriving []) (GA : FnOk P w K mg base CX0 1 fA fdA p_arriving spArr) (gW : mg "WELL" = some (.int 0 t0))
    (mU : Meth K CR "pull" fU) (bU : Binds K fdU psU []) (GU : FnOk P w K mg base (L2.CX P w) 8 fU fdU psU (spRWat kk Rs (fun ys => ∃ m : Int, ys = [.int m]) (thenPull Rs)))
    (mC : Meth K CR "confirm" fC) (bC : Binds K fdC psC []) (GC : FnOk P w K mg base (L2.CX P w) 8 fC fdC psC (spRWat kk Rs (fun ys => ys = []) (thenSet Rs fun w => some { w with had := w.told })))
    (mB : Meth K CR "broken" fB) (bB : Binds K fdB psB []) (GB : FnOk P w K mg base (L2.CX P w) 8 fB fdB psB (spRWat kk Rs (fun ys => ys = []) (thenSet Rs fun w => some { w with told := w.had })))
    (mM : Meth K CE "many" fM) (bM : Binds K fdM psM []) (GM : FnOk P w K mg base CX0 4 fM fdM psM (spManyE Er)) (mH : Meth K CE "hear" fH) (bH : Binds K fdH psH []) (GH : FnOk P w K mg base CX0 4 fH fdH psH (spEarHear Er)) :
    FnOk P w K mg base (L2.CX P w) 9 f fd p_Line_turn (spLnTurn CL kk Rs Er) := by
  refine F.okX sc_Line_turn (fun vs H Q E h => ?_) (fun cdv A outer s H vs Q E hr h => ?_)
  · obtain ⟨p, pr, e, n, most, luck, Fo, Fe, s, b, gv, tk, rfl, _⟩ := h
    rfl
  · obtain ⟨p, pr, e, n, most, luck, Fo, Fe, r, b, gv, tk, rfl, ⟨dx, hp⟩, R0, E0', pF, pFe, dj, fit, hm, hlen, good, kb, k⟩ := h
    have R : ∀ j, j ≤ 8 → Room j _ := fun j h => hr.mono h
    refine ⟨_, pss_cons (ps_set (i := 3) sc_Line_turn.nd rfl (Or.inl rfl) (pe_meth (E := E) (pe_fld (pv 0) rfl) clR mU GU hr bU .nil (passes_call (takes_of rfl rfl rfl rfl) (fun _ _ _ _ h => h)) (pa_cons (pe_fld (pv 0) rfl) (pa_cons (pv 1) pa_nil))))
      (PSs.nox (pss_cons (ps_set (i := 4) sc_Line_turn.nd rfl (Or.inl rfl) (pe_meth0 (E := E0) (pe_fld (pv 0) rfl) clE mM GM (R 4 (by decide)) bM .nil pass0))
      (pss_cons (ps_expr (pe_meth (E := E0) (pe_fld (pv 0) rfl) clE mH GH (R 4 (by decide)) bH .nil pass0 (pa_cons (pe_call GA (R 1 (by decide)) rfl gA kA bA .nil pass0 (pa_cons (pv 3) (pa_cons (pv 2) pa_nil))) pa_nil)))
      (C8.pss_cut (ps_if (pt_cmpR op_eq (pv 2) (pe_glob (v := V.int 0) rfl gW ⟨_, rfl⟩) (nomark _))
        (pss_one (ps_expr (pe_meth (E := E0) (pe_fld (pv 0) rfl) clR mC GC (R 8 (by decide)) bC .nil (passes_call takes0 (fun _ _ _ _ h => h)) (pa_cons (pe_fld (pv 0) rfl) pa_nil))))
        (pss_one (ps_expr (pe_meth (E := E0) (pe_fld (pv 0) rfl) clR mB GB (R 8 (by decide)) bB .nil (passes_call takes0 (fun _ _ _ _ h => h)) (pa_cons (pe_fld (pv 0) rfl) pa_nil)))))
      (pss_one (ps_ret (pe_op op_sub (pe_meth0 (E := E0) (pe_fld (pv 0) rfl) clE mM GM (R 4 (by decide)) bM .nil pass0) (pv 4)))))))), ?_⟩
    obtain ⟨dxr, fsr, hobr, hf1, _, _⟩ := rin R0
    refine ⟨_, rfl, p, CL, dx, _, _, rfl, hp, T.cl, T.n0, zf_get (i := 0) (by decide +kernel) rfl, pr, dxr, fsr, rfl, hobr, hf1, _, rfl, p, CL, dx, _, _, rfl, hp, T.cl, T.n1, zf_get (i := 1) (by decide +kernel) rfl, _, rfl, Fo, pr, n, _, r, rfl, ⟨most, rfl⟩, R0, fit, kb, fun wt hw => ⟨most, rfl, hm, fun F2 q ts H2 R2 gr2 c2 hq qF2 hqt mq => ?_⟩⟩
    have hp2 := c2.at hp pF
    have E2 := efr E0' c2 fun a ha => dj a ha
    have dj2 : ∀ a ∈ Fe, a ∉ F2 := fun a ha z => by
      rcases gr2 a z with z | z
      · exact dj a ha z
      · obtain ⟨o, q⟩ := eown E0' a ha
        rw [q] at z; cases z
    have pF2 : p ∉ F2 := fun z => by
      rcases gr2 p z with z | z
      · exact pF z
      · rw [hp] at z; cases z
    obtain ⟨dxe, fse, hobe, he1, _⟩ := ein E2
    refine ⟨_, rfl, p, CL, dx, _, _, rfl, hp2, T.cl, T.n2, zf_get (i := 2) (by decide +kernel) rfl, e, dxe, fse, rfl, hobe, he1, Fe, e, b, gv, tk, rfl, E2, fun Fe3 H3 E3 gr3 c3 => ?_⟩
    have hp3 := c3.at hp2 pFe
    have R3 := rfr R2 c3 fun a ha z => dj2 a z ha
    have qFe : q ∉ Fe := fun z => by
      obtain ⟨o, z⟩ := eown E0' q z
      rw [hq] at z; cases z
    have hq3 := c3.at hqt qFe
    have mq3 := mq.keep c3.tup
    have dj3 : ∀ a ∈ Fe3, a ∉ F2 := fun a ha z => by
      rcases gr3 a ha with y | y
      · exact dj2 a y z
      · obtain ⟨o, x⟩ := rown R2 a z
        rw [y] at x; cases x
    have pFe3 : p ∉ Fe3 := fun z => by
      rcases gr3 p z with z | z
      · exact pFe z
      · rw [hp2] at z; cases z
    have qFe3 : q ∉ Fe3 := fun z => by
      rcases gr3 q z with z | z
      · exact qFe z
      · rw [hqt] at z; cases z
    obtain ⟨dx3, fs3, hob3, _, he3⟩ := ein E3
    have gdue : ∀ x ∈ dueW r wt most, x ∈ r.rows := fun x hx => List.mem_of_mem_drop (List.mem_filter.mp (List.mem_of_mem_take hx)).1
    have ldue : (dueW r wt most).length ≤ r.rows.length := by
      unfold dueW wantedM
      rw [List.length_take]
      refine Nat.le_trans (Nat.min_le_right _ _) (Nat.le_trans (List.length_filter_le _ _) ?_)
      rw [List.length_drop]; omega
    have garr : ∀ {rs : List Row} {x : Row}, x ∈ arriveM rs luck → x ∈ rs := fun {rs x} h => by
      unfold arriveM at h
      by_cases c1 : luck = 1
      · rw [if_pos c1] at h; cases h
      rw [if_neg c1] at h
      by_cases c3 : luck = 3
      · rw [if_pos c3] at h; exact List.mem_of_mem_take h
      · rw [if_neg c3] at h; exact h
    have larr : ∀ {rs : List Row}, (arriveM rs luck).length ≤ rs.length := fun {rs} => by
      unfold arriveM
      by_cases c1 : luck = 1
      · rw [if_pos c1]; exact Nat.zero_le _
      rw [if_neg c1]
      by_cases c3 : luck = 3
      · rw [if_pos c3, List.length_take]; omega
      · rw [if_neg c3]; exact Nat.le_refl _
    refine ⟨_, rfl, p, CL, dx, _, _, rfl, hp3, T.cl, T.n2, zf_get (i := 2) (by decide +kernel) rfl, e, dx3, fs3, rfl, hob3, he3, _, rfl, _, rfl, q, ts, dueW r wt most, luck, rfl, hq3, mq3, fun q4 ts4 H4 hq4 mq4 s4 nq4 => ?_⟩
    have q4F : q4 ∉ Fe3 := by
      rcases nq4 with z | z
      · rw [z]; exact qFe3
      · intro y
        obtain ⟨o, x⟩ := eown E3 q4 y
        rw [z] at x; cases x
    have E4 := efr E3 (Ch.of s4 []) (fun _ _ z => nomatch z)
    have R4 := rfr R3 (Ch.of s4 []) (fun _ _ z => nomatch z)
    have hp4 := s4 _ _ hp3
    refine ⟨Fe3, e, q4, b, gv, tk, arriveM (dueW r wt most) luck, ts4, rfl, E4, hq4, q4F, mq4, fun x hx => good x (gdue x (garr hx)), by have := larr (rs := dueW r wt most); omega, fun Fe5 H5 E5 gr5 c5 => ?_⟩
    have hp5 := c5.at hp4 pFe3
    have R5 := rfr R4 c5 fun a ha z => dj3 a z ha
    have pFe5 : p ∉ Fe5 := fun z => by
      rcases gr5 p z with z | z
      · exact pFe3 z
      · rw [hp4] at z; cases z
    have dj5 : ∀ a ∈ Fe5, a ∉ F2 := fun a ha z => by
      rcases gr5 a ha with y | y
      · exact dj3 a y z
      · obtain ⟨o, x⟩ := rown R4 a z
        rw [y] at x; cases x
    have w5 : (pullM r n wt most).wat n = some { wt with told := toldW r wt most } := by
      show setF r.wat n _ n = _
      unfold setF
      rw [if_pos rfl]
    have fit5 : Fits (pullM r n wt most) := ⟨fit.rows, fit.given, fit.met⟩
    have c25 : Ch H H5 (Fo ++ Fe) := by
      have a1 : Ch H H2 (Fo ++ Fe) := c2.mono fun a ha => List.mem_append_left _ ha
      have a2 : Ch H H3 (Fo ++ Fe) := a1.trans (c3.mono fun a ha => List.mem_append_right _ ha)
      have a3 : Ch H H4 (Fo ++ Fe) := a2.same s4
      refine ⟨fun x o e2 nn => c5.st x o (a3.st x o e2 nn) ?_, fun x o e2 => let ⟨_, z⟩ := a3.th x o e2; c5.th _ _ z⟩
      rcases nn with nn | nn
      · refine .inl fun z => ?_
        rcases gr3 x z with z | z
        · exact nn (List.mem_append_right _ z)
        · obtain ⟨o2, y⟩ := c2.th x o e2
          rw [y] at z; cases z
      · exact .inr nn
    refine ⟨fun σ H' => σ = [some (.ref p), some (.int most), some (.int luck), some (.ref q), some (.int tk.length)] ∧ ∃ F6 s' w', (luck = 0 → w' = { wt with told := toldW r wt most, had := toldW r wt most }) ∧ (luck ≠ 0 → w' = { wt with told := wt.had }) ∧
        s' = { r with wat := setF (setF r.wat n (some { wt with told := toldW r wt most })) n (some w') } ∧ Rs F6 H' pr s' ∧ Grow F2 F6 H5 ∧ Ch H5 H' F2, ?_, ?_⟩
    · refine ⟨_, rfl, rfl, _, rfl, ?_⟩
      obtain ⟨dx5, fs5, hob5, _, hf2, hf3⟩ := rin R5
      by_cases c : luck = 0
      · rw [decide_eq_true (congrArg V.int c)]
        refine iteT ⟨_, rfl, p, CL, dx, _, _, rfl, hp5, T.cl, T.n0, zf_get (i := 0) (by decide +kernel) rfl, pr, dx5, fs5, rfl, hob5, hf2, _, rfl, p, CL, dx, _, _, rfl, hp5, T.cl, T.n1, zf_get (i := 1) (by decide +kernel) rfl, F2, pr, n, _, _, rfl, rfl, R5, fit5, (fun z => by rw [w5] at z; cases z), fun w6 e6 => ?_⟩
        rw [w5] at e6
        cases e6
        exact fun F6 H6 R6 gr6 c6 => ⟨rfl, F6, _, _, fun _ => rfl, fun z => absurd c z, rfl, R6, gr6, c6⟩
      · rw [decide_eq_false fun z => c (V.int.inj z)]
        refine iteF ⟨_, rfl, p, CL, dx, _, _, rfl, hp5, T.cl, T.n0, zf_get (i := 0) (by decide +kernel) rfl, pr, dx5, fs5, rfl, hob5, hf3, _, rfl, p, CL, dx, _, _, rfl, hp5, T.cl, T.n1, zf_get (i := 1) (by decide +kernel) rfl, F2, pr, n, _, _, rfl, rfl, R5, fit5, (fun z => by rw [w5] at z; cases z), fun w6 e6 => ?_⟩
        rw [w5] at e6
        cases e6
        exact fun F6 H6 R6 gr6 c6 => ⟨rfl, F6, _, _, fun z => absurd z c, fun _ => rfl, rfl, R6, gr6, c6⟩
    rintro σ H6 ⟨rfl, F6, s', w', e1, e2, es, R6, gr6, c6⟩
    have hp6 := c6.at hp5 pF2
    have E6 := efr E5 c6 dj5
    have pF6 : p ∉ F6 := fun z => by
      rcases gr6 p z with z | z
      · exact pF2 z
      · rw [hp5] at z; cases z
    have dj6 : ∀ a ∈ Fe5, a ∉ F6 := fun a ha z => by
      rcases gr6 a z with z | z
      · exact dj5 a ha z
      · obtain ⟨o, x⟩ := eown E5 a ha
        rw [x] at z; cases z
    obtain ⟨dx6, fs6, hob6, he6, _⟩ := ein E6
    refine ⟨_, rfl, p, CL, dx, _, _, rfl, hp6, T.cl, T.n2, zf_get (i := 2) (by decide +kernel) rfl, e, dx6, fs6, rfl, hob6, he6, Fe5, e, b, gv, _, rfl, E6, fun Fe7 H7 E7 gr7 c7 => ⟨_, rfl, _, _, rfl, rfl, ?_⟩⟩
    have R7 := rfr R6 c7 fun a ha z => dj6 a z ha
    have hp7 := c7.at hp6 pFe5
    have up : ∀ {a : Addr}, H5 a = none → H a = none := fun {a} z => c25.none a z
    have g5 : Grow Fe Fe5 H := fun a ha => by
      rcases gr5 a ha with z | z
      · rcases gr3 a z with y | y
        · exact .inl y
        · exact .inr (c2.none a y)
      · exact .inr (c2.none a (c3.none a (s4.free z)))
    have c56 : Ch H H6 (Fo ++ Fe) := by
      refine ⟨fun x o e2 nn => c6.st x o (c25.st x o e2 nn) ?_, fun x o e2 => let ⟨_, z⟩ := c25.th x o e2; c6.th _ _ z⟩
      rcases nn with nn | nn
      · refine .inl fun z => ?_
        rcases gr2 x z with z | z
        · exact nn (List.mem_append_left _ z)
        · rw [e2] at z; cases z
      · exact .inr nn
    refine k wt hw F6 Fe7 H7 s' w' e1 e2 es R7 E7 ⟨dx, hp7⟩ (fun a ha => ?_) (fun a ha => ?_) (fun a ha z => ?_) pF6 (fun z => ?_) ?_
    · rcases gr6 a ha with z | z
      · exact gr2 a z
      · exact .inr (up z)
    · rcases gr7 a ha with z | z
      · exact g5 a z
      · exact .inr (c56.none a z)
    · rcases gr7 a ha with y | y
      · exact dj6 a y z
      · obtain ⟨o, x⟩ := rown R6 a z
        rw [y] at x; cases x
    · rcases gr7 p z with z | z
      · exact pFe5 z
      · rw [hp6] at z; cases z
    · refine ⟨fun x o e2 nn => c7.st x o (c56.st x o e2 nn) ?_, fun x o e2 => let ⟨_, z⟩ := c56.th x o e2; c7.th _ _ z⟩
      rcases nn with nn | nn
      · refine .inl fun z => ?_
        rcases g5 x z with z | z
        · exact nn (List.mem_append_right _ z)
        · rw [e2] at z; cases z
      · exact .inr nn
end
end KL

namespace KL
open PySem L2 L2H LX KB
/-! ### the law's own table of watchers -/
structure Wm where
  m : Addr
  al : Addr
  wl : List (Int × (Addr × Wt))
  wk : List (Key × V)
  x : List (Key × V)
abbrev wD (met gone : Int) (al : Addr) : List (Key × V) := [(Sum.inr "met", .int met), (Sum.inr "all", .ref al), (Sum.inr "gone", .int gone)]
abbrev isA (b : Addr × Wt) (v : V) : Prop := v = .ref b.1
abbrev wL (w : Wt) : List V := [.str w.pre, .int w.had, .int w.told]
/-- what may change while the table of all is gone over, and all that there is -/
def Wm.v (W : Wm) : List Addr := W.m :: W.wl.map (·.2.1)
def Wm.l (W : Wm) : List Addr := W.al :: W.v
structure WsAt (H : Hp) (W : Wm) (s : Rm) : Prop where
  di : H W.m = some (.dK (wD s.met s.gone W.al ++ W.x))
  al : Rd H W.al (.dK W.wk)
  re : DRel Sum.inl isA W.wl W.wk
  ws : ∀ y ∈ W.wl, H y.2.1 = some (.lst (wL y.2.2))
  fw : s.wat = fun n => (getA W.wl n).map (·.2)
  nw : (W.wl.map (·.1)).Nodup
  nd : W.l.Nodup
  kw : ∀ y ∈ W.wl, y.1 ≤ s.met
  pk : ∀ y ∈ W.wl, TOk 60 y.2.2.pre
  tb : ∀ y ∈ W.wl, (s.gone : Int) ≤ y.2.2.had ∧ y.2.2.had ≤ y.2.2.told ∧ y.2.2.told ≤ s.rows.length
  ln : W.wl.length ≤ s.met
  gl : s.gone ≤ s.rows.length
structure RwAt (H : Hp) (ro : Addr) (ts : List Addr) (rs : List Row) : Prop where
  at_ : H ro = some (.lst (ts.map V.ref))
  rr : RowsAt H ts rs
  ok : ∀ r ∈ rs, r.Ok
  nu : Num rs
theorem RwAt.ch {H H' : Hp} {ro : Addr} {ts : List Addr} {rs : List Row} {l : List Addr} (A : RwAt H ro ts rs) (c : Ch H H' l) (d : ro ∉ l) : RwAt H' ro ts rs := ⟨c.at A.at_ d, A.rr.keep c.tup, A.ok, A.nu⟩
theorem rd_ch {H H' : Hp} {a : Addr} {u : HO} {l : List Addr} (r : Rd H a u) (c : Ch H H' l) (n : a ∉ l) : Rd H' a u := by
  rcases r with r | ⟨o, r⟩
  · exact .inl (c.at r n)
  · exact .inr ⟨o, c.at r n⟩
theorem DGet.rd {H : Hp} {a : Addr} {kvs : List (Key × V)} {k : Key} (e : Rd H a (.dK kvs)) : DGet H a (kV k) (valV kvs k) := .inl ⟨kvs, k, e, rfl, rfl⟩
section
variable {H H' : Hp} {W : Wm} {s : Rm} {l : List Addr}
theorem WsAt.ch (A : WsAt H W s) (c : Ch H H' l) (d : ∀ a ∈ W.l, a ∉ l) : WsAt H' W s :=
  ⟨c.at A.di (d _ (by simp [Wm.l, Wm.v])), rd_ch A.al c (d _ (by simp [Wm.l])), A.re, fun y hy => c.at (A.ws y hy) (d _ (List.mem_cons_of_mem _ (List.mem_cons_of_mem _ (List.mem_map.mpr ⟨y, hy, rfl⟩)))), A.fw, A.nw, A.nd, A.kw, A.pk, A.tb, A.ln, A.gl⟩
theorem WsAt.same (A : WsAt H W s) (c : Same H H') : WsAt H' W s := A.ch (Ch.of c []) fun _ _ z => nomatch z
theorem WsAt.th (A : WsAt H W s) : ∀ a ∈ W.l, ∃ o, H a = some o := fun a ha => by
  rcases List.mem_cons.mp ha with e | ha
  · rw [e]
    rcases A.al with r | ⟨o, r⟩
    · exact ⟨_, r⟩
    · exact ⟨_, r⟩
  · rcases List.mem_cons.mp ha with e | ha
    · rw [e]; exact ⟨_, A.di⟩
    · obtain ⟨y, hy, e⟩ := List.mem_map.mp ha
      rw [← e]; exact ⟨_, A.ws y hy⟩
theorem wD_keys (met gone : Int) (al : Addr) : ((wD met gone al).map (·.1)).Nodup := by
  show [(Sum.inr ("met" : Str) : Key), Sum.inr "all", Sum.inr "gone"].Nodup
  decide +kernel
theorem k_no {a b : Str} (h : ¬ a = b) : ¬ ((Sum.inr a : Key) = Sum.inr b) := fun e => h (Sum.inr.inj e)
theorem WsAt.gM (A : WsAt H W s) : DGet H W.m (.str "met") (some (.int s.met)) := by
  have g := DGet.k (k := Sum.inr "met") A.di
  rw [List.cons_append, valV_pos rfl] at g
  exact g
theorem WsAt.gA (A : WsAt H W s) : DGet H W.m (.str "all") (some (.ref W.al)) := by
  have g := DGet.k (k := Sum.inr "all") A.di
  rw [List.cons_append, valV_neg (k_no (a := "met") (b := "all") (by decide +kernel)), List.cons_append, valV_pos rfl] at g
  exact g
theorem WsAt.gG (A : WsAt H W s) : DGet H W.m (.str "gone") (some (.int s.gone)) := by
  have g := DGet.k (k := Sum.inr "gone") A.di
  rw [List.cons_append, valV_neg (k_no (a := "met") (b := "gone") (by decide +kernel)), List.cons_append, valV_neg (k_no (a := "all") (b := "gone") (by decide +kernel)), List.cons_append, valV_pos rfl] at g
  exact g
theorem WsAt.gT (A : WsAt H W s) : DGet H W.m (.str "told") (valV W.x (Sum.inr "told")) := by
  have g := DGet.k (k := Sum.inr "told") A.di
  rw [List.cons_append, valV_neg (k_no (a := "met") (b := "told") (by decide +kernel)), List.cons_append, valV_neg (k_no (a := "all") (b := "told") (by decide +kernel)), List.cons_append, valV_neg (k_no (a := "gone") (b := "told") (by decide +kernel)), List.nil_append] at g
  exact g
/-- one of the table's entries -/
theorem WsAt.at (A : WsAt H W s) {n : Int} {x : Addr} {w : Wt} (g : getA W.wl n = some (x, w)) : DGet H W.al (.int n) (some (.ref x)) ∧ H x = some (.lst (wL w)) ∧ s.wat n = some w ∧ x ∈ W.v ∧ (n, (x, w)) ∈ W.wl := by
  have m := getA_mem g
  obtain ⟨v, e1, e2⟩ := A.re.some_ inl_inj g
  have gg := DGet.rd (k := Sum.inl n) A.al
  rw [e1, e2] at gg
  refine ⟨gg, A.ws _ m, ?_, List.mem_cons_of_mem _ (List.mem_map.mpr ⟨_, m, rfl⟩), m⟩
  rw [A.fw]
  show (getA W.wl n).map (·.2) = _
  rw [g]
  rfl
theorem WsAt.in_ (A : WsAt H W s) (n : Int) : (valV W.wk (Sum.inl n)).isSome = (s.wat n).isSome := by
  rw [A.re.isSome inl_inj n, A.fw]
  show _ = ((getA W.wl n).map (·.2)).isSome
  cases getA W.wl n <;> rfl
/-- an entry goes on -/
def goW (wl : List (Int × (Addr × Wt))) (n : Int) (w : Wt) : List (Int × (Addr × Wt)) := wl.map fun y => if y.1 = n then (y.1, (y.2.1, w)) else y
theorem goW_addr (wl : List (Int × (Addr × Wt))) (n : Int) (w : Wt) : (goW wl n w).map (·.2.1) = wl.map (·.2.1) := by
  unfold goW
  rw [List.map_map]
  refine List.map_congr_left fun y _ => ?_
  show (if y.1 = n then (y.1, (y.2.1, w)) else y).2.1 = y.2.1
  split <;> rfl
theorem goW_key (wl : List (Int × (Addr × Wt))) (n : Int) (w : Wt) : (goW wl n w).map (·.1) = wl.map (·.1) := by
  unfold goW
  rw [List.map_map]
  refine List.map_congr_left fun y _ => ?_
  show (if y.1 = n then (y.1, (y.2.1, w)) else y).1 = y.1
  split <;> rfl
theorem goW_out {n : Int} {w : Wt} : ∀ {wl : List (Int × (Addr × Wt))} {j : Int}, ¬ n = j → getA (goW wl n w) j = getA wl j
  | [], j, _ => rfl
  | q :: r, j, h => by
    show getA ((if q.1 = n then (q.1, (q.2.1, w)) else q) :: goW r n w) j = _
    by_cases e : q.1 = n
    · rw [if_pos e, getA_neg (show ¬ ((q.1, (q.2.1, w)) : Int × (Addr × Wt)).1 = j from fun z => h (e.symm.trans z)), getA_neg fun z => h (e.symm.trans z), goW_out h]
    · rw [if_neg e]
      by_cases e2 : q.1 = j
      · rw [getA_pos e2, getA_pos e2]
      · rw [getA_neg e2, getA_neg e2, goW_out h]
theorem goW_get {n : Int} {w w0 : Wt} {x : Addr} : ∀ {wl : List (Int × (Addr × Wt))}, getA wl n = some (x, w0) → getA (goW wl n w) n = some (x, w)
  | [], h => by cases h
  | q :: r, h => by
    show getA ((if q.1 = n then (q.1, (q.2.1, w)) else q) :: goW r n w) n = _
    by_cases e : q.1 = n
    · rw [getA_pos e] at h
      rw [if_pos e, getA_pos (show ((q.1, (q.2.1, w)) : Int × (Addr × Wt)).1 = n from e), Option.some.inj h]
    · rw [getA_neg e] at h
      rw [if_neg e, getA_neg e, goW_get h]
theorem WsAt.go (A : WsAt H W s) {n : Int} {x : Addr} {w0 w : Wt} (g : getA W.wl n = some (x, w0)) (c : Ch H H' [x]) (h1 : H' x = some (.lst (wL w))) (ep : w.pre = w0.pre) (tb : (s.gone : Int) ≤ w.had ∧ w.had ≤ w.told ∧ w.told ≤ s.rows.length) :
    WsAt H' { W with wl := goW W.wl n w } { s with wat := setF s.wat n (some w) } := by
  have mx := getA_mem g
  have nd := A.nd
  unfold Wm.l Wm.v at nd
  simp only [List.nodup_cons, List.mem_cons, not_or] at nd
  obtain ⟨⟨n1, n2⟩, n3, an⟩ := nd
  have xin : x ∈ W.wl.map (·.2.1) := List.mem_map.mpr ⟨_, mx, rfl⟩
  have uniq : ∀ y ∈ W.wl, y.2.1 = x → y = (n, (x, w0)) := fun y hy e => by
    obtain ⟨i, hi⟩ := List.mem_iff_getElem?.mp hy
    obtain ⟨j, hj⟩ := List.mem_iff_getElem?.mp mx
    have hi2 : (W.wl.map (·.2.1))[i]? = some x := by rw [List.getElem?_map, hi]; exact congrArg some e
    have hj2 : (W.wl.map (·.2.1))[j]? = some x := by rw [List.getElem?_map, hj]; rfl
    have ij : i = j := (List.getElem?_inj (List.getElem?_eq_some_iff.mp hi2).1 an).mp (hi2.trans hj2.symm)
    subst ij
    rw [hi] at hj
    exact Option.some.inj hj
  have o : ∀ {a}, a ≠ x → a ∉ [x] := fun h z => h (List.mem_singleton.mp z)
  refine ⟨c.at A.di (o fun z => n3 (z ▸ xin)), rd_ch A.al c (o fun z => n2 (z ▸ xin)), ?_, fun y hy => ?_, ?_, by show ((goW W.wl n w).map (·.1)).Nodup; rw [goW_key]; exact A.nw, by show (W.al :: W.m :: (goW W.wl n w).map (·.2.1)).Nodup; rw [goW_addr]; exact A.nd, fun y hy => ?_, fun y hy => ?_, fun y hy => ?_, ?_, A.gl⟩
  · show DRel Sum.inl isA (goW W.wl n w) W.wk
    have go : ∀ {l : List (Int × (Addr × Wt))} {kvs : List (Key × V)}, DRel Sum.inl isA l kvs → DRel Sum.inl isA (goW l n w) kvs := fun m => by
      induction m with
      | nil => exact .nil
      | cons r m ih =>
        rename_i a b l1 l2
        refine .cons ?_ ih
        show b.1 = Sum.inl (if a.1 = n then (a.1, (a.2.1, w)) else a).1 ∧ b.2 = V.ref (if a.1 = n then (a.1, (a.2.1, w)) else a).2.1
        by_cases e : a.1 = n
        · rw [if_pos e]; exact r
        · rw [if_neg e]; exact r
    exact go A.re
  · obtain ⟨y0, hy0, rfl⟩ := List.mem_map.mp hy
    by_cases e : y0.1 = n
    · rw [if_pos e]
      have e2 : y0.2 = (x, w0) := by
        have g2 := getA_of A.nw hy0
        rw [e, g] at g2
        exact (Option.some.inj g2).symm
      show H' y0.2.1 = _
      rw [e2]
      exact h1
    · rw [if_neg e]
      exact c.at (A.ws y0 hy0) (o fun z => e (by rw [uniq y0 hy0 z]))
  · funext j
    show setF s.wat n (some w) j = (getA (goW W.wl n w) j).map (·.2)
    unfold setF
    by_cases e : n = j
    · rw [if_pos e, ← e, goW_get g]; rfl
    · rw [if_neg e, goW_out e, A.fw]
  · obtain ⟨y0, hy0, rfl⟩ := List.mem_map.mp hy
    have q := A.kw y0 hy0
    split <;> exact q
  · obtain ⟨y0, hy0, rfl⟩ := List.mem_map.mp hy
    by_cases e : y0.1 = n
    · rw [if_pos e]
      show TOk 60 w.pre
      rw [ep]
      exact A.pk _ mx
    · rw [if_neg e]
      exact A.pk y0 hy0
  · obtain ⟨y0, hy0, rfl⟩ := List.mem_map.mp hy
    by_cases e : y0.1 = n
    · rw [if_pos e]; exact tb
    · rw [if_neg e]; exact A.tb y0 hy0
  · show (goW W.wl n w).length ≤ _
    unfold goW
    rw [List.length_map]
    exact A.ln
theorem w_other {x : List (Key × V)} {k : Key} (h : k ∉ x.map (·.1)) (v : V) : x.map (fun kv => if kv.1 = k then (kv.1, v) else kv) = x := by
  have e : x.map (fun kv => if kv.1 = k then (kv.1, v) else kv) = x.map id := List.map_congr_left fun q hq => if_neg fun z => h (List.mem_map.mpr ⟨q, hq, z⟩)
  rw [e, List.map_id]
end
end KL

namespace KL
open PySem L2 L2H LX KB
/-! ### what is due, as the law counts it -/
theorem wanted_law {rs : List Row} (hn : Num rs) {g : Nat} {z : Str} {b m : Int} (hb : (g : Int) ≤ b) : wantedM rs g z b m = (rs.filter fun r => decide (r.n > b) && isPre z r.k).take m.toNat := by
  unfold wantedM
  congr 1
  conv => rhs; rw [← List.take_append_drop g rs, List.filter_append]
  have e : (rs.take g).filter (fun r => decide (r.n > b) && isPre z r.k) = [] := by
    refine List.filter_eq_nil_iff.mpr fun r hr => ?_
    obtain ⟨i, hi⟩ := List.mem_iff_getElem?.mp hr
    rw [List.getElem?_take] at hi
    by_cases c : i < g
    · rw [if_pos c] at hi
      have := hn i r hi
      rw [decide_eq_false (by omega), Bool.false_and]
      decide
    · rw [if_neg c] at hi; cases hi
  rw [e, List.nil_append]
theorem due_in {rs : List Row} (hn : Num rs) {g : Nat} {z : Str} {b m : Int} : ∀ r ∈ wantedM rs g z b m, r ∈ rs ∧ r.n > b ∧ r.n ≤ rs.length := fun r hr => by
  obtain ⟨h, hp⟩ := List.mem_filter.mp (List.mem_of_mem_take hr)
  have h := List.mem_of_mem_drop h
  obtain ⟨i, hi⟩ := List.mem_iff_getElem?.mp h
  have q := hn i r hi
  have l := (List.getElem?_eq_some_iff.mp hi).1
  rw [Bool.and_eq_true] at hp
  exact ⟨h, of_decide_eq_true hp.1, by omega⟩
theorem toldW_le {s : Rm} (hn : Num s.rows) {w : Wt} {m : Int} (h : w.told ≤ s.rows.length) : w.told ≤ toldW s w m ∧ toldW s w m ≤ s.rows.length := by
  unfold toldW
  by_cases c : ((dueW s w m).length : Int) < m
  · rw [if_pos c]; exact ⟨h, Int.le_refl _⟩
  · rw [if_neg c]
    unfold lastN
    cases e : (dueW s w m).getLast? with
    | none =>
      show w.told ≤ w.told + 1 - 1 ∧ w.told + 1 - 1 ≤ _
      omega
    | some r =>
      obtain ⟨_, h1, h2⟩ := due_in hn r (List.mem_of_getLast? e)
      show w.told ≤ r.n ∧ r.n ≤ _
      omega
end KL

namespace KL
open PySem L2 L2H LX KB
/-! ### law_k07: a room whose changes are puts without leases, and a put -/
structure PoolAt (H : Hp) (q : Addr) (zs : List Str) : Prop where
  at_ : H q = some (.lst (zs.map V.str))
  six : zs.length = 6
  ok : ∀ z ∈ zs, TOk 60 z
structure P7 (Rs : RsT) (H0 H : Hp) (F : List Addr) (p ro : Addr) (ts : List Addr) (s : Rm) (q : Addr) (zs : List Str) (n : Nat) : Prop where
  rs : Rs F H p s
  rw_ : RwAt H ro ts s.rows
  good : ∀ r ∈ s.rows, GoodR r
  held : ∀ k v h, s.held k = some (v, h) → h = 0
  now : s.now = 0
  gone : s.gone = 0
  r1 : ro ∉ F
  po : PoolAt H q zs
  q1 : q ∉ F
  q2 : q ≠ ro
  b1 : s.rows.length ≤ n
  b2 : s.met ≤ 10
  b3 : s.given ≤ 10
  old : Same H0 H
  no : ∀ a ∈ F, H0 a = none
  nr : H0 ro = none
theorem P7.fits {Rs : RsT} {H0 H : Hp} {F : List Addr} {p ro : Addr} {ts : List Addr} {s : Rm} {q : Addr} {zs : List Str} {n : Nat} (A : P7 Rs H0 H F p ro ts s q zs n) (h : n ≤ 500) : Fits s := ⟨Nat.le_trans A.b1 (by omega), Nat.le_trans A.b3 (by decide), Nat.le_trans A.b2 (by decide)⟩
/-- the room may have changed, its rows have not -/
theorem P7.go {Rs : RsT} {H0 H H' : Hp} {F F' l : List Addr} {p ro : Addr} {ts : List Addr} {s s' : Rm} {q : Addr} {zs : List Str} {n : Nat} (A : P7 Rs H0 H F p ro ts s q zs n) (R' : Rs F' H' p s') (e1 : s'.rows = s.rows) (e2 : s'.held = s.held) (e3 : s'.now = s.now) (e4 : s'.gone = s.gone) (e5 : s'.met ≤ 10) (e6 : s'.given = s.given)
    (gr : Grow F F' H) (c : Ch H H' l) (lr : ro ∉ l) (lq : q ∉ l) (lo : ∀ a ∈ l, H0 a = none) : P7 Rs H0 H' F' p ro ts s' q zs n := by
  have far : ∀ {a : Addr} {o : HO}, H a = some o → a ∉ F → a ∉ F' := fun {a o} e n z => by
    rcases gr a z with z | z
    · exact n z
    · rw [e] at z; cases z
  refine ⟨R', ?_, by rw [e1]; exact A.good, by rw [e2]; exact A.held, e3.trans A.now, e4.trans A.gone, far A.rw_.at_ A.r1, ⟨c.at A.po.at_ lq, A.po.six, A.po.ok⟩, far A.po.at_ A.q1, A.q2, by rw [e1]; exact A.b1, e5, by rw [e6]; exact A.b3, c.old A.old lo, fun a ha => ?_, A.nr⟩
  · have h := A.rw_.ch c lr
    rw [e1]
    exact h
  · rcases gr a ha with z | z
    · exact A.no a z
    · exact A.old.free z
theorem P7.same {P : Program} {w : World} {K : PySem.W.Frag} {mg : Str → Option Value} {base : Heap} {C : Addr} {kk : Kinds} {Rs : RsT} {hs : List Str} (A1 : RoomApi P w K mg base C kk Rs hs) {H0 H H' : Hp} {F : List Addr} {p ro : Addr} {ts : List Addr} {s : Rm} {q : Addr} {zs : List Str} {n : Nat} (A : P7 Rs H0 H F p ro ts s q zs n) {l : List Addr} (c : Ch H H' l)
    (lF : ∀ a ∈ F, a ∉ l) (lr : ro ∉ l) (lq : q ∉ l) (lo : ∀ a ∈ l, H0 a = none) : P7 Rs H0 H' F p ro ts s q zs n :=
  A.go (A1.frame A.rs c lF) rfl rfl rfl rfl A.b2 rfl (Grow.refl _ _) c lr lq lo
theorem P7.mono {Rs : RsT} {H0 H : Hp} {F : List Addr} {p ro : Addr} {ts : List Addr} {s : Rm} {q : Addr} {zs : List Str} {n m : Nat} (A : P7 Rs H0 H F p ro ts s q zs n) (h : n ≤ m) : P7 Rs H0 H F p ro ts s q zs m :=
  ⟨A.rs, A.rw_, A.good, A.held, A.now, A.gone, A.r1, A.po, A.q1, A.q2, Nat.le_trans A.b1 h, A.b2, A.b3, A.old, A.no, A.nr⟩
def spPut7 (Rs : RsT) : Sp := fun vs H Q _ => ∃ (H0 : Hp) (F : List Addr) (p ro : Addr) (ts : List Addr) (s : Rm) (q : Addr) (zs : List Str) (n : Nat) (c : Int), vs = [.ref p, .ref ro, .ref q, .int c] ∧ P7 Rs H0 H F p ro ts s q zs n ∧ n ≤ 400 ∧
  ∀ F' t (r : Row) H', P7 Rs H0 H' F' p ro (ts ++ [t]) (noteM { s with held := setF s.held r.k (some (r.v, 0)) } 0 "put" r.k r.v) q zs (n + 1) → Grow F F' H → Ch H H' (ro :: F) → Q (.bl true) H'
section
variable {P : Program} {w : World} {K : PySem.W.Frag} {mg : Str → Option Value} {base : Heap} {C : Addr} {kk : Kinds} {Rs : RsT}
theorem ok_put {f : Addr} {fd : FuncData} (F : Fun K "_law_put" "_law_put" s_put f fd) (cl : Cls K C) (A1 : RoomApi P w K mg base C kk Rs hsL) (LT : LTxt mg) (DX : Def P w K mg base "_law_text" 2 p_text spText) : FnOk P w K mg base CX0 9 f fd p_put (spPut7 Rs) := by
  obtain ⟨f2, fd2, g2, k2, b2, G2⟩ := DX.ex
  obtain ⟨fP, fdP, psP, mP, bP, ⟨dP, vP, b2P⟩, ⟨gP, kP⟩, GP⟩ := A1.put (by decide +kernel)
  refine F.ok sc_put (fun vs H Q E h => ?_) (fun cdv A outer s H vs Q E hr h => ?_)
  · obtain ⟨H0, F, p, ro, ts, s, q, zs, n, c, rfl, _⟩ := h
    rfl
  · obtain ⟨H0, Fo, p, ro, ts, sm, q, zs, n, c, rfl, AX, hn, k⟩ := h
    have R : ∀ j, j ≤ 8 → Room j _ := fun j h => hr.mono h
    refine ⟨_, pss_cons (ps_set (i := 4) sc_put.nd rfl (Or.inl rfl) (pe_ix ix_list (pv 2) (pe_op op_mod (pv 3) pe_int) (fun _ _ => rfl)))
      (pss_cons (ps_set (i := 5) sc_put.nd rfl (Or.inl rfl) (pe_call G2 (R 2 (by decide)) rfl g2 k2 b2 .nil pass0 (pa_cons (pv 3) (pa_cons (pe_op op_mod (pe_op op_fdiv (pv 3) pe_int) pe_int) pa_nil))))
      (pss_cons (ps_expr (pe_bm PySem.F.plainAttrs_list PySem.F.slot_list_append PySem.F.type_list_append mt_append (pv 1) (pa_cons (pe_tup (pa_cons (pe_op op_add (pe_callB call_len_seq (by rfl) LT.len PySem.boot_len (pa_cons (pv 1) pa_nil)) pe_int) (pa_cons pe_int (pa_cons pe_str (pa_cons (pv 4) (pa_cons (pv 5) pa_nil)))))) pa_nil)))
      (pss_one (ps_ret (pe_cmpR op_eq (pe_meth (E := E0) (pv 0) cl mP GP (R 8 (by decide)) b2P vP (passes_call takes0 (fun _ _ _ _ h => h)) (pa_cons (pv 4) (pa_cons (pv 5) pa_nil))) (pe_callB call_len_seq (by rfl) LT.len PySem.boot_len (pa_cons (pv 1) pa_nil)) (nomark _)))))), ?_⟩
    obtain ⟨ky, hky, e0⟩ := at_strs (ns := zs) (z := c % 6) (by omega) (by rw [AX.po.six]; omega)
    have oky := AX.po.ok ky hky
    refine ⟨_, rfl, _, rfl, _, _, rfl, rfl, (by show (0 : Int) < 6; decide), q, _, _, _, rfl, rfl, SqL.of AX.po.at_, e0, ?_⟩
    refine ⟨_, rfl, _, rfl, _, _, rfl, rfl, ⟨by decide, by decide⟩, _, _, rfl, rfl, (by show (0 : Int) < 5; decide), c, c / 6 % 5, rfl, by omega, by omega, fun vl H1 tv _ sv => ?_⟩
    have ovl : TOk 60 vl := tv.mono (by omega)
    have AX1 : P7 Rs H0 H1 Fo p ro ts sm q zs n := AX.same A1 (Ch.of sv []) (fun _ _ z => nomatch z) (fun z => nomatch z) (fun z => nomatch z) (fun _ z => nomatch z)
    have lt : (ts.map V.ref).length = sm.rows.length := by rw [List.length_map, Paired.length AX1.rw_.rr]
    have bl := AX1.b1
    have ro2 := AX1.rw_.at_
    refine ⟨_, rfl, .inl ⟨rfl, _, SqL.of ro2⟩, _, rfl, ro, _, rfl, .inl (SqL.of ro2), _, _, rfl, rfl, _, rfl, _, rfl, (by show 5 ≤ sizeLine; decide), fun tp htp => ?_⟩
    rw [lt]
    have s5 := same_new (o := .tup (Row.mk ((sm.rows.length : Int) + 1) 0 "put" ky vl).V) htp
    have ht5 : upd H1 tp (.tup (Row.mk ((sm.rows.length : Int) + 1) 0 "put" ky vl).V) tp = some (.tup (Row.mk ((sm.rows.length : Int) + 1) 0 "put" ky vl).V) := upd_same
    have ro5 := s5 _ _ ro2
    refine ⟨ro, _, _, rfl, rfl, ro5, by rw [lt]; exact small1000 (by omega), ?_⟩
    have tr : tp ≠ ro := ne_of ht5 ro5 (by intro z; cases z)
    have cr : Ch H1 (upd (upd H1 tp (.tup (Row.mk ((sm.rows.length : Int) + 1) 0 "put" ky vl).V)) ro (.lst (ts.map V.ref ++ [V.ref tp]))) [ro] := (Ch.of s5 _).mut (List.mem_singleton.mpr rfl) ro2 (fun xs z => by cases z)
    have hr5 : upd (upd H1 tp (.tup (Row.mk ((sm.rows.length : Int) + 1) 0 "put" ky vl).V)) ro (.lst (ts.map V.ref ++ [V.ref tp])) ro = some (.lst ((ts ++ [tp]).map V.ref)) := by rw [upd_same, List.map_append]; rfl
    have htp5 : upd (upd H1 tp (.tup (Row.mk ((sm.rows.length : Int) + 1) 0 "put" ky vl).V)) ro (.lst (ts.map V.ref ++ [V.ref tp])) tp = some (.tup (Row.mk ((sm.rows.length : Int) + 1) 0 "put" ky vl).V) := by rw [upd_ne tr]; exact ht5
    try dsimp only
    change tRet _ _ _ (upd (upd H1 tp (.tup (Row.mk ((sm.rows.length : Int) + 1) 0 "put" ky vl).V)) ro (.lst (ts.map V.ref ++ [V.ref tp])))
    generalize upd (upd H1 tp (.tup (Row.mk ((sm.rows.length : Int) + 1) 0 "put" ky vl).V)) ro (.lst (ts.map V.ref ++ [V.ref tp])) = H5 at cr hr5 htp5 ⊢
    have R5 := A1.frame AX1.rs cr fun a ha z => AX1.r1 (by rw [← List.mem_singleton.mp z]; exact ha)
    obtain ⟨_, dx, fs, hob, _, hfs⟩ := A1.inst R5
    refine ⟨_, rfl, p, dx, fs, rfl, hob, hfs _ (by simp [roomMs]), _, rfl, _, rfl, Fo, p, sm, .put ky vl 0, _, rfl, ⟨ky, vl, 0, rfl, rfl, oky, ovl⟩, R5, AX1.fits (by omega), fun a s' F' H6 od R6 gr6 c6 => ?_⟩
    have nb : ¬ heldBy sm ky 0 := fun ⟨v, j, e, j0, _⟩ => j0 (AX1.held _ _ _ e)
    rcases od with ⟨⟨n0, _⟩, _, _⟩ | ⟨_, hb, _, _⟩ | ⟨_, _, rfl, rfl⟩
    · exact absurd rfl n0
    · exact absurd hb nb
    have ro6 := c6.at hr5 AX1.r1
    refine ⟨_, rfl, ro, _, rfl, .inl (SqL.of ro6), ?_⟩
    have e5 : ((((ts ++ [tp]).map V.ref).length : Nat) : Int) = (sm.rows.length : Int) + 1 := by rw [List.length_map, List.length_append, ← List.length_map (f := V.ref), lt]; rfl
    rw [e5]
    refine ⟨rfl, ?_⟩
    rw [decide_eq_true rfl]
    have er : (putM sm ky vl 0).rows = sm.rows ++ [⟨(sm.rows.length : Int) + 1, sm.now, "put", ky, vl⟩] := rfl
    have far : ∀ {a : Addr} {o : HO}, H5 a = some o → a ∉ Fo → a ∉ F' := fun {a o} e n z => by
      rcases gr6 a z with z | z
      · exact n z
      · rw [e] at z; cases z
    have hq5 := cr.at AX1.po.at_ fun z => AX1.q2 (List.mem_singleton.mp z)
    have okr : (Row.mk ((sm.rows.length : Int) + 1) 0 "put" ky vl).Ok := ⟨(by show PyData.strOk ("put" : Str) = true; decide +kernel), oky, ovl⟩
    have old5 : Same H0 H5 := cr.old AX1.old fun a ha => by rw [List.mem_singleton.mp ha]; exact AX1.nr
    have e9 : putM sm ky vl 0 = noteM { sm with held := setF sm.held ky (some (vl, 0)) } 0 "put" ky vl := by
      show noteM _ sm.now "put" ky vl = _
      rw [AX1.now]
    rw [e9] at R6
    refine k F' tp ⟨0, 0, "put", ky, vl⟩ H6 ⟨R6, ⟨ro6, ?_, ?_, ?_⟩, ?_, fun k2 v hh h => ?_, AX1.now, AX1.gone, far hr5 AX1.r1, ⟨c6.at hq5 AX1.q1, AX1.po.six, AX1.po.ok⟩, far hq5 AX1.q1, AX1.q2, ?_, AX1.b2, AX1.b3, c6.old old5 AX1.no, fun a ha => ?_, AX1.nr⟩ (fun a ha => (gr6 a ha).imp id fun z => sv.free (cr.none a z)) ?_
    · exact Paired.snoc ((AX1.rw_.rr.keep cr.tup).keep c6.tup) (c6.tup _ _ htp5)
    · intro x hx
      rcases List.mem_append.mp hx with h | h
      · exact AX1.rw_.ok x h
      · rw [List.mem_singleton.mp h]; exact okr
    · exact AX1.rw_.nu.snoc rfl
    · intro x hx
      rcases List.mem_append.mp hx with h | h
      · exact AX1.good x h
      · rw [List.mem_singleton.mp h]; exact ⟨okr, .inl rfl⟩
    · change setF sm.held ky (some (vl, 0)) k2 = some (v, _) at h
      unfold setF at h
      by_cases e : ky = k2
      · rw [if_pos e] at h; cases h; rfl
      · rw [if_neg e] at h; exact AX1.held _ _ _ h
    · show (sm.rows ++ [_]).length ≤ n + 1
      rw [List.length_append, List.length_cons, List.length_nil]; omega
    · rcases gr6 a ha with z | z
      · exact AX1.no a z
      · exact old5.free z
    · exact (((Ch.of sv _).trans (cr.mono fun a ha => by rw [List.mem_singleton.mp ha]; exact List.mem_cons_self))).trans (c6.mono fun a ha => List.mem_cons_of_mem _ ha)
end
end KL

namespace KL
open PySem L2 L2H LX KB
/-! ### a law's plain helpers: change, changes -/
def spChange : Sp := fun vs H Q _ => ∃ (t : Addr) (r : Row), vs = [.ref t] ∧ H t = some (.tup r.V) ∧ Q (.bl true) H
def spChanges (K : PySem.W.Frag) : Sp := fun vs H Q _ => ∃ (f d : Addr) (ts us : List Addr) (rs : List Row), vs = [.ref f, .ref d] ∧ H f = some (.lst (ts.map V.ref)) ∧ H d = some (.lst (us.map V.ref)) ∧ RowsAt H ts rs ∧ RowsAt H us rs ∧ (∀ r ∈ rs, r.Ok) ∧
  Q (.bl true) (upd H f (.lst []))
section
variable {P : Program} {w : World} {K : PySem.W.Frag} {mg : Str → Option Value} {base : Heap}
theorem ok_change {f : Addr} {fd : FuncData} (F : Fun K "_law_change" "_law_change" s_change f fd) (T : LTxt mg) (D1 : Def P w K mg base "_law_whole" 1 p_whole spWhole) : FnOk P w K mg base CX0 2 f fd p_change spChange := by
  obtain ⟨fW, fdW, gW, kW, bW, GW⟩ := D1.ex
  refine F.ok sc_change (fun vs H Q E h => ?_) (fun cdv A outer s H vs Q E hr h => ?_)
  · obtain ⟨t, r, rfl, _⟩ := h
    rfl
  · obtain ⟨t, r, rfl, ht, k⟩ := h
    refine ⟨_, pss_cons (ps_if (PW.pt (pw_or (pt_not (pt_val (pe_callB call_isi (by rfl) T.isi (by decide +kernel) (pa_cons (pv 0) (pa_cons (pe_bltn (v := V.ty "tuple") (by rfl) T.tuple (by decide +kernel) rfl) pa_nil)))))
          (pw_or1 (pt_cmpR op_ne (pe_callB call_len_seq (by rfl) T.len PySem.boot_len (pa_cons (pv 0) pa_nil)) pe_int (nomark _))))) (pss_one (ps_ret pe_bl)) pss_nil)
      (pss_cons (ps_if (PW.pt (pw_or (pt_not (pt_val (pe_call GW hr rfl gW kW bW .nil pass0 (pa_cons (pe_ix ix_tup (pv 0) pe_int (fun _ _ => rfl)) pa_nil))))
          (pw_or1 (pt_not (pt_val (pe_call GW hr rfl gW kW bW .nil pass0 (pa_cons (pe_ix ix_tup (pv 0) pe_int (fun _ _ => rfl)) pa_nil))))))) (pss_one (ps_ret pe_bl)) pss_nil)
      (pss_one (ps_ret (pe_and (pe_callB call_isi (by rfl) T.isi (by decide +kernel) (pa_cons (pe_ix ix_tup (pv 0) pe_int (fun _ _ => rfl)) (pa_cons (pe_bltn (v := V.ty "str") (by rfl) T.str (by decide +kernel) rfl) pa_nil)))
        (pe_and (pe_callB call_isi (by rfl) T.isi (by decide +kernel) (pa_cons (pe_ix ix_tup (pv 0) pe_int (fun _ _ => rfl)) (pa_cons (pe_bltn (v := V.ty "str") (by rfl) T.str (by decide +kernel) rfl) pa_nil)))
        (pe_one (pe_callB call_isi (by rfl) T.isi (by decide +kernel) (pa_cons (pe_ix ix_tup (pv 0) pe_int (fun _ _ => rfl)) (pa_cons (pe_bltn (v := V.ty "str") (by rfl) T.str (by decide +kernel) rfl) pa_nil))))))))), ?_⟩
    refine ⟨_, rfl, _, _, _, _, true, rfl, .ty _, .base (.tup ht), kit_ty (by decide +kernel), true, rfl, iteF ?_⟩
    refine ⟨_, rfl, t, _, rfl, .inr (SqT.of ht), rfl, _, rfl, iteNS rfl ?_⟩
    refine ⟨_, rfl, t, _, 0, .int r.n, rfl, rfl, SqT.of ht, rfl, _, true, rfl, .inl ⟨⟨r.n, rfl⟩, rfl⟩, true, rfl, iteF ?_⟩
    refine ⟨_, rfl, t, _, 1, .int r.t, rfl, rfl, SqT.of ht, rfl, _, true, rfl, .inl ⟨⟨r.t, rfl⟩, rfl⟩, true, rfl, iteF ?_⟩
    refine ⟨_, rfl, t, _, 2, .str r.w, rfl, rfl, SqT.of ht, rfl, _, _, _, _, true, rfl, .ty _, .base (.str r.w), kit_ty (by decide +kernel), true, rfl, iteT ?_⟩
    refine ⟨_, rfl, t, _, 3, .str r.k, rfl, rfl, SqT.of ht, rfl, _, _, _, _, true, rfl, .ty _, .base (.str r.k), kit_ty (by decide +kernel), true, rfl, iteT ?_⟩
    exact ⟨_, rfl, t, _, 4, .str r.v, rfl, rfl, SqT.of ht, rfl, _, _, _, _, true, rfl, .ty _, .base (.str r.v), kit_ty (by decide +kernel), k⟩
theorem ok_changes {f : Addr} {fd : FuncData} (F : Fun K "_law_changes" "_law_changes" s_changes f fd) (T : LTxt mg) (D1 : Def P w K mg base "_law_change" 2 p_change spChange) : FnOk P w K mg base CX0 3 f fd p_changes (spChanges K) := by
  obtain ⟨fC, fdC, gC, kC, bC, GC⟩ := D1.ex
  refine F.ok sc_changes (fun vs H Q E h => ?_) (fun cdv A outer s H vs Q E hr h => ?_)
  · obtain ⟨f, d, ts, us, rs, rfl, _⟩ := h
    rfl
  · obtain ⟨fo, d, ts, us, rs, rfl, hf, hd, mf, md, ok, k⟩ := h
    have hu64 := hr.units
    refine ⟨_, pss_cons (ps_if (PW.pt (pw_or (pt_not (pt_val (pe_callB call_isi (by rfl) T.isi (by decide +kernel) (pa_cons (pv 0) (pa_cons (pe_bltn (v := V.ty "list") (by rfl) T.list (by decide +kernel) rfl) pa_nil)))))
          (pw_or1 (pt_cmpR op_ne (pe_callB call_len_seq (by rfl) T.len PySem.boot_len (pa_cons (pv 0) pa_nil)) (pe_callB call_len_seq (by rfl) T.len PySem.boot_len (pa_cons (pv 1) pa_nil)) (nomark _))))) (pss_one (ps_ret pe_bl)) pss_nil)
      (pss_cons (ps_for PassesOwn.never rfl (pi_list (pv 0)) (pg_name (i := 2) sc_changes.nd rfl (Or.inl rfl))
        (pss_one (ps_if (pt_not (pt_val (pe_call GC hr rfl gC kC bC .nil pass0 (pa_cons (pv 2) pa_nil)))) (pss_one (ps_ret pe_bl)) pss_nil)))
      (pss_cons (ps_set (i := 3) sc_changes.nd rfl (Or.inl rfl) (pe_cmpR (op_eqD hu64) (pv 0) (pv 1) (nomark _)))
      (pss_cons (ps_expr (pe_bm0 PySem.F.plainAttrs_list PySem.F.slot_list_clear PySem.F.type_list_clear mt_clear (pv 0)))
      (pss_one (ps_ret (pv 3)))))), ?_⟩
    refine ⟨_, rfl, _, _, _, _, true, rfl, .ty _, .base (.lst hf), kit_ty (by decide +kernel), true, rfl, iteF ?_⟩
    refine ⟨_, rfl, fo, _, rfl, .inl (SqL.of hf), _, rfl, d, _, rfl, .inl (SqL.of hd), rfl, _, rfl, iteNS (by rw [List.length_map, List.length_map, Paired.length mf, Paired.length md]) ?_⟩
    refine ⟨_, rfl, fo, rfl, ⟨_, SqL.of hf⟩, for_list (xs := ts.map V.ref) (fun i σ H' => H = H' ∧ ∃ y, σ = [some (.ref fo), some (.ref d), y, none]) ⟨rfl, none, rfl⟩ ?_ ?_ ?_⟩
    · rintro i σ H' _ ⟨rfl, _⟩
      exact SqL.of hf
    · rintro i x σ H' hx ⟨rfl, y, rfl⟩
      obtain ⟨t, r, rfl, _, ht⟩ := RowsAt.at mf hx
      exact ⟨_, rfl, t, r, rfl, ht, true, rfl, iteF ⟨rfl, _, rfl⟩⟩
    · rintro σ H' ⟨rfl, y, rfl⟩
      refine ⟨_, rfl, _, rfl, .list (rs.map Row.D), .list (rs.map Row.D), .lst (SqL.of hf) mf.dp, .lst (SqL.of hd) md.dp, rows_shaped ok, rows_shaped ok, ?_⟩
      rw [rows_eqv ok]
      exact ⟨_, rfl, .inl ⟨rfl, _, SqL.of hf⟩, fo, _, rfl, rfl, hf, _, rfl, k⟩
end
end KL

namespace KL
open PySem L2 L2H LX KB
/-! ### what is heard of a row whose numbers rise -/
theorem rows_app {H : Hp} : ∀ {ts us : List Addr} {rs qs : List Row}, RowsAt H ts rs → RowsAt H us qs → RowsAt H (ts ++ us) (rs ++ qs)
  | _, _, _, _, .nil, h => h
  | _, _, _, _, .cons a b, h => .cons a (rows_app b h)
abbrev Asc (rs : List Row) : Prop := rs.Pairwise fun x y => x.n < y.n
theorem takeM_asc (b : Int) : ∀ {rs tk : List Row}, Asc rs → takeM b tk rs = tk ++ rs.filter fun r => decide (r.n > lastN b tk)
  | [], tk, _ => (List.append_nil tk).symm
  | r :: rs, tk, h => by
    obtain ⟨h1, h2⟩ := List.pairwise_cons.mp h
    show takeM b (if r.n > lastN b tk then tk ++ [r] else tk) rs = _
    by_cases c : r.n > lastN b tk
    · rw [if_pos c, takeM_asc b h2, lastN_snoc, List.filter_cons_of_pos (by rw [decide_eq_true c]), List.append_assoc]
      have e1 : (rs.filter fun x => decide (x.n > r.n)) = rs := List.filter_eq_self.mpr fun x hx => decide_eq_true (h1 x hx)
      have e2 : (rs.filter fun x => decide (x.n > lastN b tk)) = rs := List.filter_eq_self.mpr fun x hx => decide_eq_true (by have := h1 x hx; omega)
      rw [e1, e2]
      rfl
    · rw [if_neg c, takeM_asc b h2, List.filter_cons_of_neg (by rw [decide_eq_false c]; decide)]
theorem takeM_tl (b : Int) : ∀ {rs tk : List Row}, ((takeM b tk rs).length : Int) - tk.length ≤ lastN b (takeM b tk rs) - lastN b tk
  | [], tk => by
    show (tk.length : Int) - tk.length ≤ lastN b tk - lastN b tk
    omega
  | r :: rs, tk => by
    show ((takeM b (if r.n > lastN b tk then tk ++ [r] else tk) rs).length : Int) - tk.length ≤ lastN b (takeM b (if r.n > lastN b tk then tk ++ [r] else tk) rs) - lastN b tk
    by_cases c : r.n > lastN b tk
    · rw [if_pos c]
      have h := takeM_tl b (rs := rs) (tk := tk ++ [r])
      rw [lastN_snoc, List.length_append, List.length_cons, List.length_nil] at h
      omega
    · rw [if_neg c]
      exact takeM_tl b
theorem takeM_last (b : Int) {m : Int} : ∀ {rs tk : List Row}, (∀ r ∈ rs, r.n ≤ m) → lastN b tk ≤ m → lastN b (takeM b tk rs) ≤ m
  | [], _, _, h => h
  | r :: rs, tk, k, h => by
    show lastN b (takeM b (if r.n > lastN b tk then tk ++ [r] else tk) rs) ≤ m
    refine takeM_last b (fun x hx => k x (List.mem_cons_of_mem _ hx)) ?_
    by_cases c : r.n > lastN b tk
    · rw [if_pos c, lastN_snoc]; exact k r List.mem_cons_self
    · rw [if_neg c]; exact h
theorem num_asc {rs : List Row} (h : Num rs) : Asc rs := List.pairwise_iff_getElem.mpr fun i j hi hj l => by
  have a := h i rs[i] (List.getElem?_eq_getElem hi)
  have b := h j rs[j] (List.getElem?_eq_getElem hj)
  omega
theorem due_asc {s : Rm} (h : Num s.rows) {w : Wt} {m : Int} : Asc (dueW s w m) := by
  unfold dueW wantedM
  exact (num_asc h).sublist (((List.take_sublist _ _).trans (List.filter_sublist)).trans (List.drop_sublist _ _))
theorem arrive_sub {rs : List Row} {luck : Int} : (arriveM rs luck).Sublist rs := by
  unfold arriveM
  by_cases c1 : luck = 1
  · rw [if_pos c1]; exact List.nil_sublist _
  rw [if_neg c1]
  by_cases c3 : luck = 3
  · rw [if_pos c3]; exact List.take_sublist _ _
  · rw [if_neg c3]; exact List.Sublist.refl _
/-! ### law_k07: the line's places -/
abbrev plD (had heard : Int) (al : Addr) : List (Key × V) := [(Sum.inr "had", .int had), (Sum.inr "heard", .int heard), (Sum.inr "all", .ref al)]
section
variable {H : Hp} {pd al al' : Addr} {h e h' e' : Int}
theorem pl_had (A : H pd = some (.dK (plD h e al))) : DGet H pd (.str "had") (some (.int h)) := by
  have g := DGet.k (k := Sum.inr "had") A
  rw [valV_pos rfl] at g
  exact g
theorem pl_heard (A : H pd = some (.dK (plD h e al))) : DGet H pd (.str "heard") (some (.int e)) := by
  have g := DGet.k (k := Sum.inr "heard") A
  rw [valV_neg (k_no (a := "had") (b := "heard") (by decide +kernel)), valV_pos rfl] at g
  exact g
theorem pl_all (A : H pd = some (.dK (plD h e al))) : DGet H pd (.str "all") (some (.ref al)) := by
  have g := DGet.k (k := Sum.inr "all") A
  rw [valV_neg (k_no (a := "had") (b := "all") (by decide +kernel)), valV_neg (k_no (a := "heard") (b := "all") (by decide +kernel)), valV_pos rfl] at g
  exact g
theorem plp_had : putK (plD h e al) (Sum.inr "had") (.int h') = plD h' e al := by
  have n1 := k_no (a := "heard") (b := "had") (by decide +kernel)
  have n2 := k_no (a := "all") (b := "had") (by decide +kernel)
  unfold putK
  rw [valV_any, valV_pos rfl, if_pos (show (some (V.int h)).isSome = true from rfl), List.map_cons, List.map_cons, List.map_cons, List.map_nil, if_neg n1, if_neg n2, if_pos rfl]
theorem plp_heard : putK (plD h e al) (Sum.inr "heard") (.int e') = plD h e' al := by
  have n1 := k_no (a := "had") (b := "heard") (by decide +kernel)
  have n2 := k_no (a := "all") (b := "heard") (by decide +kernel)
  unfold putK
  rw [valV_any, valV_neg n1, valV_pos rfl, if_pos (show (some (V.int e)).isSome = true from rfl), List.map_cons, List.map_cons, List.map_cons, List.map_nil, if_neg n1, if_neg n2, if_pos rfl]
theorem plp_all : putK (plD h e al) (Sum.inr "all") (.ref al') = plD h e al' := by
  have n1 := k_no (a := "had") (b := "all") (by decide +kernel)
  have n2 := k_no (a := "heard") (b := "all") (by decide +kernel)
  unfold putK
  rw [valV_any, valV_neg n1, valV_neg n2, valV_pos rfl, if_pos (show (some (V.ref al)).isSome = true from rfl), List.map_cons, List.map_cons, List.map_cons, List.map_nil, if_neg n1, if_neg n2, if_pos rfl]
end
structure L7 (Rs : RsT) (Er : ErT) (CL : Addr) (H0 H : Hp) (F Fe : List Addr) (p ro : Addr) (ts : List Addr) (s : Rm) (q : Addr) (zs : List Str) (n : Nat) (lp e pd al : Addr) (als : List Addr) (w : Wt) (b : Int) (gv : KVs) (tk : List Row) : Prop where
  r : P7 Rs H0 H F p ro ts s q zs n
  ln : LnAt CL H lp p 1 e
  er : Er Fe H e b gv tk
  wa : s.wat 1 = some w
  wt : w.told = w.had
  w0 : 0 ≤ w.had
  w1 : w.had ≤ s.rows.length
  oz : TOk 60 w.pre
  pd_ : H pd = some (.dK (plD w.had (lastN b tk) al))
  al_ : H al = some (.lst (als.map V.ref))
  at_ : RowsAt H als tk
  gt : ∀ x ∈ tk, GoodR x
  b1 : 1 ≤ b
  gl : gv.length ≤ 1
  tl : (tk.length : Int) ≤ lastN b tk - (b - 1)
  tn : lastN b tk ≤ s.rows.length
  d : ∀ a ∈ Fe, a ∉ F
  oF : ∀ a ∈ [lp, pd, al], a ∉ F
  oE : ∀ a ∈ [ro, q, lp, pd, al], a ∉ Fe
  nd : [ro, q, lp, pd, al].Nodup
  nE : ∀ a ∈ Fe, H0 a = none
  nP : H0 pd = none
def spTurned7 (Rs : RsT) (Er : ErT) (CL : Addr) : Sp := fun vs H Q _ => ∃ (H0 : Hp) (F Fe : List Addr) (p ro : Addr) (ts : List Addr) (s : Rm) (q : Addr) (zs : List Str) (n : Nat) (lp e pd al : Addr) (als : List Addr) (w : Wt) (b : Int) (gv : KVs) (tk : List Row) (z : Str) (most luck : Int),
  vs = [.ref lp, .ref ro, .str z, .ref pd, .int most, .int luck] ∧ z = w.pre ∧ L7 Rs Er CL H0 H F Fe p ro ts s q zs n lp e pd al als w b gv tk ∧ n ≤ 400 ∧ 0 ≤ most ∧
  ∀ F' Fe' s' al' als' w' tk' H', L7 Rs Er CL H0 H' F' Fe' p ro ts s' q zs n lp e pd al' als' w' b gv tk' → s'.rows = s.rows → w'.pre = w.pre → (luck = 0 → w'.had = toldW s w most) → Grow F F' H → Grow Fe Fe' H → Ch H H' (pd :: (F ++ Fe)) → Q (.bl true) H'
section
variable {P : Program} {w : World} {K : PySem.W.Frag} {mg : Str → Option Value} {base : Heap} {C CE CL : Addr} {kk : Kinds} {Rs : RsT} {Er : ErT}
structure LineApi (P : Program) (w : World) (K : PySem.W.Frag) (mg : Str → Option Value) (base : Heap) (C : Addr) (kk : Kinds) (Rs : RsT) (Er : ErT) : Prop where
  cl : Cls K C
  n0 : NoAttr K C "_room"
  n1 : NoAttr K C "watcher"
  n2 : NoAttr K C "ear"
  make : ∃ f fd ps, Mk K C f ∧ FnOk P w K mg base (L2.CX P w) 9 f fd ps (spLnInit C kk Rs Er) ∧ Binds K fd ps [] ∧ (∃ ds, Vals [.non] ds ∧ Binds K fd ps ds) ∧ ∃ g, KBn K fd ps 4 ["pairs"] g fun vs zs => vs ++ zs
  turn : ∃ f fd ps, Meth K C "turn" f ∧ Binds K fd ps [] ∧ FnOk P w K mg base (L2.CX P w) 9 f fd ps (spLnTurn C kk Rs Er)
theorem ln_zip {pr e : Addr} {n : Int} : (nsLine.zip [V.ref pr, .int n, .ref e]).lookup ("turn" : Str) = none := zf_no (by decide +kernel)
theorem ok_turned {f : Addr} {fd : FuncData} (F : Fun K "_law_turned" "_law_turned" s_turned f fd) (A1 : RoomApi P w K mg base C kk Rs hsL) (A2 : EarApi P w K mg base CE Er esL) (A3 : LineApi P w K mg base CL kk Rs Er) (clE : Cls K CE) (LT : LTxt mg) (DW : Def P w K mg base "_law_whole" 1 p_whole spWhole)
    (DC : Def P w K mg base "_law_changes" 3 p_changes (spChanges K)) : FnOk P w K mg base CX0 10 f fd p_turned (spTurned7 Rs Er CL) := by
  obtain ⟨fW, fdW, gW, kW, bW, GW⟩ := DW.ex
  obtain ⟨fC, fdC, gC, kC, bC, GC⟩ := DC.ex
  obtain ⟨fD, fdD, psD, mD, bD, GD⟩ := A2.heard.ex
  obtain ⟨fT, fdT, psT, mT, bT, GT⟩ := A3.turn
  refine F.ok sc_turned (fun vs H Q E h => ?_) (fun cdv A outer s H vs Q E hr h => ?_)
  · obtain ⟨H0, F, Fe, p, ro, ts, s, q, zs, n, lp, e, pd, al, als, w, b, gv, tk, z, most, luck, rfl, _⟩ := h
    rfl
  · obtain ⟨H0, Fo, Fe, p, ro, ts, sm, q, zs, n, lp, e, pd, al, als, wt, b, gv, tk, z, most, luck, rfl, ez, S, hn, hm, k⟩ := h
    have hu := hu_of hr
    have hu64 := hr.units
    have R : ∀ j, j ≤ 9 → Room j _ := fun j h => hr.mono h
    refine ⟨_, pss_cons (ps_set (i := 6) sc_turned.nd rfl (Or.inl rfl) (pe_slice sl_list (pe_lc (own := [("_law_one", 10)]) (g := gName 10) (te := tVar 10) rfl sc_turned.nd (pi_list (pv 1)) (blkOk_by (own := [("_law_one", 10)]) (N := n_turned) (sc := defScope s_turned) (by decide +kernel))
          (fun _ _ _ _ _ => pg_name (i := 10) sc_turned.nd rfl (Or.inl rfl) (Or.inr rfl))
          (fun _ _ _ _ _ => pts_one (PW.pt (pw_and (pt_cmpR op_gt (pe_ix (r := rIxT K) ix_tup (pv 10) pe_int (fun _ _ => rfl)) (pe_dget hu (pv 3) pe_str (fun _ _ => rfl)) (nomark _))
            (pw_and1 (pt_cmpR op_eq (pe_slice sl_str (pe_ix (r := rIxT K) ix_tup (pv 10) pe_int (fun _ _ => rfl)) po_none (po_some (pe_callB call_len_str (by rfl) LT.len PySem.boot_len (pa_cons (pv 2) pa_nil)))) (pv 2) (nomark _))))))
          (fun _ _ _ _ _ => pv 10)) po_none (po_some (pv 4))))
      (pss_cons (ps_set (i := 7) sc_turned.nd rfl (Or.inl rfl) (pe_dget hu (pv 3) pe_str (fun _ _ => rfl)))
      (C8.pss_cut (ps_if (pt_cmpR op_lt (pe_callB call_len_seq (by rfl) LT.len PySem.boot_len (pa_cons (pv 6) pa_nil)) (pv 4) (nomark _)) (pss_one (ps_set (i := 7) sc_turned.nd rfl (Or.inl rfl) (pe_callB call_len_seq (by rfl) LT.len PySem.boot_len (pa_cons (pv 1) pa_nil))))
        (pss_one (ps_if (pt_cmpR (op_neD hu64) (pv 6) (pe_lst pa_nil) (nomark _)) (pss_one (ps_set (i := 7) sc_turned.nd rfl (Or.inl rfl) (pe_ix ix_tup (pe_ix ix_list (pv 6) (pe_un un_neg pe_int) (fun _ _ => rfl)) pe_int (fun _ _ => rfl)))) pss_nil)))
      (C8.pss_cut (ps_if (pt_cmpR op_eq (pv 5) pe_int (nomark _)) (pss_one (ps_set (i := 6) sc_turned.nd rfl (Or.inl rfl) (pe_lst pa_nil))) pss_nil)
      (C8.pss_cut (ps_if (pt_cmpR op_eq (pv 5) pe_int (nomark _)) (pss_one (ps_set (i := 6) sc_turned.nd rfl (Or.inl rfl) (pe_slice sl_list (pv 6) po_none (po_some (pe_op op_fdiv (pe_callB call_len_seq (by rfl) LT.len PySem.boot_len (pa_cons (pv 6) pa_nil)) pe_int))))) pss_nil)
      (pss_cons (ps_setLc (i := 8) (own := [("_law_one", 10)]) (g := gName 10) (te := tVar 10) rfl sc_turned.nd rfl rfl rfl (pi_list (pv 6)) (blkOk_by (own := [("_law_one", 10)]) (N := n_turned) (sc := defScope s_turned) (by decide +kernel))
          (fun _ _ _ _ _ => pg_name (i := 10) sc_turned.nd rfl (Or.inl rfl) (Or.inr rfl))
          (fun _ _ _ _ _ => pts_one (pt_cmpR op_gt (pe_ix (r := rIxT K) ix_tup (pv 10) pe_int (fun _ _ => rfl)) (pe_dget hu (pv 3) pe_str (fun _ _ => rfl)) (nomark _)))
          (fun _ _ _ _ _ => pv 10))
      (C8.pss_cut (ps_if (pt_cmpR (op_neD hu64) (pv 8) (pe_lst pa_nil) (nomark _)) (pss_one (ps_dput hu (pv 3) pe_str (pe_ix ix_tup (pe_ix ix_list (pv 8) (pe_un un_neg pe_int) (fun _ _ => rfl)) pe_int (fun _ _ => rfl)) rfl)) pss_nil)
      (C8.pss_cut (ps_if (pt_cmpR op_eq (pv 5) pe_int (nomark _)) (pss_one (ps_dput hu (pv 3) pe_str (pv 7) rfl)) pss_nil)
      (pss_cons (ps_dput hu (pv 3) pe_str (pe_op op_cat (pe_dget hu (pv 3) pe_str (fun _ _ => rfl)) (pv 8)) rfl)
      (pss_cons (ps_set (i := 9) sc_turned.nd rfl (Or.inl rfl) (pe_meth (E := E0) (pv 0) A3.cl mT GT (R 9 (by decide)) bT .nil (passes_call takes0 (fun _ _ _ _ h => h)) (pa_cons (pv 4) (pa_cons (pv 5) pa_nil))))
      (pss_one (ps_ret (pe_and (pe_call GW (R 1 (by decide)) rfl gW kW bW .nil pass0 (pa_cons (pv 9) pa_nil)) (pe_and (pe_cmpR op_eq (pv 9) (pe_callB call_len_seq (by rfl) LT.len PySem.boot_len (pa_cons (pv 8) pa_nil)) (nomark _))
        (pe_one (pe_call GC (R 3 (by decide)) rfl gC kC bC .nil pass0 (pa_cons (pe_meth0 (E := E0) (pe_fld (pv 0) rfl) clE mD GD (R 4 (by decide)) bD .nil pass0) (pa_cons (pe_dget hu (pv 3) pe_str (fun _ _ => rfl)) pa_nil))))))))))))))))), ?_⟩
    obtain ⟨dx, hln⟩ := S.ln
    have oz : TOk 60 z := by rw [ez]; exact S.oz
    have ndx := S.nd
    simp only [List.nodup_cons, List.mem_cons, List.not_mem_nil, or_false, not_or] at ndx
    obtain ⟨⟨ro_q, ro_lp, ro_pd, ro_al⟩, ⟨q_lp, q_pd, q_al⟩, ⟨lp_pd, lp_al⟩, pd_al, _⟩ := ndx
    have bl := S.r.b1
    have w0 := S.w0
    have nu := S.r.rw_.nu
    have ewt := S.wt
    have ag := S.r.gone
    -- the row
    refine ⟨_, rfl, ro, rfl, ⟨_, SqL.of S.r.rw_.at_⟩, fun D hD => ?_⟩
    have pdD : pd ≠ D := ne_of_none S.pd_ hD
    have roD : ro ≠ D := ne_of_none S.r.rw_.at_ hD
    refine lc_list (xs := ts.map V.ref) (fun j H' => Ch (upd H D (.lst [])) H' [D] ∧ ∃ ds, H' D = some (.lst (ds.map V.ref)) ∧ RowsAt H' ds ((sm.rows.take j).filter fun r => decide (r.n > wt.told) && isPre wt.pre r.k)) ⟨Ch.refl _ _, [], upd_same, .nil⟩ ?_ ?_ ?_
    · rintro j H' _ ⟨c, _⟩
      exact SqL.of (c.at (same_new hD _ _ S.r.rw_.at_) fun z => roD (List.mem_singleton.mp z))
    · rintro j y H3 hy ⟨c, ds, hd, mds⟩
      obtain ⟨t1, ro1, rfl, hro, ht⟩ := RowsAt.at S.r.rw_.rr hy
      have ht3 := c.tup _ _ (same_new hD _ _ ht)
      have hp3 := c.at (same_new hD _ _ S.pd_) fun z => pdD (List.mem_singleton.mp z)
      have okr : ro1.Ok := S.r.rw_.ok ro1 (List.mem_of_getElem? hro)
      have stp : sm.rows.take (j + 1) = sm.rows.take j ++ [ro1] := by rw [List.take_add_one, hro]; rfl
      have stay : (decide (ro1.n > wt.told) && isPre wt.pre ro1.k) = false → Ch (upd H D (.lst [])) H3 [D] ∧ ∃ ds, H3 D = some (.lst (ds.map V.ref)) ∧ RowsAt H3 ds ((sm.rows.take (j + 1)).filter fun r => decide (r.n > wt.told) && isPre wt.pre r.k) := fun e => by
        refine ⟨c, ds, hd, ?_⟩
        rw [stp, List.filter_append, List.filter_cons_of_neg (by rw [e]; decide), List.filter_nil, List.append_nil]
        exact mds
      refine ⟨rfl, _, rfl, t1, _, 0, .int ro1.n, rfl, rfl, SqT.of ht3, rfl, _, rfl, pd, _, rfl, pl_had hp3, _, _, rfl, rfl, _, rfl, ?_⟩
      rw [← ewt]
      by_cases c1 : ro1.n > wt.told
      · rw [decide_eq_true c1]
        refine iteT ?_
        refine ⟨_, rfl, t1, _, 3, .str ro1.k, rfl, rfl, SqT.of ht3, rfl, _, rfl, _, rfl, oz.line (by decide), _, rfl, _, rfl, okr.k.line (by decide), _, rfl, rfl, _, rfl, ?_⟩
        rw [ez]
        by_cases c2 : isPre wt.pre ro1.k = true
        · have c2' : cutS ro1.k none (some (wt.pre.length : Int)) = wt.pre := of_decide_eq_true c2
          rw [c2', decide_eq_true rfl]
          refine iteT ?_
          have hlen : ds.length ≤ sm.rows.length := by
            rw [Paired.length mds]
            refine Nat.le_trans (List.length_filter_le _ _) ?_
            rw [List.length_take]
            omega
          refine ⟨_, rfl, _, hd, by rw [List.length_map]; exact small1000 (by omega), c.mut (List.mem_singleton.mpr rfl) upd_same (fun xs e => by cases e), ds ++ [t1], by rw [upd_same, List.map_append]; rfl, ?_⟩
          rw [stp, List.filter_append, List.filter_cons_of_pos (by rw [c2, decide_eq_true c1]; rfl), List.filter_nil]
          have nD : ∀ a xs, H3 a = some (.tup xs) → a ≠ D := fun a xs e => ne_of e hd (by intro q; cases q)
          refine Paired.snoc (mds.keep fun a xs e => by rw [upd_ne (nD a xs e)]; exact e) (by rw [upd_ne (nD _ _ ht3)]; exact ht3)
        · have c2' : ¬ cutS ro1.k none (some (wt.pre.length : Int)) = wt.pre := fun e => c2 (decide_eq_true e)
          rw [decide_eq_false (fun e => c2' (V.str.inj e))]
          exact iteF (stay (by rw [decide_eq_true c1, Bool.true_and]; exact Bool.eq_false_iff.mpr c2))
      · rw [decide_eq_false c1]
        exact iteF (stay (by rw [decide_eq_false c1]; rfl))
    rintro H3 ⟨c, ds, hd, mds⟩
    rw [List.length_map, Paired.length S.r.rw_.rr, List.take_length] at mds
    refine ⟨_, rfl, _, rfl, D, _, rfl, SqL.of hd, fun qa hqa => ?_⟩
    rw [cutV_upto _ hm, ← List.map_take]
    have s3 : Same H H3 := fun b u e => c.at (same_new hD _ _ e) (fun y => (ne_of_none e hD) (List.mem_singleton.mp y))
    have s4 := s3.trans (same_new (o := .lst ((ds.take most.toNat).map V.ref)) hqa)
    have hq4 : upd H3 qa (.lst ((ds.take most.toNat).map V.ref)) qa = some (.lst ((ds.take most.toNat).map V.ref)) := upd_same
    have m4 : RowsAt (upd H3 qa (.lst ((ds.take most.toNat).map V.ref))) (ds.take most.toNat) (dueW sm wt most) := by
      have e : dueW sm wt most = (sm.rows.filter fun r => decide (r.n > wt.told) && isPre wt.pre r.k).take most.toNat := wanted_law nu (by omega)
      rw [e]
      exact (mds.take most.toNat).keep fun a xs e => by rw [upd_ne (ne_of_none e hqa)]; exact e
    try dsimp only
    generalize upd H3 qa (.lst ((ds.take most.toNat).map V.ref)) = H4 at s4 hq4 m4
    generalize ds.take most.toNat = us at hq4 m4 ⊢
    clear mds hd c hqa s3
    have lu := Paired.length m4
    have odue : ∀ r ∈ dueW sm wt most, r.Ok := fun r hr => S.r.rw_.ok r (due_in nu r hr).1
    -- up to where it is told
    refine ⟨_, rfl, pd, _, rfl, pl_had (s4 _ _ S.pd_), ?_⟩
    refine ⟨fun σ H' => σ = [some (.ref lp), some (.ref ro), some (.str z), some (.ref pd), some (.int most), some (.int luck), some (.ref qa), some (.int (toldW sm wt most)), none, none, none] ∧ Same H4 H', ?_, ?_⟩
    · refine ⟨_, rfl, qa, _, rfl, .inl (SqL.of hq4), _, rfl, _, _, rfl, rfl, _, rfl, ?_⟩
      rw [List.length_map]
      by_cases c1 : (us.length : Int) < most
      · rw [decide_eq_true c1]
        refine iteT ⟨_, rfl, ro, _, rfl, .inl (SqL.of (s4 _ _ S.r.rw_.at_)), ?_, Same.refl _⟩
        rw [List.length_map, Paired.length S.r.rw_.rr]
        have et : toldW sm wt most = sm.rows.length := by
          unfold toldW
          rw [if_pos (by omega)]
        rw [et]
        rfl
      rw [decide_eq_false c1]
      have et : toldW sm wt most = lastN (wt.told + 1) (dueW sm wt most) := by
        unfold toldW
        rw [if_neg (by omega)]
      refine iteF ⟨_, rfl, (by show 0 ≤ sizeLine; decide), fun l2 hl2 => ?_⟩
      have s5 := same_new (o := .lst []) hl2
      refine ⟨.list ((dueW sm wt most).map Row.D), .list [], .lst (SqL.of (s5 _ _ hq4)) (m4.keep fun a xs e => s5 _ _ e).dp, .lst (SqL.of upd_same) .nil, rows_shaped odue, rfl, ?_⟩
      rw [et]
      cases ed : dueW sm wt most with
      | nil =>
        refine ⟨_, rfl, iteF ⟨?_, s5⟩⟩
        show [_, _, _, _, _, _, _, some (V.int wt.had), _, _, _] = [_, _, _, _, _, _, _, some (V.int (wt.told + 1 - 1)), _, _, _]
        rw [Int.add_sub_cancel, ewt]
      | cons r0 rr =>
        rw [ed] at m4
        obtain ⟨tz, ro1, ea, hz, e⟩ := RowsAt.last m4 (by simp)
        refine ⟨_, rfl, iteT ⟨_, rfl, _, rfl, qa, _, _, _, rfl, rfl, SqL.of (s5 _ _ hq4), ea, tz, _, 0, .int ro1.n, rfl, rfl, SqT.of (s5 _ _ hz), rfl, ?_, s5⟩⟩
        have e2 : lastN (wt.told + 1) (r0 :: rr) = ro1.n := by
          unfold lastN
          rw [List.getLast?_eq_getElem?, e]
        rw [e2]
        rfl
    rintro σ H5 ⟨rfl, s5⟩
    have s45 := s4.trans s5
    have hq5 := s5 _ _ hq4
    have m5 := m4.keep fun a xs e => s5 _ _ e
    clear hq4 m4 s4
    -- what of it comes
    refine ⟨fun σ H' => ∃ qb us', σ = [some (.ref lp), some (.ref ro), some (.str z), some (.ref pd), some (.int most), some (.int luck), some (.ref qb), some (.int (toldW sm wt most)), none, none, none] ∧ Same H5 H' ∧ H' qb = some (.lst (us'.map V.ref)) ∧ RowsAt H' us' (if luck = 1 then [] else dueW sm wt most), ?_, ?_⟩
    · refine ⟨_, rfl, rfl, _, rfl, ?_⟩
      by_cases c1 : luck = 1
      · rw [decide_eq_true (congrArg V.int c1)]
        refine iteT ⟨(by show 0 ≤ sizeLine; decide), fun l hl => ⟨l, [], rfl, same_new hl, upd_same, ?_⟩⟩
        rw [if_pos c1]; exact .nil
      · rw [decide_eq_false fun z => c1 (V.int.inj z)]
        refine iteF ⟨qa, us, rfl, Same.refl _, hq5, ?_⟩
        rw [if_neg c1]; exact m5
    rintro σ H6 ⟨qb, us', rfl, s6, hq6, m6⟩
    refine ⟨fun σ H' => ∃ qb us', σ = [some (.ref lp), some (.ref ro), some (.str z), some (.ref pd), some (.int most), some (.int luck), some (.ref qb), some (.int (toldW sm wt most)), none, none, none] ∧ Same H5 H' ∧ H' qb = some (.lst (us'.map V.ref)) ∧ RowsAt H' us' (arriveM (dueW sm wt most) luck), ?_, ?_⟩
    · refine ⟨_, rfl, rfl, _, rfl, ?_⟩
      by_cases c3 : luck = 3
      · rw [decide_eq_true (congrArg V.int c3)]
        have c1 : ¬ luck = 1 := by omega
        rw [if_neg c1] at m6
        refine iteT ⟨_, rfl, _, rfl, qb, _, rfl, .inl (SqL.of hq6), _, _, rfl, rfl, ⟨by decide, by decide⟩, _, rfl, qb, _, rfl, SqL.of hq6, fun l hl => ?_⟩
        have e : ((((us'.map V.ref).length : Nat) : Int) / 2).toNat = (dueW sm wt most).length / 2 := by
          rw [List.length_map, Paired.length m6]
          omega
        rw [cutV_upto _ (by omega), ← List.map_take, e]
        have s1 := same_new (o := .lst ((us'.take ((dueW sm wt most).length / 2)).map V.ref)) hl
        refine ⟨l, _, rfl, s6.trans s1, upd_same, ?_⟩
        unfold arriveM
        rw [if_neg c1, if_pos c3]
        exact (m6.take _).keep fun a xs e => s1 _ _ e
      · rw [decide_eq_false fun z => c3 (V.int.inj z)]
        refine iteF ⟨qb, us', rfl, s6, hq6, ?_⟩
        unfold arriveM
        by_cases c1 : luck = 1
        · rw [if_pos c1] at m6 ⊢; exact m6
        · rw [if_neg c1] at m6 ⊢; rw [if_neg c3]; exact m6
    clear m6 hq6 s6 us' qb hq5 m5 lu
    rintro σ H7 ⟨qb, us', rfl, s7, hq7, m7⟩
    have s07 := s45.trans s7
    clear s45 s5 s7 us qa H3 H6
    have oarr : ∀ r ∈ arriveM (dueW sm wt most) luck, r.Ok := fun r hr => odue r (arrive_sub.subset hr)
    have garr : ∀ r ∈ arriveM (dueW sm wt most) luck, GoodR r := fun r hr => S.r.good r (due_in nu r (arrive_sub.subset hr)).1
    have narr : ∀ r ∈ arriveM (dueW sm wt most) luck, r.n ≤ sm.rows.length := fun r hr => (due_in nu r (arrive_sub.subset hr)).2.2
    have aarr : Asc (arriveM (dueW sm wt most) luck) := (due_asc nu).sublist arrive_sub
    have larr : (arriveM (dueW sm wt most) luck).length ≤ sm.rows.length := by
      refine Nat.le_trans arrive_sub.length_le ?_
      unfold dueW wantedM
      rw [List.length_take]
      refine Nat.le_trans (Nat.min_le_right _ _) (Nat.le_trans (List.length_filter_le _ _) ?_)
      rw [List.length_drop]; omega
    have etk := takeM_asc b (tk := tk) aarr
    have tl1 := takeM_tl b (rs := arriveM (dueW sm wt most) luck) (tk := tk)
    have tn1 := takeM_last b (tk := tk) narr S.tn
    have gt1 := takeM_good (b := b) S.gt garr
    generalize hAr : arriveM (dueW sm wt most) luck = ar at m7 oarr garr narr aarr larr etk tl1 tn1 gt1
    -- the fresh ones
    have hp7 := s07 _ _ S.pd_
    refine ⟨_, rfl, qb, rfl, ⟨_, SqL.of hq7⟩, fun D hD => ?_⟩
    have pdD : pd ≠ D := ne_of_none hp7 hD
    have qbD : qb ≠ D := ne_of_none hq7 hD
    refine lc_list (xs := us'.map V.ref) (fun j H' => Ch (upd H7 D (.lst [])) H' [D] ∧ ∃ ds, H' D = some (.lst (ds.map V.ref)) ∧ RowsAt H' ds ((ar.take j).filter fun r => decide (r.n > lastN b tk))) ⟨Ch.refl _ _, [], upd_same, .nil⟩ ?_ ?_ ?_
    · rintro j H' _ ⟨c, _⟩
      exact SqL.of (c.at (same_new hD _ _ hq7) fun z => qbD (List.mem_singleton.mp z))
    · rintro j y H3 hy ⟨c, ds, hd, mds⟩
      obtain ⟨t1, ro1, rfl, hro, ht⟩ := RowsAt.at m7 hy
      have ht3 := c.tup _ _ (same_new hD _ _ ht)
      have hp3 := c.at (same_new hD _ _ hp7) fun z => pdD (List.mem_singleton.mp z)
      have stp : ar.take (j + 1) = ar.take j ++ [ro1] := by rw [List.take_add_one, hro]; rfl
      refine ⟨rfl, _, rfl, t1, _, 0, .int ro1.n, rfl, rfl, SqT.of ht3, rfl, _, rfl, pd, _, rfl, pl_heard hp3, _, _, rfl, rfl, _, rfl, ?_⟩
      by_cases c1 : ro1.n > lastN b tk
      · rw [decide_eq_true c1]
        refine iteT ?_
        have hlen : ds.length ≤ sm.rows.length := by
          rw [Paired.length mds]
          refine Nat.le_trans (List.length_filter_le _ _) ?_
          rw [List.length_take]
          omega
        refine ⟨_, rfl, _, hd, by rw [List.length_map]; exact small1000 (by omega), c.mut (List.mem_singleton.mpr rfl) upd_same (fun xs e => by cases e), ds ++ [t1], by rw [upd_same, List.map_append]; rfl, ?_⟩
        rw [stp, List.filter_append, List.filter_cons_of_pos (by rw [decide_eq_true c1]), List.filter_nil]
        have nD : ∀ a xs, H3 a = some (.tup xs) → a ≠ D := fun a xs e => ne_of e hd (by intro q; cases q)
        refine Paired.snoc (mds.keep fun a xs e => by rw [upd_ne (nD a xs e)]; exact e) (by rw [upd_ne (nD _ _ ht3)]; exact ht3)
      · rw [decide_eq_false c1]
        refine iteF ⟨c, ds, hd, ?_⟩
        rw [stp, List.filter_append, List.filter_cons_of_neg (by rw [decide_eq_false c1]; decide), List.filter_nil, List.append_nil]
        exact mds
    rintro H8 ⟨c, fs, hf8, mf8⟩
    rw [List.length_map, Paired.length m7, List.take_length] at mf8
    have s8 : Same H H8 := s07.trans fun b u e => c.at (same_new hD _ _ e) (fun y => (ne_of_none e hD) (List.mem_singleton.mp y))
    generalize hFr : (ar.filter fun r => decide (r.n > lastN b tk)) = fr at mf8 etk
    have ofr : ∀ r ∈ fr, r.Ok := fun r hr => by
      rw [← hFr] at hr
      exact oarr r (List.mem_filter.mp hr).1
    have D0 : H D = none := s07.free hD
    have D_pd : D ≠ pd := pdD.symm
    clear c hD pdD qbD hq7 m7 hp7 s07
    refine ⟨fun σ H' => σ = [some (.ref lp), some (.ref ro), some (.str z), some (.ref pd), some (.int most), some (.int luck), some (.ref qb), some (.int (toldW sm wt most)), some (.ref D), none, none] ∧ Ch H8 H' [pd] ∧ H' pd = some (.dK (plD wt.had (lastN b (takeM b tk ar)) al)), ?_, ?_⟩
    · refine ⟨_, rfl, (by show 0 ≤ sizeLine; decide), fun l2 hl2 => ?_⟩
      have s9 := same_new (o := .lst []) hl2
      have hp9 := s9 _ _ (s8 _ _ S.pd_)
      refine ⟨.list (fr.map Row.D), .list [], .lst (SqL.of (s9 _ _ hf8)) (mf8.keep fun a xs e => s9 _ _ e).dp, .lst (SqL.of upd_same) .nil, rows_shaped ofr, rfl, ?_⟩
      rw [etk]
      cases ed : fr with
      | nil =>
        refine ⟨_, rfl, iteF ⟨rfl, Ch.of s9 _, ?_⟩⟩
        rw [List.append_nil]
        exact hp9
      | cons r0 rr =>
        rw [ed] at mf8
        obtain ⟨tz, ro1, ea, hz, e⟩ := RowsAt.last mf8 (by simp)
        refine ⟨_, rfl, iteT ⟨_, rfl, _, rfl, D, _, _, _, rfl, rfl, SqL.of (s9 _ _ hf8), ea, tz, _, 0, .int ro1.n, rfl, rfl, SqT.of (s9 _ _ hz), rfl, _, rfl, pd, _, rfl, DPut.k (k := Sum.inr "heard") hp9 (by show (3 : Nat) < sizeLine; decide), rfl, (Ch.of s9 _).mut (List.mem_singleton.mpr rfl) (s8 _ _ S.pd_) (fun xs e => by cases e), ?_⟩⟩
        have e2 : lastN b (tk ++ r0 :: rr) = ro1.n := by
          unfold lastN
          rw [List.getLast?_append, List.getLast?_eq_getElem? (l := r0 :: rr), e]
          rfl
        rw [upd_same, plp_heard, e2]
    rintro σ H9 ⟨rfl, c9, hp9⟩
    refine ⟨fun σ H' => σ = [some (.ref lp), some (.ref ro), some (.str z), some (.ref pd), some (.int most), some (.int luck), some (.ref qb), some (.int (toldW sm wt most)), some (.ref D), none, none] ∧ Ch H8 H' [pd] ∧ H' pd = some (.dK (plD (if luck = 0 then toldW sm wt most else wt.had) (lastN b (takeM b tk ar)) al)), ?_, ?_⟩
    · refine ⟨_, rfl, rfl, _, rfl, ?_⟩
      by_cases c0 : luck = 0
      · rw [decide_eq_true (congrArg V.int c0), if_pos c0]
        refine iteT ⟨_, rfl, _, rfl, pd, _, rfl, DPut.k (k := Sum.inr "had") hp9 (by show (3 : Nat) < sizeLine; decide), rfl, c9.mut (List.mem_singleton.mpr rfl) (s8 _ _ S.pd_) (fun xs e => by cases e), ?_⟩
        rw [upd_same, plp_had]
      · rw [decide_eq_false fun z => c0 (V.int.inj z), if_neg c0]
        exact iteF ⟨rfl, c9, hp9⟩
    clear c9 hp9 H9
    rintro σ H9 ⟨rfl, c9, hp9⟩
    have one : ∀ {a x : Addr}, a ≠ x → a ∉ [x] := fun h z => h (List.mem_singleton.mp z)
    have al9 := c9.at (s8 _ _ S.al_) (one (Ne.symm pd_al))
    have at9 := (S.at_.keep fun a xs e => s8 _ _ e).keep c9.tup
    have hf9 := c9.at hf8 (one D_pd)
    have mf9 := mf8.keep c9.tup
    have bl2 : (tk ++ fr).length ≤ 402 := by
      have h1 := S.tl
      have h2 := S.b1
      rw [etk] at tl1 tn1
      omega
    -- all that is heard
    refine ⟨_, rfl, pd, _, rfl, pl_all hp9, _, rfl, al, D, _, _, rfl, rfl, al9, hf9, ?_, fun al2 hal2 => ?_⟩
    · rw [List.length_map, List.length_map, Paired.length at9, Paired.length mf9]
      rw [List.length_append] at bl2
      exact Nat.le_of_lt (small1000 (by omega))
    rw [← List.map_append]
    have s10 := same_new (o := .lst ((als ++ fs).map V.ref)) hal2
    have hp10 := s10 _ _ hp9
    have al10 : upd H9 al2 (.lst ((als ++ fs).map V.ref)) al2 = some (.lst ((als ++ fs).map V.ref)) := upd_same
    have at10 : RowsAt (upd H9 al2 (.lst ((als ++ fs).map V.ref))) (als ++ fs) (takeM b tk ar) := by
      rw [etk]
      exact (rows_app at9 mf9).keep fun a xs e => s10 _ _ e
    have hf10 := s10 _ _ hf9
    have pd_al2 : pd ≠ al2 := ne_of_none hp9 hal2
    have al20 : H al2 = none := s8.free (c9.none _ hal2)
    try dsimp only
    generalize upd H9 al2 (.lst ((als ++ fs).map V.ref)) = H10 at s10 hp10 al10 at10 hf10
    refine ⟨_, rfl, pd, _, rfl, DPut.k (k := Sum.inr "all") hp10 (by show (3 : Nat) < sizeLine; decide), ?_⟩
    rw [plp_all]
    have c11 : Ch H (upd H10 pd (.dK (plD (if luck = 0 then toldW sm wt most else wt.had) (lastN b (takeM b tk ar)) al2))) [pd] := (((Ch.of s8 _).trans c9).same s10).mut (List.mem_singleton.mpr rfl) S.pd_ (fun xs e => by cases e)
    have hp11 : upd H10 pd (.dK (plD (if luck = 0 then toldW sm wt most else wt.had) (lastN b (takeM b tk ar)) al2)) pd = some (.dK (plD (if luck = 0 then toldW sm wt most else wt.had) (lastN b (takeM b tk ar)) al2)) := upd_same
    have al11 : upd H10 pd (.dK (plD (if luck = 0 then toldW sm wt most else wt.had) (lastN b (takeM b tk ar)) al2)) al2 = some (.lst ((als ++ fs).map V.ref)) := by rw [upd_ne pd_al2.symm]; exact al10
    have hf11 : upd H10 pd (.dK (plD (if luck = 0 then toldW sm wt most else wt.had) (lastN b (takeM b tk ar)) al2)) D = some (.lst (fs.map V.ref)) := by rw [upd_ne D_pd]; exact hf10
    have at11 : RowsAt (upd H10 pd (.dK (plD (if luck = 0 then toldW sm wt most else wt.had) (lastN b (takeM b tk ar)) al2))) (als ++ fs) (takeM b tk ar) := at10.keep fun a xs e => by rw [upd_ne (ne_of e hp10 (by intro z; cases z))]; exact e
    have lf : fs.length = fr.length := Paired.length mf9
    try dsimp only
    generalize upd H10 pd (.dK (plD (if luck = 0 then toldW sm wt most else wt.had) (lastN b (takeM b tk ar)) al2)) = H11 at c11 hp11 al11 hf11 at11
    clear s10 hp10 al10 at10 hf10 hal2 mf9 hf9 at9 al9 c9 hp9 s8 mf8 hf8
    -- the line's own turn
    have oF := S.oF
    have oE := S.oE
    have hln11 := c11.at hln (one lp_pd)
    have pdF : pd ∉ Fo := oF pd (by simp)
    have pdE : pd ∉ Fe := oE pd (by simp)
    have R11 := A1.frame S.r.rs c11 fun a ha z => pdF (by rw [← List.mem_singleton.mp z]; exact ha)
    have E11 := A2.frame S.er c11 fun a ha z => pdE (by rw [← List.mem_singleton.mp z]; exact ha)
    refine ⟨_, rfl, lp, dx, _, rfl, hln11, ln_zip, _, rfl, _, rfl, lp, p, e, 1, most, luck, Fo, Fe, sm, b, gv, tk, rfl, ⟨dx, hln11⟩, R11, E11, oF lp (by simp), oE lp (by simp), S.d, S.r.fits (by omega), hm, ?_, S.r.good, (fun z => by rw [S.wa] at z; cases z), fun w1 ew1 F2 Fe2 H12 s2 w2 k1 k2 es R12 E12 L12 gr gre dj2 lpF2 lpE2 c12 => ?_⟩
    · have h1 := S.tl
      have h2 := S.tn
      have h3 := S.b1
      have h4 := S.gl
      omega
    rw [S.wa] at ew1
    cases ew1
    rw [hAr] at E12 ⊢
    have ex11 : ∀ {a : Addr}, (∃ o, H11 a = some o) → a ∉ Fo → a ∉ F2 := fun {a} x n z => by
      rcases gr a z with z | z
      · exact n z
      · obtain ⟨o, e⟩ := x
        rw [e] at z; cases z
    have ex11e : ∀ {a : Addr}, (∃ o, H11 a = some o) → a ∉ Fe → a ∉ Fe2 := fun {a} x n z => by
      rcases gre a z with z | z
      · exact n z
      · obtain ⟨o, e⟩ := x
        rw [e] at z; cases z
    have far : ∀ {a : Addr}, a ∉ Fo → a ∉ Fe → a ∉ Fo ++ Fe := fun h1 h2 z => (List.mem_append.mp z).elim h1 h2
    have al2F : al2 ∉ Fo := fun z => by
      obtain ⟨o, e⟩ := A1.own S.r.rs _ z
      rw [al20] at e; cases e
    have al2E : al2 ∉ Fe := fun z => by
      obtain ⟨o, e⟩ := A2.own S.er _ z
      rw [al20] at e; cases e
    have hp12 := c12.at hp11 (far pdF pdE)
    have al12 := c12.at al11 (far al2F al2E)
    have DF : D ∉ Fo := fun z => by
      obtain ⟨o, e⟩ := A1.own S.r.rs _ z
      rw [D0] at e; cases e
    have DE : D ∉ Fe := fun z => by
      obtain ⟨o, e⟩ := A2.own S.er _ z
      rw [D0] at e; cases e
    have hf12 := c12.at hf11 (far DF DE)
    have at12 := at11.keep c12.tup
    refine ⟨_, rfl, _, true, rfl, .inl ⟨⟨_, rfl⟩, rfl⟩, true, rfl, iteT ⟨_, rfl, _, rfl, D, _, rfl, .inl (SqL.of hf12), rfl, ?_⟩⟩
    have e5 : (((takeM b tk ar).length : Int) - tk.length) = (((fs.map V.ref).length : Nat) : Int) := by
      rw [etk, List.length_append, List.length_map, lf]
      omega
    rw [decide_eq_true (congrArg V.int e5)]
    refine ⟨true, rfl, iteT ?_⟩
    obtain ⟨dx12, hln12⟩ := L12
    obtain ⟨_, dxe, fse, hobe, hfe⟩ := A2.inst E12
    refine ⟨_, rfl, lp, CL, dx12, _, _, rfl, hln12, A3.cl, A3.n2, zf_get (i := 2) (by decide +kernel) rfl, e, dxe, fse, rfl, hobe, hfe _ (by simp), Fe2, e, b, gv, _, rfl, E12, fun Fe3 q8 t8 H13 E13 gr3 c13 hq8n q8E hq8 m8 => ?_⟩
    have lpE : lp ∉ Fe2 := lpE2
    have hp13 := c13.at hp12 (ex11e ⟨_, hp11⟩ pdE)
    have al13 := c13.at al12 (ex11e ⟨_, al11⟩ al2E)
    have at13 := at12.keep c13.tup
    refine ⟨_, rfl, pd, _, rfl, pl_all hp13, q8, al2, t8, _, _, rfl, hq8, al13, m8, at13, (fun r hr => (gt1 r hr).ok), ?_⟩
    have c14 : Ch H13 (upd H13 q8 (.lst [])) [q8] := (Ch.refl _ _).mut (List.mem_singleton.mpr rfl) hq8 (fun xs e => by cases e)
    generalize upd H13 q8 (.lst []) = H14 at c14 ⊢
    have h8n : H11 q8 = none := c12.none _ hq8n
    have nq8 : ∀ {a : Addr} {o : HO}, H11 a = some o → a ∉ [q8] := fun {a o} e z => by rw [List.mem_singleton.mp z, h8n] at e; cases e
    have nq8' : ∀ {a : Addr}, (∃ o, H12 a = some o) → a ∉ [q8] := fun {a} x z => by
      obtain ⟨o, e⟩ := x
      rw [List.mem_singleton.mp z, hq8n] at e; cases e
    have R14 := A1.frame (A1.frame R12 c13 fun a ha z => dj2 a z ha) c14 fun a ha => nq8' (A1.own R12 a ha)
    have E14 := A2.frame E13 c14 fun a ha z => q8E (by rw [← List.mem_singleton.mp z]; exact ha)
    have exo : ∀ {a : Addr} {o : HO}, H11 a = some o → a ∉ Fo → a ∉ Fe → H14 a = some o := fun {a o} e n1 n2 => c14.at (c13.at (c12.at e (far n1 n2)) (ex11e ⟨_, e⟩ n2)) (nq8 e)
    have ro11 := c11.at S.r.rw_.at_ (one ro_pd)
    have q11 := c11.at S.r.po.at_ (one q_pd)
    have w2h : w2.told = w2.had ∧ w2.pre = wt.pre ∧ w2.had = (if luck = 0 then toldW sm wt most else wt.had) := by
      by_cases c0 : luck = 0
      · rw [k1 c0, if_pos c0]; exact ⟨rfl, rfl, rfl⟩
      · rw [k2 c0, if_neg c0]; exact ⟨rfl, rfl, rfl⟩
    obtain ⟨v1, v2, v3⟩ := w2h
    have tw := toldW_le nu (w := wt) (m := most) (by rw [ewt]; exact S.w1)
    have w1 := S.w1
    have roE := oE ro (by simp)
    have qE := oE q (by simp)
    have rr14 : RowsAt H14 ts sm.rows := (((S.r.rw_.rr.keep c11.tup).keep c12.tup).keep c13.tup).keep c14.tup
    have old14 : Same H0 H14 := by
      have o11 := c11.old S.r.old fun a ha => by rw [List.mem_singleton.mp ha]; exact S.nP
      have o12 := c12.old o11 fun a ha => (List.mem_append.mp ha).elim (S.r.no a) (S.nE a)
      have o13 := c13.old o12 fun a ha => by
        rcases gre a ha with z | z
        · exact S.nE a z
        · exact o11.free z
      exact c14.old o13 fun a ha => by rw [List.mem_singleton.mp ha]; exact o11.free h8n
    have up : ∀ {a : Addr}, H11 a = none → H0 a = none := fun {a} z => S.r.old.free (c11.none a z)
    have es1 : s2.rows = sm.rows := by rw [es]
    have P14 : P7 Rs H0 H14 F2 p ro ts s2 q zs n := by
      refine ⟨R14, by rw [es1]; exact ⟨exo ro11 S.r.r1 roE, rr14, S.r.rw_.ok, nu⟩, by rw [es1]; exact S.r.good, by rw [es]; exact S.r.held, by rw [es]; exact S.r.now, by rw [es]; exact ag, ex11 ⟨_, ro11⟩ S.r.r1, ⟨exo q11 S.r.q1 qE, S.r.po.six, S.r.po.ok⟩, ex11 ⟨_, q11⟩ S.r.q1, S.r.q2, by rw [es1]; exact bl, by rw [es]; exact S.r.b2, by rw [es]; exact S.r.b3, old14, fun a ha => ?_, S.r.nr⟩
      rcases gr a ha with z | z
      · exact S.r.no a z
      · exact up z
    have ne2 : ∀ {a : Addr} {o : HO}, H a = some o → a ≠ al2 := fun {a o} e z => by rw [z, al20] at e; cases e
    have gE14 : Grow Fe Fe3 H := fun a ha => by
      rcases gr3 a ha with z | z
      · exact (gre a z).imp id (c11.none a)
      · exact .inr (c11.none a (c12.none a z))
    have c014 : Ch H H14 (pd :: (Fo ++ Fe)) := by
      refine ⟨fun x o y nn => ?_, fun x o y => ?_⟩
      · rcases nn with nn | nn
        · have n1 : x ∉ [pd] := fun z => nn (by rw [List.mem_singleton.mp z]; exact List.mem_cons_self)
          have n2 : x ∉ Fo ++ Fe := fun z => nn (List.mem_cons_of_mem _ z)
          have y11 := c11.at y n1
          have y12 := c12.at y11 n2
          exact c14.at (c13.at y12 (ex11e ⟨_, y11⟩ fun z => n2 (List.mem_append_right _ z))) (nq8 y11)
        · exact c14.st _ _ (c13.st _ _ (c12.st _ _ (c11.st _ _ y (.inr nn)) (.inr nn)) (.inr nn)) (.inr nn)
      · obtain ⟨o1, y1⟩ := c11.th x o y
        obtain ⟨o2, y2⟩ := c12.th x _ y1
        obtain ⟨o3, y3⟩ := c13.th x _ y2
        exact c14.th x _ y3
    refine k F2 Fe3 s2 al2 (als ++ fs) w2 (takeM b tk ar) H14 ⟨P14, ⟨dx12, c14.at (c13.at hln12 lpE2) (nq8' ⟨_, hln12⟩)⟩, E14, ?_, v1, ?_, ?_, by rw [v2]; exact S.oz, ?_, exo al11 al2F al2E, at13.keep c14.tup, gt1, S.b1, S.gl, ?_, by rw [es1]; exact tn1, fun a ha z => ?_, fun a ha => ?_, fun a ha z => ?_, ?_, fun a ha => ?_, S.nP⟩ es1 v2 (fun c0 => by rw [v3, if_pos c0]) (fun a ha => (gr a ha).imp id (c11.none a)) gE14 c014
    · rw [es]
      simp [setF]
    · rw [v3]
      by_cases c0 : luck = 0
      · rw [if_pos c0]; omega
      · rw [if_neg c0]; exact w0
    · rw [v3, es1]
      by_cases c0 : luck = 0
      · rw [if_pos c0]; exact tw.2
      · rw [if_neg c0]; exact w1
    · rw [v3]
      exact exo hp11 pdF pdE
    · have h1 := S.tl
      omega
    · rcases gr3 a ha with y | y
      · exact dj2 a y z
      · obtain ⟨o, x⟩ := A1.own R12 a z
        rw [y] at x; cases x
    · simp only [List.mem_cons, List.not_mem_nil, or_false] at ha
      rcases ha with rfl | rfl | rfl
      · exact lpF2
      · exact ex11 ⟨_, hp11⟩ pdF
      · exact ex11 ⟨_, al11⟩ al2F
    · rcases gr3 a z with y | y
      · simp only [List.mem_cons, List.not_mem_nil, or_false] at ha
        rcases ha with rfl | rfl | rfl | rfl | rfl
        · exact ex11e ⟨_, ro11⟩ roE y
        · exact ex11e ⟨_, q11⟩ qE y
        · exact lpE2 y
        · exact ex11e ⟨_, hp11⟩ pdE y
        · exact ex11e ⟨_, al11⟩ al2E y
      · simp only [List.mem_cons, List.not_mem_nil, or_false] at ha
        rcases ha with rfl | rfl | rfl | rfl | rfl
        · rw [c12.at ro11 (far S.r.r1 roE)] at y; cases y
        · rw [c12.at q11 (far S.r.q1 qE)] at y; cases y
        · rw [hln12] at y; cases y
        · rw [hp12] at y; cases y
        · rw [al12] at y; cases y
    · simp only [List.nodup_cons, List.mem_cons, List.not_mem_nil, or_false, not_or, not_false_eq_true, List.nodup_nil, and_true]
      exact ⟨⟨ro_q, ro_lp, ro_pd, ne2 S.r.rw_.at_⟩, ⟨q_lp, q_pd, ne2 S.r.po.at_⟩, ⟨lp_pd, ne2 hln⟩, pd_al2⟩
    · rcases gr3 a ha with z | z
      · rcases gre a z with y | y
        · exact S.nE a y
        · exact up y
      · exact up (c12.none a z)
theorem L7.mono {H0 H : Hp} {F Fe : List Addr} {p ro : Addr} {ts : List Addr} {s : Rm} {q : Addr} {zs : List Str} {n m : Nat} {lp e pd al : Addr} {als : List Addr} {wt : Wt} {b : Int} {gv : KVs} {tk : List Row} (A : L7 Rs Er CL H0 H F Fe p ro ts s q zs n lp e pd al als wt b gv tk) (h : n ≤ m) : L7 Rs Er CL H0 H F Fe p ro ts s q zs m lp e pd al als wt b gv tk :=
  ⟨A.r.mono h, A.ln, A.er, A.wa, A.wt, A.w0, A.w1, A.oz, A.pd_, A.al_, A.at_, A.gt, A.b1, A.gl, A.tl, A.tn, A.d, A.oF, A.oE, A.nd, A.nE, A.nP⟩
/-- a fresh object more -/
theorem L7.same {hs : List Str} {hs2 : List Str} (A1 : RoomApi P w K mg base C kk Rs hs) (A2 : EarApi P w K mg base CE Er hs2) {H0 H H' : Hp} {F Fe : List Addr} {p ro : Addr} {ts : List Addr} {s : Rm} {q : Addr} {zs : List Str} {n : Nat} {lp e pd al : Addr} {als : List Addr} {wt : Wt} {b : Int} {gv : KVs} {tk : List Row}
    (A : L7 Rs Er CL H0 H F Fe p ro ts s q zs n lp e pd al als wt b gv tk) (c : Same H H') : L7 Rs Er CL H0 H' F Fe p ro ts s q zs n lp e pd al als wt b gv tk :=
  ⟨A.r.same A1 (Ch.of c []) (fun _ _ z => nomatch z) (fun z => nomatch z) (fun z => nomatch z) (fun _ z => nomatch z), let ⟨dx, h⟩ := A.ln; ⟨dx, c _ _ h⟩, A2.frame A.er (Ch.of c []) (fun _ _ z => nomatch z), A.wa, A.wt, A.w0, A.w1, A.oz, c _ _ A.pd_, c _ _ A.al_, A.at_.keep fun a xs e => c _ _ e, A.gt, A.b1, A.gl, A.tl, A.tn, A.d, A.oF, A.oE, A.nd, A.nE, A.nP⟩
/-- a change more -/
theorem L7.put {hs : List Str} {hs2 : List Str} (A1 : RoomApi P w K mg base C kk Rs hs) (A2 : EarApi P w K mg base CE Er hs2) {H0 H H' : Hp} {F F' Fe : List Addr} {p ro : Addr} {ts ts' : List Addr} {s s' : Rm} {q : Addr} {zs : List Str} {n : Nat} {lp e pd al : Addr} {als : List Addr} {wt : Wt} {b : Int} {gv : KVs} {tk : List Row}
    (A : L7 Rs Er CL H0 H F Fe p ro ts s q zs n lp e pd al als wt b gv tk) (P' : P7 Rs H0 H' F' p ro ts' s' q zs (n + 1)) (e1 : s'.wat = s.wat) (e2 : s.rows.length ≤ s'.rows.length) (gr : Grow F F' H) (c : Ch H H' (ro :: F)) : L7 Rs Er CL H0 H' F' Fe p ro ts' s' q zs (n + 1) lp e pd al als wt b gv tk := by
  have nd := A.nd
  simp only [List.nodup_cons, List.mem_cons, List.not_mem_nil, or_false, not_or] at nd
  obtain ⟨⟨ro_q, ro_lp, ro_pd, ro_al⟩, ⟨q_lp, q_pd, q_al⟩, ⟨lp_pd, lp_al⟩, pd_al, _⟩ := nd
  have out : ∀ {a : Addr}, ro ≠ a → a ∉ F → a ∉ ro :: F := fun h1 h2 z => (List.mem_cons.mp z).elim (fun y => h1 y.symm) h2
  have far : ∀ {a : Addr} {o : HO}, H a = some o → a ∉ F → a ∉ F' := fun {a o} e n z => by
    rcases gr a z with z | z
    · exact n z
    · rw [e] at z; cases z
  obtain ⟨dx, h⟩ := A.ln
  have w1 := A.w1
  have tn := A.tn
  refine ⟨P', ⟨dx, c.at h (out ro_lp (A.oF _ (by simp)))⟩, A2.frame A.er c fun a ha z => ?_, e1 ▸ A.wa, A.wt, A.w0, by omega, A.oz, c.at A.pd_ (out ro_pd (A.oF _ (by simp))), c.at A.al_ (out ro_al (A.oF _ (by simp))), A.at_.keep c.tup, A.gt, A.b1, A.gl, A.tl, by omega, fun a ha z => ?_, fun a ha => ?_, A.oE, A.nd, A.nE, A.nP⟩
  · rcases List.mem_cons.mp z with z | z
    · exact A.oE ro (by simp) (z ▸ ha)
    · exact A.d a ha z
  · rcases gr a z with y | y
    · exact A.d a ha y
    · obtain ⟨o, x⟩ := A2.own A.er a ha
      rw [y] at x; cases x
  · simp only [List.mem_cons, List.not_mem_nil, or_false] at ha
    rcases ha with rfl | rfl | rfl
    · exact far h (A.oF _ (by simp))
    · exact far A.pd_ (A.oF _ (by simp))
    · exact far A.al_ (A.oF _ (by simp))
end
end KL

/-! rules of our own: o.m(e, .., k = v) -/
namespace LX
open PySem PySem.Spec PyProof.Rows L2 L2H
def tMethN (C : Addr) (m : Str) (n nk : Nat) (sp : Sp) (gV : List V → List V → List V) (E : XK) (ta : TE) (t tk : TA) : TE := fun σ H Q => ta σ H fun x H1 => ∃ a dx fs, x = .ref a ∧ H1 a = some (.ins C dx fs) ∧ fs.lookup m = none ∧
  t σ H1 fun vs H2 => tk σ H2 fun zs H3 => (x :: vs).length = n ∧ zs.length = nk ∧ sp (gV (x :: vs) zs) H3 Q E
section
variable {X : Cx} {CX : CXT} {k n : Nat} {f C : Addr} {fd : FuncData} {ps ks : List Str} {sp : Sp} {E : XK} {m : Str} {pos apos : Pos} {e o : Expr} {es : List Expr} {kws : List Keyword} {ta : TE} {t tk : TA} {g : List Value → List Value → List Value} {gV : List V → List V → List V}
theorem pe_methN {pl : Sem Bool} (he : PE X o ta) (c : Cls X.K C) (hm : Meth X.K C m f) (F : FnOk X.prog X.w X.K X.mg X.base CX k f fd ps sp) (hr : Room k X.A) (hb : KBn X.K fd ps n ks g gV) (hx : Passes CX X E) (ha : PA X (e :: es) t) (hkw : PK X kws tk)
    (hall : (backToKw pos (keywordEach kws X.env)).all (·.1.isSome) = true := by rfl) (hks : (backToKw pos (keywordEach kws X.env)).filterMap (·.1) = ks := by rfl)
    (hst : starEach (e :: es) X.env = (false, eval e X.env) :: starEach es X.env := by rfl)
    (hpl : ((backTo pos (starEach (e :: es) X.env)).any (·.1) || (backToKw pos (keywordEach kws X.env)).any (·.1.isNone)) = false := by rfl)
    (ht : eval (.Call (.Attribute o m apos) (e :: es) kws pos) X.env = (do
      let ov ← eval o X.env
      standAt apos.atName
      let (f, first) ← holding [ov] (getMethod ov m pl)
      callWith pos f first (backTo pos (starEach (e :: es) X.env)) (backToKw pos (keywordEach kws X.env))) := by rfl) :
    PE X (.Call (.Attribute o m apos) (e :: es) kws pos) (tMethN C m n ks.length sp gV E ta t tk) := by
  refine ⟨fun pins s σ H Q I h => ?_⟩
  refine PySem.W.methodCall_KW (pl := pl) (thn (he.run pins s σ H _ I h) fun u s1 ⟨x, H1, I1, rx, a, dx, fs, ex, ea, l, q⟩ => ?_) ht
  subst ex
  obtain rfl : u = Value.ref a := rx
  refine getmeth_ok I1 ea c hm l ?_
  refine PySem.W.callWith_KW (first := [.ref a]) (h₀ := X.base) I.ok.mod.kin hm.kp hall (thn (ha.run pos pins s1 σ H1 _ I1 q) fun us s2 ⟨vs, H2, I2, r, q2⟩ => ?_) hpl hst
  refine thn (hkw.run pos pins s2 σ H2 _ I2 q2) fun ws s3 ⟨zs, H3, I3, rz, l1, l2, q3⟩ => ⟨I3.kIn, ?_⟩
  rw [hks]
  exact run_fnN (us := .ref a :: us) (vs := .ref a :: vs) F hr hb hx I3 (.cons rfl r) rz l1 l2 q3
end
end LX

namespace KL
open PySem L2 L2H LX KB
/-! ### the law's own: of which class a refusal is -/
inductive K6
  | ticks
  | lease
  | key
  | held
  | start
  | watch
deriving DecidableEq
def K6.s : K6 → Str
  | .ticks => "BadTicks"
  | .lease => "NoLease"
  | .key => "NoKey"
  | .held => "Held"
  | .start => "NoStart"
  | .watch => "NoWatch"
def K6.at_ (kk : Kinds) : K6 → Addr
  | .ticks => kk.BT
  | .lease => kk.NL
  | .key => kk.NK
  | .held => kk.HE
  | .start => kk.NS
  | .watch => kk.NW
/-- just that one of the six, and a ValueError -/
structure OnlyT (K : PySem.W.Frag) (kk : Kinds) (D : Addr) (i : K6) : Prop where
  C : ExcC K D
  k : ∀ j : K6, PySem.W.kitOne K (.ref D) (.ref (j.at_ kk)) = some (decide (i = j))
  kv : PySem.W.kitOne K (.ref D) (.type "ValueError") = some true
structure Errs (K : PySem.W.Frag) (mg : Str → Option Value) (kk : Kinds) : Prop where
  gL : mg "LeaseError" = some (.ref kk.LE)
  ve : mg "ValueError" = none
  isi : mg "isinstance" = none
  g : ∀ i : K6, mg i.s = some (.ref (i.at_ kk))
  o : ∀ i : K6, OnlyT K kk (i.at_ kk) i
  e : ∀ i : K6, PySem.W.exmOne K (.ref (i.at_ kk)) (.ref kk.LE) = some true
def spO (kk : Kinds) (a : Addr) (cls : Value) (d : Option Addr) : Sp := fun vs H Q _ => ∃ (i : K6) (w : Str) (r : Bool), vs = [.ref a, .str w] ∧ d = none ∧ cls = .ref (i.at_ kk) ∧ SeqAt.shaped (.list [.str w]) = true ∧ PyData.eqv (.list [.str i.s]) (.list [.str w]) = r ∧ ∀ H', Same H H' → Q (.bl r) H'
def spOnly (kk : Kinds) (p : Addr × Obj) : Sp := spO kk p.1 p.2.cls p.2.dict
theorem k6_shaped (i : K6) : SeqAt.shaped (.list [.str i.s]) = true := by cases i <;> decide +kernel
theorem k6_eqv (i j : K6) : PyData.eqv (.list [.str i.s]) (.list [.str j.s]) = decide (i = j) := by cases i <;> cases j <;> decide +kernel
section
variable {P : Program} {w : World} {K : PySem.W.Frag} {mg : Str → Option Value} {base : Heap}
theorem ok_only {f : Addr} {fd : FuncData} {kk : Kinds} (F : Fun K "_law_only" "_law_only" s_only f fd) (M : Errs K mg kk) : FnP P w K mg base 1 f fd p_only (spOnly kk) := by
  refine okP F sc_only (fun p vs H Q E h => ?_) (fun cdv A outer s H vs Q E p hr hf h => ?_)
  · obtain ⟨i, z, r, rfl, _⟩ := h
    rfl
  · obtain ⟨i, z, r, rfl, hd, hc, hsh, hq, k⟩ := h
    have hu : (A.deeper (PyProof.Rows.envOfC "_law_only" (defScope s_only) s.heap.objs.size f cdv)).units + 64 < cLine := by have := hr.un; omega
    have hz : Zc (.ref (i.at_ kk)) none p.2 := ⟨hc, hd⟩
    have oT := M.o i
    have isP : CallR (cxH CX0 P w K mg base n_only "_law_only" (defScope s_only) f cdv A outer s H E p) (.builtin "isinstance") (rIsE K (i.at_ kk) p.1) := call_isP (a := p.1) (oe := p.2) oT.C (List.mem_singleton.mpr rfl) hz hf
    refine ⟨_, pss_cons (ps_set (i := 2) sc_only.nd rfl (Or.inl rfl) (pe_lst pa_nil))
      (pss_cons (ps_if (pt_val (pe_callB isP (by rfl) M.isi (by decide +kernel) (pa_cons (pv 0) (pa_cons (pe_glob (v := V.ref kk.BT) (by rfl) (M.g .ticks) rfl) pa_nil)))) (pss_one (ps_expr (pe_bm PySem.F.plainAttrs_list PySem.F.slot_list_append PySem.F.type_list_append mt_append (pv 2) (pa_cons pe_str pa_nil)))) pss_nil)
      (pss_cons (ps_if (pt_val (pe_callB isP (by rfl) M.isi (by decide +kernel) (pa_cons (pv 0) (pa_cons (pe_glob (v := V.ref kk.NL) (by rfl) (M.g .lease) rfl) pa_nil)))) (pss_one (ps_expr (pe_bm PySem.F.plainAttrs_list PySem.F.slot_list_append PySem.F.type_list_append mt_append (pv 2) (pa_cons pe_str pa_nil)))) pss_nil)
      (pss_cons (ps_if (pt_val (pe_callB isP (by rfl) M.isi (by decide +kernel) (pa_cons (pv 0) (pa_cons (pe_glob (v := V.ref kk.NK) (by rfl) (M.g .key) rfl) pa_nil)))) (pss_one (ps_expr (pe_bm PySem.F.plainAttrs_list PySem.F.slot_list_append PySem.F.type_list_append mt_append (pv 2) (pa_cons pe_str pa_nil)))) pss_nil)
      (pss_cons (ps_if (pt_val (pe_callB isP (by rfl) M.isi (by decide +kernel) (pa_cons (pv 0) (pa_cons (pe_glob (v := V.ref kk.HE) (by rfl) (M.g .held) rfl) pa_nil)))) (pss_one (ps_expr (pe_bm PySem.F.plainAttrs_list PySem.F.slot_list_append PySem.F.type_list_append mt_append (pv 2) (pa_cons pe_str pa_nil)))) pss_nil)
      (pss_cons (ps_if (pt_val (pe_callB isP (by rfl) M.isi (by decide +kernel) (pa_cons (pv 0) (pa_cons (pe_glob (v := V.ref kk.NS) (by rfl) (M.g .start) rfl) pa_nil)))) (pss_one (ps_expr (pe_bm PySem.F.plainAttrs_list PySem.F.slot_list_append PySem.F.type_list_append mt_append (pv 2) (pa_cons pe_str pa_nil)))) pss_nil)
      (pss_cons (ps_if (pt_val (pe_callB isP (by rfl) M.isi (by decide +kernel) (pa_cons (pv 0) (pa_cons (pe_glob (v := V.ref kk.NW) (by rfl) (M.g .watch) rfl) pa_nil)))) (pss_one (ps_expr (pe_bm PySem.F.plainAttrs_list PySem.F.slot_list_append PySem.F.type_list_append mt_append (pv 2) (pa_cons pe_str pa_nil)))) pss_nil)
      (pss_one (ps_ret (pe_and (pe_callB isP (by rfl) M.isi (by decide +kernel) (pa_cons (pv 0) (pa_cons (pe_bltn (v := V.ty "ValueError") (by rfl) M.ve (by decide +kernel) rfl) pa_nil)))
        (pe_one (pe_cmpR (op_eqD hu) (pv 2) (pe_lst (pa_cons (pv 1) pa_nil)) (nomark _)))))))))))), ?_⟩
    refine ⟨(by show 0 ≤ sizeLine; decide), fun l hl => ?_⟩
    have dl : ∀ (H' : Hp) (q : Addr) (y : Str), H' q = some (.lst [V.str y]) → Dp K H' (.ref q) (.list [.str y]) := fun H' q y e => .lst (SqL.of e) (.cons (.str _) .nil)
    have small : ([] : List V).length < sizeLine := by show 0 < sizeLine; decide
    cases i with
    | ticks =>
      refine ⟨_, rfl, _, _, _, rfl, (fun _ e => e), oT.k .ticks, _, rfl, iteT ⟨_, rfl, .inl ⟨rfl, _, SqL.of upd_same⟩, l, _, _, rfl, rfl, upd_same, small, ?_⟩⟩
      refine ⟨_, rfl, _, _, _, rfl, (fun _ e => e), oT.k .lease, _, rfl, iteF ?_⟩
      refine ⟨_, rfl, _, _, _, rfl, (fun _ e => e), oT.k .key, _, rfl, iteF ?_⟩
      refine ⟨_, rfl, _, _, _, rfl, (fun _ e => e), oT.k .held, _, rfl, iteF ?_⟩
      refine ⟨_, rfl, _, _, _, rfl, (fun _ e => e), oT.k .start, _, rfl, iteF ?_⟩
      refine ⟨_, rfl, _, _, _, rfl, (fun _ e => e), oT.k .watch, _, rfl, iteF ?_⟩
      refine ⟨_, rfl, _, _, _, rfl, (fun _ e => e), oT.kv, true, rfl, iteT ?_⟩
      refine ⟨_, rfl, _, rfl, (by show 1 ≤ sizeLine; decide), fun q hq2 => ?_⟩
      have ql : q ≠ l := fun e => by rw [e, upd_same] at hq2; cases hq2
      refine ⟨.list [.str "BadTicks"], .list [.str z], dl _ l _ (by rw [upd_ne ql.symm]; exact upd_same), dl _ q _ upd_same, (by decide +kernel), hsh, ?_⟩
      have hq3 : PyData.eqv (.list [.str "BadTicks"]) (.list [.str z]) = r := hq
      rw [hq3]
      refine k _ fun b o e => ?_
      have h1 : b ≠ l := ne_of_none e hl
      have h2 : b ≠ q := ne_of_none (H := upd (upd H l (.lst [])) l (.lst ([] ++ [V.str "BadTicks"]))) (by rw [upd_ne h1, upd_ne h1]; exact e) hq2
      rw [upd_ne h2, upd_ne h1, upd_ne h1]
      exact e
    | lease =>
      refine ⟨_, rfl, _, _, _, rfl, (fun _ e => e), oT.k .ticks, _, rfl, iteF ?_⟩
      refine ⟨_, rfl, _, _, _, rfl, (fun _ e => e), oT.k .lease, _, rfl, iteT ⟨_, rfl, .inl ⟨rfl, _, SqL.of upd_same⟩, l, _, _, rfl, rfl, upd_same, small, ?_⟩⟩
      refine ⟨_, rfl, _, _, _, rfl, (fun _ e => e), oT.k .key, _, rfl, iteF ?_⟩
      refine ⟨_, rfl, _, _, _, rfl, (fun _ e => e), oT.k .held, _, rfl, iteF ?_⟩
      refine ⟨_, rfl, _, _, _, rfl, (fun _ e => e), oT.k .start, _, rfl, iteF ?_⟩
      refine ⟨_, rfl, _, _, _, rfl, (fun _ e => e), oT.k .watch, _, rfl, iteF ?_⟩
      refine ⟨_, rfl, _, _, _, rfl, (fun _ e => e), oT.kv, true, rfl, iteT ?_⟩
      refine ⟨_, rfl, _, rfl, (by show 1 ≤ sizeLine; decide), fun q hq2 => ?_⟩
      have ql : q ≠ l := fun e => by rw [e, upd_same] at hq2; cases hq2
      refine ⟨.list [.str "NoLease"], .list [.str z], dl _ l _ (by rw [upd_ne ql.symm]; exact upd_same), dl _ q _ upd_same, (by decide +kernel), hsh, ?_⟩
      have hq3 : PyData.eqv (.list [.str "NoLease"]) (.list [.str z]) = r := hq
      rw [hq3]
      refine k _ fun b o e => ?_
      have h1 : b ≠ l := ne_of_none e hl
      have h2 : b ≠ q := ne_of_none (H := upd (upd H l (.lst [])) l (.lst ([] ++ [V.str "NoLease"]))) (by rw [upd_ne h1, upd_ne h1]; exact e) hq2
      rw [upd_ne h2, upd_ne h1, upd_ne h1]
      exact e
    | key =>
      refine ⟨_, rfl, _, _, _, rfl, (fun _ e => e), oT.k .ticks, _, rfl, iteF ?_⟩
      refine ⟨_, rfl, _, _, _, rfl, (fun _ e => e), oT.k .lease, _, rfl, iteF ?_⟩
      refine ⟨_, rfl, _, _, _, rfl, (fun _ e => e), oT.k .key, _, rfl, iteT ⟨_, rfl, .inl ⟨rfl, _, SqL.of upd_same⟩, l, _, _, rfl, rfl, upd_same, small, ?_⟩⟩
      refine ⟨_, rfl, _, _, _, rfl, (fun _ e => e), oT.k .held, _, rfl, iteF ?_⟩
      refine ⟨_, rfl, _, _, _, rfl, (fun _ e => e), oT.k .start, _, rfl, iteF ?_⟩
      refine ⟨_, rfl, _, _, _, rfl, (fun _ e => e), oT.k .watch, _, rfl, iteF ?_⟩
      refine ⟨_, rfl, _, _, _, rfl, (fun _ e => e), oT.kv, true, rfl, iteT ?_⟩
      refine ⟨_, rfl, _, rfl, (by show 1 ≤ sizeLine; decide), fun q hq2 => ?_⟩
      have ql : q ≠ l := fun e => by rw [e, upd_same] at hq2; cases hq2
      refine ⟨.list [.str "NoKey"], .list [.str z], dl _ l _ (by rw [upd_ne ql.symm]; exact upd_same), dl _ q _ upd_same, (by decide +kernel), hsh, ?_⟩
      have hq3 : PyData.eqv (.list [.str "NoKey"]) (.list [.str z]) = r := hq
      rw [hq3]
      refine k _ fun b o e => ?_
      have h1 : b ≠ l := ne_of_none e hl
      have h2 : b ≠ q := ne_of_none (H := upd (upd H l (.lst [])) l (.lst ([] ++ [V.str "NoKey"]))) (by rw [upd_ne h1, upd_ne h1]; exact e) hq2
      rw [upd_ne h2, upd_ne h1, upd_ne h1]
      exact e
    | held =>
      refine ⟨_, rfl, _, _, _, rfl, (fun _ e => e), oT.k .ticks, _, rfl, iteF ?_⟩
      refine ⟨_, rfl, _, _, _, rfl, (fun _ e => e), oT.k .lease, _, rfl, iteF ?_⟩
      refine ⟨_, rfl, _, _, _, rfl, (fun _ e => e), oT.k .key, _, rfl, iteF ?_⟩
      refine ⟨_, rfl, _, _, _, rfl, (fun _ e => e), oT.k .held, _, rfl, iteT ⟨_, rfl, .inl ⟨rfl, _, SqL.of upd_same⟩, l, _, _, rfl, rfl, upd_same, small, ?_⟩⟩
      refine ⟨_, rfl, _, _, _, rfl, (fun _ e => e), oT.k .start, _, rfl, iteF ?_⟩
      refine ⟨_, rfl, _, _, _, rfl, (fun _ e => e), oT.k .watch, _, rfl, iteF ?_⟩
      refine ⟨_, rfl, _, _, _, rfl, (fun _ e => e), oT.kv, true, rfl, iteT ?_⟩
      refine ⟨_, rfl, _, rfl, (by show 1 ≤ sizeLine; decide), fun q hq2 => ?_⟩
      have ql : q ≠ l := fun e => by rw [e, upd_same] at hq2; cases hq2
      refine ⟨.list [.str "Held"], .list [.str z], dl _ l _ (by rw [upd_ne ql.symm]; exact upd_same), dl _ q _ upd_same, (by decide +kernel), hsh, ?_⟩
      have hq3 : PyData.eqv (.list [.str "Held"]) (.list [.str z]) = r := hq
      rw [hq3]
      refine k _ fun b o e => ?_
      have h1 : b ≠ l := ne_of_none e hl
      have h2 : b ≠ q := ne_of_none (H := upd (upd H l (.lst [])) l (.lst ([] ++ [V.str "Held"]))) (by rw [upd_ne h1, upd_ne h1]; exact e) hq2
      rw [upd_ne h2, upd_ne h1, upd_ne h1]
      exact e
    | start =>
      refine ⟨_, rfl, _, _, _, rfl, (fun _ e => e), oT.k .ticks, _, rfl, iteF ?_⟩
      refine ⟨_, rfl, _, _, _, rfl, (fun _ e => e), oT.k .lease, _, rfl, iteF ?_⟩
      refine ⟨_, rfl, _, _, _, rfl, (fun _ e => e), oT.k .key, _, rfl, iteF ?_⟩
      refine ⟨_, rfl, _, _, _, rfl, (fun _ e => e), oT.k .held, _, rfl, iteF ?_⟩
      refine ⟨_, rfl, _, _, _, rfl, (fun _ e => e), oT.k .start, _, rfl, iteT ⟨_, rfl, .inl ⟨rfl, _, SqL.of upd_same⟩, l, _, _, rfl, rfl, upd_same, small, ?_⟩⟩
      refine ⟨_, rfl, _, _, _, rfl, (fun _ e => e), oT.k .watch, _, rfl, iteF ?_⟩
      refine ⟨_, rfl, _, _, _, rfl, (fun _ e => e), oT.kv, true, rfl, iteT ?_⟩
      refine ⟨_, rfl, _, rfl, (by show 1 ≤ sizeLine; decide), fun q hq2 => ?_⟩
      have ql : q ≠ l := fun e => by rw [e, upd_same] at hq2; cases hq2
      refine ⟨.list [.str "NoStart"], .list [.str z], dl _ l _ (by rw [upd_ne ql.symm]; exact upd_same), dl _ q _ upd_same, (by decide +kernel), hsh, ?_⟩
      have hq3 : PyData.eqv (.list [.str "NoStart"]) (.list [.str z]) = r := hq
      rw [hq3]
      refine k _ fun b o e => ?_
      have h1 : b ≠ l := ne_of_none e hl
      have h2 : b ≠ q := ne_of_none (H := upd (upd H l (.lst [])) l (.lst ([] ++ [V.str "NoStart"]))) (by rw [upd_ne h1, upd_ne h1]; exact e) hq2
      rw [upd_ne h2, upd_ne h1, upd_ne h1]
      exact e
    | watch =>
      refine ⟨_, rfl, _, _, _, rfl, (fun _ e => e), oT.k .ticks, _, rfl, iteF ?_⟩
      refine ⟨_, rfl, _, _, _, rfl, (fun _ e => e), oT.k .lease, _, rfl, iteF ?_⟩
      refine ⟨_, rfl, _, _, _, rfl, (fun _ e => e), oT.k .key, _, rfl, iteF ?_⟩
      refine ⟨_, rfl, _, _, _, rfl, (fun _ e => e), oT.k .held, _, rfl, iteF ?_⟩
      refine ⟨_, rfl, _, _, _, rfl, (fun _ e => e), oT.k .start, _, rfl, iteF ?_⟩
      refine ⟨_, rfl, _, _, _, rfl, (fun _ e => e), oT.k .watch, _, rfl, iteT ⟨_, rfl, .inl ⟨rfl, _, SqL.of upd_same⟩, l, _, _, rfl, rfl, upd_same, small, ?_⟩⟩
      refine ⟨_, rfl, _, _, _, rfl, (fun _ e => e), oT.kv, true, rfl, iteT ?_⟩
      refine ⟨_, rfl, _, rfl, (by show 1 ≤ sizeLine; decide), fun q hq2 => ?_⟩
      have ql : q ≠ l := fun e => by rw [e, upd_same] at hq2; cases hq2
      refine ⟨.list [.str "NoWatch"], .list [.str z], dl _ l _ (by rw [upd_ne ql.symm]; exact upd_same), dl _ q _ upd_same, (by decide +kernel), hsh, ?_⟩
      have hq3 : PyData.eqv (.list [.str "NoWatch"]) (.list [.str z]) = r := hq
      rw [hq3]
      refine k _ fun b o e => ?_
      have h1 : b ≠ l := ne_of_none e hl
      have h2 : b ≠ q := ne_of_none (H := upd (upd H l (.lst [])) l (.lst ([] ++ [V.str "NoWatch"]))) (by rw [upd_ne h1, upd_ne h1]; exact e) hq2
      rw [upd_ne h2, upd_ne h1, upd_ne h1]
      exact e
end
end KL

namespace LX
open PySem PySem.Spec PyProof.Rows L2 L2H
/-! an instance is made where what its `__init__` raises may be caught -/
section
variable {X : Cx} {CX : CXT} {k n : Nat} {f C : Addr} {fd : FuncData} {ps ks : List Str} {sp : Sp} {x : Str} {p pos : Pos} {e : Expr} {es : List Expr} {kws : List Keyword} {t tk : TA}
theorem run_mk {E : XK} {pins : List (Addr × Obj)} {σ : St} {H : Hp} {s : Shared} {Q : VK} {us : List Value} {kw : List (Str × Value)} {lu : Addr → List Value} {lv : Addr → List V} (M : Mk X.K C f) (G : FnOk X.prog X.w X.K X.mg X.base CX k f fd ps sp) (room : Room (k + 1) X.A)
    (hb : ∀ y (z : Shared), X.K.In z.heap → BindsTo z fd ⟨Value.ref y :: us, kw⟩ (ps.zip (lu y))) (hv : ∀ y, Vals (lv y) (lu y)) (pass : PassesAt CX X σ E) (J : Inv X pins σ H s)
    (h : ∀ a b, H a = none → H b = none → b ≠ a → sp (lv a) (upd (upd H b (.own a)) a (.ins C b [])) (fun v G => v = .non ∧ Q (.ref a) G) E) : wpAny (model X.prog X.w) X.A (call (.ref C) us kw) (EP X pins σ Q) X.xe s := by
  have q := h _ s.heap.objs.size (J.hok.fresh (Nat.le_succ _)) (J.hok.fresh (Nat.le_refl _)) (Nat.ne_of_lt (Nat.lt_succ_self _))
  have J2 := Inv.made (C := C) J
  have body := G.run _ X.stack _ _ ⟨_ :: us, kw⟩ (lu _) _ _ E (room.make C us kw) (J2.env0.make C us kw) (hb _ _ J2.kIn) (hv _) q
  refine wpAny_call (make_map (f := f) J.kIn M.makes M.init (beq_iff_eq.mp M.fn) (codeAny_mono body fun r z w => ?_))
  match r, w with
  | .error y, w => exact pass pins _ _ y z J2 w
  | .ok (.ret u), w =>
    obtain ⟨v, G2, J3, rv, ev, w3⟩ := J2.after w
    subst ev
    exact ⟨rv, V.ref _, G2, J3, rfl, w3⟩
  | .ok .next, w => cases w
  | .ok .brk, w => cases w
  | .ok .cont, w => cases w
/-- tuple(xs), its rule by a name -/
def rTupOf (K : PySem.W.Frag) : List V → Hp → VK → Prop := fun xs H Q => ∃ p ys, xs = [.ref p] ∧
  ((SqL K H p ys ∧ ∀ l, H l = none → Q (.ref l) (upd H l (.tup ys))) ∨
    (SqT K H p ys ∧ Q (.ref p) H))
theorem call_tupOf : CallR X (.type "tuple") (rTupOf X.K) := call_tuple_of
/-- C(e, ..): what is given by place, and the defaults -/
def tMkE (C : Addr) (sp : Sp) (dvs : List V) (E : St → XK) (t : TA) : TE := fun σ H Q => t σ H fun vs H1 => ∀ a b, H1 a = none → H1 b = none → b ≠ a → sp (.ref a :: (vs ++ dvs)) (upd (upd H1 b (.own a)) a (.ins C b [])) (fun v G => v = .non ∧ Q (.ref a) G) (E σ)
theorem pe_mkE {E : St → XK} {ds : List Value} {dvs : List V} (M : Mk X.K C f) (G : FnOk X.prog X.w X.K X.mg X.base CX k f fd ps sp) (room : Room (k + 1) X.A) (hg : Gl X x) (hm : X.mg x = some (.ref C)) (hb : Binds X.K fd ps ds) (hd : Vals dvs ds) (pass : ∀ σ, PassesAt CX X σ (E σ))
    (ha : PA X (e :: es) t) (hdb : (x == ("__debug__" : Str)) = false := by decide) (he : starEach (e :: es) X.env = (false, eval e X.env) :: starEach es X.env := by rfl) (hpl : (backTo pos (starEach es X.env)).any (·.1) = false := by rfl) : PE X (.Call (.Name x p) (e :: es) [] pos) (tMkE C sp dvs E t) := by
  constructor
  intro pins s σ H Q J w
  refine wpAny_Call_Name_kw (ld_glob J hg hm ?_ hdb)
  refine PySem.W.callWith_K (h₀ := X.base) J.ok.mod.kin M.kp (thn (ha.run pos pins s σ H _ J w) fun us s2 ⟨vs, H2, J2, r, w2⟩ => ⟨J2.kIn, ?_⟩) he hpl
  have r2 : ∀ y, Vals (V.ref y :: (vs ++ dvs)) (Value.ref y :: (us ++ ds)) := fun y => .cons rfl (r.append hd)
  refine run_mk (lu := fun y => Value.ref y :: (us ++ ds)) (lv := fun y => V.ref y :: (vs ++ dvs)) M G room (fun y z kin => hb z (Value.ref y :: us) kin ?_) r2 (pass σ) J2 w2
  have w3 := w2 (s2.heap.objs.size + 1) s2.heap.objs.size (J2.hok.fresh (Nat.le_succ _)) (J2.hok.fresh (Nat.le_refl _)) (Nat.ne_of_lt (Nat.lt_succ_self _))
  have l := (r2 (s2.heap.objs.size + 1)).length
  rw [G.len _ _ _ _ w3] at l
  rw [l]; rfl
/-- C(e, .., k = v, ..) -/
def tMkKE (C : Addr) (n m : Nat) (sp : Sp) (gV : List V → List V → List V) (E : St → XK) (t tk : TA) : TE := fun σ H Q => t σ H fun vs H1 => tk σ H1 fun zs H2 => vs.length = n ∧ zs.length = m ∧
  ∀ a b, H2 a = none → H2 b = none → b ≠ a → sp (gV (.ref a :: vs) zs) (upd (upd H2 b (.own a)) a (.ins C b [])) (fun v G => v = .non ∧ Q (.ref a) G) (E σ)
theorem pe_mkKE {E : St → XK} {g : List Value → List Value → List Value} {gV : List V → List V → List V} (M : Mk X.K C f) (G : FnOk X.prog X.w X.K X.mg X.base CX k f fd ps sp) (room : Room (k + 1) X.A) (hg : Gl X x) (hm : X.mg x = some (.ref C)) (hb : KBn X.K fd ps (n + 1) ks g gV) (pass : ∀ σ, PassesAt CX X σ (E σ))
    (ha : PA X (e :: es) t) (hkw : PK X kws tk) (hall : (backToKw pos (keywordEach kws X.env)).all (·.1.isSome) = true := by rfl) (hks : (backToKw pos (keywordEach kws X.env)).filterMap (·.1) = ks := by rfl) (hdb : (x == ("__debug__" : Str)) = false := by decide)
    (he : starEach (e :: es) X.env = (false, eval e X.env) :: starEach es X.env := by rfl) (hpl : ((backTo pos (starEach (e :: es) X.env)).any (·.1) || (backToKw pos (keywordEach kws X.env)).any (·.1.isNone)) = false := by rfl) :
    PE X (.Call (.Name x p) (e :: es) kws pos) (tMkKE C n ks.length sp gV E t tk) := by
  constructor
  intro pins s σ H Q J w
  refine wpAny_Call_Name_kw (ld_glob J hg hm ?_ hdb)
  refine PySem.W.callWith_KW (h₀ := X.base) J.ok.mod.kin M.kp hall (thn (ha.run pos pins s σ H _ J w) fun us s2 ⟨vs, H2, J2, r, w2⟩ => ?_) hpl he
  refine thn (hkw.run pos pins s2 σ H2 _ J2 w2) fun ws s3 ⟨zs, H3, J3, rz, l1, l2, w3⟩ => ⟨J3.kIn, ?_⟩
  rw [hks]
  have r2 : ∀ y, Vals (V.ref y :: vs) (Value.ref y :: us) := fun y => .cons rfl r
  refine run_mk (lu := fun y => g (Value.ref y :: us) ws) (lv := fun y => gV (V.ref y :: vs) zs) M G room (fun y z kin => hb.to z (Value.ref y :: us) ws kin ?_ (rz.length.symm.trans l2)) (fun y => hb.rel (r2 y) rz) (pass σ) J3 w3
  rw [← (r2 y).length, List.length_cons, l1]
end
end LX

namespace KL
open PySem L2 L2H LX KB
/-! ### law_k07: a line is put in -/
def spLine7 (Rs : RsT) (Er : ErT) (CL : Addr) : Sp := fun vs H Q _ => ∃ (H0 : Hp) (F : List Addr) (p ro : Addr) (ts : List Addr) (s : Rm) (q : Addr) (zs : List Str) (n : Nat) (z : Str) (st : Int) (gq : Addr) (gts : List Addr) (gv : KVs), vs = [.ref p, .str z, .int st, .ref gq] ∧ P7 Rs H0 H F p ro ts s q zs n ∧ n ≤ 400 ∧ s.met ≤ 9 ∧ TOk 60 z ∧
  H gq = some (.lst (gts.map V.ref)) ∧ gq ∉ F ∧ PairsAt H gts gv ∧ gv.length ≤ 1 ∧ (∀ x ∈ gv, PairOk x) ∧
  (st < 1 ∨ (s.rows.length : Int) + 1 < st → ∀ F' H', P7 Rs H0 H' F' p ro ts s q zs n → Grow F F' H → Ch H H' F → Q .non H') ∧
  (1 ≤ st → st ≤ (s.rows.length : Int) + 1 → ∀ F' Fe lp e H', P7 Rs H0 H' F' p ro ts { s with met := s.met + 1, wat := setF s.wat ((s.met : Int) + 1) (some ⟨z, st - 1, st - 1⟩) } q zs n → LnAt CL H' lp p ((s.met : Int) + 1) e → Er Fe H' e st gv [] →
    Grow F F' H → (∀ a ∈ Fe, H a = none) → (∀ a ∈ Fe, a ∉ F') → H lp = none → lp ∉ F' → lp ∉ Fe → Ch H H' F → Q (.ref lp) H')
section
variable {P : Program} {w : World} {K : PySem.W.Frag} {mg : Str → Option Value} {base : Heap} {C CE CL : Addr} {kk : Kinds} {Rs : RsT} {Er : ErT}
theorem ok_line {f fO : Addr} {fd fdO : FuncData} (F : Fun K "_law_line" "_law_line" s_line f fd) (A1 : RoomApi P w K mg base C kk Rs hsL) (A2 : EarApi P w K mg base CE Er esL) (A3 : LineApi P w K mg base CL kk Rs Er) (mgL : mg (Str.ofString "Line") = some (Value.ref CL)) (LT : LTxt mg) (M : Errs K mg kk)
    (FO : FnP P w K mg base 1 fO fdO p_only (spOnly kk)) (gO : mg "_law_only" = some (.ref fO)) (kO : PySem.W.keepIn K (.ref fO) = true) (bO : Binds K fdO p_only []) : FnOk P w K mg base CX0 11 f fd p_line (spLine7 Rs Er CL) := by
  obtain ⟨fI, fdI, psI, MI, GI, b0, ⟨d1, v1, b1⟩, gK, bK⟩ := A3.make
  refine F.ok sc_line (fun vs H Q E h => ?_) (fun cdv A outer s H vs Q E hr h => ?_)
  · obtain ⟨H0, F, p, ro, ts, s, q, zs, n, z, st, gq, gts, gv, rfl, _⟩ := h
    rfl
  · obtain ⟨H0, Fo, p, ro, ts, sm, q, zs, n, z, st, gq, gts, gv, rfl, S, hn, hmet, oz, hgq, gqF, mg_, gl, go, kb, k⟩ := h
    have hu64 := hr.units
    have hr1 : Room 1 _ := hr.mono (by decide)
    refine ⟨_, pss_one (ps_try_as (i := 4) rfl rfl sc_line.nd rfl rfl ⟨rfl, by decide, .inl M.gL⟩ takes0
      (fun W pn xe tk _ => pss_cons (ps_if (pt_cmpR (r := rEqD K) (op_eqD hu64) (pv 3) (pe_lst pa_nil) (nomark _)) (pss_one (ps_ret (pe_mkE (E := WE W) MI GI hr rfl mgL b1 v1 (fun σ => passAt tk σ) (pa_cons (pv 0) (pa_cons (pv 1) (pa_cons (pv 2) pa_nil)))))) pss_nil)
        (pss_cons (ps_if (pt_cmpR op_eq (pe_op op_mod (pv 2) pe_int) pe_int (nomark _)) (pss_one (ps_ret (pe_mkE (E := WE W) MI GI hr rfl mgL b0 .nil (fun σ => passAt tk σ) (pa_cons (pv 0) (pa_cons (pv 1) (pa_cons (pv 2) (pa_cons (pe_callTy (T := "tuple") (r := rTupOf K) call_tupOf (by rfl) LT.tuple (by decide +kernel) (pa_cons (pv 3) pa_nil)) pa_nil))))))) pss_nil)
        (pss_cons (ps_if (pt_cmpR op_eq (pe_op op_mod (pv 2) pe_int) pe_int (nomark _)) (pss_one (ps_ret (pe_mkKE (E := WE W) (n := 3) (ks := ["pairs"]) MI GI hr rfl mgL bK (fun σ => passAt tk σ) (pa_cons (pv 0) (pa_cons (pv 1) (pa_cons (pv 2) pa_nil))) (pk_cons (pv 3) pk_nil)))) pss_nil)
        (pss_one (ps_ret (pe_mkE (E := WE W) MI GI hr rfl mgL b0 .nil (fun σ => passAt tk σ) (pa_cons (pv 0) (pa_cons (pv 1) (pa_cons (pv 2) (pa_cons (pv 3) pa_nil))))))))))
      (ts := fun a cls d => tSeq (tIfS (tB (tCallP (spO kk a cls d) (tCons (tVar 4) (tCons (tC (.str "NoStart")) tNil)))) (tRet (tC .non)) tNext) (tRet (tC (.int 0))))
      (fun a oe cls d pn hz hf => ?_)), ?_⟩
    · obtain ⟨rfl, rfl⟩ := hz
      exact pss_cons (ps_if (pt_val (pe_callP (sp := spOnly kk) (p := (a, oe)) FO ⟨hr1.dp, hr1.un⟩ List.mem_cons_self hf (by rfl) gO kO bO (pa_cons (pv 4) (pa_cons pe_str pa_nil)))) (pss_one (ps_ret pe_non)) pss_nil) (pss_one (ps_ret pe_int))
    have gone := S.gone
    have nod : (gv.map (·.1)).Nodup := by
      match gv, gl with
      | [], _ => exact .nil
      | [x], _ => exact List.nodup_cons.mpr ⟨by simp, List.nodup_nil⟩
    have go1 : ∀ {H1 : Hp} {pw : V} {E1 : XK}, Same H H1 → ((pw = .non ∧ gv = []) ∨ ∃ q1, pw = .ref q1 ∧ ((q1 = gq) ∨ (H q1 = none ∧ H1 q1 = some (.tup (gts.map V.ref))))) → (∀ F1 H2, P7 Rs H0 H2 F1 p ro ts sm q zs n → Grow Fo F1 H → Ch H H2 Fo → (st < 1 ∨ (sm.rows.length : Int) + 1 < st) → E1 (.ref kk.NS) none H2) →
        ∀ x dx, H1 x = none → H1 dx = none → dx ≠ x → spLnInit CL kk Rs Er [.ref x, .ref p, .str z, .int st, pw] (upd (upd H1 dx (.own x)) x (.ins CL dx [])) (fun v H2 => v = .non ∧ Q (.ref x) H2) E1 := fun {H1 pw E1} s1 hp hE x dx nx ndx ne => by
      have s2 : Same H1 (upd (upd H1 dx (.own x)) x (.ins CL dx [])) := fun b o e => by rw [upd_ne (ne_of_none e nx), upd_ne (ne_of_none e ndx)]; exact e
      have s3 := s1.trans s2
      have x0 : H x = none := s1.free nx
      have S3 := S.same A1 (Ch.of s3 []) (fun _ _ z => nomatch z) (fun z => nomatch z) (fun z => nomatch z) (fun _ z => nomatch z)
      have xF : x ∉ Fo := fun z => by
        obtain ⟨o, e⟩ := A1.own S.rs x z
        rw [x0] at e; cases e
      have cH : ∀ {H2 : Hp}, Ch (upd (upd H1 dx (.own x)) x (.ins CL dx [])) H2 (x :: Fo) → Ch H H2 Fo := fun {H2} c => by
        refine ⟨fun b o e nn => c.st b o (s3 _ _ e) (nn.imp (fun y z => ?_) id), fun b o e => c.th b o (s3 _ _ e)⟩
        rcases List.mem_cons.mp z with z | z
        · rw [z, x0] at e; cases e
        · exact y z
      have gH : ∀ {F1 : List Addr}, Grow Fo F1 (upd (upd H1 dx (.own x)) x (.ins CL dx [])) → Grow Fo F1 H := fun {F1} g a ha => (g a ha).imp id fun z => s3.free z
      refine ⟨x, dx, p, z, st, pw, gv, Fo, sm, rfl, upd_same, S3.rs, xF, oz, S.fits (by omega), nod, go, by omega, ?_, fun bad F1 H2 R2 gr c => ?_, fun h1 h2 F1 Fe e H2 R2 L2 E2 gr fe fef pf c => ⟨rfl, ?_⟩⟩
      · rcases hp with hp | ⟨q1, rfl, hp⟩
        · exact .inl hp
        · refine .inr ⟨q1, gts, rfl, ?_, ?_, ?_, mg_.keep fun a xs e => s3 _ _ e⟩
          · rcases hp with rfl | ⟨hp, _⟩
            · exact gqF
            · intro z
              obtain ⟨o, e⟩ := A1.own S.rs _ z
              rw [hp] at e; cases e
          · rcases hp with rfl | ⟨_, hp⟩
            · exact ne_of_none hgq x0
            · exact ne_of_none hp nx
          · rcases hp with rfl | ⟨_, hp⟩
            · exact .inl (s3 _ _ hgq)
            · exact .inr (s2 _ _ hp)
      · have bad' : st < 1 ∨ (sm.rows.length : Int) + 1 < st := by omega
        exact hE F1 H2 (S.go R2 rfl rfl rfl rfl S.b2 rfl (gH gr) (cH c) S.r1 S.q1 S.no) (gH gr) (cH c) bad'
      · have c' := cH c
        have xFe : x ∉ Fe := fun z => by
          have y := fe x z
          rw [upd_same] at y
          cases y
        exact k (by omega) h2 F1 Fe x e H2 (S.go R2 rfl rfl rfl rfl (by show sm.met + 1 ≤ 10; omega) rfl (gH gr) c' S.r1 S.q1 S.no) L2 E2 (gH gr) (fun a ha => s3.free (fe a ha)) fef x0 pf xFe c'
    have ref : ∀ {F1 : List Addr} {H1 H2 : Hp}, P7 Rs H0 H1 F1 p ro ts sm q zs n → Grow Fo F1 H → Ch H H1 Fo → (st < 1 ∨ (sm.rows.length : Int) + 1 < st) → Same H1 H2 → Q .non H2 := fun {F1 H1 H2} P1 gr c bad s => kb bad F1 H2 (P1.same A1 (Ch.of s []) (fun _ _ z => nomatch z) (fun z => nomatch z) (fun z => nomatch z) (fun _ z => nomatch z)) gr (c.same s)
    refine ⟨_, rfl, (by show 0 ≤ sizeLine; decide), fun l hl => ?_⟩
    have s1 := same_new (o := .lst []) hl
    refine ⟨.list (gv.map pairD), .list [], .lst (SqL.of (s1 _ _ hgq)) (mg_.keep fun a xs e => s1 _ _ e).dp, .lst (SqL.of upd_same) .nil, pairs_shaped go, rfl, _, rfl, ?_⟩
    have e0 : PyData.eqv (.list (gv.map pairD)) (.list []) = decide (gv = []) := by
      cases gv with
      | nil => rfl
      | cons p r' => rw [decide_eq_false (fun e => by cases e)]; rfl
    rw [e0]
    by_cases ge : gv = []
    · rw [decide_eq_true ge]
      refine iteT ⟨_, rfl, _, rfl, _, rfl, go1 s1 (.inl ⟨rfl, ge⟩) fun F1 H1 P1 gr c bad => ⟨true, M.e .start, fun _ a ha => ⟨_, rfl, .start, _, _, rfl, rfl, rfl, k6_shaped .start, k6_eqv .start .start, fun H2 hs2 => ⟨_, rfl, iteT (ref P1 gr c bad hs2)⟩⟩, fun z => nomatch z⟩⟩
    rw [decide_eq_false ge]
    refine iteF ⟨_, rfl, _, _, rfl, rfl, (by show (0 : Int) < 3; decide), rfl, _, rfl, ?_⟩
    refine ite2 (fun _ => ?_) fun _ => ?_
    · refine ⟨_, rfl, _, rfl, _, rfl, _, rfl, gq, _, rfl, .inl ⟨SqL.of (s1 _ _ hgq), fun t ht => ?_⟩⟩
      have s2 := s1.trans (same_new (o := .tup (gts.map V.ref)) ht)
      exact go1 s2 (.inr ⟨t, rfl, .inr ⟨s1.free ht, upd_same⟩⟩) fun F1 H1 P1 gr c bad => ⟨true, M.e .start, fun _ a ha => ⟨_, rfl, .start, _, _, rfl, rfl, rfl, k6_shaped .start, k6_eqv .start .start, fun H2 hs2 => ⟨_, rfl, iteT (ref P1 gr c bad hs2)⟩⟩, fun z => nomatch z⟩
    refine ⟨_, rfl, _, _, rfl, rfl, (by show (0 : Int) < 3; decide), rfl, _, rfl, ?_⟩
    refine ite2 (fun _ => ?_) fun _ => ?_
    · exact ⟨_, rfl, _, rfl, _, rfl, _, rfl, rfl, rfl, go1 s1 (.inr ⟨gq, rfl, .inl rfl⟩) fun F1 H1 P1 gr c bad => ⟨true, M.e .start, fun _ a ha => ⟨_, rfl, .start, _, _, rfl, rfl, rfl, k6_shaped .start, k6_eqv .start .start, fun H2 hs2 => ⟨_, rfl, iteT (ref P1 gr c bad hs2)⟩⟩, fun z => nomatch z⟩⟩
    · exact ⟨_, rfl, _, rfl, _, rfl, _, rfl, go1 s1 (.inr ⟨gq, rfl, .inl rfl⟩) fun F1 H1 P1 gr c bad => ⟨true, M.e .start, fun _ a ha => ⟨_, rfl, .start, _, _, rfl, rfl, rfl, k6_shaped .start, k6_eqv .start .start, fun H2 hs2 => ⟨_, rfl, iteT (ref P1 gr c bad hs2)⟩⟩, fun z => nomatch z⟩⟩
end
end KL

namespace KL
open PySem L2 L2H LX KB
/-! ### a law over one script, and what it begins with -/
def spLaw (K : PySem.W.Frag) : Sp := fun vs H Q _ => ∃ (a : Addr) (ns : List Int), vs = [.ref a] ∧ SqL K H a (ns.map V.int) ∧ ns.length ≤ 63 ∧ ∀ H', Q (.bl true) H'
theorem rg3 : ∀ m : Fin 64, Builtin.Range.small 2 ((m.val : Int) - 2) 3 = true ∧ Builtin.Range.rangeSize 2 ((m.val : Int) - 2) 3 = (((m.val - 2) / 3 : Nat) : Int) := by decide +kernel
theorem rg3_of {m : Nat} (h : m ≤ 63) : RgC 2 ((m : Int) - 2) 3 ((m - 2) / 3) := by
  have q := rg3 ⟨m, by omega⟩
  exact ⟨by decide, by decide, q.1, q.2⟩
theorem room_made {C : Addr} {H H' : Hp} {x dx : Addr} {F : List Addr} (nx : H x = none) (ndx : H dx = none) (f : ∀ a ∈ F, a = x ∨ upd (upd H dx (.own x)) x (.ins C dx []) a = none) (c : Ch (upd (upd H dx (.own x)) x (.ins C dx [])) H' [x]) :
    Same H H' ∧ ∀ a ∈ F, H a = none := by
  have s0 : Same H (upd (upd H dx (.own x)) x (.ins C dx [])) := fun b o e => by
    rw [upd_ne (ne_of_none e nx), upd_ne (ne_of_none e ndx)]; exact e
  refine ⟨fun b o e => c.at (s0 _ _ e) fun z => ne_of_none e nx (List.mem_singleton.mp z), fun a ha => ?_⟩
  rcases f a ha with rfl | h
  · exact nx
  · exact s0.free h
theorem ex_no {H : Hp} {a b : Addr} (x : ∃ o, H a = some o) (n : H b = none) : a ≠ b := fun z => by
  obtain ⟨o, e⟩ := x
  rw [z, n] at e
  cases e
end KL

namespace KL
open PySem L2 L2H LX KB
/-! ### law_k07 -/
/-- an own class, as isinstance sees what is made of it -/
structure InsC (K : PySem.W.Frag) (C : Addr) : Prop where
  cl : Cls K C
  ha : PySem.W.findIn K (.ref C) "__class__" = some (some (.builtin "object.__class__"))
  sp : PySem.W.specialIn K (.builtin "object.__class__") "__get__" = some (some (.builtin "getset_descriptor.__get__"))
  tk : PySem.W.takesIn K (.builtin "object.__class__") = some true
  mr : PySem.W.mroIn K C (.type "object") = some true
theorem InsC.ty {K : PySem.W.Frag} {C : Addr} (A : InsC K C) {H : Hp} {a dx : Addr} {fs : List (Str × V)} (e : H a = some (.ins C dx fs)) : TyX K H (.ref a) (.ref C) := .base (.ins e A.cl A.ha A.sp A.tk A.mr)
theorem kit_self {K : PySem.W.Frag} {C : Addr} : PySem.W.kitOne K (.ref C) (.ref C) = some true := by
  unfold PySem.W.kitOne
  rw [if_pos (by rw [beq_iff_eq])]
theorem cutV_ints (ns : List Int) (lo hi : Option Int) : ∃ ms : List Int, cutV (ns.map V.int) lo hi = ms.map V.int ∧ ms.length ≤ ns.length := by
  refine ⟨(ns.drop (HT.sIx (ns.map V.int).length 0 lo)).take (HT.sIx (ns.map V.int).length (ns.map V.int).length hi - HT.sIx (ns.map V.int).length 0 lo), ?_, ?_⟩
  · unfold cutV
    rw [List.map_take, List.map_drop]
  · rw [List.length_take, List.length_drop]; omega
theorem ints_at {ms : List Int} {i : Nat} {x : V} (h : (ms.map V.int)[i]? = some x) : ∃ c, x = .int c ∧ i < ms.length := by
  rw [List.getElem?_map] at h
  cases e : ms[i]? with
  | none => rw [e] at h; cases h
  | some c => rw [e] at h; exact ⟨c, (Option.some.inj h).symm, (List.getElem?_eq_some_iff.mp e).1⟩
theorem pair_take {H : Hp} {t : Addr} {x : Str × Str} (h : H t = some (.tup [.str x.1, .str x.2])) : ∀ m : Nat, PairsAt H ([t].take m) ([x].take m)
  | 0 => .nil
  | m + 1 => by cases m <;> exact .cons h .nil
/-- the room ahead of the line, and a list beside it -/
def A7 (Rs : RsT) (H0 : Hp) (p ro q : Addr) (zs : List Str) (sl : Addr) (xs : List V) (n : Nat) (H : Hp) : Prop := ∃ F ts s, P7 Rs H0 H F p ro ts s q zs n ∧ s.met = 0 ∧ H sl = some (.lst xs) ∧ sl ∉ F ∧ sl ≠ ro
/-- the line, and a list beside it -/
def T7 (Rs : RsT) (Er : ErT) (CL : Addr) (H0 : Hp) (p ro q : Addr) (zs : List Str) (lp e pd : Addr) (b : Int) (gv : KVs) (z : Str) (sl : Addr) (xs : List V) (n : Nat) (H : Hp) : Prop := ∃ F Fe ts s al als w tk, L7 Rs Er CL H0 H F Fe p ro ts s q zs n lp e pd al als w b gv tk ∧ w.pre = z ∧ H sl = some (.lst xs) ∧ sl ∉ F ∧ sl ∉ Fe ∧ sl ≠ ro ∧ sl ≠ pd
theorem merge_pl {a b : Int} {al : Addr} : mergeK [] (plD a b al) = plD a b al := by
  have n1 := k_no (a := "had") (b := "heard") (by decide +kernel)
  have n2 := k_no (a := "had") (b := "all") (by decide +kernel)
  have n3 := k_no (a := "heard") (b := "all") (by decide +kernel)
  show putK (putK (putK ([] : List (Key × V)) (Sum.inr ("had" : Str)) (.int a)) (Sum.inr ("heard" : Str)) (.int b)) (Sum.inr ("all" : Str)) (.ref al) = _
  have e1 : putK ([] : List (Key × V)) (Sum.inr ("had" : Str)) (.int a) = [(Sum.inr ("had" : Str), .int a)] := rfl
  have e2 : putK ([(Sum.inr ("had" : Str), .int a)] : List (Key × V)) (Sum.inr ("heard" : Str)) (.int b) = [(Sum.inr ("had" : Str), .int a), (Sum.inr ("heard" : Str), .int b)] := putK_new _ (by rw [valV_neg n1]; rfl)
  have e3 : putK ([(Sum.inr ("had" : Str), .int a), (Sum.inr ("heard" : Str), .int b)] : List (Key × V)) (Sum.inr ("all" : Str)) (.ref al) = plD a b al := putK_new _ (by rw [valV_neg n2, valV_neg n3]; rfl)
  rw [e1, e2, e3]
section
variable {P : Program} {w : World} {K : PySem.W.Frag} {mg : Str → Option Value} {base : Heap} {C CE CL : Addr} {kk : Kinds} {Rs : RsT} {Er : ErT}
theorem ok_law {f fO : Addr} {fd fdO : FuncData} (F : Fun K "law" "law" s_law f fd) (mgC : mg (Str.ofString "Room") = some (Value.ref C)) (mgE : mg (Str.ofString "Ear") = some (Value.ref CE)) (mgL : mg (Str.ofString "Line") = some (Value.ref CL)) (cl : Cls K C) (IE : InsC K CE) (IL : InsC K CL)
    (A1 : RoomApi P w K mg base C kk Rs hsL) (A2 : EarApi P w K mg base CE Er esL) (A3 : LineApi P w K mg base CL kk Rs Er) (LT : LTxt mg) (mx : mg (Str.ofString "max") = none) (M : Errs K mg kk)
    (D0 : Def P w K mg base "_law_cell_at" 1 p_cell_at (spCellA K)) (D1 : Def P w K mg base "_law_pool" 3 p_pool spPool) (D2 : Def P w K mg base "_law_put" 9 p_put (spPut7 Rs)) (D3 : Def P w K mg base "_law_prefix" 1 p_prefix spPrefix) (D4 : Def P w K mg base "_law_line" 11 p_line (spLine7 Rs Er CL))
    (D5 : Def P w K mg base "_law_turned" 10 p_turned (spTurned7 Rs Er CL)) (DW : Def P w K mg base "_law_whole" 1 p_whole spWhole) (FO : FnP P w K mg base 1 fO fdO p_only (spOnly kk)) (gO : mg "_law_only" = some (.ref fO)) (kO : PySem.W.keepIn K (.ref fO) = true) (bO : Binds K fdO p_only []) : FnOk P w K mg base CX0 12 f fd p_law (spLaw K) := by
  obtain ⟨f0, fd0, g0, k0, b0, G0⟩ := D0.ex
  obtain ⟨f1, fd1, g1, k1, b1, G1⟩ := D1.ex
  obtain ⟨f2, fd2, g2, k2, b2, G2⟩ := D2.ex
  obtain ⟨f3, fd3, g3, k3, b3, G3⟩ := D3.ex
  obtain ⟨f4, fd4, g4, k4, b4, G4⟩ := D4.ex
  obtain ⟨f5, fd5, g5, k5, b5, G5⟩ := D5.ex
  obtain ⟨fW, fdW, gW, kW, bW, GW⟩ := DW.ex
  obtain ⟨fI, fdI, psI, MI, bI, GI⟩ := A1.make
  obtain ⟨fV, fdV, psV, mV, bV, GV⟩ := (A1.leave (by decide +kernel)).ex
  obtain ⟨fT, fdT, psT, mT, bT, GT⟩ := A3.turn
  obtain ⟨fS, fdS, psS, mS, bS, GS⟩ := (A2.state (by decide +kernel)).ex
  refine F.ok sc_law (fun vs H Q E h => ?_) (fun cdv A outer s H vs Q E hr h => ?_)
  · obtain ⟨a, ns, rfl, _⟩ := h
    rfl
  · obtain ⟨a, ns, rfl, hs, hlen, k⟩ := h
    have hu := hu_of hr
    have hu64 := hr.units
    have R : ∀ j, j ≤ 11 → Room j _ := fun j h => hr.mono h
    have hr1 : Room 1 _ := hr.mono (by decide)
    refine ⟨_, pss_cons (ps_set (i := 1) sc_law.nd rfl (Or.inl rfl) (pe_make0 MI GI (R 5 (by decide)) rfl mgC bI .nil pass0))
      (pss_cons (ps_set (i := 2) sc_law.nd rfl (Or.inl rfl) (pe_lst pa_nil))
      (pss_cons (ps_set (i := 3) sc_law.nd rfl (Or.inl rfl) (pe_call G1 (R 3 (by decide)) rfl g1 k1 b1 .nil pass0 (pa_cons (pe_call G0 hr1 rfl g0 k0 b0 .nil pass0 (pa_cons (pv 0) (pa_cons pe_int pa_nil))) (pa_cons (pe_call G0 hr1 rfl g0 k0 b0 .nil pass0 (pa_cons (pv 0) (pa_cons pe_int pa_nil))) pa_nil))))
      (pss_cons (ps_set (i := 4) sc_law.nd rfl (Or.inl rfl) (pe_op op_add pe_int (pe_op op_mod (pe_call G0 hr1 rfl g0 k0 b0 .nil pass0 (pa_cons (pv 0) (pa_cons pe_int pa_nil))) (pe_callB (call_max2 rfl) (by rfl) mx (by decide +kernel) (pa_cons pe_int (pa_cons (pe_callB call_len_seq (by rfl) LT.len PySem.boot_len (pa_cons (pv 0) pa_nil)) pa_nil))))))
      (pss_cons (ps_for PassesOwn.never rfl (pi_list (pe_slice sl_list (pv 0) (po_some pe_int) (po_some (pv 4)))) (pg_name (i := 5) sc_law.nd rfl (Or.inl rfl))
        (pss_one (ps_if (pt_not (pt_val (pe_call G2 (R 9 (by decide)) rfl g2 k2 b2 .nil pass0 (pa_cons (pv 1) (pa_cons (pv 2) (pa_cons (pv 3) (pa_cons (pv 5) pa_nil))))))) (pss_one (ps_ret pe_bl)) pss_nil)))
      (pss_cons (ps_set (i := 6) sc_law.nd rfl (Or.inl rfl) (pe_call G3 hr1 rfl g3 k3 b3 .nil pass0 (pa_cons (pv 3) (pa_cons (pe_op op_fdiv (pe_call G0 hr1 rfl g0 k0 b0 .nil pass0 (pa_cons (pv 0) (pa_cons pe_int pa_nil))) pe_int) pa_nil))))
      (pss_cons (ps_set (i := 7) sc_law.nd rfl (Or.inl rfl) (pe_op op_add pe_int (pe_op op_mod (pe_op op_fdiv (pe_call G0 hr1 rfl g0 k0 b0 .nil pass0 (pa_cons (pv 0) (pa_cons pe_int pa_nil))) pe_int) (pe_op op_add (pe_callB call_len_seq (by rfl) LT.len PySem.boot_len (pa_cons (pv 2) pa_nil)) pe_int))))
      (pss_cons (ps_if (PW.pt (pw_or (pt_cmp (pc_notN (pe_call G4 hr rfl g4 k4 b4 .nil pass0 (pa_cons (pv 1) (pa_cons (pv 6) (pa_cons pe_int (pa_cons (pe_lst pa_nil) pa_nil)))))))
          (pw_or1 (pt_cmp (pc_notN (pe_call G4 hr rfl g4 k4 b4 .nil pass0 (pa_cons (pv 1) (pa_cons (pv 6) (pa_cons (pe_op op_add (pe_callB call_len_seq (by rfl) LT.len PySem.boot_len (pa_cons (pv 2) pa_nil)) pe_int) (pa_cons (pe_lst pa_nil) pa_nil))))))))))
          (pss_one (ps_ret pe_bl)) pss_nil)
      (pss_cons (ps_set (i := 8) sc_law.nd rfl (Or.inl rfl) (pe_slice sl_list (pe_lst (pa_cons (pe_tup (pa_cons (pe_ix ix_list (pv 3) pe_int (fun _ _ => rfl)) (pa_cons (pe_ix ix_list (pv 3) pe_int (fun _ _ => rfl)) pa_nil))) pa_nil)) po_none (po_some (pe_op op_mod (pe_call G0 hr1 rfl g0 k0 b0 .nil pass0 (pa_cons (pv 0) (pa_cons pe_int pa_nil))) pe_int))))
      (pss_cons (ps_set (i := 9) sc_law.nd rfl (Or.inl rfl) (pe_call G4 hr rfl g4 k4 b4 .nil pass0 (pa_cons (pv 1) (pa_cons (pv 6) (pa_cons (pv 7) (pa_cons (pv 8) pa_nil))))))
      (pss_cons (ps_if (PW.pt (pw_or (pt_not (pt_val (pe_callB call_isi (by rfl) LT.isi (by decide +kernel) (pa_cons (pv 9) (pa_cons (pe_glob (v := V.ref CL) rfl mgL rfl) pa_nil)))))
          (pw_or1 (pt_not (pt_val (pe_callB call_isi (by rfl) LT.isi (by decide +kernel) (pa_cons (pe_fld (pv 9) rfl) (pa_cons (pe_glob (v := V.ref CE) rfl mgE rfl) pa_nil))))))))
          (pss_one (ps_ret pe_bl)) pss_nil)
      (pss_cons (ps_if (PW.pt (pw_or (pt_not (pt_val (pe_call GW hr1 rfl gW kW bW .nil pass0 (pa_cons (pe_fld (pv 9) rfl) pa_nil)))) (pw_or (pt_cmpR op_ne (pe_fld (pv 9) rfl) pe_int (nomark _))
          (pw_or1 (pt_cmpR (op_neD hu64) (pe_meth0 (E := E0) (pe_fld (pv 9) rfl) IE.cl mS GS (R 4 (by decide)) bS .nil pass0) (pv 8) (nomark _))))))
          (pss_one (ps_ret pe_bl)) pss_nil)
      (pss_cons (ps_set (i := 10) sc_law.nd rfl (Or.inl rfl) (pe_disp (pps_cons pe_str (pe_op op_sub (pv 7) pe_int) (pps_cons pe_str (pe_op op_sub (pv 7) pe_int) (pps_cons pe_str (pe_lst pa_nil) pps_nil))) (by rfl) (by rfl) (fun z => by cases z) (by decide)))
      (pss_cons (ps_for PassesOwn.never rfl (pi_list (pe_slice sl_list (pv 0) (po_some (pv 4)) po_none)) (pg_name (i := 5) sc_law.nd rfl (Or.inl rfl))
        (C8.pss_cut (ps_if (PW.pt (pw_and (pt_cmpR op_eq (pe_op op_mod (pe_op op_fdiv (pv 5) pe_int) pe_int) pe_int (nomark _)) (pw_and1 (pt_not (pt_val (pe_call G2 (R 9 (by decide)) rfl g2 k2 b2 .nil pass0 (pa_cons (pv 1) (pa_cons (pv 2) (pa_cons (pv 3) (pa_cons (pe_op op_fdiv (pv 5) pe_int) pa_nil)))))))))) (pss_one (ps_ret pe_bl)) pss_nil)
        (pss_cons (ps_set (i := 11) sc_law.nd rfl (Or.inl rfl) (pe_ix ix_list (pe_lst (pa_cons (pe_op op_mod (pe_op op_fdiv (pv 5) pe_int) pe_int) (pa_cons (pe_op op_mod (pe_op op_fdiv (pv 5) pe_int) pe_int) pa_nil))) (pe_op op_mod (pe_op op_fdiv (pv 5) pe_int) pe_int) (fun _ _ => rfl)))
        (pss_one (ps_if (pt_not (pt_val (pe_call G5 (R 10 (by decide)) rfl g5 k5 b5 .nil pass0 (pa_cons (pv 9) (pa_cons (pv 2) (pa_cons (pv 6) (pa_cons (pv 10) (pa_cons (pv 11) (pa_cons (pe_op op_mod (pv 5) pe_int) pa_nil))))))))) (pss_one (ps_ret pe_bl)) pss_nil)))))
      (pss_cons (ps_if (PW.pt (pw_or (pt_not (pt_val (pe_call G5 (R 10 (by decide)) rfl g5 k5 b5 .nil pass0 (pa_cons (pv 9) (pa_cons (pv 2) (pa_cons (pv 6) (pa_cons (pv 10) (pa_cons (pe_op op_add (pe_callB call_len_seq (by rfl) LT.len PySem.boot_len (pa_cons (pv 2) pa_nil)) pe_int) (pa_cons pe_int pa_nil)))))))))
          (pw_or1 (pt_cmpR op_ne (pe_dget hu (pv 10) pe_str (fun _ _ => rfl)) (pe_callB call_len_seq (by rfl) LT.len PySem.boot_len (pa_cons (pv 2) pa_nil)) (nomark _)))))
          (pss_one (ps_ret pe_bl)) pss_nil)
      (pss_cons (ps_expr (pe_meth (E := E0) (pv 1) cl mV GV (R 8 (by decide)) bV .nil (passes_call takes0 (fun _ _ _ _ h => h)) (pa_cons (pe_fld (pv 9) rfl) pa_nil)))
      (pss_cons (ps_try_as (i := 12) rfl rfl sc_law.nd rfl rfl ⟨rfl, by decide, .inl M.gL⟩ takes0
        (fun W pn xe tk _ => pss_one (ps_expr (pe_methE (E := WE W) (pv 9) A3.cl mT GT (R 9 (by decide)) bT (fun σ => passAt tk σ) (pa_cons (pe_op op_mod (pe_call G0 hr1 rfl g0 k0 b0 .nil pass0 (pa_cons (pv 0) (pa_cons pe_int pa_nil))) pe_int) (pa_cons (pe_op op_mod (pe_call G0 hr1 rfl g0 k0 b0 .nil pass0 (pa_cons (pv 0) (pa_cons pe_int pa_nil))) pe_int) pa_nil)))))
        (ts := fun a cls d => tRet (tCallP (spO kk a cls d) (tCons (tVar 12) (tCons (tC (.str "NoWatch")) tNil))))
        (fun a oe cls d pn hz hf => ?_))
      (pss_one (ps_ret pe_bl)))))))))))))))))), ?_⟩
    · obtain ⟨rfl, rfl⟩ := hz
      exact pss_one (ps_ret (pe_callP (sp := spOnly kk) (p := (a, oe)) FO ⟨hr1.dp, hr1.un⟩ List.mem_cons_self hf (by rfl) gO kO bO (pa_cons (pv 12) (pa_cons pe_str pa_nil))))
    intro p0 dx nx ndx nex
    refine ⟨p0, dx, rfl, upd_same, fun F0 Ha La fa Ca => ⟨rfl, ?_⟩⟩
    obtain ⟨sa, na⟩ := room_made nx ndx fa Ca
    refine ⟨(by show 0 ≤ sizeLine; decide), fun ro hro => ?_⟩
    have s1 := same_new (o := .lst []) hro
    have ro1 : upd Ha ro (.lst []) ro = some (.lst []) := upd_same
    try dsimp (config := { proj := false, iota := false, eta := false }) only
    generalize upd Ha ro (.lst []) = Hb at s1 ro1
    have z1 : Same H Hb := sa.trans s1
    refine ⟨_, rfl, a, ns, 0, rfl, z1.seq hs, fun c0 => ⟨_, rfl, a, ns, 1, rfl, z1.seq hs, fun c1 => ⟨c0, c1, rfl, fun q zs Hg hq hqz hz6 hzs _ sg => ?_⟩⟩⟩
    have F_ro : ro ∉ F0 := fun z => ex_no (A1.own La _ z) hro rfl
    have F_q : q ∉ F0 := fun z => by
      obtain ⟨o, e⟩ := A1.own La _ z
      rw [s1 _ _ e] at hq; cases hq
    have q_ro : q ≠ ro := fun z => by rw [z, ro1] at hq; cases hq
    have P0 : P7 Rs H Hg F0 p0 ro [] .init q zs 0 := ⟨A1.frame La (Ch.of (s1.trans sg) []) (fun _ _ z => nomatch z), ⟨sg _ _ ro1, .nil, (fun _ z => nomatch z), Num.nil⟩, (fun _ z => nomatch z), (fun _ _ _ z => by cases z), rfl, rfl, F_ro, ⟨hqz, hz6, hzs⟩, F_q, q_ro, Nat.le_refl _, Nat.zero_le _, Nat.zero_le _, z1.trans sg, na, sa.free hro⟩
    clear La fa Ca na nx ndx nex s1 ro1 F_ro F_q q_ro sg hq hro hqz z1 sa
    refine ⟨_, rfl, a, ns, 2, rfl, P0.old.seq hs, fun cc => ?_⟩
    refine ⟨_, rfl, a, _, rfl, .inl (P0.old.seq hs), _, _, rfl, _, _, rfl, rfl, (by show (0 : Int) < if _ > _ then _ else _; split <;> omega), _, _, rfl, rfl, ?_⟩
    dsimp (config := { proj := false, iota := false, eta := false }) only
    generalize (3 : Int) + _ = cut
    -- the first changes
    refine ⟨_, rfl, _, rfl, _, rfl, _, rfl, a, _, rfl, P0.old.seq hs, fun sl hsl => ?_⟩
    obtain ⟨ms, hms, lms⟩ := cutV_ints ns (some 3) (some cut)
    rw [hms]
    have s2 := same_new (o := .lst (ms.map V.int)) hsl
    have sl2 : upd Hg sl (.lst (ms.map V.int)) sl = some (.lst (ms.map V.int)) := upd_same
    have slF : sl ∉ F0 := fun z => ex_no (A1.own P0.rs _ z) hsl rfl
    have slro : sl ≠ ro := fun z => by rw [z, P0.rw_.at_] at hsl; cases hsl
    have P1 := P0.same A1 (Ch.of s2 []) (fun _ _ z => nomatch z) (fun z => nomatch z) (fun z => nomatch z) (fun _ z => nomatch z)
    try dsimp (config := { proj := false, iota := false, eta := false }) only
    generalize upd Hg sl (.lst (ms.map V.int)) = Hs at s2 sl2 P1 ⊢
    refine ⟨sl, rfl, ⟨_, SqL.of sl2⟩, ?_⟩
    refine for_list (xs := ms.map V.int) (fun i σ H' => (∃ y5 : Option V, σ = [some (.ref a), some (.ref p0), some (.ref ro), some (.ref q), some (.int cut), y5, none, none, none, none, none, none, none]) ∧ A7 Rs H p0 ro q zs sl (ms.map V.int) i H') ⟨⟨none, rfl⟩, F0, [], .init, P1, rfl, sl2, slF, slro⟩ ?_ ?_ ?_
    · rintro i σ H' _ ⟨_, F1, ts, s1, _, _, h, _⟩
      exact SqL.of h
    · rintro i x σ H1 hx ⟨⟨y5, rfl⟩, F1, ts, r1, B, em, h1, h2, h3⟩
      obtain ⟨c, rfl, hi⟩ := ints_at hx
      refine ⟨_, rfl, _, rfl, _, rfl, _, rfl, H, F1, p0, ro, ts, r1, q, zs, i, c, rfl, B, by omega, fun F2 t r H2 B2 gr c2 => ⟨true, rfl, iteF ⟨⟨_, rfl⟩, F2, _, _, B2, em, c2.at h1 (fun z => (List.mem_cons.mp z).elim h3 h2), fun z => ?_, h3⟩⟩⟩
      rcases gr _ z with z | z
      · exact h2 z
      · rw [h1] at z; cases z
    clear P0 P1 s2 sl2 slF slro hsl
    rintro σ H1 ⟨⟨y5, rfl⟩, F1, ts, r1, B, em, _, _, _⟩
    rw [List.length_map] at B
    have lt : (ts.map V.ref).length = r1.rows.length := by rw [List.length_map, Paired.length B.rw_.rr]
    have gmm : ∀ {hx : Hp}, Same H1 hx → P7 Rs H hx F1 p0 ro ts r1 q zs ms.length := fun s => B.same A1 (Ch.of s []) (fun _ _ z => nomatch z) (fun z => nomatch z) (fun z => nomatch z) (fun _ z => nomatch z)
    -- where the line starts
    refine ⟨_, rfl, _, rfl, a, ns, 1, rfl, B.old.seq hs, fun cp => ⟨_, _, rfl, rfl, ⟨by decide, by decide⟩, q, zs, _, rfl, B.po.at_, B.po.six, B.po.ok, fun z H2 oz s2 => ?_⟩⟩
    have B2 := gmm s2
    refine ⟨_, rfl, a, ns, 2, rfl, B2.old.seq hs, fun cs => ⟨_, _, rfl, rfl, ⟨by decide, by decide⟩, _, rfl, ro, _, rfl, .inl (SqL.of B2.rw_.at_), _, _, rfl, rfl, _, _, rfl, rfl, (by show (0 : Int) < (((ts.map V.ref).length : Nat) : Int) + 1; omega), _, _, rfl, rfl, ?_⟩⟩
    rw [lt]
    have hst1 : 1 ≤ 1 + cs / 7 % ((r1.rows.length : Int) + 1) := by have := Int.emod_nonneg (cs / 7) (b := (r1.rows.length : Int) + 1) (by omega); omega
    have hst2 : 1 + cs / 7 % ((r1.rows.length : Int) + 1) ≤ (r1.rows.length : Int) + 1 := by have := Int.emod_lt_of_pos (cs / 7) (b := (r1.rows.length : Int) + 1) (by omega); omega
    dsimp (config := { proj := false, iota := false, eta := false }) only
    generalize 1 + cs / 7 % ((r1.rows.length : Int) + 1) = st at hst1 hst2
    -- two that are refused
    refine ⟨_, rfl, _, rfl, (by show 0 ≤ sizeLine; decide), fun l1 hl1 => ?_⟩
    have s3 := same_new (o := .lst []) hl1
    have l13 : upd H2 l1 (.lst []) l1 = some (.lst []) := upd_same
    have l1F : l1 ∉ F1 := fun z => ex_no (A1.own B2.rs _ z) hl1 rfl
    have B3 := gmm (s2.trans s3)
    try dsimp (config := { proj := false, iota := false, eta := false }) only
    generalize upd H2 l1 (.lst []) = H3 at s3 l13 B3 ⊢
    refine ⟨H, F1, p0, ro, ts, r1, q, zs, ms.length, z, 0, l1, [], [], rfl, B3, by omega, by omega, oz, l13, l1F, .nil, Nat.zero_le _, (fun _ z => nomatch z), fun _ F4 H4 B4 gr4 c4 => ?_, fun z => absurd z (by decide)⟩
    refine ⟨false, by rw [decide_eq_true rfl]; rfl, iteF ?_⟩
    refine ⟨_, rfl, _, rfl, _, rfl, ro, _, rfl, .inl (SqL.of B4.rw_.at_), _, _, rfl, rfl, (by show 0 ≤ sizeLine; decide), fun l2 hl2 => ?_⟩
    have s5 := same_new (o := .lst []) hl2
    have l25 : upd H4 l2 (.lst []) l2 = some (.lst []) := upd_same
    have l2F : l2 ∉ F4 := fun z => ex_no (A1.own B4.rs _ z) hl2 rfl
    have B5 := B4.same A1 (Ch.of s5 []) (fun _ _ z => nomatch z) (fun z => nomatch z) (fun z => nomatch z) (fun _ z => nomatch z)
    try dsimp (config := { proj := false, iota := false, eta := false }) only
    generalize upd H4 l2 (.lst []) = H5 at s5 l25 B5 ⊢
    refine ⟨H, F4, p0, ro, ts, r1, q, zs, ms.length, z, _, l2, [], [], rfl, B5, by omega, by omega, oz, l25, l2F, .nil, Nat.zero_le _, (fun _ z => nomatch z), fun _ F6 H6 B6 gr6 c6 => ?_, fun _ h2 => absurd h2 (by rw [lt]; omega)⟩
    refine ⟨false, by rw [decide_eq_true rfl]; rfl, iteF ?_⟩
    clear B5 l25 l2F s5 B4 hl2 gr4 c4 B3 l13 l1F s3 hl1 B2 s2 c6 gr6 gmm B l2 l1 H5 H4 H3 H2
    -- the pair that the ear begins with
    obtain ⟨z0, hz0, e0⟩ := at_strs (ns := zs) (z := 0) (by omega) (by rw [hz6]; decide)
    obtain ⟨z2, hz2, e2⟩ := at_strs (ns := zs) (z := 1) (by omega) (by rw [hz6]; decide)
    refine ⟨_, rfl, q, _, _, _, rfl, rfl, SqL.of B6.po.at_, e0, _, rfl, q, _, _, _, rfl, rfl, SqL.of B6.po.at_, e2, (by show 2 ≤ sizeLine; decide), fun tp htp => ⟨(by show 1 ≤ sizeLine; decide), fun l3 hl3 => ?_⟩⟩
    have s67 : Same H6 (upd (upd H6 tp (.tup [.str z0, .str z2])) l3 (.lst [.ref tp])) := (same_new htp).trans (same_new hl3)
    have tp7 : (upd (upd H6 tp (.tup [.str z0, .str z2])) l3 (.lst [.ref tp])) tp = some (.tup [.str z0, .str z2]) := same_new hl3 _ _ upd_same
    have l37 : (upd (upd H6 tp (.tup [.str z0, .str z2])) l3 (.lst [.ref tp])) l3 = some (.lst [.ref tp]) := upd_same
    try dsimp (config := { proj := false, iota := false, eta := false }) only
    generalize upd (upd H6 tp (.tup [.str z0, .str z2])) l3 (.lst [.ref tp]) = H7 at s67 tp7 l37
    refine ⟨_, rfl, a, ns, 2, rfl, (B6.old.trans s67).seq hs, fun ce => ⟨_, _, rfl, rfl, (by show (0 : Int) < 2; decide), _, rfl, l3, _, rfl, SqL.of l37, fun gq hgq => ?_⟩⟩
    have ec : cutV [V.ref tp] none (some (ce % 2)) = ([tp].take (ce % 2).toNat).map V.ref := by
      rw [cutV_upto _ (by omega), List.map_take]; rfl
    rw [ec]
    have gp7 : PairsAt H7 ([tp].take (ce % 2).toNat) ([(z0, z2)].take (ce % 2).toNat) := pair_take tp7 _
    have gl7 : ([(z0, z2)].take (ce % 2).toNat).length ≤ 1 := by rw [List.length_take]; exact Nat.min_le_right _ _
    have go7 : ∀ x ∈ ([(z0, z2)].take (ce % 2).toNat), PairOk x := fun x hx => by
      rw [List.mem_singleton.mp (List.mem_of_mem_take hx)]
      exact ⟨hzs _ hz0, hzs _ hz2⟩
    generalize [tp].take (ce % 2).toNat = gts at gp7 ⊢
    generalize [(z0, z2)].take (ce % 2).toNat = gv at gp7 gl7 go7
    have s78 : Same H6 (upd H7 gq (.lst (gts.map V.ref))) := s67.trans (same_new hgq)
    have gq8 : upd H7 gq (.lst (gts.map V.ref)) gq = some (.lst (gts.map V.ref)) := upd_same
    have gp8 : PairsAt (upd H7 gq (.lst (gts.map V.ref))) gts gv := gp7.keep fun a xs e => same_new hgq _ _ e
    have gq0 : H6 gq = none := s67.free hgq
    try dsimp (config := { proj := false, iota := false, eta := false }) only
    generalize upd H7 gq (.lst (gts.map V.ref)) = H8 at s78 gq8 gp8 ⊢
    clear gp7 hgq ec l37 tp7 s67 hl3 htp
    have B8 := B6.same A1 (Ch.of s78 []) (fun _ _ z => nomatch z) (fun z => nomatch z) (fun z => nomatch z) (fun _ z => nomatch z)
    have gqF : gq ∉ F6 := fun z => ex_no (A1.own B6.rs _ z) gq0 rfl
    -- the line
    refine ⟨_, rfl, _, rfl, _, rfl, _, rfl, H, F6, p0, ro, ts, r1, q, zs, ms.length, z, st, gq, gts, gv, rfl, B8, by omega, by omega, oz, gq8, gqF, gp8, gl7, go7, fun bad => absurd bad (by omega), fun _ _ F9 Fe lp e H9 B9 L9 E9 gr9 fe9 fef lp0 lpF lpE c9 => ?_⟩
    rw [em] at L9
    obtain ⟨dxl, hl9⟩ := L9
    have hl9 : H9 lp = some (.ins CL dxl (nsLine.zip [.ref p0, .int 1, .ref e])) := hl9
    have gq9 := c9.at gq8 gqF
    obtain ⟨inE, dxe, fse, hobe, hfe⟩ := A2.inst E9
    refine ⟨_, rfl, _, _, _, _, true, rfl, .own _, IL.ty hl9, kit_self, true, rfl, iteF ?_⟩
    refine ⟨_, rfl, lp, CL, dxl, _, _, rfl, hl9, A3.cl, A3.n2, zf_get (i := 2) (by decide +kernel) rfl, _, _, _, _, true, rfl, .own _, IE.ty hobe, kit_self, true, rfl, iteF ?_⟩
    refine ⟨_, rfl, lp, CL, dxl, _, _, rfl, hl9, A3.cl, A3.n1, zf_get (i := 1) (by decide +kernel) rfl, _, true, rfl, .inl ⟨⟨_, rfl⟩, rfl⟩, true, rfl, iteF ?_⟩
    refine ⟨_, rfl, lp, CL, dxl, _, _, rfl, hl9, A3.cl, A3.n1, zf_get (i := 1) (by decide +kernel) rfl, rfl, _, rfl, iteNS rfl ?_⟩
    refine ⟨_, rfl, lp, CL, dxl, _, _, rfl, hl9, A3.cl, A3.n2, zf_get (i := 2) (by decide +kernel) rfl, e, dxe, fse, rfl, hobe, hfe _ (by simp), Fe, e, st, gv, [], rfl, E9, (by show gv.length + 0 ≤ 990; omega), (fun _ z => nomatch z), fun Fe2 q2 ts2 ps2 H10 E10 gr10 c10 q20 q2E q2at m2 told => ?_⟩
    have tg : Told (holdM gv []) gv := by
      match gv, gl7 with
      | [], _ => exact ⟨rfl, .nil, fun _ => rfl⟩
      | [x], _ => exact ⟨rfl, List.nodup_cons.mpr ⟨by simp, List.nodup_nil⟩, fun _ => rfl⟩
    obtain rfl : ps2 = gv := told.uniq tg
    have gqE : gq ∉ Fe := fun z => by rw [fe9 _ z] at gq8; cases gq8
    have gq10 := c10.at gq9 gqE
    have gp10 := ((gp8.keep c9.tup).keep c10.tup)
    refine ⟨_, rfl, .list (ps2.map pairD), .list (ps2.map pairD), .lst (SqL.of q2at) m2.dp, .lst (SqL.of gq10) gp10.dp, pairs_shaped go7, pairs_shaped go7, ?_⟩
    rw [pairs_eqv go7]
    refine ⟨_, rfl, iteF ?_⟩
    -- the law's own places
    intro pd hpd
    have u1 : Same H10 (upd H10 pd (.dK [])) := same_new hpd
    have pd1 : upd H10 pd (.dK []) pd = some (.dK []) := upd_same
    refine ⟨_, rfl, _, _, rfl, rfl, _, rfl, _, _, rfl, rfl, (by show 0 ≤ sizeLine; decide), fun al hal => ?_⟩
    have u2 := u1.trans (same_new (o := .lst []) hal)
    have pd2 := same_new (o := .lst []) hal _ _ pd1
    have al2 : upd (upd H10 pd (.dK [])) al (.lst []) al = some (.lst []) := upd_same
    have pd_al : pd ≠ al := ne_of_none pd1 hal
    have al0 : H10 al = none := u1.free hal
    try dsimp (config := { proj := false, iota := false, eta := false }) only
    generalize upd (upd H10 pd (.dK [])) al (.lst []) = Hk at u2 pd2 al2
    refine ⟨pd2, plD (st - 1) (st - 1) al, rfl, (by show 3 ≤ 15; decide), ?_⟩
    rw [merge_pl]
    have u11 : Same H10 (upd Hk pd (.dK (plD (st - 1) (st - 1) al))) := fun b o y => by rw [upd_ne (ne_of_none y hpd)]; exact u2 _ _ y
    have pd11 : upd Hk pd (.dK (plD (st - 1) (st - 1) al)) pd = some (.dK (plD (st - 1) (st - 1) al)) := upd_same
    have al11 : upd Hk pd (.dK (plD (st - 1) (st - 1) al)) al = some (.lst []) := by rw [upd_ne pd_al.symm]; exact al2
    try dsimp (config := { proj := false, iota := false, eta := false }) only
    generalize upd Hk pd (.dK (plD (st - 1) (st - 1) al)) = H11 at u11 pd11 al11
    have roE : ro ∉ Fe := fun y => by have x := fe9 _ y; rw [B8.rw_.at_] at x; cases x
    have qE : q ∉ Fe := fun y => by have x := fe9 _ y; rw [B8.po.at_] at x; cases x
    have nE : ∀ x ∈ Fe, H x = none := fun x hx => B8.old.free (fe9 x hx)
    have B10 := B9.same A1 c10 (fun x hx y => fef x y hx) roE qE nE
    have B11 := B10.same A1 (Ch.of u11 []) (fun _ _ z => nomatch z) (fun z => nomatch z) (fun z => nomatch z) (fun _ z => nomatch z)
    have hl10 := c10.at hl9 lpE
    have E11 := A2.frame E10 (Ch.of u11 []) (fun _ _ z => nomatch z)
    have far : ∀ {x : Addr} {o : HO}, H9 x = some o → x ∉ Fe → x ∉ Fe2 := fun {x o} y n z => by
      rcases gr10 x z with z | z
      · exact n z
      · rw [y] at z; cases z
    have S11 : L7 Rs Er CL H H11 F9 Fe2 p0 ro ts { r1 with met := r1.met + 1, wat := setF r1.wat ((r1.met : Int) + 1) (some ⟨z, st - 1, st - 1⟩) } q zs ms.length lp e pd al [] ⟨z, st - 1, st - 1⟩ st ps2 [] := by
      refine ⟨B11, ⟨dxl, u11 _ _ hl10⟩, E11, ?_, rfl, by show 0 ≤ st - 1; omega, by show st - 1 ≤ (r1.rows.length : Int); omega, oz, pd11, al11, .nil, (fun _ z => nomatch z), hst1, gl7, by show ((0 : Nat) : Int) ≤ st - 1 - (st - 1); omega, by show st - 1 ≤ (r1.rows.length : Int); omega, fun x hx y => ?_, fun x hx => ?_, fun x hx => ?_, ?_, fun x hx => ?_, B10.old.free hpd⟩
      · show setF r1.wat ((r1.met : Int) + 1) _ 1 = _
        rw [em]
        simp [setF]
      · rcases gr10 x hx with w1 | w1
        · exact fef x w1 y
        · exact ex_no (A1.own B9.rs _ y) w1 rfl
      · simp only [List.mem_cons, List.not_mem_nil, or_false] at hx
        rcases hx with rfl | rfl | rfl
        · exact lpF
        · exact fun y => ex_no (A1.own B10.rs _ y) hpd rfl
        · exact fun y => ex_no (A1.own B10.rs _ y) al0 rfl
      · simp only [List.mem_cons, List.not_mem_nil, or_false] at hx
        rcases hx with rfl | rfl | rfl | rfl | rfl
        · exact far B9.rw_.at_ roE
        · exact far B9.po.at_ qE
        · exact far hl9 lpE
        · exact fun y => ex_no (A2.own E10 _ y) hpd rfl
        · exact fun y => ex_no (A2.own E10 _ y) al0 rfl
      · simp only [List.nodup_cons, List.mem_cons, List.not_mem_nil, or_false, not_or, not_false_eq_true, List.nodup_nil, and_true]
        exact ⟨⟨B9.q2.symm, ne_of_none B8.rw_.at_ lp0, ne_of_none B10.rw_.at_ hpd, ne_of_none B10.rw_.at_ al0⟩, ⟨ne_of_none B8.po.at_ lp0, ne_of_none B10.po.at_ hpd, ne_of_none B10.po.at_ al0⟩, ⟨ne_of_none hl10 hpd, ne_of_none hl10 al0⟩, pd_al⟩
      · rcases gr10 x hx with w1 | w1
        · exact nE x w1
        · exact B9.old.free w1
    clear E11 hl10 B11 B10 nE qE roE al11 pd11 u11 al2 pd2 u2 al0 pd_al pd1 u1 hal hpd told tg gp10 gq10 gqE m2 q2at q2E q20 c10 gr10 E10 hfe hobe inE gq9 hl9 c9 lpE lpF lp0 fef fe9 gr9 E9 B9 gqF B8 gp8 gq8 s78 gq0 far
    -- its turns
    refine ⟨_, rfl, _, rfl, _, rfl, a, _, rfl, S11.r.old.seq hs, fun sl hsl => ?_⟩
    obtain ⟨ms2, hms2, lms2⟩ := cutV_ints ns (some cut) none
    rw [hms2]
    have s12 := same_new (o := .lst (ms2.map V.int)) hsl
    have sl12 : upd H11 sl (.lst (ms2.map V.int)) sl = some (.lst (ms2.map V.int)) := upd_same
    have slF : sl ∉ F9 := fun y => ex_no (A1.own S11.r.rs _ y) hsl rfl
    have slE : sl ∉ Fe2 := fun y => ex_no (A2.own S11.er _ y) hsl rfl
    have slro : sl ≠ ro := fun y => by rw [y, S11.r.rw_.at_] at hsl; cases hsl
    have slpd : sl ≠ pd := fun y => by rw [y, S11.pd_] at hsl; cases hsl
    have S12 := S11.same A1 A2 s12
    try dsimp (config := { proj := false, iota := false, eta := false }) only
    generalize upd H11 sl (.lst (ms2.map V.int)) = H12 at s12 sl12 S12 ⊢
    refine ⟨sl, rfl, ⟨_, SqL.of sl12⟩, ?_⟩
    refine for_list (xs := ms2.map V.int) (fun i σ H' => (∃ y5 y11 : Option V, σ = [some (.ref a), some (.ref p0), some (.ref ro), some (.ref q), some (.int cut), y5, some (.str z), some (.int st), some (.ref gq), some (.ref lp), some (.ref pd), y11, none]) ∧ T7 Rs Er CL H p0 ro q zs lp e pd st ps2 z sl (ms2.map V.int) (ms.length + i) H') ⟨⟨_, none, rfl⟩, F9, Fe2, ts, _, al, [], _, [], S12, rfl, sl12, slF, slE, slro, slpd⟩ ?_ ?_ ?_
    · rintro i σ H' _ ⟨_, _, _, _, _, _, _, _, _, _, _, h, _⟩
      exact SqL.of h
    · rintro i x σ H1 hx ⟨⟨y5, y11, rfl⟩, T1⟩
      obtain ⟨c, rfl, hi⟩ := ints_at hx
      refine ⟨fun σ H' => σ = [some (.ref a), some (.ref p0), some (.ref ro), some (.ref q), some (.int cut), some (.int c), some (.str z), some (.int st), some (.ref gq), some (.ref lp), some (.ref pd), y11, none] ∧ T7 Rs Er CL H p0 ro q zs lp e pd st ps2 z sl (ms2.map V.int) (ms.length + (i + 1)) H', ?_, ?_⟩
      · refine ⟨_, rfl, _, _, rfl, rfl, ⟨by decide, by decide⟩, _, _, rfl, rfl, (by show (0 : Int) < 3; decide), rfl, _, rfl, ?_⟩
        obtain ⟨F1, Fe1, ts1, s1, al1, als1, w1, tk1, S, ez, h1, h2, h3, h4, h5⟩ := T1
        refine ite2 (fun _ => ?_) fun _ => ⟨rfl, F1, Fe1, ts1, s1, al1, als1, w1, tk1, S.mono (by omega), ez, h1, h2, h3, h4, h5⟩
        refine ⟨_, rfl, _, rfl, _, rfl, _, rfl, _, _, rfl, rfl, ⟨by decide, by decide⟩, H, F1, p0, ro, ts1, s1, q, zs, ms.length + i, c / 12, rfl, S.r, by omega, fun F2 t r H2 P2 gr c2 => ⟨true, rfl, iteF ⟨rfl, F2, Fe1, _, _, al1, als1, w1, tk1, S.put A1 A2 P2 rfl ?_ gr c2, ez, c2.at h1 (fun y => (List.mem_cons.mp y).elim h4 h2), fun y => ?_, h3, h4, h5⟩⟩⟩
        · show s1.rows.length ≤ (s1.rows ++ [_]).length
          rw [List.length_append]; omega
        · rcases gr _ y with y | y
          · exact h2 y
          · rw [h1] at y; cases y
      rintro σ H2 ⟨rfl, F1, Fe1, ts1, s1, al1, als1, w1, tk1, S, ez, h1, h2, h3, h4, h5⟩
      refine ⟨_, rfl, _, _, rfl, rfl, ⟨by decide, by decide⟩, _, _, rfl, rfl, (by show (0 : Int) < 5; decide), _, rfl, _, _, rfl, rfl, ⟨by decide, by decide⟩, _, _, rfl, rfl, (by show (0 : Int) < 97; decide), (by show 2 ≤ sizeLine; decide), fun l hl => ?_⟩
      obtain ⟨mo, hmo, eo⟩ := at_ints (ns := [c / 12 % 5, c / 12 % 97]) (z := c / 1164 % 2) (by omega) (by show c / 1164 % 2 < 2; omega)
      have mo0 : 0 ≤ mo := by
        simp only [List.mem_cons, List.not_mem_nil, or_false] at hmo
        omega
      have s13 := same_new (o := .lst ([c / 12 % 5, c / 12 % 97].map V.int)) hl
      have S13 := S.same A1 A2 s13
      refine ⟨_, rfl, _, _, rfl, rfl, ⟨by decide, by decide⟩, _, _, rfl, rfl, (by show (0 : Int) < 2; decide), l, _, _, _, rfl, rfl, SqL.of upd_same, eo, ?_⟩
      refine ⟨_, rfl, _, rfl, _, rfl, _, rfl, _, rfl, _, rfl, _, _, rfl, rfl, (by show (0 : Int) < 4; decide), H, F1, Fe1, p0, ro, ts1, s1, q, zs, _, lp, e, pd, al1, als1, w1, st, ps2, tk1, z, mo, c % 4, rfl, ez.symm, S13, by omega, mo0, fun F2 Fe2 s2 al2 als2 w2 tk2 H3 S3 _ ep _ gr gre c3 => ⟨true, rfl, iteF ⟨⟨_, _, rfl⟩, F2, Fe2, ts1, s2, al2, als2, w2, tk2, S3, ep.trans ez, c3.at (s13 _ _ h1) (fun y => ?_), fun y => ?_, fun y => ?_, h4, h5⟩⟩⟩
      · rcases List.mem_cons.mp y with y | y
        · exact h5 y
        · exact (List.mem_append.mp y).elim h2 h3
      · rcases gr _ y with y | y
        · exact h2 y
        · exact nomatch (s13 _ _ h1).symm.trans y
      · rcases gre _ y with y | y
        · exact h3 y
        · exact nomatch (s13 _ _ h1).symm.trans y
    clear S12 S11 s12 sl12 slF slE slro slpd hsl
    rintro σ H1 ⟨⟨y5, y11, rfl⟩, F1, Fe1, ts1, s1, al1, als1, w1, tk1, S, ez, _⟩
    rw [List.length_map] at S
    -- the last turn
    have lt1 : (ts1.map V.ref).length = s1.rows.length := by rw [List.length_map, Paired.length S.r.rw_.rr]
    refine ⟨_, rfl, _, rfl, _, rfl, _, rfl, _, rfl, ro, _, rfl, .inl (SqL.of S.r.rw_.at_), _, _, rfl, rfl, H, F1, Fe1, p0, ro, ts1, s1, q, zs, _, lp, e, pd, al1, als1, w1, st, ps2, tk1, z, _, 0, rfl, ez.symm, S, by omega, by show (0 : Int) ≤ (((ts1.map V.ref).length : Nat) : Int) + 1; omega, fun F2 Fe2 s2 al2 als2 w2 tk2 H2 S2 es ep eh gr gre c2 => ⟨true, rfl, iteF ?_⟩⟩
    have eh2 : w2.had = (((ts1.map V.ref).length : Nat) : Int) := by
      rw [eh rfl, lt1]
      unfold toldW
      rw [if_pos]
      have : (dueW s1 w1 ((s1.rows.length : Int) + 1)).length ≤ s1.rows.length := by
        unfold dueW wantedM
        rw [List.length_take]
        refine Nat.le_trans (Nat.min_le_right _ _) (Nat.le_trans (List.length_filter_le _ _) ?_)
        rw [List.length_drop]; omega
      omega
    refine ⟨_, rfl, pd, _, rfl, pl_had S2.pd_, _, rfl, ro, _, rfl, .inl (SqL.of S2.r.rw_.at_), rfl, _, rfl, iteNS (congrArg V.int eh2) ?_⟩
    -- its watcher leaves
    obtain ⟨dxl, hl2⟩ := S2.ln
    have hl2 : H2 lp = some (.ins CL dxl (nsLine.zip [.ref p0, .int 1, .ref e])) := hl2
    obtain ⟨_, dxr, fsr, hobr, _, hfsr⟩ := A1.inst S2.r.rs
    refine ⟨_, rfl, p0, dxr, fsr, rfl, hobr, hfsr _ (by simp [roomMs]), _, rfl, lp, CL, dxl, _, _, rfl, hl2, A3.cl, A3.n1, zf_get (i := 1) (by decide +kernel) rfl, F2, p0, 1, _, s2, rfl, rfl, S2.r.rs, S2.r.fits (by omega), (fun y => by rw [S2.wa] at y; cases y), fun w3 _ F3 H3 R3 gr3 c3 => ?_⟩
    have hl3 := c3.at hl2 (S2.oF lp (by simp))
    have E3 := A2.frame S2.er c3 S2.d
    have old3 := c3.old S2.r.old S2.r.no
    have far3 : ∀ {x : Addr}, (∃ o, H2 x = some o) → x ∉ F2 → x ∉ F3 := fun {x} y n z => by
      rcases gr3 x z with z | z
      · exact n z
      · exact ex_no y z rfl
    have fit3 := S2.r.fits (by omega)
    have h1 := S2.tl
    have h2 := S2.tn
    have h3 := S2.b1
    have h4 := S2.gl
    have h5 := S2.r.b1
    refine ⟨_, rfl, lp, dxl, _, rfl, hl3, ln_zip, _, rfl, a, ns, 2, rfl, old3.seq hs, fun t2 => ⟨_, _, rfl, rfl, (by show (0 : Int) < 3; decide), _, rfl, a, ns, 1, rfl, old3.seq hs, fun t1 => ⟨_, _, rfl, rfl, (by show (0 : Int) < 4; decide), lp, p0, e, 1, t2 % 3, t1 % 4, F3, Fe2, _, st, ps2, tk2, rfl, ⟨dxl, hl3⟩, R3, E3, far3 ⟨_, hl2⟩ (S2.oF lp (by simp)), S2.oE lp (by simp), fun x hx => far3 (A2.own S2.er x hx) (S2.d x hx), ⟨fit3.rows, fit3.given, fit3.met⟩, by omega, ?_, S2.r.good, fun _ F4 H4 R4 gr4 c4 => ⟨true, M.e .watch, fun _ b hb => ⟨_, rfl, .watch, _, _, rfl, rfl, rfl, k6_shaped .watch, k6_eqv .watch .watch, fun H5 _ => k _⟩, fun z => nomatch z⟩, fun w4 ew4 => ?_⟩⟩⟩
    · show ps2.length + tk2.length + s2.rows.length ≤ 990
      omega
    · exfalso
      revert ew4
      show setF s2.wat 1 none 1 = some w4 → False
      simp [setF]
end
end KL

namespace KL
open PySem
theorem kit_own {K : PySem.W.Frag} {D B : Addr} {b : Bool} (hd : PySem.W.hasDictIn K B = true) (ht : PySem.W.typeIn K (.ref B) = some (.type "type")) (self : PySem.W.subIn K (.ref D) (.ref D) = some true) (h : PySem.W.subIn K (.ref D) (.ref B) = some b) :
    PySem.W.kitOne K (.ref D) (.ref B) = some b := by
  by_cases e : D = B
  · subst e
    rw [self] at h
    rw [← h]
    exact if_pos (beq_self_eq_true _)
  · obtain ⟨cd, hc, _⟩ := PySem.W.any_some hd
    have n : ¬ ((Value.ref D == Value.ref B) = true) := fun z => e (Value.ref.inj (beq_iff_eq.mp z))
    have y : ((PySem.W.clsIn K B).isSome && PySem.W.typeIn K (.ref B) == some (.type "type")) = true := by rw [hc, ht]; rfl
    unfold PySem.W.kitOne PySem.W.kitCls
    rw [if_neg n]
    dsimp only
    rw [if_pos y]
    exact h
theorem kit_type {K : PySem.W.Frag} {D : Addr} {T : String} {b : Bool} (m : PySem.W.kitMeta T = true) (h : PySem.W.subIn K (.ref D) (.type T) = some b) : PySem.W.kitOne K (.ref D) (.type T) = some b := by
  have n : ¬ ((Value.ref D == Value.type T) = true) := fun z => by cases beq_iff_eq.mp z
  unfold PySem.W.kitOne PySem.W.kitCls
  rw [if_neg n]
  dsimp only
  rw [if_pos m]
  exact h
end KL
namespace KL
open PySem L2 L2H
theorem vals_app {a b : List V} {c d : List Value} (h : Vals a c) (k : Vals b d) : Vals (a ++ b) (c ++ d) := by
  induction h with
  | nil => exact k
  | cons r m ih => exact .cons r ih
theorem vals_rev {a : List V} {c : List Value} (h : Vals a c) : Vals a.reverse c.reverse := by
  induction h with
  | nil => exact .nil
  | cons r m ih =>
    rw [List.reverse_cons, List.reverse_cons]
    exact vals_app ih (.cons r .nil)
theorem vals_appR {a b : List V} {c d : List Value} (h : Vals a c) (k : Vals b d) : Vals (a ++ b.reverse) (c ++ d.reverse) := vals_app h (vals_rev k)
end KL

namespace KL
open PySem L2 L2H LX KB

theorem all_mk {l : PySem.W.OpenLaw} {w : World} {K : PySem.W.Frag} {h : Heap} {mg : Str → Option Value} {fa C_Ear C_Line C_Leases C_Log C_Watcher C_Room f_Ear_init dT_Ear_init f_Ear_hear f_Ear_heard f_Ear_state f_Ear_many f_Ear_u_take_in f_Line_init dT_Line_init f_Line_turn f_Leases_init f_Leases_due f_Leases_refuse_unknown f_Log_init f_Log_note f_Log_last f_Log_first f_Log_wanted f_Watcher_init f_Room_init f_Room_put dT_Room_put f_Room_value f_Room_holder f_Room_pairs f_Room_last f_Room_first f_Room_watch f_Room_pull f_Room_confirm f_Room_broken f_Room_leave f_Room_u_refuse_lease f_Room_u_refuse_held f_Room_u_watching f_Room_u_refuse_watcher f_arriving f_whole f_cell_at f_sign f_text f_pool f_prefix f_change f_changes f_put f_turned f_only f_line f_law E_LeaseError E_BadTicks E_NoLease E_NoKey E_Held E_NoStart E_NoWatch : Addr} {dt0_Ear_init dt0_Room_put tm_WELL tm_ROW_LOST tm_BROKEN_MIDST : Tok} (X : K.In h) (G : h.Ns mainGlobals mg) (hfa : mg "law" = some (.ref fa))
    {od_Ear_init an_Ear_init do_Ear_init od_Ear_hear an_Ear_hear od_Ear_heard an_Ear_heard od_Ear_state an_Ear_state od_Ear_many an_Ear_many od_Ear_u_take_in an_Ear_u_take_in od_Line_init an_Line_init do_Line_init od_Line_turn an_Line_turn od_Leases_init an_Leases_init od_Leases_due an_Leases_due od_Leases_refuse_unknown an_Leases_refuse_unknown od_Log_init an_Log_init od_Log_note an_Log_note od_Log_last an_Log_last od_Log_first an_Log_first od_Log_wanted an_Log_wanted od_Watcher_init an_Watcher_init od_Room_init an_Room_init od_Room_put an_Room_put do_Room_put od_Room_value an_Room_value od_Room_holder an_Room_holder od_Room_pairs an_Room_pairs od_Room_last an_Room_last od_Room_first an_Room_first od_Room_watch an_Room_watch od_Room_pull an_Room_pull od_Room_confirm an_Room_confirm od_Room_broken an_Room_broken od_Room_leave an_Room_leave od_Room_u_refuse_lease an_Room_u_refuse_lease od_Room_u_refuse_held an_Room_u_refuse_held od_Room_u_watching an_Room_u_watching od_Room_u_refuse_watcher an_Room_u_refuse_watcher od_arriving an_arriving od_whole an_whole od_cell_at an_cell_at od_sign an_sign od_text an_text od_pool an_pool od_prefix an_prefix od_change an_change od_changes an_changes od_put an_put od_turned an_turned od_only an_only od_line an_line od_law an_law : Option Addr} {sl_Ear_init ds_Ear_init sl_Ear_hear sl_Ear_heard sl_Ear_state sl_Ear_many sl_Ear_u_take_in sl_Line_init ds_Line_init sl_Line_turn sl_Leases_init sl_Leases_due sl_Leases_refuse_unknown sl_Log_init sl_Log_note sl_Log_last sl_Log_first sl_Log_wanted sl_Watcher_init sl_Room_init sl_Room_put ds_Room_put sl_Room_value sl_Room_holder sl_Room_pairs sl_Room_last sl_Room_first sl_Room_watch sl_Room_pull sl_Room_confirm sl_Room_broken sl_Room_leave sl_Room_u_refuse_lease sl_Room_u_refuse_held sl_Room_u_watching sl_Room_u_refuse_watcher sl_arriving sl_whole sl_cell_at sl_sign sl_text sl_pool sl_prefix sl_change sl_changes sl_put sl_turned sl_only sl_line sl_law : Array (Option Value)} {oc_Ear_init kV_Ear_init dc_Ear_init pm_Ear_init cd_Ear_init ct_Ear_init dcl_Ear_init oc_Ear_hear kV_Ear_hear dc_Ear_hear pm_Ear_hear cd_Ear_hear ct_Ear_hear oc_Ear_heard kV_Ear_heard dc_Ear_heard pm_Ear_heard cd_Ear_heard ct_Ear_heard oc_Ear_state kV_Ear_state dc_Ear_state pm_Ear_state cd_Ear_state ct_Ear_state oc_Ear_many kV_Ear_many dc_Ear_many pm_Ear_many cd_Ear_many ct_Ear_many oc_Ear_u_take_in kV_Ear_u_take_in dc_Ear_u_take_in pm_Ear_u_take_in cd_Ear_u_take_in ct_Ear_u_take_in oc_Line_init kV_Line_init dc_Line_init pm_Line_init cd_Line_init ct_Line_init dcl_Line_init oc_Line_turn kV_Line_turn dc_Line_turn pm_Line_turn cd_Line_turn ct_Line_turn oc_Leases_init kV_Leases_init dc_Leases_init pm_Leases_init cd_Leases_init ct_Leases_init oc_Leases_due kV_Leases_due dc_Leases_due pm_Leases_due cd_Leases_due ct_Leases_due oc_Leases_refuse_unknown kV_Leases_refuse_unknown dc_Leases_refuse_unknown pm_Leases_refuse_unknown cd_Leases_refuse_unknown ct_Leases_refuse_unknown oc_Log_init kV_Log_init dc_Log_init pm_Log_init cd_Log_init ct_Log_init oc_Log_note kV_Log_note dc_Log_note pm_Log_note cd_Log_note ct_Log_note oc_Log_last kV_Log_last dc_Log_last pm_Log_last cd_Log_last ct_Log_last oc_Log_first kV_Log_first dc_Log_first pm_Log_first cd_Log_first ct_Log_first oc_Log_wanted kV_Log_wanted dc_Log_wanted pm_Log_wanted cd_Log_wanted ct_Log_wanted oc_Watcher_init kV_Watcher_init dc_Watcher_init pm_Watcher_init cd_Watcher_init ct_Watcher_init oc_Room_init kV_Room_init dc_Room_init pm_Room_init cd_Room_init ct_Room_init oc_Room_put kV_Room_put dc_Room_put pm_Room_put cd_Room_put ct_Room_put dcl_Room_put oc_Room_value kV_Room_value dc_Room_value pm_Room_value cd_Room_value ct_Room_value oc_Room_holder kV_Room_holder dc_Room_holder pm_Room_holder cd_Room_holder ct_Room_holder oc_Room_pairs kV_Room_pairs dc_Room_pairs pm_Room_pairs cd_Room_pairs ct_Room_pairs oc_Room_last kV_Room_last dc_Room_last pm_Room_last cd_Room_last ct_Room_last oc_Room_first kV_Room_first dc_Room_first pm_Room_first cd_Room_first ct_Room_first oc_Room_watch kV_Room_watch dc_Room_watch pm_Room_watch cd_Room_watch ct_Room_watch oc_Room_pull kV_Room_pull dc_Room_pull pm_Room_pull cd_Room_pull ct_Room_pull oc_Room_confirm kV_Room_confirm dc_Room_confirm pm_Room_confirm cd_Room_confirm ct_Room_confirm oc_Room_broken kV_Room_broken dc_Room_broken pm_Room_broken cd_Room_broken ct_Room_broken oc_Room_leave kV_Room_leave dc_Room_leave pm_Room_leave cd_Room_leave ct_Room_leave oc_Room_u_refuse_lease kV_Room_u_refuse_lease dc_Room_u_refuse_lease pm_Room_u_refuse_lease cd_Room_u_refuse_lease ct_Room_u_refuse_lease oc_Room_u_refuse_held kV_Room_u_refuse_held dc_Room_u_refuse_held pm_Room_u_refuse_held cd_Room_u_refuse_held ct_Room_u_refuse_held oc_Room_u_watching kV_Room_u_watching dc_Room_u_watching pm_Room_u_watching cd_Room_u_watching ct_Room_u_watching oc_Room_u_refuse_watcher kV_Room_u_refuse_watcher dc_Room_u_refuse_watcher pm_Room_u_refuse_watcher cd_Room_u_refuse_watcher ct_Room_u_refuse_watcher oc_arriving kV_arriving dc_arriving pm_arriving cd_arriving ct_arriving oc_whole kV_whole dc_whole pm_whole cd_whole ct_whole oc_cell_at kV_cell_at dc_cell_at pm_cell_at cd_cell_at ct_cell_at oc_sign kV_sign dc_sign pm_sign cd_sign ct_sign oc_text kV_text dc_text pm_text cd_text ct_text oc_pool kV_pool dc_pool pm_pool cd_pool ct_pool oc_prefix kV_prefix dc_prefix pm_prefix cd_prefix ct_prefix oc_change kV_change dc_change pm_change cd_change ct_change oc_changes kV_changes dc_changes pm_changes cd_changes ct_changes oc_put kV_put dc_put pm_put cd_put ct_put oc_turned kV_turned dc_turned pm_turned cd_turned ct_turned oc_only kV_only dc_only pm_only cd_only ct_only oc_line kV_line dc_line pm_line cd_line ct_line oc_law kV_law dc_law pm_law cd_law ct_law : Value} {dn_Ear_init dn_Line_init dn_Room_put : Nat}
    (aC_Ear : PySem.W.nsIn K mainGlobals "Ear" = some (some (.ref C_Ear)))
    (aC_Line : PySem.W.nsIn K mainGlobals "Line" = some (some (.ref C_Line)))
    (aC_Leases : PySem.W.nsIn K mainGlobals "Leases" = some (some (.ref C_Leases)))
    (aC_Log : PySem.W.nsIn K mainGlobals "Log" = some (some (.ref C_Log)))
    (aC_Watcher : PySem.W.nsIn K mainGlobals "Watcher" = some (some (.ref C_Watcher)))
    (aC_Room : PySem.W.nsIn K mainGlobals "Room" = some (some (.ref C_Room)))
    (a_Ear_init : PySem.W.findIn K (.ref C_Ear) "__init__" = some (some (.ref f_Ear_init)))
    (i_Ear_init : PySem.W.isFn K (.ref f_Ear_init) = true)
    (l_Ear_init : K.lookup f_Ear_init = some ⟨oc_Ear_init, od_Ear_init, .func (PySem.W.fnOf "__init__" "Ear.__init__" (defArgs s_Ear_init) (defBody s_Ear_init) (defScope s_Ear_init) (.ref dT_Ear_init) kV_Ear_init dc_Ear_init pm_Ear_init an_Ear_init cd_Ear_init ct_Ear_init), sl_Ear_init⟩)
    (d_Ear_init : K.lookup dT_Ear_init = some ⟨dcl_Ear_init, do_Ear_init, .seq #[.int 1 dt0_Ear_init, .none] dn_Ear_init, ds_Ear_init⟩)
    (c_Ear_init : PySem.W.codeIn K cd_Ear_init "Ear.__init__" = true)
    (k_Ear_init : PySem.W.keepIn K (.ref f_Ear_init) = true)
    (a_Ear_hear : PySem.W.findIn K (.ref C_Ear) "hear" = some (some (.ref f_Ear_hear)))
    (i_Ear_hear : PySem.W.isFn K (.ref f_Ear_hear) = true)
    (l_Ear_hear : K.lookup f_Ear_hear = some ⟨oc_Ear_hear, od_Ear_hear, .func (PySem.W.fnOf "hear" "Ear.hear" (defArgs s_Ear_hear) (defBody s_Ear_hear) (defScope s_Ear_hear) .none kV_Ear_hear dc_Ear_hear pm_Ear_hear an_Ear_hear cd_Ear_hear ct_Ear_hear), sl_Ear_hear⟩)
    (c_Ear_hear : PySem.W.codeIn K cd_Ear_hear "Ear.hear" = true)
    (k_Ear_hear : PySem.W.keepIn K (.ref f_Ear_hear) = true)
    (a_Ear_heard : PySem.W.findIn K (.ref C_Ear) "heard" = some (some (.ref f_Ear_heard)))
    (i_Ear_heard : PySem.W.isFn K (.ref f_Ear_heard) = true)
    (l_Ear_heard : K.lookup f_Ear_heard = some ⟨oc_Ear_heard, od_Ear_heard, .func (PySem.W.fnOf "heard" "Ear.heard" (defArgs s_Ear_heard) (defBody s_Ear_heard) (defScope s_Ear_heard) .none kV_Ear_heard dc_Ear_heard pm_Ear_heard an_Ear_heard cd_Ear_heard ct_Ear_heard), sl_Ear_heard⟩)
    (c_Ear_heard : PySem.W.codeIn K cd_Ear_heard "Ear.heard" = true)
    (k_Ear_heard : PySem.W.keepIn K (.ref f_Ear_heard) = true)
    (a_Ear_state : PySem.W.findIn K (.ref C_Ear) "state" = some (some (.ref f_Ear_state)))
    (i_Ear_state : PySem.W.isFn K (.ref f_Ear_state) = true)
    (l_Ear_state : K.lookup f_Ear_state = some ⟨oc_Ear_state, od_Ear_state, .func (PySem.W.fnOf "state" "Ear.state" (defArgs s_Ear_state) (defBody s_Ear_state) (defScope s_Ear_state) .none kV_Ear_state dc_Ear_state pm_Ear_state an_Ear_state cd_Ear_state ct_Ear_state), sl_Ear_state⟩)
    (c_Ear_state : PySem.W.codeIn K cd_Ear_state "Ear.state" = true)
    (k_Ear_state : PySem.W.keepIn K (.ref f_Ear_state) = true)
    (a_Ear_many : PySem.W.findIn K (.ref C_Ear) "many" = some (some (.ref f_Ear_many)))
    (i_Ear_many : PySem.W.isFn K (.ref f_Ear_many) = true)
    (l_Ear_many : K.lookup f_Ear_many = some ⟨oc_Ear_many, od_Ear_many, .func (PySem.W.fnOf "many" "Ear.many" (defArgs s_Ear_many) (defBody s_Ear_many) (defScope s_Ear_many) .none kV_Ear_many dc_Ear_many pm_Ear_many an_Ear_many cd_Ear_many ct_Ear_many), sl_Ear_many⟩)
    (c_Ear_many : PySem.W.codeIn K cd_Ear_many "Ear.many" = true)
    (k_Ear_many : PySem.W.keepIn K (.ref f_Ear_many) = true)
    (a_Ear_u_take_in : PySem.W.findIn K (.ref C_Ear) "_take_in" = some (some (.ref f_Ear_u_take_in)))
    (i_Ear_u_take_in : PySem.W.isFn K (.ref f_Ear_u_take_in) = true)
    (l_Ear_u_take_in : K.lookup f_Ear_u_take_in = some ⟨oc_Ear_u_take_in, od_Ear_u_take_in, .func (PySem.W.fnOf "_take_in" "Ear._take_in" (defArgs s_Ear_u_take_in) (defBody s_Ear_u_take_in) (defScope s_Ear_u_take_in) .none kV_Ear_u_take_in dc_Ear_u_take_in pm_Ear_u_take_in an_Ear_u_take_in cd_Ear_u_take_in ct_Ear_u_take_in), sl_Ear_u_take_in⟩)
    (c_Ear_u_take_in : PySem.W.codeIn K cd_Ear_u_take_in "Ear._take_in" = true)
    (k_Ear_u_take_in : PySem.W.keepIn K (.ref f_Ear_u_take_in) = true)
    (a_Line_init : PySem.W.findIn K (.ref C_Line) "__init__" = some (some (.ref f_Line_init)))
    (i_Line_init : PySem.W.isFn K (.ref f_Line_init) = true)
    (l_Line_init : K.lookup f_Line_init = some ⟨oc_Line_init, od_Line_init, .func (PySem.W.fnOf "__init__" "Line.__init__" (defArgs s_Line_init) (defBody s_Line_init) (defScope s_Line_init) (.ref dT_Line_init) kV_Line_init dc_Line_init pm_Line_init an_Line_init cd_Line_init ct_Line_init), sl_Line_init⟩)
    (d_Line_init : K.lookup dT_Line_init = some ⟨dcl_Line_init, do_Line_init, .seq #[.none] dn_Line_init, ds_Line_init⟩)
    (c_Line_init : PySem.W.codeIn K cd_Line_init "Line.__init__" = true)
    (k_Line_init : PySem.W.keepIn K (.ref f_Line_init) = true)
    (a_Line_turn : PySem.W.findIn K (.ref C_Line) "turn" = some (some (.ref f_Line_turn)))
    (i_Line_turn : PySem.W.isFn K (.ref f_Line_turn) = true)
    (l_Line_turn : K.lookup f_Line_turn = some ⟨oc_Line_turn, od_Line_turn, .func (PySem.W.fnOf "turn" "Line.turn" (defArgs s_Line_turn) (defBody s_Line_turn) (defScope s_Line_turn) .none kV_Line_turn dc_Line_turn pm_Line_turn an_Line_turn cd_Line_turn ct_Line_turn), sl_Line_turn⟩)
    (c_Line_turn : PySem.W.codeIn K cd_Line_turn "Line.turn" = true)
    (k_Line_turn : PySem.W.keepIn K (.ref f_Line_turn) = true)
    (a_Leases_init : PySem.W.findIn K (.ref C_Leases) "__init__" = some (some (.ref f_Leases_init)))
    (i_Leases_init : PySem.W.isFn K (.ref f_Leases_init) = true)
    (l_Leases_init : K.lookup f_Leases_init = some ⟨oc_Leases_init, od_Leases_init, .func (PySem.W.fnOf "__init__" "Leases.__init__" (defArgs s_Leases_init) (defBody s_Leases_init) (defScope s_Leases_init) .none kV_Leases_init dc_Leases_init pm_Leases_init an_Leases_init cd_Leases_init ct_Leases_init), sl_Leases_init⟩)
    (c_Leases_init : PySem.W.codeIn K cd_Leases_init "Leases.__init__" = true)
    (k_Leases_init : PySem.W.keepIn K (.ref f_Leases_init) = true)
    (a_Leases_due : PySem.W.findIn K (.ref C_Leases) "due" = some (some (.ref f_Leases_due)))
    (i_Leases_due : PySem.W.isFn K (.ref f_Leases_due) = true)
    (l_Leases_due : K.lookup f_Leases_due = some ⟨oc_Leases_due, od_Leases_due, .func (PySem.W.fnOf "due" "Leases.due" (defArgs s_Leases_due) (defBody s_Leases_due) (defScope s_Leases_due) .none kV_Leases_due dc_Leases_due pm_Leases_due an_Leases_due cd_Leases_due ct_Leases_due), sl_Leases_due⟩)
    (c_Leases_due : PySem.W.codeIn K cd_Leases_due "Leases.due" = true)
    (k_Leases_due : PySem.W.keepIn K (.ref f_Leases_due) = true)
    (a_Leases_refuse_unknown : PySem.W.findIn K (.ref C_Leases) "refuse_unknown" = some (some (.ref f_Leases_refuse_unknown)))
    (i_Leases_refuse_unknown : PySem.W.isFn K (.ref f_Leases_refuse_unknown) = true)
    (l_Leases_refuse_unknown : K.lookup f_Leases_refuse_unknown = some ⟨oc_Leases_refuse_unknown, od_Leases_refuse_unknown, .func (PySem.W.fnOf "refuse_unknown" "Leases.refuse_unknown" (defArgs s_Leases_refuse_unknown) (defBody s_Leases_refuse_unknown) (defScope s_Leases_refuse_unknown) .none kV_Leases_refuse_unknown dc_Leases_refuse_unknown pm_Leases_refuse_unknown an_Leases_refuse_unknown cd_Leases_refuse_unknown ct_Leases_refuse_unknown), sl_Leases_refuse_unknown⟩)
    (c_Leases_refuse_unknown : PySem.W.codeIn K cd_Leases_refuse_unknown "Leases.refuse_unknown" = true)
    (k_Leases_refuse_unknown : PySem.W.keepIn K (.ref f_Leases_refuse_unknown) = true)
    (a_Log_init : PySem.W.findIn K (.ref C_Log) "__init__" = some (some (.ref f_Log_init)))
    (i_Log_init : PySem.W.isFn K (.ref f_Log_init) = true)
    (l_Log_init : K.lookup f_Log_init = some ⟨oc_Log_init, od_Log_init, .func (PySem.W.fnOf "__init__" "Log.__init__" (defArgs s_Log_init) (defBody s_Log_init) (defScope s_Log_init) .none kV_Log_init dc_Log_init pm_Log_init an_Log_init cd_Log_init ct_Log_init), sl_Log_init⟩)
    (c_Log_init : PySem.W.codeIn K cd_Log_init "Log.__init__" = true)
    (k_Log_init : PySem.W.keepIn K (.ref f_Log_init) = true)
    (a_Log_note : PySem.W.findIn K (.ref C_Log) "note" = some (some (.ref f_Log_note)))
    (i_Log_note : PySem.W.isFn K (.ref f_Log_note) = true)
    (l_Log_note : K.lookup f_Log_note = some ⟨oc_Log_note, od_Log_note, .func (PySem.W.fnOf "note" "Log.note" (defArgs s_Log_note) (defBody s_Log_note) (defScope s_Log_note) .none kV_Log_note dc_Log_note pm_Log_note an_Log_note cd_Log_note ct_Log_note), sl_Log_note⟩)
    (c_Log_note : PySem.W.codeIn K cd_Log_note "Log.note" = true)
    (k_Log_note : PySem.W.keepIn K (.ref f_Log_note) = true)
    (a_Log_last : PySem.W.findIn K (.ref C_Log) "last" = some (some (.ref f_Log_last)))
    (i_Log_last : PySem.W.isFn K (.ref f_Log_last) = true)
    (l_Log_last : K.lookup f_Log_last = some ⟨oc_Log_last, od_Log_last, .func (PySem.W.fnOf "last" "Log.last" (defArgs s_Log_last) (defBody s_Log_last) (defScope s_Log_last) .none kV_Log_last dc_Log_last pm_Log_last an_Log_last cd_Log_last ct_Log_last), sl_Log_last⟩)
    (c_Log_last : PySem.W.codeIn K cd_Log_last "Log.last" = true)
    (k_Log_last : PySem.W.keepIn K (.ref f_Log_last) = true)
    (a_Log_first : PySem.W.findIn K (.ref C_Log) "first" = some (some (.ref f_Log_first)))
    (i_Log_first : PySem.W.isFn K (.ref f_Log_first) = true)
    (l_Log_first : K.lookup f_Log_first = some ⟨oc_Log_first, od_Log_first, .func (PySem.W.fnOf "first" "Log.first" (defArgs s_Log_first) (defBody s_Log_first) (defScope s_Log_first) .none kV_Log_first dc_Log_first pm_Log_first an_Log_first cd_Log_first ct_Log_first), sl_Log_first⟩)
    (c_Log_first : PySem.W.codeIn K cd_Log_first "Log.first" = true)
    (k_Log_first : PySem.W.keepIn K (.ref f_Log_first) = true)
    (a_Log_wanted : PySem.W.findIn K (.ref C_Log) "wanted" = some (some (.ref f_Log_wanted)))
    (i_Log_wanted : PySem.W.isFn K (.ref f_Log_wanted) = true)
    (l_Log_wanted : K.lookup f_Log_wanted = some ⟨oc_Log_wanted, od_Log_wanted, .func (PySem.W.fnOf "wanted" "Log.wanted" (defArgs s_Log_wanted) (defBody s_Log_wanted) (defScope s_Log_wanted) .none kV_Log_wanted dc_Log_wanted pm_Log_wanted an_Log_wanted cd_Log_wanted ct_Log_wanted), sl_Log_wanted⟩)
    (c_Log_wanted : PySem.W.codeIn K cd_Log_wanted "Log.wanted" = true)
    (k_Log_wanted : PySem.W.keepIn K (.ref f_Log_wanted) = true)
    (a_Watcher_init : PySem.W.findIn K (.ref C_Watcher) "__init__" = some (some (.ref f_Watcher_init)))
    (i_Watcher_init : PySem.W.isFn K (.ref f_Watcher_init) = true)
    (l_Watcher_init : K.lookup f_Watcher_init = some ⟨oc_Watcher_init, od_Watcher_init, .func (PySem.W.fnOf "__init__" "Watcher.__init__" (defArgs s_Watcher_init) (defBody s_Watcher_init) (defScope s_Watcher_init) .none kV_Watcher_init dc_Watcher_init pm_Watcher_init an_Watcher_init cd_Watcher_init ct_Watcher_init), sl_Watcher_init⟩)
    (c_Watcher_init : PySem.W.codeIn K cd_Watcher_init "Watcher.__init__" = true)
    (k_Watcher_init : PySem.W.keepIn K (.ref f_Watcher_init) = true)
    (a_Room_init : PySem.W.findIn K (.ref C_Room) "__init__" = some (some (.ref f_Room_init)))
    (i_Room_init : PySem.W.isFn K (.ref f_Room_init) = true)
    (l_Room_init : K.lookup f_Room_init = some ⟨oc_Room_init, od_Room_init, .func (PySem.W.fnOf "__init__" "Room.__init__" (defArgs s_Room_init) (defBody s_Room_init) (defScope s_Room_init) .none kV_Room_init dc_Room_init pm_Room_init an_Room_init cd_Room_init ct_Room_init), sl_Room_init⟩)
    (c_Room_init : PySem.W.codeIn K cd_Room_init "Room.__init__" = true)
    (k_Room_init : PySem.W.keepIn K (.ref f_Room_init) = true)
    (a_Room_put : PySem.W.findIn K (.ref C_Room) "put" = some (some (.ref f_Room_put)))
    (i_Room_put : PySem.W.isFn K (.ref f_Room_put) = true)
    (l_Room_put : K.lookup f_Room_put = some ⟨oc_Room_put, od_Room_put, .func (PySem.W.fnOf "put" "Room.put" (defArgs s_Room_put) (defBody s_Room_put) (defScope s_Room_put) (.ref dT_Room_put) kV_Room_put dc_Room_put pm_Room_put an_Room_put cd_Room_put ct_Room_put), sl_Room_put⟩)
    (d_Room_put : K.lookup dT_Room_put = some ⟨dcl_Room_put, do_Room_put, .seq #[.int 0 dt0_Room_put] dn_Room_put, ds_Room_put⟩)
    (c_Room_put : PySem.W.codeIn K cd_Room_put "Room.put" = true)
    (k_Room_put : PySem.W.keepIn K (.ref f_Room_put) = true)
    (a_Room_value : PySem.W.findIn K (.ref C_Room) "value" = some (some (.ref f_Room_value)))
    (i_Room_value : PySem.W.isFn K (.ref f_Room_value) = true)
    (l_Room_value : K.lookup f_Room_value = some ⟨oc_Room_value, od_Room_value, .func (PySem.W.fnOf "value" "Room.value" (defArgs s_Room_value) (defBody s_Room_value) (defScope s_Room_value) .none kV_Room_value dc_Room_value pm_Room_value an_Room_value cd_Room_value ct_Room_value), sl_Room_value⟩)
    (c_Room_value : PySem.W.codeIn K cd_Room_value "Room.value" = true)
    (k_Room_value : PySem.W.keepIn K (.ref f_Room_value) = true)
    (a_Room_holder : PySem.W.findIn K (.ref C_Room) "holder" = some (some (.ref f_Room_holder)))
    (i_Room_holder : PySem.W.isFn K (.ref f_Room_holder) = true)
    (l_Room_holder : K.lookup f_Room_holder = some ⟨oc_Room_holder, od_Room_holder, .func (PySem.W.fnOf "holder" "Room.holder" (defArgs s_Room_holder) (defBody s_Room_holder) (defScope s_Room_holder) .none kV_Room_holder dc_Room_holder pm_Room_holder an_Room_holder cd_Room_holder ct_Room_holder), sl_Room_holder⟩)
    (c_Room_holder : PySem.W.codeIn K cd_Room_holder "Room.holder" = true)
    (k_Room_holder : PySem.W.keepIn K (.ref f_Room_holder) = true)
    (a_Room_pairs : PySem.W.findIn K (.ref C_Room) "pairs" = some (some (.ref f_Room_pairs)))
    (i_Room_pairs : PySem.W.isFn K (.ref f_Room_pairs) = true)
    (l_Room_pairs : K.lookup f_Room_pairs = some ⟨oc_Room_pairs, od_Room_pairs, .func (PySem.W.fnOf "pairs" "Room.pairs" (defArgs s_Room_pairs) (defBody s_Room_pairs) (defScope s_Room_pairs) .none kV_Room_pairs dc_Room_pairs pm_Room_pairs an_Room_pairs cd_Room_pairs ct_Room_pairs), sl_Room_pairs⟩)
    (c_Room_pairs : PySem.W.codeIn K cd_Room_pairs "Room.pairs" = true)
    (k_Room_pairs : PySem.W.keepIn K (.ref f_Room_pairs) = true)
    (a_Room_last : PySem.W.findIn K (.ref C_Room) "last" = some (some (.ref f_Room_last)))
    (i_Room_last : PySem.W.isFn K (.ref f_Room_last) = true)
    (l_Room_last : K.lookup f_Room_last = some ⟨oc_Room_last, od_Room_last, .func (PySem.W.fnOf "last" "Room.last" (defArgs s_Room_last) (defBody s_Room_last) (defScope s_Room_last) .none kV_Room_last dc_Room_last pm_Room_last an_Room_last cd_Room_last ct_Room_last), sl_Room_last⟩)
    (c_Room_last : PySem.W.codeIn K cd_Room_last "Room.last" = true)
    (k_Room_last : PySem.W.keepIn K (.ref f_Room_last) = true)
    (a_Room_first : PySem.W.findIn K (.ref C_Room) "first" = some (some (.ref f_Room_first)))
    (i_Room_first : PySem.W.isFn K (.ref f_Room_first) = true)
    (l_Room_first : K.lookup f_Room_first = some ⟨oc_Room_first, od_Room_first, .func (PySem.W.fnOf "first" "Room.first" (defArgs s_Room_first) (defBody s_Room_first) (defScope s_Room_first) .none kV_Room_first dc_Room_first pm_Room_first an_Room_first cd_Room_first ct_Room_first), sl_Room_first⟩)
    (c_Room_first : PySem.W.codeIn K cd_Room_first "Room.first" = true)
    (k_Room_first : PySem.W.keepIn K (.ref f_Room_first) = true)
    (a_Room_watch : PySem.W.findIn K (.ref C_Room) "watch" = some (some (.ref f_Room_watch)))
    (i_Room_watch : PySem.W.isFn K (.ref f_Room_watch) = true)
    (l_Room_watch : K.lookup f_Room_watch = some ⟨oc_Room_watch, od_Room_watch, .func (PySem.W.fnOf "watch" "Room.watch" (defArgs s_Room_watch) (defBody s_Room_watch) (defScope s_Room_watch) .none kV_Room_watch dc_Room_watch pm_Room_watch an_Room_watch cd_Room_watch ct_Room_watch), sl_Room_watch⟩)
    (c_Room_watch : PySem.W.codeIn K cd_Room_watch "Room.watch" = true)
    (k_Room_watch : PySem.W.keepIn K (.ref f_Room_watch) = true)
    (a_Room_pull : PySem.W.findIn K (.ref C_Room) "pull" = some (some (.ref f_Room_pull)))
    (i_Room_pull : PySem.W.isFn K (.ref f_Room_pull) = true)
    (l_Room_pull : K.lookup f_Room_pull = some ⟨oc_Room_pull, od_Room_pull, .func (PySem.W.fnOf "pull" "Room.pull" (defArgs s_Room_pull) (defBody s_Room_pull) (defScope s_Room_pull) .none kV_Room_pull dc_Room_pull pm_Room_pull an_Room_pull cd_Room_pull ct_Room_pull), sl_Room_pull⟩)
    (c_Room_pull : PySem.W.codeIn K cd_Room_pull "Room.pull" = true)
    (k_Room_pull : PySem.W.keepIn K (.ref f_Room_pull) = true)
    (a_Room_confirm : PySem.W.findIn K (.ref C_Room) "confirm" = some (some (.ref f_Room_confirm)))
    (i_Room_confirm : PySem.W.isFn K (.ref f_Room_confirm) = true)
    (l_Room_confirm : K.lookup f_Room_confirm = some ⟨oc_Room_confirm, od_Room_confirm, .func (PySem.W.fnOf "confirm" "Room.confirm" (defArgs s_Room_confirm) (defBody s_Room_confirm) (defScope s_Room_confirm) .none kV_Room_confirm dc_Room_confirm pm_Room_confirm an_Room_confirm cd_Room_confirm ct_Room_confirm), sl_Room_confirm⟩)
    (c_Room_confirm : PySem.W.codeIn K cd_Room_confirm "Room.confirm" = true)
    (k_Room_confirm : PySem.W.keepIn K (.ref f_Room_confirm) = true)
    (a_Room_broken : PySem.W.findIn K (.ref C_Room) "broken" = some (some (.ref f_Room_broken)))
    (i_Room_broken : PySem.W.isFn K (.ref f_Room_broken) = true)
    (l_Room_broken : K.lookup f_Room_broken = some ⟨oc_Room_broken, od_Room_broken, .func (PySem.W.fnOf "broken" "Room.broken" (defArgs s_Room_broken) (defBody s_Room_broken) (defScope s_Room_broken) .none kV_Room_broken dc_Room_broken pm_Room_broken an_Room_broken cd_Room_broken ct_Room_broken), sl_Room_broken⟩)
    (c_Room_broken : PySem.W.codeIn K cd_Room_broken "Room.broken" = true)
    (k_Room_broken : PySem.W.keepIn K (.ref f_Room_broken) = true)
    (a_Room_leave : PySem.W.findIn K (.ref C_Room) "leave" = some (some (.ref f_Room_leave)))
    (i_Room_leave : PySem.W.isFn K (.ref f_Room_leave) = true)
    (l_Room_leave : K.lookup f_Room_leave = some ⟨oc_Room_leave, od_Room_leave, .func (PySem.W.fnOf "leave" "Room.leave" (defArgs s_Room_leave) (defBody s_Room_leave) (defScope s_Room_leave) .none kV_Room_leave dc_Room_leave pm_Room_leave an_Room_leave cd_Room_leave ct_Room_leave), sl_Room_leave⟩)
    (c_Room_leave : PySem.W.codeIn K cd_Room_leave "Room.leave" = true)
    (k_Room_leave : PySem.W.keepIn K (.ref f_Room_leave) = true)
    (a_Room_u_refuse_lease : PySem.W.findIn K (.ref C_Room) "_refuse_lease" = some (some (.ref f_Room_u_refuse_lease)))
    (i_Room_u_refuse_lease : PySem.W.isFn K (.ref f_Room_u_refuse_lease) = true)
    (l_Room_u_refuse_lease : K.lookup f_Room_u_refuse_lease = some ⟨oc_Room_u_refuse_lease, od_Room_u_refuse_lease, .func (PySem.W.fnOf "_refuse_lease" "Room._refuse_lease" (defArgs s_Room_u_refuse_lease) (defBody s_Room_u_refuse_lease) (defScope s_Room_u_refuse_lease) .none kV_Room_u_refuse_lease dc_Room_u_refuse_lease pm_Room_u_refuse_lease an_Room_u_refuse_lease cd_Room_u_refuse_lease ct_Room_u_refuse_lease), sl_Room_u_refuse_lease⟩)
    (c_Room_u_refuse_lease : PySem.W.codeIn K cd_Room_u_refuse_lease "Room._refuse_lease" = true)
    (k_Room_u_refuse_lease : PySem.W.keepIn K (.ref f_Room_u_refuse_lease) = true)
    (a_Room_u_refuse_held : PySem.W.findIn K (.ref C_Room) "_refuse_held" = some (some (.ref f_Room_u_refuse_held)))
    (i_Room_u_refuse_held : PySem.W.isFn K (.ref f_Room_u_refuse_held) = true)
    (l_Room_u_refuse_held : K.lookup f_Room_u_refuse_held = some ⟨oc_Room_u_refuse_held, od_Room_u_refuse_held, .func (PySem.W.fnOf "_refuse_held" "Room._refuse_held" (defArgs s_Room_u_refuse_held) (defBody s_Room_u_refuse_held) (defScope s_Room_u_refuse_held) .none kV_Room_u_refuse_held dc_Room_u_refuse_held pm_Room_u_refuse_held an_Room_u_refuse_held cd_Room_u_refuse_held ct_Room_u_refuse_held), sl_Room_u_refuse_held⟩)
    (c_Room_u_refuse_held : PySem.W.codeIn K cd_Room_u_refuse_held "Room._refuse_held" = true)
    (k_Room_u_refuse_held : PySem.W.keepIn K (.ref f_Room_u_refuse_held) = true)
    (a_Room_u_watching : PySem.W.findIn K (.ref C_Room) "_watching" = some (some (.ref f_Room_u_watching)))
    (i_Room_u_watching : PySem.W.isFn K (.ref f_Room_u_watching) = true)
    (l_Room_u_watching : K.lookup f_Room_u_watching = some ⟨oc_Room_u_watching, od_Room_u_watching, .func (PySem.W.fnOf "_watching" "Room._watching" (defArgs s_Room_u_watching) (defBody s_Room_u_watching) (defScope s_Room_u_watching) .none kV_Room_u_watching dc_Room_u_watching pm_Room_u_watching an_Room_u_watching cd_Room_u_watching ct_Room_u_watching), sl_Room_u_watching⟩)
    (c_Room_u_watching : PySem.W.codeIn K cd_Room_u_watching "Room._watching" = true)
    (k_Room_u_watching : PySem.W.keepIn K (.ref f_Room_u_watching) = true)
    (a_Room_u_refuse_watcher : PySem.W.findIn K (.ref C_Room) "_refuse_watcher" = some (some (.ref f_Room_u_refuse_watcher)))
    (i_Room_u_refuse_watcher : PySem.W.isFn K (.ref f_Room_u_refuse_watcher) = true)
    (l_Room_u_refuse_watcher : K.lookup f_Room_u_refuse_watcher = some ⟨oc_Room_u_refuse_watcher, od_Room_u_refuse_watcher, .func (PySem.W.fnOf "_refuse_watcher" "Room._refuse_watcher" (defArgs s_Room_u_refuse_watcher) (defBody s_Room_u_refuse_watcher) (defScope s_Room_u_refuse_watcher) .none kV_Room_u_refuse_watcher dc_Room_u_refuse_watcher pm_Room_u_refuse_watcher an_Room_u_refuse_watcher cd_Room_u_refuse_watcher ct_Room_u_refuse_watcher), sl_Room_u_refuse_watcher⟩)
    (c_Room_u_refuse_watcher : PySem.W.codeIn K cd_Room_u_refuse_watcher "Room._refuse_watcher" = true)
    (k_Room_u_refuse_watcher : PySem.W.keepIn K (.ref f_Room_u_refuse_watcher) = true)
    (a_arriving : PySem.W.nsIn K mainGlobals "arriving" = some (some (.ref f_arriving)))
    (l_arriving : K.lookup f_arriving = some ⟨oc_arriving, od_arriving, .func (PySem.W.fnOf "arriving" "arriving" (defArgs s_arriving) (defBody s_arriving) (defScope s_arriving) .none kV_arriving dc_arriving pm_arriving an_arriving cd_arriving ct_arriving), sl_arriving⟩)
    (c_arriving : PySem.W.codeIn K cd_arriving "arriving" = true)
    (k_arriving : PySem.W.keepIn K (.ref f_arriving) = true)
    (a_whole : PySem.W.nsIn K mainGlobals "_law_whole" = some (some (.ref f_whole)))
    (l_whole : K.lookup f_whole = some ⟨oc_whole, od_whole, .func (PySem.W.fnOf "_law_whole" "_law_whole" (defArgs s_whole) (defBody s_whole) (defScope s_whole) .none kV_whole dc_whole pm_whole an_whole cd_whole ct_whole), sl_whole⟩)
    (c_whole : PySem.W.codeIn K cd_whole "_law_whole" = true)
    (k_whole : PySem.W.keepIn K (.ref f_whole) = true)
    (a_cell_at : PySem.W.nsIn K mainGlobals "_law_cell_at" = some (some (.ref f_cell_at)))
    (l_cell_at : K.lookup f_cell_at = some ⟨oc_cell_at, od_cell_at, .func (PySem.W.fnOf "_law_cell_at" "_law_cell_at" (defArgs s_cell_at) (defBody s_cell_at) (defScope s_cell_at) .none kV_cell_at dc_cell_at pm_cell_at an_cell_at cd_cell_at ct_cell_at), sl_cell_at⟩)
    (c_cell_at : PySem.W.codeIn K cd_cell_at "_law_cell_at" = true)
    (k_cell_at : PySem.W.keepIn K (.ref f_cell_at) = true)
    (a_sign : PySem.W.nsIn K mainGlobals "_law_sign" = some (some (.ref f_sign)))
    (l_sign : K.lookup f_sign = some ⟨oc_sign, od_sign, .func (PySem.W.fnOf "_law_sign" "_law_sign" (defArgs s_sign) (defBody s_sign) (defScope s_sign) .none kV_sign dc_sign pm_sign an_sign cd_sign ct_sign), sl_sign⟩)
    (c_sign : PySem.W.codeIn K cd_sign "_law_sign" = true)
    (k_sign : PySem.W.keepIn K (.ref f_sign) = true)
    (a_text : PySem.W.nsIn K mainGlobals "_law_text" = some (some (.ref f_text)))
    (l_text : K.lookup f_text = some ⟨oc_text, od_text, .func (PySem.W.fnOf "_law_text" "_law_text" (defArgs s_text) (defBody s_text) (defScope s_text) .none kV_text dc_text pm_text an_text cd_text ct_text), sl_text⟩)
    (c_text : PySem.W.codeIn K cd_text "_law_text" = true)
    (k_text : PySem.W.keepIn K (.ref f_text) = true)
    (a_pool : PySem.W.nsIn K mainGlobals "_law_pool" = some (some (.ref f_pool)))
    (l_pool : K.lookup f_pool = some ⟨oc_pool, od_pool, .func (PySem.W.fnOf "_law_pool" "_law_pool" (defArgs s_pool) (defBody s_pool) (defScope s_pool) .none kV_pool dc_pool pm_pool an_pool cd_pool ct_pool), sl_pool⟩)
    (c_pool : PySem.W.codeIn K cd_pool "_law_pool" = true)
    (k_pool : PySem.W.keepIn K (.ref f_pool) = true)
    (a_prefix : PySem.W.nsIn K mainGlobals "_law_prefix" = some (some (.ref f_prefix)))
    (l_prefix : K.lookup f_prefix = some ⟨oc_prefix, od_prefix, .func (PySem.W.fnOf "_law_prefix" "_law_prefix" (defArgs s_prefix) (defBody s_prefix) (defScope s_prefix) .none kV_prefix dc_prefix pm_prefix an_prefix cd_prefix ct_prefix), sl_prefix⟩)
    (c_prefix : PySem.W.codeIn K cd_prefix "_law_prefix" = true)
    (k_prefix : PySem.W.keepIn K (.ref f_prefix) = true)
    (a_change : PySem.W.nsIn K mainGlobals "_law_change" = some (some (.ref f_change)))
    (l_change : K.lookup f_change = some ⟨oc_change, od_change, .func (PySem.W.fnOf "_law_change" "_law_change" (defArgs s_change) (defBody s_change) (defScope s_change) .none kV_change dc_change pm_change an_change cd_change ct_change), sl_change⟩)
    (c_change : PySem.W.codeIn K cd_change "_law_change" = true)
    (k_change : PySem.W.keepIn K (.ref f_change) = true)
    (a_changes : PySem.W.nsIn K mainGlobals "_law_changes" = some (some (.ref f_changes)))
    (l_changes : K.lookup f_changes = some ⟨oc_changes, od_changes, .func (PySem.W.fnOf "_law_changes" "_law_changes" (defArgs s_changes) (defBody s_changes) (defScope s_changes) .none kV_changes dc_changes pm_changes an_changes cd_changes ct_changes), sl_changes⟩)
    (c_changes : PySem.W.codeIn K cd_changes "_law_changes" = true)
    (k_changes : PySem.W.keepIn K (.ref f_changes) = true)
    (a_put : PySem.W.nsIn K mainGlobals "_law_put" = some (some (.ref f_put)))
    (l_put : K.lookup f_put = some ⟨oc_put, od_put, .func (PySem.W.fnOf "_law_put" "_law_put" (defArgs s_put) (defBody s_put) (defScope s_put) .none kV_put dc_put pm_put an_put cd_put ct_put), sl_put⟩)
    (c_put : PySem.W.codeIn K cd_put "_law_put" = true)
    (k_put : PySem.W.keepIn K (.ref f_put) = true)
    (a_turned : PySem.W.nsIn K mainGlobals "_law_turned" = some (some (.ref f_turned)))
    (l_turned : K.lookup f_turned = some ⟨oc_turned, od_turned, .func (PySem.W.fnOf "_law_turned" "_law_turned" (defArgs s_turned) (defBody s_turned) (defScope s_turned) .none kV_turned dc_turned pm_turned an_turned cd_turned ct_turned), sl_turned⟩)
    (c_turned : PySem.W.codeIn K cd_turned "_law_turned" = true)
    (k_turned : PySem.W.keepIn K (.ref f_turned) = true)
    (a_only : PySem.W.nsIn K mainGlobals "_law_only" = some (some (.ref f_only)))
    (l_only : K.lookup f_only = some ⟨oc_only, od_only, .func (PySem.W.fnOf "_law_only" "_law_only" (defArgs s_only) (defBody s_only) (defScope s_only) .none kV_only dc_only pm_only an_only cd_only ct_only), sl_only⟩)
    (c_only : PySem.W.codeIn K cd_only "_law_only" = true)
    (k_only : PySem.W.keepIn K (.ref f_only) = true)
    (a_line : PySem.W.nsIn K mainGlobals "_law_line" = some (some (.ref f_line)))
    (l_line : K.lookup f_line = some ⟨oc_line, od_line, .func (PySem.W.fnOf "_law_line" "_law_line" (defArgs s_line) (defBody s_line) (defScope s_line) .none kV_line dc_line pm_line an_line cd_line ct_line), sl_line⟩)
    (c_line : PySem.W.codeIn K cd_line "_law_line" = true)
    (k_line : PySem.W.keepIn K (.ref f_line) = true)
    (a_law : PySem.W.nsIn K mainGlobals "law" = some (some (.ref f_law)))
    (l_law : K.lookup f_law = some ⟨oc_law, od_law, .func (PySem.W.fnOf "law" "law" (defArgs s_law) (defBody s_law) (defScope s_law) .none kV_law dc_law pm_law an_law cd_law ct_law), sl_law⟩)
    (c_law : PySem.W.codeIn K cd_law "law" = true)
    (k_law : PySem.W.keepIn K (.ref f_law) = true)
    (pg_Ear : PySem.W.plainGet K C_Ear Str.empty = true)
    (hd_Ear : PySem.W.hasDictIn K C_Ear = true)
    (po_Ear : PySem.W.plainOver K C_Ear = true)
    (sa_Ear : PySem.W.findIn K (.ref C_Ear) "__setattr__" = some (some (.builtin "object.__setattr__")))
    (mk_Ear : PySem.W.makesIn K C_Ear = true)
    (kc_Ear : PySem.W.keepIn K (.ref C_Ear) = true)
    (n0_Ear : PySem.W.findIn K (.ref C_Ear) "_last" = some none)
    (n1_Ear : PySem.W.findIn K (.ref C_Ear) "_taken" = some none)
    (n2_Ear : PySem.W.findIn K (.ref C_Ear) "_standing" = some none)
    (pg_Line : PySem.W.plainGet K C_Line Str.empty = true)
    (hd_Line : PySem.W.hasDictIn K C_Line = true)
    (po_Line : PySem.W.plainOver K C_Line = true)
    (sa_Line : PySem.W.findIn K (.ref C_Line) "__setattr__" = some (some (.builtin "object.__setattr__")))
    (mk_Line : PySem.W.makesIn K C_Line = true)
    (kc_Line : PySem.W.keepIn K (.ref C_Line) = true)
    (n0_Line : PySem.W.findIn K (.ref C_Line) "_room" = some none)
    (n1_Line : PySem.W.findIn K (.ref C_Line) "watcher" = some none)
    (n2_Line : PySem.W.findIn K (.ref C_Line) "ear" = some none)
    (pg_Leases : PySem.W.plainGet K C_Leases Str.empty = true)
    (hd_Leases : PySem.W.hasDictIn K C_Leases = true)
    (po_Leases : PySem.W.plainOver K C_Leases = true)
    (sa_Leases : PySem.W.findIn K (.ref C_Leases) "__setattr__" = some (some (.builtin "object.__setattr__")))
    (mk_Leases : PySem.W.makesIn K C_Leases = true)
    (kc_Leases : PySem.W.keepIn K (.ref C_Leases) = true)
    (n0_Leases : PySem.W.findIn K (.ref C_Leases) "_given" = some none)
    (n1_Leases : PySem.W.findIn K (.ref C_Leases) "_ticks" = some none)
    (n2_Leases : PySem.W.findIn K (.ref C_Leases) "_ends" = some none)
    (pg_Log : PySem.W.plainGet K C_Log Str.empty = true)
    (hd_Log : PySem.W.hasDictIn K C_Log = true)
    (po_Log : PySem.W.plainOver K C_Log = true)
    (sa_Log : PySem.W.findIn K (.ref C_Log) "__setattr__" = some (some (.builtin "object.__setattr__")))
    (mk_Log : PySem.W.makesIn K C_Log = true)
    (kc_Log : PySem.W.keepIn K (.ref C_Log) = true)
    (n0_Log : PySem.W.findIn K (.ref C_Log) "_forgotten" = some none)
    (n1_Log : PySem.W.findIn K (.ref C_Log) "_kept" = some none)
    (pg_Watcher : PySem.W.plainGet K C_Watcher Str.empty = true)
    (hd_Watcher : PySem.W.hasDictIn K C_Watcher = true)
    (po_Watcher : PySem.W.plainOver K C_Watcher = true)
    (sa_Watcher : PySem.W.findIn K (.ref C_Watcher) "__setattr__" = some (some (.builtin "object.__setattr__")))
    (mk_Watcher : PySem.W.makesIn K C_Watcher = true)
    (kc_Watcher : PySem.W.keepIn K (.ref C_Watcher) = true)
    (n0_Watcher : PySem.W.findIn K (.ref C_Watcher) "prefix" = some none)
    (n1_Watcher : PySem.W.findIn K (.ref C_Watcher) "told" = some none)
    (n2_Watcher : PySem.W.findIn K (.ref C_Watcher) "had" = some none)
    (pg_Room : PySem.W.plainGet K C_Room Str.empty = true)
    (hd_Room : PySem.W.hasDictIn K C_Room = true)
    (po_Room : PySem.W.plainOver K C_Room = true)
    (sa_Room : PySem.W.findIn K (.ref C_Room) "__setattr__" = some (some (.builtin "object.__setattr__")))
    (mk_Room : PySem.W.makesIn K C_Room = true)
    (kc_Room : PySem.W.keepIn K (.ref C_Room) = true)
    (n0_Room : PySem.W.findIn K (.ref C_Room) "now" = some none)
    (n1_Room : PySem.W.findIn K (.ref C_Room) "_leases" = some none)
    (n2_Room : PySem.W.findIn K (.ref C_Room) "_log" = some none)
    (n3_Room : PySem.W.findIn K (.ref C_Room) "_values" = some none)
    (n4_Room : PySem.W.findIn K (.ref C_Room) "_holders" = some none)
    (n5_Room : PySem.W.findIn K (.ref C_Room) "_entered" = some none)
    (n6_Room : PySem.W.findIn K (.ref C_Room) "_watchers" = some none)
    (m_WELL : PySem.W.nsIn K mainGlobals "WELL" = some (some (.int 0 tm_WELL)))
    (m_ROW_LOST : PySem.W.nsIn K mainGlobals "ROW_LOST" = some (some (.int 1 tm_ROW_LOST)))
    (m_BROKEN_MIDST : PySem.W.nsIn K mainGlobals "BROKEN_MIDST" = some (some (.int 3 tm_BROKEN_MIDST)))
    (e_LeaseError : PySem.W.nsIn K mainGlobals "LeaseError" = some (some (.ref E_LeaseError)))
    (e_BadTicks : PySem.W.nsIn K mainGlobals "BadTicks" = some (some (.ref E_BadTicks)))
    (e_NoLease : PySem.W.nsIn K mainGlobals "NoLease" = some (some (.ref E_NoLease)))
    (e_NoKey : PySem.W.nsIn K mainGlobals "NoKey" = some (some (.ref E_NoKey)))
    (e_Held : PySem.W.nsIn K mainGlobals "Held" = some (some (.ref E_Held)))
    (e_NoStart : PySem.W.nsIn K mainGlobals "NoStart" = some (some (.ref E_NoStart)))
    (e_NoWatch : PySem.W.nsIn K mainGlobals "NoWatch" = some (some (.ref E_NoWatch)))
    (hd_LeaseError : PySem.W.hasDictIn K E_LeaseError = true)
    (t_LeaseError : PySem.W.typeIn K (.ref E_LeaseError) = some (.type "type"))
    (hd_BadTicks : PySem.W.hasDictIn K E_BadTicks = true)
    (t_BadTicks : PySem.W.typeIn K (.ref E_BadTicks) = some (.type "type"))
    (hd_NoLease : PySem.W.hasDictIn K E_NoLease = true)
    (t_NoLease : PySem.W.typeIn K (.ref E_NoLease) = some (.type "type"))
    (hd_NoKey : PySem.W.hasDictIn K E_NoKey = true)
    (t_NoKey : PySem.W.typeIn K (.ref E_NoKey) = some (.type "type"))
    (hd_Held : PySem.W.hasDictIn K E_Held = true)
    (t_Held : PySem.W.typeIn K (.ref E_Held) = some (.type "type"))
    (hd_NoStart : PySem.W.hasDictIn K E_NoStart = true)
    (t_NoStart : PySem.W.typeIn K (.ref E_NoStart) = some (.type "type"))
    (hd_NoWatch : PySem.W.hasDictIn K E_NoWatch = true)
    (t_NoWatch : PySem.W.typeIn K (.ref E_NoWatch) = some (.type "type"))
    (b_LeaseError : PySem.W.subIn K (.ref E_LeaseError) (.type "BaseException") = some true)
    (x_BadTicks : PySem.W.excIn K E_BadTicks [.type "ValueError", .type "Exception", .type "BaseException", .type "object"] "ValueError.__new__" = true)
    (kp_BadTicks : PySem.W.keepIn K (.ref E_BadTicks) = true)
    (b_BadTicks : PySem.W.subIn K (.ref E_BadTicks) (.type "BaseException") = some true)
    (ga_BadTicks : PySem.W.findIn K (.ref E_BadTicks) "__getattribute__" = some (some (.builtin "BaseException.__getattribute__")))
    (gt_BadTicks : PySem.W.findIn K (.ref E_BadTicks) "__getattr__" = some none)
    (cl_BadTicks : PySem.W.findIn K (.ref E_BadTicks) "__class__" = some (some (.builtin "object.__class__")))
    (mr_BadTicks : PySem.W.mroIn K E_BadTicks (.type "object") = some true)
    (o_BadTicks_BadTicks : PySem.W.subIn K (.ref E_BadTicks) (.ref E_BadTicks) = some true)
    (o_BadTicks_NoLease : PySem.W.subIn K (.ref E_BadTicks) (.ref E_NoLease) = some false)
    (o_BadTicks_NoKey : PySem.W.subIn K (.ref E_BadTicks) (.ref E_NoKey) = some false)
    (o_BadTicks_Held : PySem.W.subIn K (.ref E_BadTicks) (.ref E_Held) = some false)
    (o_BadTicks_NoStart : PySem.W.subIn K (.ref E_BadTicks) (.ref E_NoStart) = some false)
    (o_BadTicks_NoWatch : PySem.W.subIn K (.ref E_BadTicks) (.ref E_NoWatch) = some false)
    (ov_BadTicks : PySem.W.subIn K (.ref E_BadTicks) (.type "ValueError") = some true)
    (q_BadTicks : PySem.W.subIn K (.ref E_BadTicks) (.ref E_LeaseError) = some true)
    (x_NoLease : PySem.W.excIn K E_NoLease [.type "ValueError", .type "Exception", .type "BaseException", .type "object"] "ValueError.__new__" = true)
    (kp_NoLease : PySem.W.keepIn K (.ref E_NoLease) = true)
    (b_NoLease : PySem.W.subIn K (.ref E_NoLease) (.type "BaseException") = some true)
    (ga_NoLease : PySem.W.findIn K (.ref E_NoLease) "__getattribute__" = some (some (.builtin "BaseException.__getattribute__")))
    (gt_NoLease : PySem.W.findIn K (.ref E_NoLease) "__getattr__" = some none)
    (cl_NoLease : PySem.W.findIn K (.ref E_NoLease) "__class__" = some (some (.builtin "object.__class__")))
    (mr_NoLease : PySem.W.mroIn K E_NoLease (.type "object") = some true)
    (o_NoLease_BadTicks : PySem.W.subIn K (.ref E_NoLease) (.ref E_BadTicks) = some false)
    (o_NoLease_NoLease : PySem.W.subIn K (.ref E_NoLease) (.ref E_NoLease) = some true)
    (o_NoLease_NoKey : PySem.W.subIn K (.ref E_NoLease) (.ref E_NoKey) = some false)
    (o_NoLease_Held : PySem.W.subIn K (.ref E_NoLease) (.ref E_Held) = some false)
    (o_NoLease_NoStart : PySem.W.subIn K (.ref E_NoLease) (.ref E_NoStart) = some false)
    (o_NoLease_NoWatch : PySem.W.subIn K (.ref E_NoLease) (.ref E_NoWatch) = some false)
    (ov_NoLease : PySem.W.subIn K (.ref E_NoLease) (.type "ValueError") = some true)
    (q_NoLease : PySem.W.subIn K (.ref E_NoLease) (.ref E_LeaseError) = some true)
    (x_NoKey : PySem.W.excIn K E_NoKey [.type "ValueError", .type "Exception", .type "BaseException", .type "object"] "ValueError.__new__" = true)
    (kp_NoKey : PySem.W.keepIn K (.ref E_NoKey) = true)
    (b_NoKey : PySem.W.subIn K (.ref E_NoKey) (.type "BaseException") = some true)
    (ga_NoKey : PySem.W.findIn K (.ref E_NoKey) "__getattribute__" = some (some (.builtin "BaseException.__getattribute__")))
    (gt_NoKey : PySem.W.findIn K (.ref E_NoKey) "__getattr__" = some none)
    (cl_NoKey : PySem.W.findIn K (.ref E_NoKey) "__class__" = some (some (.builtin "object.__class__")))
    (mr_NoKey : PySem.W.mroIn K E_NoKey (.type "object") = some true)
    (o_NoKey_BadTicks : PySem.W.subIn K (.ref E_NoKey) (.ref E_BadTicks) = some false)
    (o_NoKey_NoLease : PySem.W.subIn K (.ref E_NoKey) (.ref E_NoLease) = some false)
    (o_NoKey_NoKey : PySem.W.subIn K (.ref E_NoKey) (.ref E_NoKey) = some true)
    (o_NoKey_Held : PySem.W.subIn K (.ref E_NoKey) (.ref E_Held) = some false)
    (o_NoKey_NoStart : PySem.W.subIn K (.ref E_NoKey) (.ref E_NoStart) = some false)
    (o_NoKey_NoWatch : PySem.W.subIn K (.ref E_NoKey) (.ref E_NoWatch) = some false)
    (ov_NoKey : PySem.W.subIn K (.ref E_NoKey) (.type "ValueError") = some true)
    (q_NoKey : PySem.W.subIn K (.ref E_NoKey) (.ref E_LeaseError) = some true)
    (x_Held : PySem.W.excIn K E_Held [.type "ValueError", .type "Exception", .type "BaseException", .type "object"] "ValueError.__new__" = true)
    (kp_Held : PySem.W.keepIn K (.ref E_Held) = true)
    (b_Held : PySem.W.subIn K (.ref E_Held) (.type "BaseException") = some true)
    (ga_Held : PySem.W.findIn K (.ref E_Held) "__getattribute__" = some (some (.builtin "BaseException.__getattribute__")))
    (gt_Held : PySem.W.findIn K (.ref E_Held) "__getattr__" = some none)
    (cl_Held : PySem.W.findIn K (.ref E_Held) "__class__" = some (some (.builtin "object.__class__")))
    (mr_Held : PySem.W.mroIn K E_Held (.type "object") = some true)
    (o_Held_BadTicks : PySem.W.subIn K (.ref E_Held) (.ref E_BadTicks) = some false)
    (o_Held_NoLease : PySem.W.subIn K (.ref E_Held) (.ref E_NoLease) = some false)
    (o_Held_NoKey : PySem.W.subIn K (.ref E_Held) (.ref E_NoKey) = some false)
    (o_Held_Held : PySem.W.subIn K (.ref E_Held) (.ref E_Held) = some true)
    (o_Held_NoStart : PySem.W.subIn K (.ref E_Held) (.ref E_NoStart) = some false)
    (o_Held_NoWatch : PySem.W.subIn K (.ref E_Held) (.ref E_NoWatch) = some false)
    (ov_Held : PySem.W.subIn K (.ref E_Held) (.type "ValueError") = some true)
    (q_Held : PySem.W.subIn K (.ref E_Held) (.ref E_LeaseError) = some true)
    (x_NoStart : PySem.W.excIn K E_NoStart [.type "ValueError", .type "Exception", .type "BaseException", .type "object"] "ValueError.__new__" = true)
    (kp_NoStart : PySem.W.keepIn K (.ref E_NoStart) = true)
    (b_NoStart : PySem.W.subIn K (.ref E_NoStart) (.type "BaseException") = some true)
    (ga_NoStart : PySem.W.findIn K (.ref E_NoStart) "__getattribute__" = some (some (.builtin "BaseException.__getattribute__")))
    (gt_NoStart : PySem.W.findIn K (.ref E_NoStart) "__getattr__" = some none)
    (cl_NoStart : PySem.W.findIn K (.ref E_NoStart) "__class__" = some (some (.builtin "object.__class__")))
    (mr_NoStart : PySem.W.mroIn K E_NoStart (.type "object") = some true)
    (o_NoStart_BadTicks : PySem.W.subIn K (.ref E_NoStart) (.ref E_BadTicks) = some false)
    (o_NoStart_NoLease : PySem.W.subIn K (.ref E_NoStart) (.ref E_NoLease) = some false)
    (o_NoStart_NoKey : PySem.W.subIn K (.ref E_NoStart) (.ref E_NoKey) = some false)
    (o_NoStart_Held : PySem.W.subIn K (.ref E_NoStart) (.ref E_Held) = some false)
    (o_NoStart_NoStart : PySem.W.subIn K (.ref E_NoStart) (.ref E_NoStart) = some true)
    (o_NoStart_NoWatch : PySem.W.subIn K (.ref E_NoStart) (.ref E_NoWatch) = some false)
    (ov_NoStart : PySem.W.subIn K (.ref E_NoStart) (.type "ValueError") = some true)
    (q_NoStart : PySem.W.subIn K (.ref E_NoStart) (.ref E_LeaseError) = some true)
    (x_NoWatch : PySem.W.excIn K E_NoWatch [.type "ValueError", .type "Exception", .type "BaseException", .type "object"] "ValueError.__new__" = true)
    (kp_NoWatch : PySem.W.keepIn K (.ref E_NoWatch) = true)
    (b_NoWatch : PySem.W.subIn K (.ref E_NoWatch) (.type "BaseException") = some true)
    (ga_NoWatch : PySem.W.findIn K (.ref E_NoWatch) "__getattribute__" = some (some (.builtin "BaseException.__getattribute__")))
    (gt_NoWatch : PySem.W.findIn K (.ref E_NoWatch) "__getattr__" = some none)
    (cl_NoWatch : PySem.W.findIn K (.ref E_NoWatch) "__class__" = some (some (.builtin "object.__class__")))
    (mr_NoWatch : PySem.W.mroIn K E_NoWatch (.type "object") = some true)
    (o_NoWatch_BadTicks : PySem.W.subIn K (.ref E_NoWatch) (.ref E_BadTicks) = some false)
    (o_NoWatch_NoLease : PySem.W.subIn K (.ref E_NoWatch) (.ref E_NoLease) = some false)
    (o_NoWatch_NoKey : PySem.W.subIn K (.ref E_NoWatch) (.ref E_NoKey) = some false)
    (o_NoWatch_Held : PySem.W.subIn K (.ref E_NoWatch) (.ref E_Held) = some false)
    (o_NoWatch_NoStart : PySem.W.subIn K (.ref E_NoWatch) (.ref E_NoStart) = some false)
    (o_NoWatch_NoWatch : PySem.W.subIn K (.ref E_NoWatch) (.ref E_NoWatch) = some true)
    (ov_NoWatch : PySem.W.subIn K (.ref E_NoWatch) (.type "ValueError") = some true)
    (q_NoWatch : PySem.W.subIn K (.ref E_NoWatch) (.ref E_LeaseError) = some true)
    (sp : PySem.W.specialIn K (.builtin "object.__class__") "__get__" = some (some (.builtin "getset_descriptor.__get__")))
    (tk : PySem.W.takesIn K (.builtin "object.__class__") = some true)
    (ic_Line : PySem.W.findIn K (.ref C_Line) "__class__" = some (some (.builtin "object.__class__")))
    (im_Line : PySem.W.mroIn K C_Line (.type "object") = some true)
    (ic_Ear : PySem.W.findIn K (.ref C_Ear) "__class__" = some (some (.builtin "object.__class__")))
    (im_Ear : PySem.W.mroIn K C_Ear (.type "object") = some true)
    (z_ValueError : PySem.W.nsIn K mainGlobals "ValueError" = some none)
    (z_bool : PySem.W.nsIn K mainGlobals "bool" = some none)
    (z_int : PySem.W.nsIn K mainGlobals "int" = some none)
    (z_isinstance : PySem.W.nsIn K mainGlobals "isinstance" = some none)
    (z_len : PySem.W.nsIn K mainGlobals "len" = some none)
    (z_list : PySem.W.nsIn K mainGlobals "list" = some none)
    (z_max : PySem.W.nsIn K mainGlobals "max" = some none)
    (z_range : PySem.W.nsIn K mainGlobals "range" = some none)
    (z_sorted : PySem.W.nsIn K mainGlobals "sorted" = some none)
    (z_str : PySem.W.nsIn K mainGlobals "str" = some none)
    (z_tuple : PySem.W.nsIn K mainGlobals "tuple" = some none)
    : ∃ fd : FuncData, (∀ (s : Shared) (v : Value), BindsTo s fd ⟨[v], []⟩ [("_law_script", v)]) ∧ ∀ base : Heap, K.In base → base.Ns mainGlobals mg → FnOk l.prog w K mg base CX0 12 fa fd ["_law_script"] (spLaw K) := by
  have e := hfa.symm.trans (PySem.W.mg_of X G a_law)
  cases e
  have Z_ValueError := PySem.W.mg_none_of X G z_ValueError
  have Z_bool := PySem.W.mg_none_of X G z_bool
  have Z_int := PySem.W.mg_none_of X G z_int
  have Z_isinstance := PySem.W.mg_none_of X G z_isinstance
  have Z_len := PySem.W.mg_none_of X G z_len
  have Z_list := PySem.W.mg_none_of X G z_list
  have Z_max := PySem.W.mg_none_of X G z_max
  have Z_range := PySem.W.mg_none_of X G z_range
  have Z_sorted := PySem.W.mg_none_of X G z_sorted
  have Z_str := PySem.W.mg_none_of X G z_str
  have Z_tuple := PySem.W.mg_none_of X G z_tuple
  have LT : LTxt mg := ⟨Z_isinstance, Z_int, Z_bool, Z_str, Z_len, Z_sorted, Z_list, Z_tuple, Z_range⟩
  have cl_Ear : Cls K C_Ear := ⟨pg_Ear, hd_Ear, po_Ear, sa_Ear⟩
  have M_Ear : Mk K C_Ear f_Ear_init := ⟨mk_Ear, a_Ear_init, i_Ear_init, kc_Ear⟩
  have g_Ear := PySem.W.mg_of X G aC_Ear
  have cl_Line : Cls K C_Line := ⟨pg_Line, hd_Line, po_Line, sa_Line⟩
  have M_Line : Mk K C_Line f_Line_init := ⟨mk_Line, a_Line_init, i_Line_init, kc_Line⟩
  have g_Line := PySem.W.mg_of X G aC_Line
  have cl_Leases : Cls K C_Leases := ⟨pg_Leases, hd_Leases, po_Leases, sa_Leases⟩
  have M_Leases : Mk K C_Leases f_Leases_init := ⟨mk_Leases, a_Leases_init, i_Leases_init, kc_Leases⟩
  have g_Leases := PySem.W.mg_of X G aC_Leases
  have cl_Log : Cls K C_Log := ⟨pg_Log, hd_Log, po_Log, sa_Log⟩
  have M_Log : Mk K C_Log f_Log_init := ⟨mk_Log, a_Log_init, i_Log_init, kc_Log⟩
  have g_Log := PySem.W.mg_of X G aC_Log
  have cl_Watcher : Cls K C_Watcher := ⟨pg_Watcher, hd_Watcher, po_Watcher, sa_Watcher⟩
  have M_Watcher : Mk K C_Watcher f_Watcher_init := ⟨mk_Watcher, a_Watcher_init, i_Watcher_init, kc_Watcher⟩
  have g_Watcher := PySem.W.mg_of X G aC_Watcher
  have cl_Room : Cls K C_Room := ⟨pg_Room, hd_Room, po_Room, sa_Room⟩
  have M_Room : Mk K C_Room f_Room_init := ⟨mk_Room, a_Room_init, i_Room_init, kc_Room⟩
  have g_Room := PySem.W.mg_of X G aC_Room
  have F_Ear_hear := fun_mk (st := s_Ear_hear) l_Ear_hear c_Ear_hear k_Ear_hear
  have b_Ear_hear := F_Ear_hear.binds (ps := p_Ear_hear) fun _ _ _ _ _ _ us hl => match us, hl with | [_, _], _ => rfl
  have F_Ear_heard := fun_mk (st := s_Ear_heard) l_Ear_heard c_Ear_heard k_Ear_heard
  have b_Ear_heard := F_Ear_heard.binds (ps := p_Ear_heard) fun _ _ _ _ _ _ us hl => match us, hl with | [_], _ => rfl
  have F_Ear_state := fun_mk (st := s_Ear_state) l_Ear_state c_Ear_state k_Ear_state
  have b_Ear_state := F_Ear_state.binds (ps := p_Ear_state) fun _ _ _ _ _ _ us hl => match us, hl with | [_], _ => rfl
  have F_Ear_many := fun_mk (st := s_Ear_many) l_Ear_many c_Ear_many k_Ear_many
  have b_Ear_many := F_Ear_many.binds (ps := p_Ear_many) fun _ _ _ _ _ _ us hl => match us, hl with | [_], _ => rfl
  have F_Ear_u_take_in := fun_mk (st := s_Ear_u_take_in) l_Ear_u_take_in c_Ear_u_take_in k_Ear_u_take_in
  have b_Ear_u_take_in := F_Ear_u_take_in.binds (ps := p_Ear_u_take_in) fun _ _ _ _ _ _ us hl => match us, hl with | [_, _], _ => rfl
  have F_Line_turn := fun_mk (st := s_Line_turn) l_Line_turn c_Line_turn k_Line_turn
  have b_Line_turn := F_Line_turn.binds (ps := p_Line_turn) fun _ _ _ _ _ _ us hl => match us, hl with | [_, _, _], _ => rfl
  have F_Leases_init := fun_mk (st := s_Leases_init) l_Leases_init c_Leases_init k_Leases_init
  have b_Leases_init := F_Leases_init.binds (ps := p_Leases_init) fun _ _ _ _ _ _ us hl => match us, hl with | [_], _ => rfl
  have F_Leases_due := fun_mk (st := s_Leases_due) l_Leases_due c_Leases_due k_Leases_due
  have b_Leases_due := F_Leases_due.binds (ps := p_Leases_due) fun _ _ _ _ _ _ us hl => match us, hl with | [_, _], _ => rfl
  have F_Leases_refuse_unknown := fun_mk (st := s_Leases_refuse_unknown) l_Leases_refuse_unknown c_Leases_refuse_unknown k_Leases_refuse_unknown
  have b_Leases_refuse_unknown := F_Leases_refuse_unknown.binds (ps := p_Leases_refuse_unknown) fun _ _ _ _ _ _ us hl => match us, hl with | [_, _], _ => rfl
  have F_Log_init := fun_mk (st := s_Log_init) l_Log_init c_Log_init k_Log_init
  have b_Log_init := F_Log_init.binds (ps := p_Log_init) fun _ _ _ _ _ _ us hl => match us, hl with | [_], _ => rfl
  have F_Log_note := fun_mk (st := s_Log_note) l_Log_note c_Log_note k_Log_note
  have b_Log_note := F_Log_note.binds (ps := p_Log_note) fun _ _ _ _ _ _ us hl => match us, hl with | [_, _, _, _, _], _ => rfl
  have F_Log_last := fun_mk (st := s_Log_last) l_Log_last c_Log_last k_Log_last
  have b_Log_last := F_Log_last.binds (ps := p_Log_last) fun _ _ _ _ _ _ us hl => match us, hl with | [_], _ => rfl
  have F_Log_first := fun_mk (st := s_Log_first) l_Log_first c_Log_first k_Log_first
  have b_Log_first := F_Log_first.binds (ps := p_Log_first) fun _ _ _ _ _ _ us hl => match us, hl with | [_], _ => rfl
  have F_Log_wanted := fun_mk (st := s_Log_wanted) l_Log_wanted c_Log_wanted k_Log_wanted
  have b_Log_wanted := F_Log_wanted.binds (ps := p_Log_wanted) fun _ _ _ _ _ _ us hl => match us, hl with | [_, _, _, _], _ => rfl
  have F_Watcher_init := fun_mk (st := s_Watcher_init) l_Watcher_init c_Watcher_init k_Watcher_init
  have b_Watcher_init := F_Watcher_init.binds (ps := p_Watcher_init) fun _ _ _ _ _ _ us hl => match us, hl with | [_, _, _], _ => rfl
  have F_Room_init := fun_mk (st := s_Room_init) l_Room_init c_Room_init k_Room_init
  have b_Room_init := F_Room_init.binds (ps := p_Room_init) fun _ _ _ _ _ _ us hl => match us, hl with | [_], _ => rfl
  have F_Room_value := fun_mk (st := s_Room_value) l_Room_value c_Room_value k_Room_value
  have b_Room_value := F_Room_value.binds (ps := p_Room_value) fun _ _ _ _ _ _ us hl => match us, hl with | [_, _], _ => rfl
  have F_Room_holder := fun_mk (st := s_Room_holder) l_Room_holder c_Room_holder k_Room_holder
  have b_Room_holder := F_Room_holder.binds (ps := p_Room_holder) fun _ _ _ _ _ _ us hl => match us, hl with | [_, _], _ => rfl
  have F_Room_pairs := fun_mk (st := s_Room_pairs) l_Room_pairs c_Room_pairs k_Room_pairs
  have b_Room_pairs := F_Room_pairs.binds (ps := p_Room_pairs) fun _ _ _ _ _ _ us hl => match us, hl with | [_, _], _ => rfl
  have F_Room_last := fun_mk (st := s_Room_last) l_Room_last c_Room_last k_Room_last
  have b_Room_last := F_Room_last.binds (ps := p_Room_last) fun _ _ _ _ _ _ us hl => match us, hl with | [_], _ => rfl
  have F_Room_first := fun_mk (st := s_Room_first) l_Room_first c_Room_first k_Room_first
  have b_Room_first := F_Room_first.binds (ps := p_Room_first) fun _ _ _ _ _ _ us hl => match us, hl with | [_], _ => rfl
  have F_Room_watch := fun_mk (st := s_Room_watch) l_Room_watch c_Room_watch k_Room_watch
  have b_Room_watch := F_Room_watch.binds (ps := p_Room_watch) fun _ _ _ _ _ _ us hl => match us, hl with | [_, _, _], _ => rfl
  have F_Room_pull := fun_mk (st := s_Room_pull) l_Room_pull c_Room_pull k_Room_pull
  have b_Room_pull := F_Room_pull.binds (ps := p_Room_pull) fun _ _ _ _ _ _ us hl => match us, hl with | [_, _, _], _ => rfl
  have F_Room_confirm := fun_mk (st := s_Room_confirm) l_Room_confirm c_Room_confirm k_Room_confirm
  have b_Room_confirm := F_Room_confirm.binds (ps := p_Room_confirm) fun _ _ _ _ _ _ us hl => match us, hl with | [_, _], _ => rfl
  have F_Room_broken := fun_mk (st := s_Room_broken) l_Room_broken c_Room_broken k_Room_broken
  have b_Room_broken := F_Room_broken.binds (ps := p_Room_broken) fun _ _ _ _ _ _ us hl => match us, hl with | [_, _], _ => rfl
  have F_Room_leave := fun_mk (st := s_Room_leave) l_Room_leave c_Room_leave k_Room_leave
  have b_Room_leave := F_Room_leave.binds (ps := p_Room_leave) fun _ _ _ _ _ _ us hl => match us, hl with | [_, _], _ => rfl
  have F_Room_u_refuse_lease := fun_mk (st := s_Room_u_refuse_lease) l_Room_u_refuse_lease c_Room_u_refuse_lease k_Room_u_refuse_lease
  have b_Room_u_refuse_lease := F_Room_u_refuse_lease.binds (ps := p_Room_u_refuse_lease) fun _ _ _ _ _ _ us hl => match us, hl with | [_, _], _ => rfl
  have F_Room_u_refuse_held := fun_mk (st := s_Room_u_refuse_held) l_Room_u_refuse_held c_Room_u_refuse_held k_Room_u_refuse_held
  have b_Room_u_refuse_held := F_Room_u_refuse_held.binds (ps := p_Room_u_refuse_held) fun _ _ _ _ _ _ us hl => match us, hl with | [_, _, _], _ => rfl
  have F_Room_u_watching := fun_mk (st := s_Room_u_watching) l_Room_u_watching c_Room_u_watching k_Room_u_watching
  have b_Room_u_watching := F_Room_u_watching.binds (ps := p_Room_u_watching) fun _ _ _ _ _ _ us hl => match us, hl with | [_, _], _ => rfl
  have F_Room_u_refuse_watcher := fun_mk (st := s_Room_u_refuse_watcher) l_Room_u_refuse_watcher c_Room_u_refuse_watcher k_Room_u_refuse_watcher
  have b_Room_u_refuse_watcher := F_Room_u_refuse_watcher.binds (ps := p_Room_u_refuse_watcher) fun _ _ _ _ _ _ us hl => match us, hl with | [_, _], _ => rfl
  have F_arriving := fun_mk (st := s_arriving) l_arriving c_arriving k_arriving
  have b_arriving := F_arriving.binds (ps := p_arriving) fun _ _ _ _ _ _ us hl => match us, hl with | [_, _], _ => rfl
  have F_whole := fun_mk (st := s_whole) l_whole c_whole k_whole
  have b_whole := F_whole.binds (ps := p_whole) fun _ _ _ _ _ _ us hl => match us, hl with | [_], _ => rfl
  have F_cell_at := fun_mk (st := s_cell_at) l_cell_at c_cell_at k_cell_at
  have b_cell_at := F_cell_at.binds (ps := p_cell_at) fun _ _ _ _ _ _ us hl => match us, hl with | [_, _], _ => rfl
  have F_sign := fun_mk (st := s_sign) l_sign c_sign k_sign
  have b_sign := F_sign.binds (ps := p_sign) fun _ _ _ _ _ _ us hl => match us, hl with | [_], _ => rfl
  have F_text := fun_mk (st := s_text) l_text c_text k_text
  have b_text := F_text.binds (ps := p_text) fun _ _ _ _ _ _ us hl => match us, hl with | [_, _], _ => rfl
  have F_pool := fun_mk (st := s_pool) l_pool c_pool k_pool
  have b_pool := F_pool.binds (ps := p_pool) fun _ _ _ _ _ _ us hl => match us, hl with | [_, _], _ => rfl
  have F_prefix := fun_mk (st := s_prefix) l_prefix c_prefix k_prefix
  have b_prefix := F_prefix.binds (ps := p_prefix) fun _ _ _ _ _ _ us hl => match us, hl with | [_, _], _ => rfl
  have F_change := fun_mk (st := s_change) l_change c_change k_change
  have b_change := F_change.binds (ps := p_change) fun _ _ _ _ _ _ us hl => match us, hl with | [_], _ => rfl
  have F_changes := fun_mk (st := s_changes) l_changes c_changes k_changes
  have b_changes := F_changes.binds (ps := p_changes) fun _ _ _ _ _ _ us hl => match us, hl with | [_, _], _ => rfl
  have F_put := fun_mk (st := s_put) l_put c_put k_put
  have b_put := F_put.binds (ps := p_put) fun _ _ _ _ _ _ us hl => match us, hl with | [_, _, _, _], _ => rfl
  have F_turned := fun_mk (st := s_turned) l_turned c_turned k_turned
  have b_turned := F_turned.binds (ps := p_turned) fun _ _ _ _ _ _ us hl => match us, hl with | [_, _, _, _, _, _], _ => rfl
  have F_only := fun_mk (st := s_only) l_only c_only k_only
  have b_only := F_only.binds (ps := p_only) fun _ _ _ _ _ _ us hl => match us, hl with | [_, _], _ => rfl
  have F_line := fun_mk (st := s_line) l_line c_line k_line
  have b_line := F_line.binds (ps := p_line) fun _ _ _ _ _ _ us hl => match us, hl with | [_, _, _, _], _ => rfl
  have F_law := fun_mk (st := s_law) l_law c_law k_law
  have b_law := F_law.binds (ps := p_law) fun _ _ _ _ _ _ us hl => match us, hl with | [_], _ => rfl
  have m_Ear_init : Meth K C_Ear "__init__" f_Ear_init := ⟨a_Ear_init, i_Ear_init, k_Ear_init⟩
  have m_Ear_hear : Meth K C_Ear "hear" f_Ear_hear := ⟨a_Ear_hear, i_Ear_hear, k_Ear_hear⟩
  have m_Ear_heard : Meth K C_Ear "heard" f_Ear_heard := ⟨a_Ear_heard, i_Ear_heard, k_Ear_heard⟩
  have m_Ear_state : Meth K C_Ear "state" f_Ear_state := ⟨a_Ear_state, i_Ear_state, k_Ear_state⟩
  have m_Ear_many : Meth K C_Ear "many" f_Ear_many := ⟨a_Ear_many, i_Ear_many, k_Ear_many⟩
  have m_Ear_u_take_in : Meth K C_Ear "_take_in" f_Ear_u_take_in := ⟨a_Ear_u_take_in, i_Ear_u_take_in, k_Ear_u_take_in⟩
  have m_Line_init : Meth K C_Line "__init__" f_Line_init := ⟨a_Line_init, i_Line_init, k_Line_init⟩
  have m_Line_turn : Meth K C_Line "turn" f_Line_turn := ⟨a_Line_turn, i_Line_turn, k_Line_turn⟩
  have m_Leases_init : Meth K C_Leases "__init__" f_Leases_init := ⟨a_Leases_init, i_Leases_init, k_Leases_init⟩
  have m_Leases_due : Meth K C_Leases "due" f_Leases_due := ⟨a_Leases_due, i_Leases_due, k_Leases_due⟩
  have m_Leases_refuse_unknown : Meth K C_Leases "refuse_unknown" f_Leases_refuse_unknown := ⟨a_Leases_refuse_unknown, i_Leases_refuse_unknown, k_Leases_refuse_unknown⟩
  have m_Log_init : Meth K C_Log "__init__" f_Log_init := ⟨a_Log_init, i_Log_init, k_Log_init⟩
  have m_Log_note : Meth K C_Log "note" f_Log_note := ⟨a_Log_note, i_Log_note, k_Log_note⟩
  have m_Log_last : Meth K C_Log "last" f_Log_last := ⟨a_Log_last, i_Log_last, k_Log_last⟩
  have m_Log_first : Meth K C_Log "first" f_Log_first := ⟨a_Log_first, i_Log_first, k_Log_first⟩
  have m_Log_wanted : Meth K C_Log "wanted" f_Log_wanted := ⟨a_Log_wanted, i_Log_wanted, k_Log_wanted⟩
  have m_Watcher_init : Meth K C_Watcher "__init__" f_Watcher_init := ⟨a_Watcher_init, i_Watcher_init, k_Watcher_init⟩
  have m_Room_init : Meth K C_Room "__init__" f_Room_init := ⟨a_Room_init, i_Room_init, k_Room_init⟩
  have m_Room_put : Meth K C_Room "put" f_Room_put := ⟨a_Room_put, i_Room_put, k_Room_put⟩
  have m_Room_value : Meth K C_Room "value" f_Room_value := ⟨a_Room_value, i_Room_value, k_Room_value⟩
  have m_Room_holder : Meth K C_Room "holder" f_Room_holder := ⟨a_Room_holder, i_Room_holder, k_Room_holder⟩
  have m_Room_pairs : Meth K C_Room "pairs" f_Room_pairs := ⟨a_Room_pairs, i_Room_pairs, k_Room_pairs⟩
  have m_Room_last : Meth K C_Room "last" f_Room_last := ⟨a_Room_last, i_Room_last, k_Room_last⟩
  have m_Room_first : Meth K C_Room "first" f_Room_first := ⟨a_Room_first, i_Room_first, k_Room_first⟩
  have m_Room_watch : Meth K C_Room "watch" f_Room_watch := ⟨a_Room_watch, i_Room_watch, k_Room_watch⟩
  have m_Room_pull : Meth K C_Room "pull" f_Room_pull := ⟨a_Room_pull, i_Room_pull, k_Room_pull⟩
  have m_Room_confirm : Meth K C_Room "confirm" f_Room_confirm := ⟨a_Room_confirm, i_Room_confirm, k_Room_confirm⟩
  have m_Room_broken : Meth K C_Room "broken" f_Room_broken := ⟨a_Room_broken, i_Room_broken, k_Room_broken⟩
  have m_Room_leave : Meth K C_Room "leave" f_Room_leave := ⟨a_Room_leave, i_Room_leave, k_Room_leave⟩
  have m_Room_u_refuse_lease : Meth K C_Room "_refuse_lease" f_Room_u_refuse_lease := ⟨a_Room_u_refuse_lease, i_Room_u_refuse_lease, k_Room_u_refuse_lease⟩
  have m_Room_u_refuse_held : Meth K C_Room "_refuse_held" f_Room_u_refuse_held := ⟨a_Room_u_refuse_held, i_Room_u_refuse_held, k_Room_u_refuse_held⟩
  have m_Room_u_watching : Meth K C_Room "_watching" f_Room_u_watching := ⟨a_Room_u_watching, i_Room_u_watching, k_Room_u_watching⟩
  have m_Room_u_refuse_watcher : Meth K C_Room "_refuse_watcher" f_Room_u_refuse_watcher := ⟨a_Room_u_refuse_watcher, i_Room_u_refuse_watcher, k_Room_u_refuse_watcher⟩
  have g_arriving := PySem.W.mg_of X G a_arriving
  have g_whole := PySem.W.mg_of X G a_whole
  have g_cell_at := PySem.W.mg_of X G a_cell_at
  have g_sign := PySem.W.mg_of X G a_sign
  have g_text := PySem.W.mg_of X G a_text
  have g_pool := PySem.W.mg_of X G a_pool
  have g_prefix := PySem.W.mg_of X G a_prefix
  have g_change := PySem.W.mg_of X G a_change
  have g_changes := PySem.W.mg_of X G a_changes
  have g_put := PySem.W.mg_of X G a_put
  have g_turned := PySem.W.mg_of X G a_turned
  have g_only := PySem.W.mg_of X G a_only
  have g_line := PySem.W.mg_of X G a_line
  have F_Ear_init : FunD K "__init__" "Ear.__init__" (defArgs s_Ear_init) (defBody s_Ear_init) (defScope s_Ear_init) [.int 1, .non] [] f_Ear_init (PySem.W.fnOf "__init__" "Ear.__init__" (defArgs s_Ear_init) (defBody s_Ear_init) (defScope s_Ear_init) (.ref dT_Ear_init) kV_Ear_init dc_Ear_init pm_Ear_init an_Ear_init cd_Ear_init ct_Ear_init) := ⟨⟨_, _, _, _, _, _, _, _, _, _, rfl, l_Ear_init, c_Ear_init, .inr ⟨by simp, _, _, _, _, rfl, d_Ear_init, rfl, .cons ⟨_, rfl⟩ (.cons rfl (.nil))⟩, .inl rfl⟩, k_Ear_init⟩
  have F_Line_init : FunD K "__init__" "Line.__init__" (defArgs s_Line_init) (defBody s_Line_init) (defScope s_Line_init) [.non] [] f_Line_init (PySem.W.fnOf "__init__" "Line.__init__" (defArgs s_Line_init) (defBody s_Line_init) (defScope s_Line_init) (.ref dT_Line_init) kV_Line_init dc_Line_init pm_Line_init an_Line_init cd_Line_init ct_Line_init) := ⟨⟨_, _, _, _, _, _, _, _, _, _, rfl, l_Line_init, c_Line_init, .inr ⟨by simp, _, _, _, _, rfl, d_Line_init, rfl, .cons rfl (.nil)⟩, .inl rfl⟩, k_Line_init⟩
  have F_Room_put : FunD K "put" "Room.put" (defArgs s_Room_put) (defBody s_Room_put) (defScope s_Room_put) [.int 0] [] f_Room_put (PySem.W.fnOf "put" "Room.put" (defArgs s_Room_put) (defBody s_Room_put) (defScope s_Room_put) (.ref dT_Room_put) kV_Room_put dc_Room_put pm_Room_put an_Room_put cd_Room_put ct_Room_put) := ⟨⟨_, _, _, _, _, _, _, _, _, _, rfl, l_Room_put, c_Room_put, .inr ⟨by simp, _, _, _, _, rfl, d_Room_put, rfl, .cons ⟨_, rfl⟩ (.nil)⟩, .inl rfl⟩, k_Room_put⟩
  have N_BadTicks : ErrT K mg "BadTicks" E_BadTicks := ⟨PySem.W.mg_of X G e_BadTicks, x_BadTicks, kp_BadTicks, b_BadTicks, t_BadTicks⟩
  have N_NoLease : ErrT K mg "NoLease" E_NoLease := ⟨PySem.W.mg_of X G e_NoLease, x_NoLease, kp_NoLease, b_NoLease, t_NoLease⟩
  have N_NoKey : ErrT K mg "NoKey" E_NoKey := ⟨PySem.W.mg_of X G e_NoKey, x_NoKey, kp_NoKey, b_NoKey, t_NoKey⟩
  have N_Held : ErrT K mg "Held" E_Held := ⟨PySem.W.mg_of X G e_Held, x_Held, kp_Held, b_Held, t_Held⟩
  have N_NoStart : ErrT K mg "NoStart" E_NoStart := ⟨PySem.W.mg_of X G e_NoStart, x_NoStart, kp_NoStart, b_NoStart, t_NoStart⟩
  have N_NoWatch : ErrT K mg "NoWatch" E_NoWatch := ⟨PySem.W.mg_of X G e_NoWatch, x_NoWatch, kp_NoWatch, b_NoWatch, t_NoWatch⟩
  have ER : Errs K mg ⟨E_LeaseError, E_BadTicks, E_NoLease, E_NoKey, E_Held, E_NoStart, E_NoWatch⟩ := by
    refine ⟨PySem.W.mg_of X G e_LeaseError, Z_ValueError, Z_isinstance, fun i => ?_, fun i => ?_, fun i => ?_⟩
    · cases i with
      | ticks => exact PySem.W.mg_of X G e_BadTicks
      | lease => exact PySem.W.mg_of X G e_NoLease
      | key => exact PySem.W.mg_of X G e_NoKey
      | held => exact PySem.W.mg_of X G e_Held
      | start => exact PySem.W.mg_of X G e_NoStart
      | watch => exact PySem.W.mg_of X G e_NoWatch
    · cases i with
      | ticks =>
        refine ⟨⟨ga_BadTicks, gt_BadTicks, b_BadTicks, hd_BadTicks, cl_BadTicks, sp, tk, mr_BadTicks⟩, fun j => ?_, kit_type (by decide +kernel) ov_BadTicks⟩
        cases j with
        | ticks => exact kit_own hd_BadTicks t_BadTicks o_BadTicks_BadTicks o_BadTicks_BadTicks
        | lease => exact kit_own hd_NoLease t_NoLease o_BadTicks_BadTicks o_BadTicks_NoLease
        | key => exact kit_own hd_NoKey t_NoKey o_BadTicks_BadTicks o_BadTicks_NoKey
        | held => exact kit_own hd_Held t_Held o_BadTicks_BadTicks o_BadTicks_Held
        | start => exact kit_own hd_NoStart t_NoStart o_BadTicks_BadTicks o_BadTicks_NoStart
        | watch => exact kit_own hd_NoWatch t_NoWatch o_BadTicks_BadTicks o_BadTicks_NoWatch
      | lease =>
        refine ⟨⟨ga_NoLease, gt_NoLease, b_NoLease, hd_NoLease, cl_NoLease, sp, tk, mr_NoLease⟩, fun j => ?_, kit_type (by decide +kernel) ov_NoLease⟩
        cases j with
        | ticks => exact kit_own hd_BadTicks t_BadTicks o_NoLease_NoLease o_NoLease_BadTicks
        | lease => exact kit_own hd_NoLease t_NoLease o_NoLease_NoLease o_NoLease_NoLease
        | key => exact kit_own hd_NoKey t_NoKey o_NoLease_NoLease o_NoLease_NoKey
        | held => exact kit_own hd_Held t_Held o_NoLease_NoLease o_NoLease_Held
        | start => exact kit_own hd_NoStart t_NoStart o_NoLease_NoLease o_NoLease_NoStart
        | watch => exact kit_own hd_NoWatch t_NoWatch o_NoLease_NoLease o_NoLease_NoWatch
      | key =>
        refine ⟨⟨ga_NoKey, gt_NoKey, b_NoKey, hd_NoKey, cl_NoKey, sp, tk, mr_NoKey⟩, fun j => ?_, kit_type (by decide +kernel) ov_NoKey⟩
        cases j with
        | ticks => exact kit_own hd_BadTicks t_BadTicks o_NoKey_NoKey o_NoKey_BadTicks
        | lease => exact kit_own hd_NoLease t_NoLease o_NoKey_NoKey o_NoKey_NoLease
        | key => exact kit_own hd_NoKey t_NoKey o_NoKey_NoKey o_NoKey_NoKey
        | held => exact kit_own hd_Held t_Held o_NoKey_NoKey o_NoKey_Held
        | start => exact kit_own hd_NoStart t_NoStart o_NoKey_NoKey o_NoKey_NoStart
        | watch => exact kit_own hd_NoWatch t_NoWatch o_NoKey_NoKey o_NoKey_NoWatch
      | held =>
        refine ⟨⟨ga_Held, gt_Held, b_Held, hd_Held, cl_Held, sp, tk, mr_Held⟩, fun j => ?_, kit_type (by decide +kernel) ov_Held⟩
        cases j with
        | ticks => exact kit_own hd_BadTicks t_BadTicks o_Held_Held o_Held_BadTicks
        | lease => exact kit_own hd_NoLease t_NoLease o_Held_Held o_Held_NoLease
        | key => exact kit_own hd_NoKey t_NoKey o_Held_Held o_Held_NoKey
        | held => exact kit_own hd_Held t_Held o_Held_Held o_Held_Held
        | start => exact kit_own hd_NoStart t_NoStart o_Held_Held o_Held_NoStart
        | watch => exact kit_own hd_NoWatch t_NoWatch o_Held_Held o_Held_NoWatch
      | start =>
        refine ⟨⟨ga_NoStart, gt_NoStart, b_NoStart, hd_NoStart, cl_NoStart, sp, tk, mr_NoStart⟩, fun j => ?_, kit_type (by decide +kernel) ov_NoStart⟩
        cases j with
        | ticks => exact kit_own hd_BadTicks t_BadTicks o_NoStart_NoStart o_NoStart_BadTicks
        | lease => exact kit_own hd_NoLease t_NoLease o_NoStart_NoStart o_NoStart_NoLease
        | key => exact kit_own hd_NoKey t_NoKey o_NoStart_NoStart o_NoStart_NoKey
        | held => exact kit_own hd_Held t_Held o_NoStart_NoStart o_NoStart_Held
        | start => exact kit_own hd_NoStart t_NoStart o_NoStart_NoStart o_NoStart_NoStart
        | watch => exact kit_own hd_NoWatch t_NoWatch o_NoStart_NoStart o_NoStart_NoWatch
      | watch =>
        refine ⟨⟨ga_NoWatch, gt_NoWatch, b_NoWatch, hd_NoWatch, cl_NoWatch, sp, tk, mr_NoWatch⟩, fun j => ?_, kit_type (by decide +kernel) ov_NoWatch⟩
        cases j with
        | ticks => exact kit_own hd_BadTicks t_BadTicks o_NoWatch_NoWatch o_NoWatch_BadTicks
        | lease => exact kit_own hd_NoLease t_NoLease o_NoWatch_NoWatch o_NoWatch_NoLease
        | key => exact kit_own hd_NoKey t_NoKey o_NoWatch_NoWatch o_NoWatch_NoKey
        | held => exact kit_own hd_Held t_Held o_NoWatch_NoWatch o_NoWatch_Held
        | start => exact kit_own hd_NoStart t_NoStart o_NoWatch_NoWatch o_NoWatch_NoStart
        | watch => exact kit_own hd_NoWatch t_NoWatch o_NoWatch_NoWatch o_NoWatch_NoWatch
    · cases i with
      | ticks => exact PySem.W.exm_ref b_LeaseError hd_LeaseError t_LeaseError q_BadTicks
      | lease => exact PySem.W.exm_ref b_LeaseError hd_LeaseError t_LeaseError q_NoLease
      | key => exact PySem.W.exm_ref b_LeaseError hd_LeaseError t_LeaseError q_NoKey
      | held => exact PySem.W.exm_ref b_LeaseError hd_LeaseError t_LeaseError q_Held
      | start => exact PySem.W.exm_ref b_LeaseError hd_LeaseError t_LeaseError q_NoStart
      | watch => exact PySem.W.exm_ref b_LeaseError hd_LeaseError t_LeaseError q_NoWatch
  refine ⟨PySem.W.fnOf "law" "law" (defArgs s_law) (defBody s_law) (defScope s_law) .none kV_law dc_law pm_law an_law cd_law ct_law, fun s v => .of_eq rfl, fun base _ _ => ?_⟩
  let cc : Cs := ⟨C_Room, C_Leases, C_Log, C_Watcher⟩
  let kk : Kinds := ⟨E_LeaseError, E_BadTicks, E_NoLease, E_NoKey, E_Held, E_NoStart, E_NoWatch⟩
  have TR : RomT K cc.C := ⟨cl_Room, n0_Room, n1_Room, n2_Room, n3_Room, n4_Room, n5_Room, n6_Room⟩
  have TG : LogT K cc.CG := ⟨cl_Log, n0_Log, n1_Log⟩
  have TL : LeaT K mg cc.CL := ⟨cl_Leases, n0_Leases, n1_Leases, n2_Leases, g_Leases⟩
  have GLL := ok_Log_last (P := l.prog) (w := w) (base := base) F_Log_last TG Z_len
  have GLF := ok_Log_first (P := l.prog) (w := w) (mg := mg) (base := base) F_Log_first TG
  have GLN := ok_Log_note (P := l.prog) (w := w) (mg := mg) (base := base) F_Log_note TG m_Log_last b_Log_last GLL
  have GLU := ok_Leases_refuse (P := l.prog) (w := w) (base := base) F_Leases_refuse_unknown TL N_NoLease
  have G_in := ok_Room_init (P := l.prog) (w := w) (base := base) F_Room_init TR g_Leases g_Log M_Leases b_Leases_init (ok_Leases_init F_Leases_init TL) M_Log b_Log_init (ok_Log_init F_Log_init TG)
  have G_va := ok_Room_value (P := l.prog) (w := w) (mg := mg) (base := base) F_Room_value TR
  have G_ho := ok_Room_holder (P := l.prog) (w := w) (mg := mg) (base := base) F_Room_holder TR
  have G_la := ok_Room_last (P := l.prog) (w := w) (mg := mg) (base := base) F_Room_last TR TG m_Log_last b_Log_last GLL
  have G_fi := ok_Room_first (P := l.prog) (w := w) (mg := mg) (base := base) F_Room_first TR TG m_Log_first b_Log_first GLF
  have G_rl := ok_Room_refuse_lease (P := l.prog) (w := w) (base := base) (kk := kk) F_Room_u_refuse_lease TR TL m_Leases_refuse_unknown b_Leases_refuse_unknown GLU
  have G_rh := ok_Room_refuse_held (P := l.prog) (w := w) (base := base) (kk := kk) F_Room_u_refuse_held TR N_Held m_Room_holder b_Room_holder G_ho
  have B0_Room_put : ∃ ds, Vals ([V.int 0].drop 1) ds ∧ Binds K (PySem.W.fnOf "put" "Room.put" (defArgs s_Room_put) (defBody s_Room_put) (defScope s_Room_put) (.ref dT_Room_put) kV_Room_put dc_Room_put pm_Room_put an_Room_put cd_Room_put ct_Room_put) p_Room_put ds := F_Room_put.binds1 4 1 (by simp) rfl fun T kV doc pm an cdv ct us its h1 h2 => match us, its, h1, h2 with | [_, _, _, _], [_], _, _ => ⟨_, rfl, rfl⟩
  have B1_Room_put : ∃ ds, Vals ([V.int 0].drop 0) ds ∧ Binds K (PySem.W.fnOf "put" "Room.put" (defArgs s_Room_put) (defBody s_Room_put) (defScope s_Room_put) (.ref dT_Room_put) kV_Room_put dc_Room_put pm_Room_put an_Room_put cd_Room_put ct_Room_put) p_Room_put ds := F_Room_put.binds1 3 0 (by simp) rfl fun T kV doc pm an cdv ct us its h1 h2 => match us, its, h1, h2 with | [_, _, _], [_], _, _ => ⟨_, rfl, rfl⟩
  have B2_Room_put : ∃ g, KBn K (PySem.W.fnOf "put" "Room.put" (defArgs s_Room_put) (defBody s_Room_put) (defScope s_Room_put) (.ref dT_Room_put) kV_Room_put dc_Room_put pm_Room_put an_Room_put cd_Room_put ct_Room_put) p_Room_put 3 ["lease"] g fun vs zs => vs ++ zs := by
    obtain ⟨its, h⟩ := F_Room_put.kbindsD (ps := p_Room_put) 3 ["lease"] (fun us _ ws => us ++ ws) (by simp) (fun r1 _ r3 => vals_app r1 r3) fun T kV doc pm an cdv ct us its ws h1 h2 h3 => match us, its, ws, h1, h2, h3 with | [_, _, _], [_], [_], _, _, _ => ⟨_, rfl, rfl⟩
    exact ⟨_, h⟩
  obtain ⟨d0_Room_put, r0_Room_put, B0_Room_put⟩ := B0_Room_put
  cases r0_Room_put
  have TW : WatT K cc.CW := ⟨cl_Watcher, n0_Watcher, n1_Watcher, n2_Watcher⟩
  have G_rw := ok_Room_refuse_watcher (P := l.prog) (w := w) (base := base) (c := cc) (kk := kk) F_Room_u_refuse_watcher TR N_NoWatch
  have G_wg := ok_Room_watching (P := l.prog) (w := w) (base := base) (c := cc) (kk := kk) F_Room_u_watching TR m_Room_u_refuse_watcher b_Room_u_refuse_watcher G_rw
  have AR : RoomApi l.prog w K mg base C_Room kk (RsP cc) hsL :=
    { frame := RsP.frame, own := RsP.own, inst := RsP.inst
      make := ⟨_, _, _, M_Room, b_Room_init, G_in.mono (by decide)⟩
      grant := fun h => absurd h (by decide +kernel)
      renew := fun h => absurd h (by decide +kernel)
      drop := fun h => absurd h (by decide +kernel)
      wait := fun h => absurd h (by decide +kernel)
      put := fun _ => ⟨_, _, _, m_Room_put, B0_Room_put, B1_Room_put, B2_Room_put, (ok_Room_put F_Room_put TR TG m_Room_u_refuse_lease b_Room_u_refuse_lease G_rl m_Room_u_refuse_held b_Room_u_refuse_held G_rh m_Log_note b_Log_note GLN).mono (by decide)⟩
      cut := fun h => absurd h (by decide +kernel)
      value := fun _ => ⟨_, _, _, m_Room_value, b_Room_value, (api_value G_va).mono (by decide)⟩
      holder := fun _ => ⟨_, _, _, m_Room_holder, b_Room_holder, (api_holder G_ho).mono (by decide)⟩
      pairs := fun _ => ⟨_, _, _, m_Room_pairs, b_Room_pairs, (api_pairs (ok_Room_pairs F_Room_pairs TR Z_sorted)).mono (by decide)⟩
      last := fun _ => ⟨_, _, _, m_Room_last, b_Room_last, (api_last G_la).mono (by decide)⟩
      first := fun _ => ⟨_, _, _, m_Room_first, b_Room_first, (api_first G_fi).mono (by decide)⟩
      watch := fun _ => ⟨_, _, _, m_Room_watch, b_Room_watch, (ok_Room_watch F_Room_watch TR N_NoStart g_Watcher M_Watcher b_Watcher_init (ok_Watcher_init F_Watcher_init TW) m_Room_first b_Room_first G_fi m_Room_last b_Room_last G_la).mono (by decide)⟩
      pull := fun _ => ⟨_, _, _, m_Room_pull, b_Room_pull, (ok_Room_pull F_Room_pull TR TW TG Z_len m_Room_u_watching b_Room_u_watching G_wg m_Log_wanted b_Log_wanted (ok_Log_wanted F_Log_wanted TG Z_len Z_max Z_range) m_Room_last b_Room_last G_la).mono (by decide)⟩
      confirm := fun _ => ⟨_, _, _, m_Room_confirm, b_Room_confirm, (ok_Room_confirm F_Room_confirm TR TW m_Room_u_watching b_Room_u_watching G_wg).mono (by decide)⟩
      broken := fun _ => ⟨_, _, _, m_Room_broken, b_Room_broken, (ok_Room_broken F_Room_broken TR TW m_Room_u_watching b_Room_u_watching G_wg).mono (by decide)⟩
      leave := fun _ => ⟨_, _, _, m_Room_leave, b_Room_leave, (ok_Room_leave F_Room_leave TR m_Room_u_refuse_watcher b_Room_u_refuse_watcher G_rw).mono (by decide)⟩
      trim := fun h => absurd h (by decide +kernel) }
  have TE : EarT K C_Ear := ⟨cl_Ear, n0_Ear, n1_Ear, n2_Ear⟩
  have GT := ok_Ear_take_in (P := l.prog) (w := w) (mg := mg) (base := base) F_Ear_u_take_in TE
  have BE0 : ∃ ds, Vals ([V.int 1, V.non].drop 2) ds ∧ Binds K (PySem.W.fnOf "__init__" "Ear.__init__" (defArgs s_Ear_init) (defBody s_Ear_init) (defScope s_Ear_init) (.ref dT_Ear_init) kV_Ear_init dc_Ear_init pm_Ear_init an_Ear_init cd_Ear_init ct_Ear_init) p_Ear_init ds := F_Ear_init.binds1 3 2 (by simp) rfl fun T kV doc pm an cdv ct us its h1 h2 => match us, its, h1, h2 with | [_, _, _], [_, _], _, _ => ⟨_, rfl, rfl⟩
  have BE1 : ∃ ds, Vals ([V.int 1, V.non].drop 1) ds ∧ Binds K (PySem.W.fnOf "__init__" "Ear.__init__" (defArgs s_Ear_init) (defBody s_Ear_init) (defScope s_Ear_init) (.ref dT_Ear_init) kV_Ear_init dc_Ear_init pm_Ear_init an_Ear_init cd_Ear_init ct_Ear_init) p_Ear_init ds := F_Ear_init.binds1 2 1 (by simp) rfl fun T kV doc pm an cdv ct us its h1 h2 => match us, its, h1, h2 with | [_, _], [_, _], _, _ => ⟨_, rfl, rfl⟩
  have BE2 : ∃ ds, Vals ([V.int 1, V.non].drop 0) ds ∧ Binds K (PySem.W.fnOf "__init__" "Ear.__init__" (defArgs s_Ear_init) (defBody s_Ear_init) (defScope s_Ear_init) (.ref dT_Ear_init) kV_Ear_init dc_Ear_init pm_Ear_init an_Ear_init cd_Ear_init ct_Ear_init) p_Ear_init ds := F_Ear_init.binds1 1 0 (by simp) rfl fun T kV doc pm an cdv ct us its h1 h2 => match us, its, h1, h2 with | [_], [_, _], _, _ => ⟨_, rfl, rfl⟩
  have BE3 : ∃ g, KBn K (PySem.W.fnOf "__init__" "Ear.__init__" (defArgs s_Ear_init) (defBody s_Ear_init) (defScope s_Ear_init) (.ref dT_Ear_init) kV_Ear_init dc_Ear_init pm_Ear_init an_Ear_init cd_Ear_init ct_Ear_init) p_Ear_init 1 ["pairs", "start"] g fun vs zs => vs ++ zs.reverse := by
    obtain ⟨its, h⟩ := F_Ear_init.kbindsD (ps := p_Ear_init) 1 ["pairs", "start"] (fun us _ ws => us ++ ws.reverse) (by simp) (fun r1 _ r3 => vals_appR r1 r3) fun T kV doc pm an cdv ct us its ws h1 h2 h3 => match us, its, ws, h1, h2, h3 with | [_], [_, _], [_, _], _, _, _ => ⟨_, rfl, rfl⟩
    exact ⟨_, h⟩
  obtain ⟨dE0, rE0, BE0⟩ := BE0
  cases rE0
  have GEI := (ok_Ear_init (P := l.prog) (w := w) (mg := mg) (base := base) F_Ear_init TE).mono (k := 4) (by decide)
  have AE : EarApi l.prog w K mg base C_Ear (ErP C_Ear) esL :=
    { frame := ErP.frame, own := ErP.own, inst := ErP.inst
      make := ⟨_, _, _, M_Ear, GEI, BE0, BE1, BE2, BE3⟩
      hear := ⟨_, _, _, m_Ear_hear, b_Ear_hear, (ok_Ear_hear F_Ear_hear TE m_Ear_u_take_in b_Ear_u_take_in GT).mono (by decide)⟩
      heard := ⟨_, _, _, m_Ear_heard, b_Ear_heard, (ok_Ear_heard F_Ear_heard TE Z_list).mono (by decide)⟩
      state := fun _ => ⟨_, _, _, m_Ear_state, b_Ear_state, (ok_Ear_state F_Ear_state TE Z_sorted).mono (by decide)⟩
      many := fun _ => ⟨_, _, _, m_Ear_many, b_Ear_many, (api_many (ok_Ear_many F_Ear_many TE Z_len)).mono (by decide)⟩ }
  have TLn : LineT K C_Line := ⟨cl_Line, n0_Line, n1_Line, n2_Line⟩
  have G_ar := ok_arriving (P := l.prog) (w := w) (base := base) F_arriving (PySem.W.mg_of X G m_ROW_LOST) (PySem.W.mg_of X G m_BROKEN_MIDST) Z_len
  have BL0 : ∃ ds, Vals ([V.non].drop 1) ds ∧ Binds K (PySem.W.fnOf "__init__" "Line.__init__" (defArgs s_Line_init) (defBody s_Line_init) (defScope s_Line_init) (.ref dT_Line_init) kV_Line_init dc_Line_init pm_Line_init an_Line_init cd_Line_init ct_Line_init) p_Line_init ds := F_Line_init.binds1 5 1 (by simp) rfl fun T kV doc pm an cdv ct us its h1 h2 => match us, its, h1, h2 with | [_, _, _, _, _], [_], _, _ => ⟨_, rfl, rfl⟩
  have BL1 : ∃ ds, Vals ([V.non].drop 0) ds ∧ Binds K (PySem.W.fnOf "__init__" "Line.__init__" (defArgs s_Line_init) (defBody s_Line_init) (defScope s_Line_init) (.ref dT_Line_init) kV_Line_init dc_Line_init pm_Line_init an_Line_init cd_Line_init ct_Line_init) p_Line_init ds := F_Line_init.binds1 4 0 (by simp) rfl fun T kV doc pm an cdv ct us its h1 h2 => match us, its, h1, h2 with | [_, _, _, _], [_], _, _ => ⟨_, rfl, rfl⟩
  have BL2 : ∃ g, KBn K (PySem.W.fnOf "__init__" "Line.__init__" (defArgs s_Line_init) (defBody s_Line_init) (defScope s_Line_init) (.ref dT_Line_init) kV_Line_init dc_Line_init pm_Line_init an_Line_init cd_Line_init ct_Line_init) p_Line_init 4 ["pairs"] g fun vs zs => vs ++ zs := by
    obtain ⟨its, h⟩ := F_Line_init.kbindsD (ps := p_Line_init) 4 ["pairs"] (fun us _ ws => us ++ ws) (by simp) (fun r1 _ r3 => vals_app r1 r3) fun T kV doc pm an cdv ct us its ws h1 h2 h3 => match us, its, ws, h1, h2, h3 with | [_, _, _, _], [_], [_], _, _, _ => ⟨_, rfl, rfl⟩
    exact ⟨_, h⟩
  obtain ⟨dL0, rL0, BL0⟩ := BL0
  cases rL0
  obtain ⟨frW, fdrW, psrW, mrW, brW, GrW⟩ := (AR.watch (by decide +kernel)).ex
  obtain ⟨frU, fdrU, psrU, mrU, brU, GrU⟩ := (AR.pull (by decide +kernel)).ex
  obtain ⟨frC, fdrC, psrC, mrC, brC, GrC⟩ := (AR.confirm (by decide +kernel)).ex
  obtain ⟨frB, fdrB, psrB, mrB, brB, GrB⟩ := (AR.broken (by decide +kernel)).ex
  obtain ⟨feM, fdeM, pseM, meM, beM, GeM⟩ := (AE.many (by decide +kernel)).ex
  obtain ⟨feH, fdeH, pseH, meH, beH, GeH⟩ := AE.hear.ex
  have G_li := ok_Line_init (P := l.prog) (w := w) (base := base) (kk := kk) (Rs := RsP cc) (Er := ErP C_Ear) F_Line_init TLn cl_Room AR.frame AR.own (fun R => let ⟨a, dx, fs, h, _, q⟩ := AR.inst R; ⟨a, dx, fs, h, q _ (by simp [roomMs])⟩) AE.frame AE.own (fun L => (AE.inst L).1) mrW brW GrW g_Ear M_Ear BE0 GEI
  have G_lt := ok_Line_turn (P := l.prog) (w := w) (base := base) (kk := kk) (Rs := RsP cc) (Er := ErP C_Ear) F_Line_turn TLn cl_Room cl_Ear AR.frame AR.own (fun R => let ⟨_, dx, fs, h, _, q⟩ := AR.inst R; ⟨dx, fs, h, q _ (by simp [roomMs]), q _ (by simp [roomMs]), q _ (by simp [roomMs])⟩) AE.frame AE.own (fun L => let ⟨_, dx, fs, h, q⟩ := AE.inst L; ⟨dx, fs, h, q _ (by simp), q _ (by simp)⟩) g_arriving k_arriving b_arriving G_ar (PySem.W.mg_of X G m_WELL) mrU brU GrU mrC brC GrC mrB brB GrB meM beM GeM meH beH GeH
  have AL : LineApi l.prog w K mg base C_Line kk (RsP cc) (ErP C_Ear) := ⟨cl_Line, n0_Line, n1_Line, n2_Line, ⟨_, _, _, M_Line, G_li, BL0, BL1, BL2⟩, ⟨_, _, _, m_Line_turn, b_Line_turn, G_lt⟩⟩
  have D_whole : Def l.prog w K mg base "_law_whole" 1 p_whole spWhole := ⟨_, _, g_whole, k_whole, b_whole, ok_whole F_whole LT⟩
  have D_cell_at : Def l.prog w K mg base "_law_cell_at" 1 p_cell_at (spCellA K) := ⟨_, _, g_cell_at, k_cell_at, b_cell_at, ok_cell F_cell_at LT⟩
  have D_sign : Def l.prog w K mg base "_law_sign" 1 p_sign spSign := ⟨_, _, g_sign, k_sign, b_sign, ok_sign F_sign⟩
  have D_text : Def l.prog w K mg base "_law_text" 2 p_text spText := ⟨_, _, g_text, k_text, b_text, ok_text F_text LT D_sign⟩
  have D_pool : Def l.prog w K mg base "_law_pool" 3 p_pool spPool := ⟨_, _, g_pool, k_pool, b_pool, ok_pool F_pool LT D_sign D_text⟩
  have D_prefix : Def l.prog w K mg base "_law_prefix" 1 p_prefix spPrefix := ⟨_, _, g_prefix, k_prefix, b_prefix, ok_prefix F_prefix⟩
  have D_change : Def l.prog w K mg base "_law_change" 2 p_change spChange := ⟨_, _, g_change, k_change, b_change, ok_change F_change LT D_whole⟩
  have D_changes : Def l.prog w K mg base "_law_changes" 3 p_changes (spChanges K) := ⟨_, _, g_changes, k_changes, b_changes, ok_changes F_changes LT D_change⟩
  have I_Ear : InsC K C_Ear := ⟨cl_Ear, ic_Ear, sp, tk, im_Ear⟩
  have I_Line : InsC K C_Line := ⟨cl_Line, ic_Line, sp, tk, im_Line⟩
  have D_put : Def l.prog w K mg base "_law_put" 9 p_put (spPut7 (RsP cc)) := ⟨_, _, g_put, k_put, b_put, ok_put F_put cl_Room AR LT D_text⟩
  have D_turned : Def l.prog w K mg base "_law_turned" 10 p_turned (spTurned7 (RsP cc) (ErP C_Ear) C_Line) := ⟨_, _, g_turned, k_turned, b_turned, ok_turned F_turned AR AE AL cl_Ear LT D_whole D_changes⟩
  have D_line : Def l.prog w K mg base "_law_line" 11 p_line (spLine7 (RsP cc) (ErP C_Ear) C_Line) := ⟨_, _, g_line, k_line, b_line, ok_line F_line AR AE AL g_Line LT ER (ok_only F_only ER) g_only k_only b_only⟩
  exact ok_law F_law g_Room g_Ear g_Line cl_Room I_Ear I_Line AR AE AL LT Z_max ER D_cell_at D_pool D_put D_prefix D_line D_turned D_whole (ok_only F_only ER) g_only k_only b_only

theorem walk {l : PySem.W.OpenLaw} {q : Program} {loose : List Str} {XP : (Str → Option Value) → Heap → Prop} {YP : World → Heap → Prop} {d : DefRec} {K : Params → PySem.W.Frag} (hn : l.most = some 63) (hdf : d.params.defaults = [])
    (hY : ∀ (w : World) (h : Heap), YP w h → (K w.params).In h)
    (F : ∀ (w : World) (mg : Str → Option Value) (fa : Addr) (h : Heap), (K w.params).In h → h.Ns mainGlobals mg → mg d.name = some (.ref fa) →
      ∃ fd : FuncData, (∀ (s : Shared) (u : Value), BindsTo s fd ⟨[u], []⟩ [("_law_script", u)]) ∧ ∀ base : Heap, (K w.params).In base → base.Ns mainGlobals mg → FnOk l.prog w (K w.params) mg base CX0 12 fa fd ["_law_script"] (spLaw (K w.params))) :
    PySem.W.WalkO q loose XP YP l.row.toRowW d [] (fun f vs => PySem.call f vs) :=
  L2.walk_of (n := 63) (k := 12) (x := "_law_script") (CX := fun _ => CX0) (sp := fun w => spLaw (K w.params)) hn (by decide) hdf ⟨rfl, by decide, by decide⟩ hY F (fun _ _ a ns hl _ hS => ⟨a, ns, rfl, hS, hl, fun _ => rfl⟩) fun _ _ _ _ _ z => z
end KL

open PySem PySem.W PyProof.Rows
set_option maxRecDepth 100000 in
set_option maxHeartbeats 0 in
theorem PySem.Challenge.cw_leasewatch_k07_a_line_that_breaks_holds : PySem.Challenge.rw_leasewatch_k07_a_line_that_breaks.Holds := by
  w_on; o_law; k_head; (case hw => w_witness2)
  k_fill
  refine KL.walk (l := PySem.Challenge.rw_leasewatch_k07_a_line_that_breaks) rfl rfl (fun w h Y => PySem.W.kIn_of Y) ?F
  case F =>
    intro w mg fa h KX G hmg
    refine' KL.all_mk KX G hmg ?aC_Ear ?aC_Line ?aC_Leases ?aC_Log ?aC_Watcher ?aC_Room ?a_Ear_init ?i_Ear_init ?l_Ear_init ?d_Ear_init ?c_Ear_init ?k_Ear_init ?a_Ear_hear ?i_Ear_hear ?l_Ear_hear ?c_Ear_hear ?k_Ear_hear ?a_Ear_heard ?i_Ear_heard ?l_Ear_heard ?c_Ear_heard ?k_Ear_heard ?a_Ear_state ?i_Ear_state ?l_Ear_state ?c_Ear_state ?k_Ear_state ?a_Ear_many ?i_Ear_many ?l_Ear_many ?c_Ear_many ?k_Ear_many ?a_Ear_u_take_in ?i_Ear_u_take_in ?l_Ear_u_take_in ?c_Ear_u_take_in ?k_Ear_u_take_in ?a_Line_init ?i_Line_init ?l_Line_init ?d_Line_init ?c_Line_init ?k_Line_init ?a_Line_turn ?i_Line_turn ?l_Line_turn ?c_Line_turn ?k_Line_turn ?a_Leases_init ?i_Leases_init ?l_Leases_init ?c_Leases_init ?k_Leases_init ?a_Leases_due ?i_Leases_due ?l_Leases_due ?c_Leases_due ?k_Leases_due ?a_Leases_refuse_unknown ?i_Leases_refuse_unknown ?l_Leases_refuse_unknown ?c_Leases_refuse_unknown ?k_Leases_refuse_unknown ?a_Log_init ?i_Log_init ?l_Log_init ?c_Log_init ?k_Log_init ?a_Log_note ?i_Log_note ?l_Log_note ?c_Log_note ?k_Log_note ?a_Log_last ?i_Log_last ?l_Log_last ?c_Log_last ?k_Log_last ?a_Log_first ?i_Log_first ?l_Log_first ?c_Log_first ?k_Log_first ?a_Log_wanted ?i_Log_wanted ?l_Log_wanted ?c_Log_wanted ?k_Log_wanted ?a_Watcher_init ?i_Watcher_init ?l_Watcher_init ?c_Watcher_init ?k_Watcher_init ?a_Room_init ?i_Room_init ?l_Room_init ?c_Room_init ?k_Room_init ?a_Room_put ?i_Room_put ?l_Room_put ?d_Room_put ?c_Room_put ?k_Room_put ?a_Room_value ?i_Room_value ?l_Room_value ?c_Room_value ?k_Room_value ?a_Room_holder ?i_Room_holder ?l_Room_holder ?c_Room_holder ?k_Room_holder ?a_Room_pairs ?i_Room_pairs ?l_Room_pairs ?c_Room_pairs ?k_Room_pairs ?a_Room_last ?i_Room_last ?l_Room_last ?c_Room_last ?k_Room_last ?a_Room_first ?i_Room_first ?l_Room_first ?c_Room_first ?k_Room_first ?a_Room_watch ?i_Room_watch ?l_Room_watch ?c_Room_watch ?k_Room_watch ?a_Room_pull ?i_Room_pull ?l_Room_pull ?c_Room_pull ?k_Room_pull ?a_Room_confirm ?i_Room_confirm ?l_Room_confirm ?c_Room_confirm ?k_Room_confirm ?a_Room_broken ?i_Room_broken ?l_Room_broken ?c_Room_broken ?k_Room_broken ?a_Room_leave ?i_Room_leave ?l_Room_leave ?c_Room_leave ?k_Room_leave ?a_Room_u_refuse_lease ?i_Room_u_refuse_lease ?l_Room_u_refuse_lease ?c_Room_u_refuse_lease ?k_Room_u_refuse_lease ?a_Room_u_refuse_held ?i_Room_u_refuse_held ?l_Room_u_refuse_held ?c_Room_u_refuse_held ?k_Room_u_refuse_held ?a_Room_u_watching ?i_Room_u_watching ?l_Room_u_watching ?c_Room_u_watching ?k_Room_u_watching ?a_Room_u_refuse_watcher ?i_Room_u_refuse_watcher ?l_Room_u_refuse_watcher ?c_Room_u_refuse_watcher ?k_Room_u_refuse_watcher ?a_arriving ?l_arriving ?c_arriving ?k_arriving ?a_whole ?l_whole ?c_whole ?k_whole ?a_cell_at ?l_cell_at ?c_cell_at ?k_cell_at ?a_sign ?l_sign ?c_sign ?k_sign ?a_text ?l_text ?c_text ?k_text ?a_pool ?l_pool ?c_pool ?k_pool ?a_prefix ?l_prefix ?c_prefix ?k_prefix ?a_change ?l_change ?c_change ?k_change ?a_changes ?l_changes ?c_changes ?k_changes ?a_put ?l_put ?c_put ?k_put ?a_turned ?l_turned ?c_turned ?k_turned ?a_only ?l_only ?c_only ?k_only ?a_line ?l_line ?c_line ?k_line ?a_law ?l_law ?c_law ?k_law ?pg_Ear ?hd_Ear ?po_Ear ?sa_Ear ?mk_Ear ?kc_Ear ?n0_Ear ?n1_Ear ?n2_Ear ?pg_Line ?hd_Line ?po_Line ?sa_Line ?mk_Line ?kc_Line ?n0_Line ?n1_Line ?n2_Line ?pg_Leases ?hd_Leases ?po_Leases ?sa_Leases ?mk_Leases ?kc_Leases ?n0_Leases ?n1_Leases ?n2_Leases ?pg_Log ?hd_Log ?po_Log ?sa_Log ?mk_Log ?kc_Log ?n0_Log ?n1_Log ?pg_Watcher ?hd_Watcher ?po_Watcher ?sa_Watcher ?mk_Watcher ?kc_Watcher ?n0_Watcher ?n1_Watcher ?n2_Watcher ?pg_Room ?hd_Room ?po_Room ?sa_Room ?mk_Room ?kc_Room ?n0_Room ?n1_Room ?n2_Room ?n3_Room ?n4_Room ?n5_Room ?n6_Room ?m_WELL ?m_ROW_LOST ?m_BROKEN_MIDST ?e_LeaseError ?e_BadTicks ?e_NoLease ?e_NoKey ?e_Held ?e_NoStart ?e_NoWatch ?hd_LeaseError ?t_LeaseError ?hd_BadTicks ?t_BadTicks ?hd_NoLease ?t_NoLease ?hd_NoKey ?t_NoKey ?hd_Held ?t_Held ?hd_NoStart ?t_NoStart ?hd_NoWatch ?t_NoWatch ?b_LeaseError ?x_BadTicks ?kp_BadTicks ?b_BadTicks ?ga_BadTicks ?gt_BadTicks ?cl_BadTicks ?mr_BadTicks ?o_BadTicks_BadTicks ?o_BadTicks_NoLease ?o_BadTicks_NoKey ?o_BadTicks_Held ?o_BadTicks_NoStart ?o_BadTicks_NoWatch ?ov_BadTicks ?q_BadTicks ?x_NoLease ?kp_NoLease ?b_NoLease ?ga_NoLease ?gt_NoLease ?cl_NoLease ?mr_NoLease ?o_NoLease_BadTicks ?o_NoLease_NoLease ?o_NoLease_NoKey ?o_NoLease_Held ?o_NoLease_NoStart ?o_NoLease_NoWatch ?ov_NoLease ?q_NoLease ?x_NoKey ?kp_NoKey ?b_NoKey ?ga_NoKey ?gt_NoKey ?cl_NoKey ?mr_NoKey ?o_NoKey_BadTicks ?o_NoKey_NoLease ?o_NoKey_NoKey ?o_NoKey_Held ?o_NoKey_NoStart ?o_NoKey_NoWatch ?ov_NoKey ?q_NoKey ?x_Held ?kp_Held ?b_Held ?ga_Held ?gt_Held ?cl_Held ?mr_Held ?o_Held_BadTicks ?o_Held_NoLease ?o_Held_NoKey ?o_Held_Held ?o_Held_NoStart ?o_Held_NoWatch ?ov_Held ?q_Held ?x_NoStart ?kp_NoStart ?b_NoStart ?ga_NoStart ?gt_NoStart ?cl_NoStart ?mr_NoStart ?o_NoStart_BadTicks ?o_NoStart_NoLease ?o_NoStart_NoKey ?o_NoStart_Held ?o_NoStart_NoStart ?o_NoStart_NoWatch ?ov_NoStart ?q_NoStart ?x_NoWatch ?kp_NoWatch ?b_NoWatch ?ga_NoWatch ?gt_NoWatch ?cl_NoWatch ?mr_NoWatch ?o_NoWatch_BadTicks ?o_NoWatch_NoLease ?o_NoWatch_NoKey ?o_NoWatch_Held ?o_NoWatch_NoStart ?o_NoWatch_NoWatch ?ov_NoWatch ?q_NoWatch ?sp ?tk ?ic_Line ?im_Line ?ic_Ear ?im_Ear ?z_ValueError ?z_bool ?z_int ?z_isinstance ?z_len ?z_list ?z_max ?z_range ?z_sorted ?z_str ?z_tuple
    (case aC_Ear => k_is)
    (case aC_Line => k_is)
    (case aC_Leases => k_is)
    (case aC_Log => k_is)
    (case aC_Watcher => k_is)
    (case aC_Room => k_is)
    (case a_Ear_init => k_is)
    (case i_Ear_init => k_is)
    (case l_Ear_init => k_is)
    (case d_Ear_init => k_is)
    (case c_Ear_init => k_is)
    (case k_Ear_init => k_is)
    (case a_Ear_hear => k_is)
    (case i_Ear_hear => k_is)
    (case l_Ear_hear => k_is)
    (case c_Ear_hear => k_is)
    (case k_Ear_hear => k_is)
    (case a_Ear_heard => k_is)
    (case i_Ear_heard => k_is)
    (case l_Ear_heard => k_is)
    (case c_Ear_heard => k_is)
    (case k_Ear_heard => k_is)
    (case a_Ear_state => k_is)
    (case i_Ear_state => k_is)
    (case l_Ear_state => k_is)
    (case c_Ear_state => k_is)
    (case k_Ear_state => k_is)
    (case a_Ear_many => k_is)
    (case i_Ear_many => k_is)
    (case l_Ear_many => k_is)
    (case c_Ear_many => k_is)
    (case k_Ear_many => k_is)
    (case a_Ear_u_take_in => k_is)
    (case i_Ear_u_take_in => k_is)
    (case l_Ear_u_take_in => k_is)
    (case c_Ear_u_take_in => k_is)
    (case k_Ear_u_take_in => k_is)
    (case a_Line_init => k_is)
    (case i_Line_init => k_is)
    (case l_Line_init => k_is)
    (case d_Line_init => k_is)
    (case c_Line_init => k_is)
    (case k_Line_init => k_is)
    (case a_Line_turn => k_is)
    (case i_Line_turn => k_is)
    (case l_Line_turn => k_is)
    (case c_Line_turn => k_is)
    (case k_Line_turn => k_is)
    (case a_Leases_init => k_is)
    (case i_Leases_init => k_is)
    (case l_Leases_init => k_is)
    (case c_Leases_init => k_is)
    (case k_Leases_init => k_is)
    (case a_Leases_due => k_is)
    (case i_Leases_due => k_is)
    (case l_Leases_due => k_is)
    (case c_Leases_due => k_is)
    (case k_Leases_due => k_is)
    (case a_Leases_refuse_unknown => k_is)
    (case i_Leases_refuse_unknown => k_is)
    (case l_Leases_refuse_unknown => k_is)
    (case c_Leases_refuse_unknown => k_is)
    (case k_Leases_refuse_unknown => k_is)
    (case a_Log_init => k_is)
    (case i_Log_init => k_is)
    (case l_Log_init => k_is)
    (case c_Log_init => k_is)
    (case k_Log_init => k_is)
    (case a_Log_note => k_is)
    (case i_Log_note => k_is)
    (case l_Log_note => k_is)
    (case c_Log_note => k_is)
    (case k_Log_note => k_is)
    (case a_Log_last => k_is)
    (case i_Log_last => k_is)
    (case l_Log_last => k_is)
    (case c_Log_last => k_is)
    (case k_Log_last => k_is)
    (case a_Log_first => k_is)
    (case i_Log_first => k_is)
    (case l_Log_first => k_is)
    (case c_Log_first => k_is)
    (case k_Log_first => k_is)
    (case a_Log_wanted => k_is)
    (case i_Log_wanted => k_is)
    (case l_Log_wanted => k_is)
    (case c_Log_wanted => k_is)
    (case k_Log_wanted => k_is)
    (case a_Watcher_init => k_is)
    (case i_Watcher_init => k_is)
    (case l_Watcher_init => k_is)
    (case c_Watcher_init => k_is)
    (case k_Watcher_init => k_is)
    (case a_Room_init => k_is)
    (case i_Room_init => k_is)
    (case l_Room_init => k_is)
    (case c_Room_init => k_is)
    (case k_Room_init => k_is)
    (case a_Room_put => k_is)
    (case i_Room_put => k_is)
    (case l_Room_put => k_is)
    (case d_Room_put => k_is)
    (case c_Room_put => k_is)
    (case k_Room_put => k_is)
    (case a_Room_value => k_is)
    (case i_Room_value => k_is)
    (case l_Room_value => k_is)
    (case c_Room_value => k_is)
    (case k_Room_value => k_is)
    (case a_Room_holder => k_is)
    (case i_Room_holder => k_is)
    (case l_Room_holder => k_is)
    (case c_Room_holder => k_is)
    (case k_Room_holder => k_is)
    (case a_Room_pairs => k_is)
    (case i_Room_pairs => k_is)
    (case l_Room_pairs => k_is)
    (case c_Room_pairs => k_is)
    (case k_Room_pairs => k_is)
    (case a_Room_last => k_is)
    (case i_Room_last => k_is)
    (case l_Room_last => k_is)
    (case c_Room_last => k_is)
    (case k_Room_last => k_is)
    (case a_Room_first => k_is)
    (case i_Room_first => k_is)
    (case l_Room_first => k_is)
    (case c_Room_first => k_is)
    (case k_Room_first => k_is)
    (case a_Room_watch => k_is)
    (case i_Room_watch => k_is)
    (case l_Room_watch => k_is)
    (case c_Room_watch => k_is)
    (case k_Room_watch => k_is)
    (case a_Room_pull => k_is)
    (case i_Room_pull => k_is)
    (case l_Room_pull => k_is)
    (case c_Room_pull => k_is)
    (case k_Room_pull => k_is)
    (case a_Room_confirm => k_is)
    (case i_Room_confirm => k_is)
    (case l_Room_confirm => k_is)
    (case c_Room_confirm => k_is)
    (case k_Room_confirm => k_is)
    (case a_Room_broken => k_is)
    (case i_Room_broken => k_is)
    (case l_Room_broken => k_is)
    (case c_Room_broken => k_is)
    (case k_Room_broken => k_is)
    (case a_Room_leave => k_is)
    (case i_Room_leave => k_is)
    (case l_Room_leave => k_is)
    (case c_Room_leave => k_is)
    (case k_Room_leave => k_is)
    (case a_Room_u_refuse_lease => k_is)
    (case i_Room_u_refuse_lease => k_is)
    (case l_Room_u_refuse_lease => k_is)
    (case c_Room_u_refuse_lease => k_is)
    (case k_Room_u_refuse_lease => k_is)
    (case a_Room_u_refuse_held => k_is)
    (case i_Room_u_refuse_held => k_is)
    (case l_Room_u_refuse_held => k_is)
    (case c_Room_u_refuse_held => k_is)
    (case k_Room_u_refuse_held => k_is)
    (case a_Room_u_watching => k_is)
    (case i_Room_u_watching => k_is)
    (case l_Room_u_watching => k_is)
    (case c_Room_u_watching => k_is)
    (case k_Room_u_watching => k_is)
    (case a_Room_u_refuse_watcher => k_is)
    (case i_Room_u_refuse_watcher => k_is)
    (case l_Room_u_refuse_watcher => k_is)
    (case c_Room_u_refuse_watcher => k_is)
    (case k_Room_u_refuse_watcher => k_is)
    (case a_arriving => k_is)
    (case l_arriving => k_is)
    (case c_arriving => k_is)
    (case k_arriving => k_is)
    (case a_whole => k_is)
    (case l_whole => k_is)
    (case c_whole => k_is)
    (case k_whole => k_is)
    (case a_cell_at => k_is)
    (case l_cell_at => k_is)
    (case c_cell_at => k_is)
    (case k_cell_at => k_is)
    (case a_sign => k_is)
    (case l_sign => k_is)
    (case c_sign => k_is)
    (case k_sign => k_is)
    (case a_text => k_is)
    (case l_text => k_is)
    (case c_text => k_is)
    (case k_text => k_is)
    (case a_pool => k_is)
    (case l_pool => k_is)
    (case c_pool => k_is)
    (case k_pool => k_is)
    (case a_prefix => k_is)
    (case l_prefix => k_is)
    (case c_prefix => k_is)
    (case k_prefix => k_is)
    (case a_change => k_is)
    (case l_change => k_is)
    (case c_change => k_is)
    (case k_change => k_is)
    (case a_changes => k_is)
    (case l_changes => k_is)
    (case c_changes => k_is)
    (case k_changes => k_is)
    (case a_put => k_is)
    (case l_put => k_is)
    (case c_put => k_is)
    (case k_put => k_is)
    (case a_turned => k_is)
    (case l_turned => k_is)
    (case c_turned => k_is)
    (case k_turned => k_is)
    (case a_only => k_is)
    (case l_only => k_is)
    (case c_only => k_is)
    (case k_only => k_is)
    (case a_line => k_is)
    (case l_line => k_is)
    (case c_line => k_is)
    (case k_line => k_is)
    (case a_law => k_is)
    (case l_law => k_is)
    (case c_law => k_is)
    (case k_law => k_is)
    (case pg_Ear => k_is)
    (case hd_Ear => k_is)
    (case po_Ear => k_is)
    (case sa_Ear => k_is)
    (case mk_Ear => k_is)
    (case kc_Ear => k_is)
    (case n0_Ear => k_is)
    (case n1_Ear => k_is)
    (case n2_Ear => k_is)
    (case pg_Line => k_is)
    (case hd_Line => k_is)
    (case po_Line => k_is)
    (case sa_Line => k_is)
    (case mk_Line => k_is)
    (case kc_Line => k_is)
    (case n0_Line => k_is)
    (case n1_Line => k_is)
    (case n2_Line => k_is)
    (case pg_Leases => k_is)
    (case hd_Leases => k_is)
    (case po_Leases => k_is)
    (case sa_Leases => k_is)
    (case mk_Leases => k_is)
    (case kc_Leases => k_is)
    (case n0_Leases => k_is)
    (case n1_Leases => k_is)
    (case n2_Leases => k_is)
    (case pg_Log => k_is)
    (case hd_Log => k_is)
    (case po_Log => k_is)
    (case sa_Log => k_is)
    (case mk_Log => k_is)
    (case kc_Log => k_is)
    (case n0_Log => k_is)
    (case n1_Log => k_is)
    (case pg_Watcher => k_is)
    (case hd_Watcher => k_is)
    (case po_Watcher => k_is)
    (case sa_Watcher => k_is)
    (case mk_Watcher => k_is)
    (case kc_Watcher => k_is)
    (case n0_Watcher => k_is)
    (case n1_Watcher => k_is)
    (case n2_Watcher => k_is)
    (case pg_Room => k_is)
    (case hd_Room => k_is)
    (case po_Room => k_is)
    (case sa_Room => k_is)
    (case mk_Room => k_is)
    (case kc_Room => k_is)
    (case n0_Room => k_is)
    (case n1_Room => k_is)
    (case n2_Room => k_is)
    (case n3_Room => k_is)
    (case n4_Room => k_is)
    (case n5_Room => k_is)
    (case n6_Room => k_is)
    (case m_WELL => k_is)
    (case m_ROW_LOST => k_is)
    (case m_BROKEN_MIDST => k_is)
    (case e_LeaseError => k_is)
    (case e_BadTicks => k_is)
    (case e_NoLease => k_is)
    (case e_NoKey => k_is)
    (case e_Held => k_is)
    (case e_NoStart => k_is)
    (case e_NoWatch => k_is)
    (case hd_LeaseError => k_is)
    (case t_LeaseError => k_is)
    (case hd_BadTicks => k_is)
    (case t_BadTicks => k_is)
    (case hd_NoLease => k_is)
    (case t_NoLease => k_is)
    (case hd_NoKey => k_is)
    (case t_NoKey => k_is)
    (case hd_Held => k_is)
    (case t_Held => k_is)
    (case hd_NoStart => k_is)
    (case t_NoStart => k_is)
    (case hd_NoWatch => k_is)
    (case t_NoWatch => k_is)
    (case b_LeaseError => k_is)
    (case x_BadTicks => k_exc)
    (case kp_BadTicks => k_is)
    (case b_BadTicks => k_is)
    (case ga_BadTicks => k_is)
    (case gt_BadTicks => k_is)
    (case cl_BadTicks => k_is)
    (case mr_BadTicks => k_is)
    (case o_BadTicks_BadTicks => k_is)
    (case o_BadTicks_NoLease => k_is)
    (case o_BadTicks_NoKey => k_is)
    (case o_BadTicks_Held => k_is)
    (case o_BadTicks_NoStart => k_is)
    (case o_BadTicks_NoWatch => k_is)
    (case ov_BadTicks => k_is)
    (case q_BadTicks => k_is)
    (case x_NoLease => k_exc)
    (case kp_NoLease => k_is)
    (case b_NoLease => k_is)
    (case ga_NoLease => k_is)
    (case gt_NoLease => k_is)
    (case cl_NoLease => k_is)
    (case mr_NoLease => k_is)
    (case o_NoLease_BadTicks => k_is)
    (case o_NoLease_NoLease => k_is)
    (case o_NoLease_NoKey => k_is)
    (case o_NoLease_Held => k_is)
    (case o_NoLease_NoStart => k_is)
    (case o_NoLease_NoWatch => k_is)
    (case ov_NoLease => k_is)
    (case q_NoLease => k_is)
    (case x_NoKey => k_exc)
    (case kp_NoKey => k_is)
    (case b_NoKey => k_is)
    (case ga_NoKey => k_is)
    (case gt_NoKey => k_is)
    (case cl_NoKey => k_is)
    (case mr_NoKey => k_is)
    (case o_NoKey_BadTicks => k_is)
    (case o_NoKey_NoLease => k_is)
    (case o_NoKey_NoKey => k_is)
    (case o_NoKey_Held => k_is)
    (case o_NoKey_NoStart => k_is)
    (case o_NoKey_NoWatch => k_is)
    (case ov_NoKey => k_is)
    (case q_NoKey => k_is)
    (case x_Held => k_exc)
    (case kp_Held => k_is)
    (case b_Held => k_is)
    (case ga_Held => k_is)
    (case gt_Held => k_is)
    (case cl_Held => k_is)
    (case mr_Held => k_is)
    (case o_Held_BadTicks => k_is)
    (case o_Held_NoLease => k_is)
    (case o_Held_NoKey => k_is)
    (case o_Held_Held => k_is)
    (case o_Held_NoStart => k_is)
    (case o_Held_NoWatch => k_is)
    (case ov_Held => k_is)
    (case q_Held => k_is)
    (case x_NoStart => k_exc)
    (case kp_NoStart => k_is)
    (case b_NoStart => k_is)
    (case ga_NoStart => k_is)
    (case gt_NoStart => k_is)
    (case cl_NoStart => k_is)
    (case mr_NoStart => k_is)
    (case o_NoStart_BadTicks => k_is)
    (case o_NoStart_NoLease => k_is)
    (case o_NoStart_NoKey => k_is)
    (case o_NoStart_Held => k_is)
    (case o_NoStart_NoStart => k_is)
    (case o_NoStart_NoWatch => k_is)
    (case ov_NoStart => k_is)
    (case q_NoStart => k_is)
    (case x_NoWatch => k_exc)
    (case kp_NoWatch => k_is)
    (case b_NoWatch => k_is)
    (case ga_NoWatch => k_is)
    (case gt_NoWatch => k_is)
    (case cl_NoWatch => k_is)
    (case mr_NoWatch => k_is)
    (case o_NoWatch_BadTicks => k_is)
    (case o_NoWatch_NoLease => k_is)
    (case o_NoWatch_NoKey => k_is)
    (case o_NoWatch_Held => k_is)
    (case o_NoWatch_NoStart => k_is)
    (case o_NoWatch_NoWatch => k_is)
    (case ov_NoWatch => k_is)
    (case q_NoWatch => k_is)
    (case sp => k_is)
    (case tk => k_is)
    (case ic_Line => k_is)
    (case im_Line => k_is)
    (case ic_Ear => k_is)
    (case im_Ear => k_is)
    (case z_ValueError => k_is)
    (case z_bool => k_is)
    (case z_int => k_is)
    (case z_isinstance => k_is)
    (case z_len => k_is)
    (case z_list => k_is)
    (case z_max => k_is)
    (case z_range => k_is)
    (case z_sorted => k_is)
    (case z_str => k_is)
    (case z_tuple => k_is)
