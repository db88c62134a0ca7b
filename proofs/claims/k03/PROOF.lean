import PyProof.Rows.All
import Wide.All
import OpenK.AllK
import Wide.FinOn
import HandS.ForMost
import HandS.ForExc
import HandS.More
import HandS.Walk
import HandS.FStr
import HandS.RaiseMore
import HandS.IsInst
import HandS.ExcIs
import HandS.HotCalls
import HandS.SortRule
import HandS.Codes
import PyProof.Rows.SortShellAny
import HandS.Defaults
import HandS.MakeKw
import HandS.MakeKwOnly
import HandS.Style
import HandS.DictTup
import PySem.Challenge.RW_leasewatch_k03_an_ear_hears_once
set_option Elab.async false
set_option linter.all false
set_option maxRecDepth 100000
set_option maxHeartbeats 8000000
/-! rules of our own: a def called within an except suite with the exception that is handled as an argument; a list walked there; a method that may raise, the wish by the slots -/
namespace LX
open PySem PySem.Spec PyProof.Rows L2 L2H
abbrev St := L2.St

structure FnP (P : Program) (w : World) (K : PySem.W.Frag) (mg : Str → Option Value) (base : Heap) (k : Nat) (f : Addr) (fd : FuncData) (ps : List Str) (sp : Addr × Obj → Sp) : Prop where
  len : ∀ p vs H Q E, sp p vs H Q E → vs.length = ps.length
  run : ∀ (A : Around) (outer : List Env) (s : Shared) (H : Hp) (args : Args) (us : List Value) (vs : List V) (Q : VK) (E : XK) (p : Addr × Obj), RoomH k A → PinOk outer H s p → (∃ vs, p.2.data = .fields vs) → Env0 P w K mg base A outer s H → BindsTo s fd args (ps.zip us) → Vals vs us → sp p vs H Q E →
    codeAny (model P w) A (.call (.ref f) args) (CR CX0 outer P w H s Q E) s
theorem fn_ofP {P : Program} {w : World} {K : PySem.W.Frag} {mg : Str → Option Value} {base : Heap} {k : Nat} {f : Addr} {name qual : Str} {params : Arguments} {body : List Stmt} {scope : Scope} {dV kV doc pm cdv ct oc : Value} {an od : Option Addr}
    {osl : Array (Option Value)} {N ps : List Str} {sp : Addr × Obj → Sp} (lk : K.lookup f = some ⟨oc, od, .func (PySem.W.fnOf name qual params body scope dV kV doc pm an cdv ct), osl⟩) (hcd : PySem.W.codeIn K cdv qual = true) (S : FnScope N ps scope)
    (len : ∀ p vs H Q E, sp p vs H Q E → vs.length = ps.length)
    (hbody : ∀ (A : Around) (outer : List Env) (s : Shared) (H : Hp) (vs : List V) (Q : VK) (E : XK) (p : Addr × Obj), RoomH k (A.deeper (envOfC qual scope s.heap.objs.size f cdv)) → (∃ vs, p.2.data = .fields vs) → sp p vs H Q E →
      ∃ t, PSs (cxH CX0 P w K mg base N qual scope f cdv A outer s H E p) body t ∧ t { nx := fun _ H' => Q .non H', rt := Q } (L2.start N vs) H) :
    FnP P w K mg base (k + 1) f (PySem.W.fnOf name qual params body scope dV kV doc pm an cdv ct) ps sp := by
  refine ⟨len, fun A outer s H args us vs Q E p hr hpin hf e0 hb r hsp => ?_⟩
  have hl := len _ _ _ _ _ hsp
  have KX : K.In s.heap := e0.mod.kin.keeps fun b o e => (e0.bs b o e).1
  have lim : s.heap.NoLimit := e0.mod.nolimit.keeps fun b o e => (e0.bs b o e).1
  have hkind : ∀ y ∈ ps.zip us, scope.names.lookup y.1 = some .local ∨ (scope.names.lookup y.1 = some .cell ∧ ((cellsFrom (s.heap.objs.size + 1) scope.names []).lookup y.1).isSome = true) := fun ⟨n, v⟩ hy => by
    rcases S.par n (List.of_mem_zip hy).1 with q | q
    · exact .inl q
    · exact .inr ⟨q, PySem.W.cellsFrom_some _ _ _ (.inl q)⟩
  refine codeAny_call_function hr.depth (KX _ _ lk) rfl S.co S.gen rfl (PySem.W.codeRec_of KX hcd) (hb _ _ _ _ ?_)
  refine wpAny_newFunctionEnv_cells S.kind hkind fun env he s1 x => ?_
  subst he
  refine ⟨lim.keeps x.toInCall.keep, codeAny_func ?_⟩
  obtain ⟨t, ht, hq⟩ := hbody A outer s H vs Q E p (hr.deeper _) hf hsp
  have I : Inv (cxH CX0 P w K mg base N qual scope f cdv A outer s H E p) [] (L2.start N vs) H s1 := inv_startH S hpin e0 hl r x
  refine wpAny_mono (ht.run [] s1 (L2.start N vs) H _ I hq) (fun fl s' hs => ?_) fun e s' hs => hs
  have fin : ∀ {σ' : St} {H' : Hp} {v : V} {u : Value}, Inv (cxH CX0 P w K mg base N qual scope f cdv A outer s H E p) [] σ' H' s' → RelV v u → Q v H' → CE outer P w H s Q u s' :=
    fun {σ' H' v u} J rv q => ⟨v, H', J.os, J.bare, J.base, J.hok, rv, q⟩
  cases fl with
  | ret u =>
    obtain ⟨v, σ', H', J, rv, q⟩ := hs
    exact fin J rv q
  | next =>
    obtain ⟨σ', H', J, q⟩ := hs
    exact fin (v := V.non) (u := Value.none) J rfl q
  | brk =>
    obtain ⟨_, _, _, q⟩ := hs
    exact False.elim q
  | cont =>
    obtain ⟨_, _, _, q⟩ := hs
    exact False.elim q
section
variable {P : Program} {w : World} {K : PySem.W.Frag} {mg : Str → Option Value} {base : Heap}
theorem okP {x qual : Str} {st : Stmt} {f : Addr} {fd : FuncData} {N ps : List Str} {k : Nat} {sp : Addr × Obj → Sp} (F : Fun K x qual st f fd) (S : FnScope N ps (defScope st)) (len : ∀ p vs H Q E, sp p vs H Q E → vs.length = ps.length)
    (hbody : ∀ (cdv : Value) (A : Around) (outer : List Env) (s : Shared) (H : Hp) (vs : List V) (Q : VK) (E : XK) (p : Addr × Obj), RoomH k (A.deeper (envOfC qual (defScope st) s.heap.objs.size f cdv)) → (∃ vs, p.2.data = .fields vs) → sp p vs H Q E →
      ∃ t, PSs (cxH CX0 P w K mg base N qual (defScope st) f cdv A outer s H E p) (defBody st) t ∧ t { nx := fun _ H' => Q .non H', rt := Q } (L2.start N vs) H) : FnP P w K mg base (k + 1) f fd ps sp := by
  obtain ⟨oc, od, kV, doc, pm, an, cdv, ct, osl, rfl, lk, hcd⟩ := F.ex
  exact fn_ofP lk hcd S len fun A outer s H vs Q E p hr hf hsp => hbody cdv A outer s H vs Q E p hr hf hsp
end
section
variable {X : Cx} {k : Nat} {f : Addr} {fd : FuncData} {ps : List Str} {sp : Addr × Obj → Sp} {x : Str} {q pos : Pos} {e : Expr} {es : List Expr} {t : TA}
theorem run_fnP {pins : List (Addr × Obj)} {σ : St} {H : Hp} {s : Shared} {Q : VK} {us : List Value} {vs : List V} {p : Addr × Obj} (F : FnP X.prog X.w X.K X.mg X.base k f fd ps sp) (hr : RoomH k X.A) (hp : p ∈ X.pn) (hf : ∃ vs, p.2.data = .fields vs) (hb : Binds X.K fd ps [])
    (I : Inv X pins σ H s) (r : Vals vs us) (h : sp p vs H Q E0) : wpAny (model X.prog X.w) X.A (call (.ref f) us) (EP X pins σ Q) X.xe s := by
  have hl : us.length = ps.length := by rw [← r.length]; exact F.len _ _ _ _ _ h
  have b := hb s us I.kIn (by rw [List.append_nil]; exact hl)
  rw [List.append_nil] at b
  have P1 := I.pin p (List.mem_append_left _ hp)
  have hpin : PinOk X.stack H s p := ⟨P1.1, P1.2.1, fun hm => (List.mem_cons.mp (I.stkSub p.1 hm)).elim P1.2.2.1 P1.2.2.2.1, P1.2.2.2.2⟩
  refine wpAny_call (codeAny_mono (F.run X.A X.stack s H ⟨us, []⟩ us vs Q E0 p hr hpin hf I.env0 b r h) fun r s' hq => ?_)
  cases r with
  | error e => exact False.elim hq
  | ok fl =>
    cases fl with
    | ret u => exact I.after hq
    | next => exact False.elim hq
    | brk => exact False.elim hq
    | cont => exact False.elim hq
def tCallP (sp : Sp) (t : TA) : TE := fun σ H Q => t σ H fun vs H1 => sp vs H1 Q E0
theorem pe_callP {p : Addr × Obj} (F : FnP X.prog X.w X.K X.mg X.base k f fd ps sp) (hr : RoomH k X.A) (hp : p ∈ X.pn) (hf : ∃ vs, p.2.data = .fields vs) (hg : Gl X x) (hm : X.mg x = some (.ref f)) (hk : PySem.W.keepIn X.K (.ref f) = true) (hb : Binds X.K fd ps [])
    (ha : PA X (e :: es) t) (hdb : (x == ("__debug__" : Str)) = false := by decide) (he : starEach (e :: es) X.env = (false, eval e X.env) :: starEach es X.env := by rfl) (hpl : (backTo pos (starEach es X.env)).any (·.1) = false := by rfl) :
    PE X (.Call (.Name x q) (e :: es) [] pos) (tCallP (sp p) t) := by
  refine ⟨fun pins s σ H Q I h => ?_⟩
  refine wpAny_Call_Name_kw (ld_glob I hg hm ?_ hdb)
  refine PySem.W.callWith_K (h₀ := X.base) I.ok.mod.kin hk (thn (ha.run pos pins s σ H _ I h) fun us s1 ⟨vs, H1, I1, r, q⟩ => ⟨I1.kIn, ?_⟩) he hpl
  exact run_fnP F hr hp hf hb I1 r q
end

/-! isinstance of the exception that is pinned -/
theorem call_isP {X : Cx} {a D : Addr} {oe : Obj} (C : ExcC X.K D) (hp : (a, oe) ∈ X.pn) (hz : Zc (.ref D) none oe) (hf : ∃ vs, oe.data = .fields vs) : CallR X (.builtin "isinstance") (rIsE X.K D a) := by
  intro pins s σ H xs us Q I r h
  obtain ⟨c, cv, b, rfl, hcv, e, q⟩ := h
  cases r with
  | cons rx rr =>
    cases rr with
    | cons rt rr =>
      cases rr
      cases rx
      have ec := hcv _ rt
      subst ec
      obtain ⟨hget, _⟩ := I.pin (a, oe) (List.mem_append.mpr (.inl hp))
      obtain ⟨vs, hv⟩ := hf
      have J : PySem.W.InstAt s.heap a oe D none := by
        obtain ⟨oc, od, oda, osl⟩ := oe
        obtain ⟨h1, h2⟩ := hz
        dsimp only at h1 h2 hv
        subst h1 h2 hv
        exact ⟨hget, rfl, rfl, trivial⟩
      exact PySem.W.kia_one (PySem.W.handS_kitx_exc C.hg C.hk C.hs C.hd C.ha C.hn C.ht C.hm) I.kIn J e (fun z => nomatch z) fun tk => ⟨.bl b, H, I.kept (t' := tk) fun _ _ z => z, rfl, q⟩

/-! a list walked within an except suite; the body leaves ahead of its end -/
def tForLP (K : PySem.W.Frag) (tl : TE) (g : TG) (tb : TS) : TS := fun D σ H => tl σ H fun x H1 => ∃ (a : Addr) (xs : List V), x = .ref a ∧ SqL K H1 a xs ∧ ∃ Pv : Nat → St → Hp → Prop, Pv 0 σ H1 ∧
  ∀ i σ H, Pv i σ H → SqL K H a xs ∧ ∃ y, xs[i]? = some y ∧ g y σ H fun σ2 H2 => tb { D with nx := Pv (i + 1), ct := Pv (i + 1), bk := D.nx } σ2 H2
theorem ps_forLP {X : Cx} {tg l : Expr} {tl : TE} {g : TG} {tb : TS} {body : List Stmt} {pos : Pos} (own : PassesOwn (model X.prog X.w) X.A X.env X.xe) (hl : PE X l tl) (hg : PG X tg g) (hb : PSs X body tb)
    (hs : ∀ x, foldedSetIterable l X.env x = pure x := by intro _; rfl) : PS X (.For tg l body [] pos) (tForLP X.K tl g tb) := by
  constructor
  intro pins s σ H D I h
  refine wpAny_For (thn (hl.run pins s σ H _ I h) ?_) hs
  rintro v s1 ⟨x, H1, I1, r1, a, xs, rfl, hq, Pv, p0, turn⟩
  obtain rfl : v = Value.ref a := r1
  obtain ⟨its, _, p, _⟩ := I1.list hq
  refine wpAny_pyIter_list p.isList ?_
  generalize hit : s1.heap.objs.size = it
  have fresh : FpOk X pins H1 it := I1.fpOk (Nat.le_of_eq hit) (I1.hok.fresh (Nat.le_of_eq hit))
  have begun : (s1.heap.push { cls := .type "list_iterator", data := .fields #[.ref a, rawInt 0] }).IsListIter it a 0 := by
    rw [← hit]
    exact ⟨_, Heap.get?_push_size _ rfl, rfl, rfl⟩
  have I2 : Inv X pins σ H1 { s1 with heap := s1.heap.push { cls := .type "list_iterator", data := .fields #[.ref a, rawInt 0] } } := I1.kept (t' := s1.toks) fun _ _ e => Heap.get?_push_of_some _ e
  refine codeAny_forLoop_any (fun n s' => ∃ i σ' H', n = xs.length - i ∧ Inv X pins σ' H' s' ∧ s'.heap.IsListIter it a i ∧ H' it = none ∧ Pv i σ' H') ?_ xs.length ⟨0, σ, H1, rfl, I2, begun, fresh.1, p0⟩
  rintro n s3 ⟨i, σ3, H3, rfl, I3, st, f0, pv⟩
  obtain ⟨_, f1, f2, f3, f4, f5⟩ := fresh
  obtain ⟨q3, y, hy, step⟩ := turn i σ3 H3 pv
  have hi : i < xs.length := (List.getElem?_eq_some_iff.mp hy).1
  obtain ⟨its3, rv3, p3, _⟩ := I3.list q3
  obtain ⟨u, hu, ru⟩ := rv3.get hy
  refine wpAny_passesOwn own (wpAny_pyNext_list_item st p3.isList (x := u) (by simpa using hu) fun h' st' sb => ?_)
  have I4 : Inv X pins σ3 H3 { s3 with heap := h' } := I3.turned (t' := s3.toks) (fun b o hb e => (sb.2 b hb).trans e) f0 f1 f3 f4 f5
  obtain ⟨o, eo, co, d_o⟩ := id st'
  refine wpAny_passesOwn own (go_of (s := { s3 with heap := h' }) eo co d_o (by decide) ?_)
  have pinned : Inv X (pins ++ [(it, o)]) σ3 H3 { s3 with heap := h' } := I4.pins_of fun q hq => by
    rcases List.mem_append.mp hq with hq | hq
    · exact I4.pin q (List.mem_append_right _ hq)
    · obtain rfl := List.mem_singleton.mp hq
      exact ⟨eo, f0, f1, f2, fun v z => by rw [d_o] at z; cases z⟩
  refine wpAny_passesOwn own (thn (hg.run _ _ σ3 H3 y u _ pinned ru step) ?_)
  rintro _ s6 ⟨σ6, H6, I6, q6⟩
  refine wpAny_passesOwn own (thn (hb.run _ s6 σ6 H6 _ I6 q6) ?_)
  intro f s7 q7
  have drop : ∀ {σ7 : St} {H7 : Hp}, Inv X (pins ++ [(it, o)]) σ7 H7 s7 → Inv X pins σ7 H7 s7 := fun J => J.pins_of fun q hq => J.pin q (List.mem_append_right _ (List.mem_append_left _ hq))
  have next : ∀ {σ7 : St} {H7 : Hp}, Inv X (pins ++ [(it, o)]) σ7 H7 s7 → Pv (i + 1) σ7 H7 → ∃ m, m < xs.length - i ∧ ∃ j σ' H', m = xs.length - j ∧ Inv X pins σ' H' s7 ∧ s7.heap.IsListIter it a j ∧ H' it = none ∧ Pv j σ' H' := fun {σ7 H7} J n7 => by
    have w := J.pin (it, o) (List.mem_append_right _ (List.mem_append_right _ (List.mem_singleton.mpr rfl)))
    exact ⟨xs.length - (i + 1), by omega, i + 1, σ7, H7, rfl, drop J, ⟨o, w.1, co, d_o⟩, w.2.1, n7⟩
  cases f with
  | next =>
    obtain ⟨σ7, H7, J, n7⟩ := q7
    exact next J n7
  | cont =>
    obtain ⟨σ7, H7, J, n7⟩ := q7
    exact next J n7
  | brk =>
    obtain ⟨σ7, H7, J, n7⟩ := q7
    exact ⟨σ7, H7, drop J, n7⟩
  | ret v =>
    obtain ⟨x7, σ7, H7, J, r7, n7⟩ := q7
    exact ⟨x7, σ7, H7, drop J, r7, n7⟩

/-! a method that may raise: the wish by the caller's slots -/
section
variable {X : Cx} {CX : CXT} {k : Nat} {f C : Addr} {fd : FuncData} {ps : List Str} {sp : Sp} {E : St → XK} {m : Str} {pos apos : Pos} {e o : Expr} {es : List Expr} {ta : TE} {t : TA}
theorem pe_methE {pl : Sem Bool} (he : PE X o ta) (c : Cls X.K C) (hm : Meth X.K C m f) (F : FnOk X.prog X.w X.K X.mg X.base CX k f fd ps sp) (hr : Room k X.A) (hb : Binds X.K fd ps []) (hx : ∀ σ, PassesAt CX X σ (E σ)) (ha : PA X (e :: es) t)
    (hst : starEach (e :: es) X.env = (false, eval e X.env) :: starEach es X.env := by rfl) (hpl : (backTo pos (starEach es X.env)).any (·.1) = false := by rfl)
    (ht : eval (.Call (.Attribute o m apos) (e :: es) [] pos) X.env = (do
      let ov ← eval o X.env
      standAt apos.atName
      let (f, first) ← holding [ov] (getMethod ov m pl)
      callWith pos f first (backTo pos (starEach (e :: es) X.env)) (backToKw pos (keywordEach [] X.env))) := by rfl) :
    PE X (.Call (.Attribute o m apos) (e :: es) [] pos) (tMethH C m sp E ta t) := by
  refine ⟨fun pins s σ H Q I h => ?_⟩
  refine PySem.W.methodCall_KW (pl := pl) (thn (he.run pins s σ H _ I h) fun u s1 ⟨x, H1, I1, rx, a, dx, fs, ex, ea, l, q⟩ => ?_) ht
  subst ex
  obtain rfl : u = Value.ref a := rx
  refine getmeth_ok I1 ea c hm l ?_
  refine PySem.W.callWith_K (first := [.ref a]) (h₀ := X.base) I.ok.mod.kin hm.kp (thn (ha.run pos pins s1 σ H1 _ I1 q) fun us s2 ⟨vs, H2, I2, r, q2⟩ => ⟨I2.kIn, ?_⟩) hst hpl
  exact run_fnS (us := .ref a :: us) (vs := .ref a :: vs) F hr hb (hx σ) I2 (.cons rfl r) q2
end
end LX

namespace KB
open PySem L2 L2H LX
/-! ### heaps: what stays -/
/-- all but the ones named stand as they stood; tuples always; nothing goes -/
structure Ch (H H' : Hp) (l : List Addr) : Prop where
  st : ∀ b o, H b = some o → (b ∉ l ∨ ∃ xs, o = .tup xs) → H' b = some o
  th : ∀ b o, H b = some o → ∃ u, H' b = some u
theorem Ch.refl (H : Hp) (l : List Addr) : Ch H H l := ⟨fun _ _ h _ => h, fun _ o h => ⟨o, h⟩⟩
theorem Ch.of {H H' : Hp} (s : Same H H') (l : List Addr) : Ch H H' l := ⟨fun _ _ h _ => s _ _ h, fun _ o h => ⟨o, s _ _ h⟩⟩
theorem Ch.trans {H H1 H2 : Hp} {l : List Addr} (a : Ch H H1 l) (b : Ch H1 H2 l) : Ch H H2 l := ⟨fun _ _ h n => b.st _ _ (a.st _ _ h n) n, fun _ _ h => let ⟨_, z⟩ := a.th _ _ h; b.th _ _ z⟩
theorem Ch.mono {H H1 : Hp} {l m : List Addr} (a : Ch H H1 l) (s : ∀ x ∈ l, x ∈ m) : Ch H H1 m := ⟨fun _ _ h n => a.st _ _ h (n.imp (fun z y => z (s _ y)) id), a.th⟩
theorem Ch.same {H H1 H2 : Hp} {l : List Addr} (a : Ch H H1 l) (s : Same H1 H2) : Ch H H2 l := a.trans (Ch.of s l)
theorem Ch.new {H H' : Hp} {l : List Addr} (h : Ch H H' l) {a : Addr} (o : HO) (n : H a = none) : Ch H (upd H' a o) l := ⟨fun b u e m => by
  rw [upd_ne (ne_of_none e n)]
  exact h.st b u e m, fun b u e => by
  rw [upd_ne (ne_of_none e n)]
  exact h.th b u e⟩
theorem Ch.mut {H H' : Hp} {l : List Addr} (h : Ch H H' l) {a : Addr} {o u : HO} (m : a ∈ l) (e : H a = some u) (n : ∀ xs, u ≠ .tup xs) : Ch H (upd H' a o) l := ⟨fun b v eb k => by
  have ne : b ≠ a := fun z => by
    subst z
    rw [e] at eb
    cases eb
    rcases k with k | ⟨xs, k⟩
    · exact k m
    · exact n xs k
  rw [upd_ne ne]
  exact h.st b v eb k, fun b v eb => by
  by_cases z : b = a
  · subst z
    exact ⟨o, upd_same⟩
  · rw [upd_ne z]
    exact h.th b v eb⟩
theorem Ch.tup {H H' : Hp} {l : List Addr} (h : Ch H H' l) : ∀ b xs, H b = some (.tup xs) → H' b = some (.tup xs) := fun b xs e => h.st b _ e (.inr ⟨xs, rfl⟩)
theorem Ch.at {H H' : Hp} {l : List Addr} (h : Ch H H' l) {b : Addr} {o : HO} (e : H b = some o) (n : b ∉ l) : H' b = some o := h.st b o e (.inl n)
theorem Ch.none {H H' : Hp} {l : List Addr} (h : Ch H H' l) : ∀ x, H' x = Option.none → H x = Option.none := fun x e => by
  cases q : H x with
  | none => rfl
  | some o =>
    obtain ⟨u, hu⟩ := h.th x o q
    rw [e] at hu
    cases hu
theorem same_new {H : Hp} {l : Addr} {o : HO} (h : H l = Option.none) : Same H (upd H l o) := fun b u e => by rw [upd_ne (ne_of_none e h)]; exact e
/-- where only new ones and such as were not there at the start were changed -/
theorem Ch.old {H0 H H' : Hp} {l : List Addr} (s : Same H0 H) (c : Ch H H' l) (f : ∀ b ∈ l, H0 b = Option.none) : Same H0 H' := fun b o e => c.st _ _ (s _ _ e) (.inl fun m => by
  have := f b m
  rw [e] at this
  cases this)
/-! ### places in lists -/
theorem at_map {α : Type} {f : α → V} {ns : List α} {z : Int} (h0 : 0 ≤ z) (h1 : z < ns.length) : ∃ t, t ∈ ns ∧ ns[z.toNat]? = some t ∧ atI (ns.map f) z = some (f t) := by
  obtain ⟨j, rfl⟩ := Int.eq_ofNat_of_zero_le h0
  have hl : j < ns.length := by omega
  exact ⟨ns[j], List.getElem_mem hl, List.getElem?_eq_getElem hl, atI_nat (by rw [List.getElem?_map, List.getElem?_eq_getElem hl]; rfl)⟩
theorem at_ints {ns : List Int} {z : Int} (h0 : 0 ≤ z) (h1 : z < ns.length) : ∃ t, t ∈ ns ∧ atI (ns.map V.int) z = some (V.int t) := by
  obtain ⟨t, a, _, b⟩ := at_map (f := V.int) h0 h1
  exact ⟨t, a, b⟩
theorem at_strs {ns : List Str} {z : Int} (h0 : 0 ≤ z) (h1 : z < ns.length) : ∃ t, t ∈ ns ∧ atI (ns.map V.str) z = some (V.str t) := by
  obtain ⟨t, a, _, b⟩ := at_map (f := V.str) h0 h1
  exact ⟨t, a, b⟩
/-! ### texts -/
abbrev tl (z : Str) : List Nat := z.cps.toList
/-- every sign is one; at most n of them -/
structure TOk (n : Nat) (z : Str) : Prop where
  ok : ∀ c ∈ tl z, c < 0x110000
  le : z.length ≤ n
theorem tl_len (z : Str) : (tl z).length = z.length := Array.length_toList
theorem TOk.mono {n m : Nat} {z : Str} (h : TOk n z) (l : n ≤ m) : TOk m z := ⟨h.ok, Nat.le_trans h.le l⟩
theorem TOk.str {n : Nat} {z : Str} (h : TOk n z) : PyData.strOk z = true := by
  unfold PyData.strOk
  rw [← Array.all_toList, List.all_eq_true]
  exact fun c hc => decide_eq_true (h.ok c hc)
theorem TOk.line {n : Nat} {z : Str} (h : TOk n z) (l : n ≤ 1000) : z.length ≤ sizeLine := Nat.le_trans h.le (Nat.le_trans l (by decide))
theorem TOk.app {n m : Nat} {x y : Str} (h : TOk n x) (k : TOk m y) : TOk (n + m) (x ++ y) := by
  have e : tl (x ++ y) = tl x ++ tl y := TL.tl_append x y
  refine ⟨fun c hc => ?_, ?_⟩
  · rw [e] at hc
    rcases List.mem_append.mp hc with hc | hc
    · exact h.ok c hc
    · exact k.ok c hc
  · rw [← tl_len, e, List.length_append, tl_len, tl_len]
    have := h.le
    have := k.le
    omega
theorem TOk.cut {n : Nat} {z : Str} (h : TOk n z) (lo hi : Option Int) : TOk n (cutS z lo hi) := by
  refine ⟨fun c hc => ?_, Nat.le_trans (cutS_length z lo hi) h.le⟩
  have e : tl (cutS z lo hi) = (tl z |>.drop (HT.sIx z.length 0 lo)).take (HT.sIx z.length z.length hi - HT.sIx z.length 0 lo) := by
    unfold cutS tl
    exact List.toList_toArray
  rw [e] at hc
  exact h.ok c (List.mem_of_mem_drop (List.mem_of_mem_take hc))
theorem TOk.nil : TOk 0 "" := by
  refine ⟨fun c hc => ?_, Nat.le_refl _⟩
  have e : tl ("" : Str) = [] := rfl
  rw [e] at hc
  cases hc
theorem TOk.one {c : Nat} (h : c < 0x110000) : TOk 1 (⟨#[c]⟩ : Str) := by
  refine ⟨fun d hd => ?_, Nat.le_refl _⟩
  have e : tl (⟨#[c]⟩ : Str) = [c] := rfl
  rw [e] at hd
  rw [List.mem_singleton.mp hd]
  exact h
theorem join_ok : ∀ {ys : List Str}, (∀ y ∈ ys, TOk 1 y) → TOk ys.length (Str.join "" ys)
  | [], _ => TOk.nil
  | [x], h => h x List.mem_cons_self
  | x :: z :: r, h => by
    have a := h x List.mem_cons_self
    have b := join_ok (ys := z :: r) fun y hy => h y (List.mem_cons_of_mem _ hy)
    have c := (a.app TOk.nil).app b
    exact c.mono (by simp only [List.length_cons]; omega)
theorem join_len : ∀ {ys : List Str}, (∀ y ∈ ys, TOk 1 y) → (ys.map (·.length)).sum + ys.length * ("" : Str).length ≤ ys.length
  | [], _ => Nat.le_refl _
  | x :: r, h => by
    have a := (h x List.mem_cons_self).le
    have b := join_len (ys := r) fun y hy => h y (List.mem_cons_of_mem _ hy)
    have e : ("" : Str).length = 0 := rfl
    rw [e, Nat.mul_zero, Nat.add_zero] at b ⊢
    rw [List.map_cons, List.sum_cons, List.length_cons]
    omega
/-! ### a change: a tuple of five -/
structure Row where
  n : Int
  t : Int
  w : Str
  k : Str
  v : Str
def Row.V (r : Row) : List V := [.int r.n, .int r.t, .str r.w, .str r.k, .str r.v]
def Row.D (r : Row) : PyData := .tuple [.int r.n, .int r.t, .str r.w, .str r.k, .str r.v]
structure Row.Ok (r : Row) : Prop where
  w : PyData.strOk r.w = true
  k : TOk 60 r.k
  v : TOk 60 r.v
abbrev RowsAt (H : Hp) (ts : List Addr) (rs : List Row) : Prop := Paired (fun (t : Addr) (r : Row) => H t = some (.tup r.V)) ts rs
theorem RowsAt.keep {H H' : Hp} {ts : List Addr} {rs : List Row} (m : RowsAt H ts rs) (k : ∀ b xs, H b = some (.tup xs) → H' b = some (.tup xs)) : RowsAt H' ts rs := Paired.mono (fun _ _ h => k _ _ h) m
theorem RowsAt.dp {K : PySem.W.Frag} {H : Hp} : ∀ {ts : List Addr} {rs : List Row}, RowsAt H ts rs → DpAll K H (ts.map V.ref) (rs.map Row.D)
  | _, _, .nil => .nil
  | _, _, .cons r m => .cons (.tup (.inl (.inl r)) (.cons (.int _) (.cons (.int _) (.cons (.str _) (.cons (.str _) (.cons (.str _) .nil)))))) (RowsAt.dp m)
theorem RowsAt.at {H : Hp} : ∀ {ts : List Addr} {rs : List Row} {i : Nat} {x : V}, RowsAt H ts rs → (ts.map V.ref)[i]? = some x → ∃ t r, x = V.ref t ∧ rs[i]? = some r ∧ H t = some (.tup r.V)
  | _, _, i, x, .nil, h => by simp at h
  | _, _, 0, x, .cons r m, h => by
    have e : x = V.ref _ := (Option.some.inj h).symm
    exact ⟨_, _, e, rfl, r⟩
  | _, _, i + 1, x, .cons r m, h => RowsAt.at (i := i) m h
theorem Row.shaped {r : Row} (h : r.Ok) : r.D.canLay0 = true := by
  show (true && (true && (PyData.strOk r.w && (PyData.strOk r.k && (PyData.strOk r.v && true))))) = true
  rw [h.w, h.k.str, h.v.str]
  rfl
theorem rows_lay : ∀ {rs : List Row}, (∀ r ∈ rs, r.Ok) → PyData.canLayAll0 (rs.map Row.D) = true
  | [], _ => rfl
  | r :: rs, h => by
    show (r.D.canLay0 && PyData.canLayAll0 (rs.map Row.D)) = true
    rw [Row.shaped (h r List.mem_cons_self), rows_lay fun x hx => h x (List.mem_cons_of_mem _ hx)]
    rfl
theorem rows_depth : ∀ rs : List Row, PyData.depthAll (rs.map Row.D) ≤ 2
  | [] => by simp [PyData.depthAll]
  | r :: rs => by
    have h := rows_depth rs
    simp only [List.map_cons, PyData.depthAll, Row.D, PyData.depth]
    omega
theorem rows_shaped {rs : List Row} (h : ∀ r ∈ rs, r.Ok) : SeqAt.shaped (.list (rs.map Row.D)) = true := by
  have d := rows_depth rs
  unfold SeqAt.shaped
  rw [Bool.and_eq_true]
  refine ⟨rows_lay h, decide_eq_true ?_⟩
  simp only [PyData.depth]
  omega
theorem rows_eqv {rs : List Row} (h : ∀ r ∈ rs, r.Ok) : PyData.eqv (.list (rs.map Row.D)) (.list (rs.map Row.D)) = true := PySem.SeqAt.eqv_refl _ (rows_lay h)
/-! ### pairs of texts -/
abbrev PairsAt (H : Hp) (ts : List Addr) (ps : List (Str × Str)) : Prop := Paired (fun (t : Addr) (p : Str × Str) => H t = some (.tup [.str p.1, .str p.2])) ts ps
def pairD (p : Str × Str) : PyData := .tuple [.str p.1, .str p.2]
def PairOk (p : Str × Str) : Prop := TOk 60 p.1 ∧ TOk 60 p.2
theorem PairsAt.keep {H H' : Hp} {ts : List Addr} {ps : List (Str × Str)} (m : PairsAt H ts ps) (k : ∀ b xs, H b = some (.tup xs) → H' b = some (.tup xs)) : PairsAt H' ts ps := Paired.mono (fun _ _ h => k _ _ h) m
theorem PairsAt.dp {K : PySem.W.Frag} {H : Hp} : ∀ {ts : List Addr} {ps : List (Str × Str)}, PairsAt H ts ps → DpAll K H (ts.map V.ref) (ps.map pairD)
  | _, _, .nil => .nil
  | _, _, .cons r m => .cons (.tup (.inl (.inl r)) (.cons (.str _) (.cons (.str _) .nil))) (PairsAt.dp m)
theorem PairsAt.at {H : Hp} : ∀ {ts : List Addr} {ps : List (Str × Str)} {i : Nat} {x : V}, PairsAt H ts ps → (ts.map V.ref)[i]? = some x → ∃ t a b, x = V.ref t ∧ H t = some (.tup [.str a, .str b])
  | _, _, i, x, .nil, h => by simp at h
  | _, _, 0, x, .cons r m, h => by
    have e : x = V.ref _ := (Option.some.inj h).symm
    exact ⟨_, _, _, e, r⟩
  | _, _, i + 1, x, .cons r m, h => PairsAt.at (i := i) m h
theorem pairs_lay : ∀ {ps : List (Str × Str)}, (∀ r ∈ ps, PairOk r) → PyData.canLayAll0 (ps.map pairD) = true
  | [], _ => rfl
  | p :: r, h => by
    show ((PyData.strOk p.1 && (PyData.strOk p.2 && true)) && PyData.canLayAll0 (r.map pairD)) = true
    rw [(h p List.mem_cons_self).1.str, (h p List.mem_cons_self).2.str, pairs_lay fun x hx => h x (List.mem_cons_of_mem _ hx)]
    rfl
theorem pairs_depth : ∀ ps : List (Str × Str), PyData.depthAll (ps.map pairD) ≤ 2
  | [] => by simp [PyData.depthAll]
  | p :: r => by
    have h := pairs_depth r
    simp only [List.map_cons, PyData.depthAll, pairD, PyData.depth]
    omega
theorem pairs_shaped {ps : List (Str × Str)} (h : ∀ r ∈ ps, PairOk r) : SeqAt.shaped (.list (ps.map pairD)) = true := by
  have d := pairs_depth ps
  unfold SeqAt.shaped
  rw [Bool.and_eq_true]
  refine ⟨pairs_lay h, decide_eq_true ?_⟩
  simp only [PyData.depth]
  omega
theorem pairs_eqv {ps : List (Str × Str)} (h : ∀ r ∈ ps, PairOk r) : PyData.eqv (.list (ps.map pairD)) (.list (ps.map pairD)) = true := PySem.SeqAt.eqv_refl _ (pairs_lay h)
end KB

namespace KL
open PySem L2 L2H LX KB
def top (i : Nat) : Stmt := PySem.Challenge.pw_leasewatch_k03_an_ear_hears_once.main.body.getD i (.Pass ⟨0, 0, 0, 0⟩)
abbrev s__wall : Stmt := top 0
abbrev p__wall : List Str := ["k"]
abbrev n__wall : List Str := ["k"]
theorem sc__wall : FnScope n__wall p__wall (defScope s__wall) := ⟨rfl, rfl, rfl, by decide +kernel, rfl, by decide +kernel, by decide +kernel⟩
abbrev s_Ear_init : Stmt := inClass (top 2) 0
abbrev p_Ear_init : List Str := ["self", "start", "pairs"]
abbrev n_Ear_init : List Str := ["self", "start", "pairs", "key", "value"]
theorem sc_Ear_init : FnScope n_Ear_init p_Ear_init (defScope s_Ear_init) := ⟨rfl, rfl, rfl, by decide +kernel, rfl, by decide +kernel, by decide +kernel⟩
abbrev s_Ear_hear : Stmt := inClass (top 2) 1
abbrev p_Ear_hear : List Str := ["self", "changes"]
abbrev n_Ear_hear : List Str := ["self", "changes", "change"]
theorem sc_Ear_hear : FnScope n_Ear_hear p_Ear_hear (defScope s_Ear_hear) := ⟨rfl, rfl, rfl, by decide +kernel, rfl, by decide +kernel, by decide +kernel⟩
abbrev s_Ear_heard : Stmt := inClass (top 2) 2
abbrev p_Ear_heard : List Str := ["self"]
abbrev n_Ear_heard : List Str := ["self"]
theorem sc_Ear_heard : FnScope n_Ear_heard p_Ear_heard (defScope s_Ear_heard) := ⟨rfl, rfl, rfl, by decide +kernel, rfl, by decide +kernel, by decide +kernel⟩
abbrev s_Ear_state : Stmt := inClass (top 2) 3
abbrev p_Ear_state : List Str := ["self"]
abbrev n_Ear_state : List Str := ["self"]
theorem sc_Ear_state : FnScope n_Ear_state p_Ear_state (defScope s_Ear_state) := ⟨rfl, rfl, rfl, by decide +kernel, rfl, by decide +kernel, by decide +kernel⟩
abbrev s_Ear_many : Stmt := inClass (top 2) 4
abbrev p_Ear_many : List Str := ["self"]
abbrev n_Ear_many : List Str := ["self"]
theorem sc_Ear_many : FnScope n_Ear_many p_Ear_many (defScope s_Ear_many) := ⟨rfl, rfl, rfl, by decide +kernel, rfl, by decide +kernel, by decide +kernel⟩
abbrev s_Ear_u_take_in : Stmt := inClass (top 2) 5
abbrev p_Ear_u_take_in : List Str := ["self", "change"]
abbrev n_Ear_u_take_in : List Str := ["self", "change", "number", "_", "word", "key", "value"]
theorem sc_Ear_u_take_in : FnScope n_Ear_u_take_in p_Ear_u_take_in (defScope s_Ear_u_take_in) := ⟨rfl, rfl, rfl, by decide +kernel, rfl, by decide +kernel, by decide +kernel⟩
abbrev s_whole : Stmt := top 4
abbrev p_whole : List Str := ["_law_found"]
abbrev n_whole : List Str := ["_law_found"]
theorem sc_whole : FnScope n_whole p_whole (defScope s_whole) := ⟨rfl, rfl, rfl, by decide +kernel, rfl, by decide +kernel, by decide +kernel⟩
abbrev s_cell_at : Stmt := top 5
abbrev p_cell_at : List Str := ["_law_script", "_law_k"]
abbrev n_cell_at : List Str := ["_law_script", "_law_k"]
theorem sc_cell_at : FnScope n_cell_at p_cell_at (defScope s_cell_at) := ⟨rfl, rfl, rfl, by decide +kernel, rfl, by decide +kernel, by decide +kernel⟩
abbrev s_sign : Stmt := top 6
abbrev p_sign : List Str := ["_law_cell"]
abbrev n_sign : List Str := ["_law_cell", "_law_some"]
theorem sc_sign : FnScope n_sign p_sign (defScope s_sign) := ⟨rfl, rfl, rfl, by decide +kernel, rfl, by decide +kernel, by decide +kernel⟩
abbrev s_text : Stmt := top 7
abbrev p_text : List Str := ["_law_cell", "_law_size"]
abbrev n_text : List Str := ["_law_cell", "_law_size", "_law_k"]
theorem sc_text : FnScope n_text p_text (defScope s_text) := ⟨rfl, rfl, rfl, by decide +kernel, rfl, by decide +kernel, by decide +kernel⟩
abbrev s_pool : Stmt := top 8
abbrev p_pool : List Str := ["_law_cell", "_law_other"]
abbrev n_pool : List Str := ["_law_cell", "_law_other", "_law_first", "_law_one", "_law_two", "_law_at"]
theorem sc_pool : FnScope n_pool p_pool (defScope s_pool) := ⟨rfl, rfl, rfl, by decide +kernel, rfl, by decide +kernel, by decide +kernel⟩
abbrev s_prefix : Stmt := top 9
abbrev p_prefix : List Str := ["_law_pool_here", "_law_cell"]
abbrev n_prefix : List Str := ["_law_pool_here", "_law_cell"]
theorem sc_prefix : FnScope n_prefix p_prefix (defScope s_prefix) := ⟨rfl, rfl, rfl, by decide +kernel, rfl, by decide +kernel, by decide +kernel⟩
abbrev s_change : Stmt := top 10
abbrev p_change : List Str := ["_law_found"]
abbrev n_change : List Str := ["_law_found"]
theorem sc_change : FnScope n_change p_change (defScope s_change) := ⟨rfl, rfl, rfl, by decide +kernel, rfl, by decide +kernel, by decide +kernel⟩
abbrev s_changes : Stmt := top 11
abbrev p_changes : List Str := ["_law_found", "_law_due"]
abbrev n_changes : List Str := ["_law_found", "_law_due", "_law_one", "_law_good"]
theorem sc_changes : FnScope n_changes p_changes (defScope s_changes) := ⟨rfl, rfl, rfl, by decide +kernel, rfl, by decide +kernel, by decide +kernel⟩
abbrev s_pairs : Stmt := top 12
abbrev p_pairs : List Str := ["_law_found", "_law_due"]
abbrev n_pairs : List Str := ["_law_found", "_law_due", "_law_one", "_law_good"]
theorem sc_pairs : FnScope n_pairs p_pairs (defScope s_pairs) := ⟨rfl, rfl, rfl, by decide +kernel, rfl, by decide +kernel, by decide +kernel⟩
abbrev s_rows : Stmt := top 13
abbrev p_rows : List Str := ["_law_script", "_law_pool_here"]
abbrev n_rows : List Str := ["_law_script", "_law_pool_here", "_law_cells", "_law_rows_here", "_law_number", "_law_cell", "_law_word", "_law_value", "_law_k"]
theorem sc_rows : FnScope n_rows p_rows (defScope s_rows) := ⟨rfl, rfl, rfl, by decide +kernel, rfl, by decide +kernel, by decide +kernel⟩
abbrev s_state : Stmt := top 14
abbrev p_state : List Str := ["_law_given", "_law_taken"]
abbrev n_state : List Str := ["_law_given", "_law_taken", "_law_found", "_law_one", "_law_row", "_law_key"]
theorem sc_state : FnScope n_state p_state (defScope s_state) := ⟨rfl, rfl, rfl, by decide +kernel, rfl, by decide +kernel, by decide +kernel⟩
abbrev s_made : Stmt := top 15
abbrev p_made : List Str := ["_law_begin_here", "_law_given", "_law_cell"]
abbrev n_made : List Str := ["_law_begin_here", "_law_given", "_law_cell"]
theorem sc_made : FnScope n_made p_made (defScope s_made) := ⟨rfl, rfl, rfl, by decide +kernel, rfl, by decide +kernel, by decide +kernel⟩
abbrev s_begin : Stmt := top 16
abbrev p_begin : List Str := ["_law_pool_here", "_law_cell"]
abbrev n_begin : List Str := ["_law_pool_here", "_law_cell", "_law_given", "_law_k", "_law_one"]
theorem sc_begin : FnScope n_begin p_begin (defScope s_begin) := ⟨rfl, rfl, rfl, by decide +kernel, rfl, by decide +kernel, by decide +kernel⟩
abbrev s_heard : Stmt := top 17
abbrev p_heard : List Str := ["_law_ear", "_law_taken", "_law_begin_here", "_law_batch", "_law_kept"]
abbrev n_heard : List Str := ["_law_ear", "_law_taken", "_law_begin_here", "_law_batch", "_law_kept", "_law_handed", "_law_behind", "_law_row", "_law_found", "_law_stayed", "_law_told"]
theorem sc_heard : FnScope n_heard p_heard (defScope s_heard) := ⟨rfl, rfl, rfl, by decide +kernel, rfl, by decide +kernel, by decide +kernel⟩
abbrev s_law : Stmt := top 18
abbrev p_law : List Str := ["_law_script"]
abbrev n_law : List Str := ["_law_script", "_law_pool_here", "_law_rows_here", "_law_starts", "_law_given", "_law_handed", "_law_k", "_law_ears", "_law_taken", "_law_kept", "_law_which", "_law_low", "_law_more", "_law_batch", "_law_due"]
theorem sc_law : FnScope n_law p_law (defScope s_law) := ⟨rfl, rfl, rfl, by decide +kernel, rfl, by decide +kernel, by decide +kernel⟩
abbrev esL : List Str := ["hear", "heard", "state"]
end KL

namespace KL
open PySem L2 L2H LX KB
/-! ### a law's plain helpers: whole, cell_at, sign, text, pool, prefix -/
structure LTxt (mg : Str → Option Value) : Prop where
  isi : mg "isinstance" = none
  int : mg "int" = none
  bool : mg "bool" = none
  str : mg "str" = none
  len : mg "len" = none
  sorted : mg "sorted" = none
  list : mg "list" = none
  tuple : mg "tuple" = none
  range : mg "range" = none
/-- a def of the law as its callers see it -/
structure Def (P : Program) (w : World) (K : PySem.W.Frag) (mg : Str → Option Value) (base : Heap) (x : Str) (k : Nat) (ps : List Str) (sp : Sp) : Prop where
  ex : ∃ f fd, mg x = some (.ref f) ∧ PySem.W.keepIn K (.ref f) = true ∧ Binds K fd ps [] ∧ FnOk P w K mg base CX0 k f fd ps sp
def Plain (v : V) (b : Bool) : Prop := ((∃ i, v = .int i) ∧ b = true) ∨ ((v = .non ∨ ∃ z, v = .str z) ∧ b = false)
def spWhole : Sp := fun vs H Q _ => ∃ (v : V) (b : Bool), vs = [v] ∧ Plain v b ∧ Q (.bl b) H
def spCellA (K : PySem.W.Frag) : Sp := fun vs H Q _ => ∃ (a : Addr) (ns : List Int) (j : Nat), vs = [.ref a, .int j] ∧ SqL K H a (ns.map V.int) ∧ ∀ t, Q (.int t) H
def spSign : Sp := fun vs H Q _ => ∃ (c : Int), vs = [.int c] ∧ ∀ z, TOk 1 z → Q (.str z) H
def spText : Sp := fun vs H Q _ => ∃ (c n : Int), vs = [.int c, .int n] ∧ 0 ≤ n ∧ n ≤ 60 ∧ ∀ z H', TOk n.toNat z → Same H H' → Q (.str z) H'
def spPool : Sp := fun vs H Q _ => ∃ (c o : Int), vs = [.int c, .int o] ∧ ∀ (q : Addr) (zs : List Str) (H' : Hp), H q = none → H' q = some (.lst (zs.map V.str)) → zs.length = 6 → (∀ z ∈ zs, TOk 60 z) → Same H H' → Q (.ref q) H'
def spPrefix : Sp := fun vs H Q _ => ∃ (q : Addr) (zs : List Str) (c : Int), vs = [.ref q, .int c] ∧ H q = some (.lst (zs.map V.str)) ∧ zs.length = 6 ∧ (∀ z ∈ zs, TOk 60 z) ∧ ∀ z H', TOk 60 z → Same H H' → Q (.str z) H'
section
variable {P : Program} {w : World} {K : PySem.W.Frag} {mg : Str → Option Value} {base : Heap}
theorem ok_whole {f : Addr} {fd : FuncData} (F : Fun K "_law_whole" "_law_whole" s_whole f fd) (T : LTxt mg) : FnOk P w K mg base CX0 1 f fd p_whole spWhole := by
  refine F.ok sc_whole (fun vs H Q E h => ?_) (fun cdv A outer s H vs Q E hr h => ?_)
  · obtain ⟨v, b, rfl, _⟩ := h
    rfl
  · obtain ⟨v, b, rfl, hb, k⟩ := h
    refine ⟨_, pss_one (ps_ret (pe_and (pe_callB call_isi (by rfl) T.isi (by decide +kernel) (pa_cons (pv 0) (pa_cons (pe_bltn (v := V.ty "int") (by rfl) T.int (by decide +kernel) rfl) pa_nil)))
      (pe_one (pe_not (pe_callB call_isi (by rfl) T.isi (by decide +kernel) (pa_cons (pv 0) (pa_cons (pe_bltn (v := V.ty "bool") (by rfl) T.bool (by decide +kernel) rfl) pa_nil))))))), ?_⟩
    rcases hb with ⟨⟨i, rfl⟩, rfl⟩ | ⟨hv, rfl⟩
    · refine ⟨_, rfl, _, _, _, _, true, rfl, .ty _, .base (.int i), kit_ty (by decide +kernel), true, rfl, ?_⟩
      refine iteT ?_
      exact ⟨_, rfl, _, _, _, _, false, rfl, .ty _, .base (.int i), kit_ty (by decide +kernel), false, rfl, k⟩
    · rcases hv with rfl | ⟨z, rfl⟩
      · refine ⟨_, rfl, _, _, _, _, false, rfl, .ty _, .base .non, kit_ty (by decide +kernel), false, rfl, ?_⟩
        exact iteF k
      · refine ⟨_, rfl, _, _, _, _, false, rfl, .ty _, .base (.str z), kit_ty (by decide +kernel), false, rfl, ?_⟩
        exact iteF k
theorem ok_cell {f : Addr} {fd : FuncData} (F : Fun K "_law_cell_at" "_law_cell_at" s_cell_at f fd) (T : LTxt mg) : FnOk P w K mg base CX0 1 f fd p_cell_at (spCellA K) := by
  refine F.ok sc_cell_at (fun vs H Q E h => ?_) (fun cdv A outer s H vs Q E hr h => ?_)
  · obtain ⟨a, ns, j, rfl, _⟩ := h
    rfl
  · obtain ⟨a, ns, j, rfl, hs, k⟩ := h
    refine ⟨_, pss_cons (ps_if (pt_cmpR op_lt (pv 1) (pe_callB call_len_seq (by rfl) T.len PySem.boot_len (pa_cons (pv 0) pa_nil)) (nomark _)) (pss_one (ps_ret (pe_ix ix_list (pv 0) (pv 1) (fun _ _ => rfl)))) pss_nil)
      (pss_one (ps_ret pe_int)), ?_⟩
    refine ⟨_, rfl, _, rfl, a, _, rfl, .inl hs, _, _, rfl, rfl, _, rfl, ?_⟩
    rw [List.length_map]
    by_cases c : (j : Int) < ns.length
    · rw [decide_eq_true c]
      refine iteT ?_
      obtain ⟨t, _, e⟩ := at_ints (ns := ns) (z := (j : Int)) (by omega) c
      exact ⟨_, rfl, _, rfl, a, _, _, _, rfl, rfl, hs, e, k t⟩
    · rw [decide_eq_false c]
      refine iteF ?_
      exact k 0
theorem sign_go {z : Str} {i : Int} {H : Hp} {Q : VK} (h1 : z.length = 94) (h2 : PyData.strOk z = true) (k : ∀ y, TOk 1 y → Q (.str y) H) :
    ∃ x j c, V.str z = .str x ∧ V.int (i % 94) = .int j ∧ x.length ≤ sizeLine ∧ atI x.cps.toList j = some c ∧ Q (.str ⟨#[c]⟩) H := by
  have hl : z.cps.toList.length = 94 := by rw [Array.length_toList]; exact h1
  obtain ⟨j, hj⟩ := Int.eq_ofNat_of_zero_le (a := i % 94) (by omega)
  have hlt : j < z.cps.toList.length := by omega
  refine ⟨z, _, z.cps.toList[j], rfl, rfl, by rw [h1]; decide, by rw [hj]; exact atI_nat (List.getElem?_eq_getElem hlt), k _ (TOk.one ?_)⟩
  unfold PyData.strOk at h2
  rw [← Array.all_toList, List.all_eq_true] at h2
  exact of_decide_eq_true (h2 _ (List.getElem_mem hlt))
theorem ok_sign {f : Addr} {fd : FuncData} (F : Fun K "_law_sign" "_law_sign" s_sign f fd) : FnOk P w K mg base CX0 1 f fd p_sign spSign := by
  refine F.ok sc_sign (fun vs H Q E h => ?_) (fun cdv A outer s H vs Q E hr h => ?_)
  · obtain ⟨c, rfl, _⟩ := h
    rfl
  · obtain ⟨c, rfl, k⟩ := h
    refine ⟨_, pss_cons (ps_set (i := 1) sc_sign.nd rfl (Or.inl rfl) pe_str) (pss_cons (ps_set (i := 1) sc_sign.nd rfl (Or.inl rfl) (pe_op op_add_str (pv 1) pe_str))
      (pss_one (ps_ret (pe_ix ix_str (pv 1) (pe_op op_mod (pv 0) pe_int) (fun _ _ => rfl))))), ?_⟩
    refine ⟨_, rfl, _, _, rfl, rfl, (by decide +kernel), ?_⟩
    refine ⟨_, rfl, _, rfl, _, _, rfl, rfl, (by show (0 : Int) < 94; decide), ?_⟩
    exact sign_go (by decide +kernel) (by decide +kernel) k
theorem ok_text {f : Addr} {fd : FuncData} (F : Fun K "_law_text" "_law_text" s_text f fd) (T : LTxt mg) (D1 : Def P w K mg base "_law_sign" 1 p_sign spSign) : FnOk P w K mg base CX0 2 f fd p_text spText := by
  obtain ⟨fS, fdS, gS, kS, bS, GS⟩ := D1.ex
  refine F.ok sc_text (fun vs H Q E h => ?_) (fun cdv A outer s H vs Q E hr h => ?_)
  · obtain ⟨c, n, rfl, _⟩ := h
    rfl
  · obtain ⟨c, n, rfl, n0, n1, k⟩ := h
    refine ⟨_, pss_one (ps_ret (pe_join pe_str (pe_lc (own := [("_law_k", 2)]) (g := gName 2) rfl sc_text.nd (pi_range1 (by rfl) T.range (pa_cons (pv 1) pa_nil)) (blkOk_by (own := [("_law_k", 2)]) (N := n_text) (sc := defScope s_text) (by decide +kernel))
      (fun _ _ _ _ _ => pg_name (i := 2) sc_text.nd rfl (Or.inl rfl) (Or.inr rfl)) (fun _ _ _ _ _ => pts_nil)
      (fun _ _ _ _ _ => pe_call GS hr rfl gS kS bS .nil pass0 (pa_cons (pe_op op_add (pv 0) (pe_op op_mul (pe_op op_mul pe_int (pv 2)) (pv 2))) pa_nil))))), ?_⟩
    refine ⟨⟨_, rfl⟩, _, rfl, n, rfl, by omega, by omega, fun D hD => ?_⟩
    refine lc_range (lo := 0) (n := n.toNat) (fun i H' => ∃ ys : List Str, Same H H' ∧ H' D = some (.lst (ys.map V.str)) ∧ ys.length = i ∧ ∀ y ∈ ys, TOk 1 y) ⟨[], same_new hD, upd_same, rfl, fun y hy => by cases hy⟩ ?_ ?_
    · rintro i H1 hi ⟨ys, hs, hl, len, ok⟩
      refine ⟨rfl, _, rfl, _, rfl, _, _, rfl, rfl, .inl ⟨by decide, by decide⟩, _, rfl, _, _, rfl, rfl, .inl ⟨by omega, by omega⟩, _, _, rfl, rfl, _, rfl, fun z hz => ?_⟩
      refine ⟨_, hl, by rw [List.length_map]; exact small1000 (by omega), ys ++ [z], fun b o e => ?_, by rw [upd_same, List.map_append]; rfl, by rw [List.length_append, len]; rfl, fun y hy => ?_⟩
      · rw [upd_ne (ne_of_none e hD)]; exact hs b o e
      · rcases List.mem_append.mp hy with hy | hy
        · exact ok y hy
        · rw [List.mem_singleton.mp hy]; exact hz
    · rintro H1 ⟨ys, hs, hl, len, ok⟩
      refine ⟨_, D, ys, rfl, rfl, .inl (SqL.of hl), Nat.le_trans (join_len ok) (by omega), ?_⟩
      rw [TL.join_eq]
      refine k _ _ ?_ hs
      rw [← len]
      exact join_ok ok
theorem ok_pool {f : Addr} {fd : FuncData} (F : Fun K "_law_pool" "_law_pool" s_pool f fd) (T : LTxt mg) (D1 : Def P w K mg base "_law_sign" 1 p_sign spSign) (D2 : Def P w K mg base "_law_text" 2 p_text spText) : FnOk P w K mg base CX0 3 f fd p_pool spPool := by
  obtain ⟨fS, fdS, gS, kS, bS, GS⟩ := D1.ex
  obtain ⟨fT, fdT, gT, kT, bT, GT⟩ := D2.ex
  refine F.ok sc_pool (fun vs H Q E h => ?_) (fun cdv A outer s H vs Q E hr h => ?_)
  · obtain ⟨c, o, rfl, _⟩ := h
    rfl
  · obtain ⟨c, o, rfl, k⟩ := h
    have hr1 : Room 1 _ := hr.mono (by decide)
    refine ⟨_, pss_cons (ps_set (i := 2) sc_pool.nd rfl (Or.inl rfl) (pe_call GT hr rfl gT kT bT .nil pass0 (pa_cons (pv 0) (pa_cons (pe_ix ix_list (pe_lst (pa_cons (pe_op op_add pe_int (pe_op op_mod (pv 0) pe_int)) (pa_cons (pe_op op_add pe_int (pe_op op_mod (pv 0) pe_int)) pa_nil)))
          (pe_op op_mod (pe_op op_fdiv (pv 0) pe_int) pe_int) (fun _ _ => rfl)) pa_nil))))
      (pss_cons (ps_set (i := 3) sc_pool.nd rfl (Or.inl rfl) (pe_call GS hr1 rfl gS kS bS .nil pass0 (pa_cons (pv 1) pa_nil)))
      (pss_cons (ps_set (i := 4) sc_pool.nd rfl (Or.inl rfl) (pe_call GS hr1 rfl gS kS bS .nil pass0 (pa_cons (pe_op op_fdiv (pv 1) pe_int) pa_nil)))
      (pss_cons (ps_set (i := 5) sc_pool.nd rfl (Or.inl rfl) (pe_op op_mod (pe_op op_fdiv (pv 1) pe_int) (pe_op op_add (pe_callB call_len_str (by rfl) T.len PySem.boot_len (pa_cons (pv 2) pa_nil)) pe_int)))
      (pss_one (ps_ret (pe_lst (pa_cons (pv 2) (pa_cons (pe_op op_add_str (pv 2) (pv 3)) (pa_cons (pe_op op_add_str (pe_op op_add_str (pe_slice sl_str (pv 2) po_none (po_some (pv 5))) (pv 4)) (pe_slice sl_str (pv 2) (po_some (pv 5)) po_none))
        (pa_cons (pv 3) (pa_cons (pe_op op_add_str (pv 4) (pv 2)) (pa_cons (pe_call GT hr rfl gT kT bT .nil pass0 (pa_cons (pv 1) (pa_cons (pe_op op_sub pe_int (pe_op op_mod (pv 1) pe_int)) pa_nil))) pa_nil)))))))))))), ?_⟩
    refine ⟨_, rfl, _, rfl, _, _, rfl, rfl, (by show (0 : Int) < 4; decide), _, _, rfl, rfl, _, rfl, _, _, rfl, rfl, (by show (0 : Int) < 18; decide), _, _, rfl, rfl, (by show 2 ≤ sizeLine; decide), fun l hl => ?_⟩
    obtain ⟨n, hn, e⟩ := at_ints (ns := [1 + c % 4, 1 + c % 18]) (z := c / 4 % 2) (by omega) (by show c / 4 % 2 < 2; omega)
    have hn1 : 0 ≤ n ∧ n ≤ 18 := by
      simp only [List.mem_cons, List.not_mem_nil, or_false] at hn
      omega
    refine ⟨_, rfl, _, _, rfl, rfl, ⟨by decide, by decide⟩, _, _, rfl, rfl, (by show (0 : Int) < 2; decide), l, _, _, _, rfl, rfl, SqL.of upd_same, e, c, n, rfl, by omega, by omega, fun z1 H1 t1 s1 => ?_⟩
    have t1 : TOk 18 z1 := t1.mono (by omega)
    refine ⟨_, rfl, _, rfl, fun z2 t2 => ?_⟩
    refine ⟨_, rfl, _, _, rfl, rfl, ⟨by decide, by decide⟩, _, rfl, fun z3 t3 => ?_⟩
    refine ⟨_, rfl, _, _, rfl, rfl, ⟨by decide, by decide⟩, _, rfl, _, rfl, t1.line (by decide), _, _, rfl, rfl, _, _, rfl, rfl, ?_, ?_⟩
    · show (0 : Int) < (z1.length : Int) + 1
      omega
    have c1 := t1.cut none (some (o / 8836 % ((z1.length : Int) + 1)))
    have c2 := t1.cut (some (o / 8836 % ((z1.length : Int) + 1))) none
    have a1 := (c1.app t3).app c2
    have a2 := t1.app t2
    have a3 := t3.app t1
    have L1 : ∀ {x y : Str} {n m : Nat}, TOk n x → TOk m y → n + m ≤ 1000 → x.length + y.length ≤ sizeLine := fun {x y n m} a b h => by
      have := a.le
      have := b.le
      exact Nat.le_of_lt (small1000 (by omega))
    refine ⟨_, rfl, _, rfl, _, rfl, _, _, rfl, rfl, L1 t1 t2 (by decide), ?_⟩
    refine ⟨_, rfl, _, rfl, _, rfl, _, rfl, t1.line (by decide), _, rfl, _, _, rfl, rfl, L1 c1 t3 (by decide), ?_⟩
    refine ⟨_, rfl, _, rfl, _, rfl, _, rfl, t1.line (by decide), _, _, rfl, rfl, L1 (c1.app t3) c2 (by decide), ?_⟩
    refine ⟨_, rfl, _, rfl, _, rfl, _, _, rfl, rfl, L1 t3 t1 (by decide), ?_⟩
    refine ⟨_, rfl, _, rfl, _, _, rfl, rfl, (by show (0 : Int) < 3; decide), _, _, rfl, rfl, o, 20 - o % 3, rfl, by omega, by omega, fun z4 H2 t4 s2 => ?_⟩
    refine ⟨(by show 6 ≤ sizeLine; decide), fun q hq => ?_⟩
    have s0 : Same H H2 := fun b u e => s2 _ _ (s1 _ _ (same_new hl _ _ e))
    refine k q [z1, z1 ++ z2, cutS z1 none (some (o / 8836 % ((z1.length : Int) + 1))) ++ z3 ++ cutS z1 (some (o / 8836 % ((z1.length : Int) + 1))) none, z2, z3 ++ z1, z4] _ (s0.free hq) upd_same rfl (fun z hz => ?_) fun b u e => ?_
    · simp only [List.mem_cons, List.not_mem_nil, or_false] at hz
      rcases hz with rfl | rfl | rfl | rfl | rfl | rfl
      · exact t1.mono (by decide)
      · exact a2.mono (by decide)
      · exact a1.mono (by decide)
      · exact t2.mono (by decide)
      · exact a3.mono (by decide)
      · exact t4.mono (by omega)
    · rw [upd_ne (ne_of_none (s0 _ _ e) hq)]; exact s0 _ _ e
theorem ok_prefix {f : Addr} {fd : FuncData} (F : Fun K "_law_prefix" "_law_prefix" s_prefix f fd) : FnOk P w K mg base CX0 1 f fd p_prefix spPrefix := by
  refine F.ok sc_prefix (fun vs H Q E h => ?_) (fun cdv A outer s H vs Q E hr h => ?_)
  · obtain ⟨q, zs, c, rfl, _⟩ := h
    rfl
  · obtain ⟨q, zs, c, rfl, hq, hl, ok, k⟩ := h
    obtain ⟨z0, z1, z2, z3, z4, z5, rfl⟩ : ∃ z0 z1 z2 z3 z4 z5, zs = [z0, z1, z2, z3, z4, z5] := by
      match zs, hl with
      | [z0, z1, z2, z3, z4, z5], _ => exact ⟨z0, z1, z2, z3, z4, z5, rfl⟩
    have o4 := ok z4 (by simp)
    refine ⟨_, pss_one (ps_ret (pe_ix ix_list (pe_lst (pa_cons pe_str (pa_cons pe_str (pa_cons (pe_ix ix_list (pv 0) pe_int (fun _ _ => rfl)) (pa_cons (pe_ix ix_list (pv 0) pe_int (fun _ _ => rfl)) (pa_cons (pe_ix ix_list (pv 0) pe_int (fun _ _ => rfl))
      (pa_cons (pe_slice sl_str (pe_ix ix_list (pv 0) pe_int (fun _ _ => rfl)) po_none (po_some pe_int)) (pa_cons (pe_ix ix_list (pv 0) pe_int (fun _ _ => rfl)) pa_nil))))))))
      (pe_op op_mod (pv 1) pe_int) (fun _ _ => rfl))), ?_⟩
    refine ⟨_, rfl, q, _, 0, .str z0, rfl, rfl, SqL.of hq, rfl, _, rfl, q, _, 3, .str z3, rfl, rfl, SqL.of hq, rfl, _, rfl, q, _, 1, .str z1, rfl, rfl, SqL.of hq, rfl, _, rfl, q, _, 4, .str z4, rfl, rfl, SqL.of hq, rfl, _, rfl, _, rfl, o4.line (by decide),
      _, rfl, q, _, 5, .str z5, rfl, rfl, SqL.of hq, rfl, (by show 7 ≤ sizeLine; decide), fun l hl => ?_⟩
    obtain ⟨z, hz, e⟩ := at_strs (ns := ["", "", z0, z3, z1, cutS z4 none (some 1), z5]) (z := c % 7) (by omega) (by show c % 7 < 7; omega)
    refine ⟨_, rfl, _, _, rfl, rfl, (by show (0 : Int) < 7; decide), l, _, _, _, rfl, rfl, SqL.of upd_same, e, ?_⟩
    refine k z _ ?_ (same_new hl)
    simp only [List.mem_cons, List.not_mem_nil, or_false] at hz
    rcases hz with rfl | rfl | rfl | rfl | rfl | rfl | rfl
    · exact TOk.nil.mono (by decide)
    · exact TOk.nil.mono (by decide)
    · exact ok _ (by simp)
    · exact ok _ (by simp)
    · exact ok _ (by simp)
    · exact o4.cut _ _
    · exact ok _ (by simp)
end
end KL

namespace KL
open PySem L2 L2H LX KB
/-! ### a law's plain helpers: change, changes -/
def spChange : Sp := fun vs H Q _ => ∃ (t : Addr) (r : Row), vs = [.ref t] ∧ H t = some (.tup r.V) ∧ Q (.bl true) H
def spChanges (K : PySem.W.Frag) : Sp := fun vs H Q _ => ∃ (f d : Addr) (ts us : List Addr) (rs : List Row), vs = [.ref f, .ref d] ∧ H f = some (.lst (ts.map V.ref)) ∧ H d = some (.lst (us.map V.ref)) ∧ RowsAt H ts rs ∧ RowsAt H us rs ∧ (∀ r ∈ rs, r.Ok) ∧
  Q (.bl true) (upd H f (.lst []))
section
variable {P : Program} {w : World} {K : PySem.W.Frag} {mg : Str → Option Value} {base : Heap}
theorem ok_change {f : Addr} {fd : FuncData} (F : Fun K "_law_change" "_law_change" s_change f fd) (T : LTxt mg) (D1 : Def P w K mg base "_law_whole" 1 p_whole spWhole) : FnOk P w K mg base CX0 2 f fd p_change spChange := by
  obtain ⟨fW, fdW, gW, kW, bW, GW⟩ := D1.ex
  refine F.ok sc_change (fun vs H Q E h => ?_) (fun cdv A outer s H vs Q E hr h => ?_)
  · obtain ⟨t, r, rfl, _⟩ := h
    rfl
  · obtain ⟨t, r, rfl, ht, k⟩ := h
    refine ⟨_, pss_cons (ps_if (PW.pt (pw_or (pt_not (pt_val (pe_callB call_isi (by rfl) T.isi (by decide +kernel) (pa_cons (pv 0) (pa_cons (pe_bltn (v := V.ty "tuple") (by rfl) T.tuple (by decide +kernel) rfl) pa_nil)))))
          (pw_or1 (pt_cmpR op_ne (pe_callB call_len_seq (by rfl) T.len PySem.boot_len (pa_cons (pv 0) pa_nil)) pe_int (nomark _))))) (pss_one (ps_ret pe_bl)) pss_nil)
      (pss_cons (ps_if (PW.pt (pw_or (pt_not (pt_val (pe_call GW hr rfl gW kW bW .nil pass0 (pa_cons (pe_ix ix_tup (pv 0) pe_int (fun _ _ => rfl)) pa_nil))))
          (pw_or1 (pt_not (pt_val (pe_call GW hr rfl gW kW bW .nil pass0 (pa_cons (pe_ix ix_tup (pv 0) pe_int (fun _ _ => rfl)) pa_nil))))))) (pss_one (ps_ret pe_bl)) pss_nil)
      (pss_one (ps_ret (pe_and (pe_callB call_isi (by rfl) T.isi (by decide +kernel) (pa_cons (pe_ix ix_tup (pv 0) pe_int (fun _ _ => rfl)) (pa_cons (pe_bltn (v := V.ty "str") (by rfl) T.str (by decide +kernel) rfl) pa_nil)))
        (pe_and (pe_callB call_isi (by rfl) T.isi (by decide +kernel) (pa_cons (pe_ix ix_tup (pv 0) pe_int (fun _ _ => rfl)) (pa_cons (pe_bltn (v := V.ty "str") (by rfl) T.str (by decide +kernel) rfl) pa_nil)))
        (pe_one (pe_callB call_isi (by rfl) T.isi (by decide +kernel) (pa_cons (pe_ix ix_tup (pv 0) pe_int (fun _ _ => rfl)) (pa_cons (pe_bltn (v := V.ty "str") (by rfl) T.str (by decide +kernel) rfl) pa_nil))))))))), ?_⟩
    refine ⟨_, rfl, _, _, _, _, true, rfl, .ty _, .base (.tup ht), kit_ty (by decide +kernel), true, rfl, iteF ?_⟩
    refine ⟨_, rfl, t, _, rfl, .inr (SqT.of ht), rfl, _, rfl, iteNS rfl ?_⟩
    refine ⟨_, rfl, t, _, 0, .int r.n, rfl, rfl, SqT.of ht, rfl, _, true, rfl, .inl ⟨⟨r.n, rfl⟩, rfl⟩, true, rfl, iteF ?_⟩
    refine ⟨_, rfl, t, _, 1, .int r.t, rfl, rfl, SqT.of ht, rfl, _, true, rfl, .inl ⟨⟨r.t, rfl⟩, rfl⟩, true, rfl, iteF ?_⟩
    refine ⟨_, rfl, t, _, 2, .str r.w, rfl, rfl, SqT.of ht, rfl, _, _, _, _, true, rfl, .ty _, .base (.str r.w), kit_ty (by decide +kernel), true, rfl, iteT ?_⟩
    refine ⟨_, rfl, t, _, 3, .str r.k, rfl, rfl, SqT.of ht, rfl, _, _, _, _, true, rfl, .ty _, .base (.str r.k), kit_ty (by decide +kernel), true, rfl, iteT ?_⟩
    exact ⟨_, rfl, t, _, 4, .str r.v, rfl, rfl, SqT.of ht, rfl, _, _, _, _, true, rfl, .ty _, .base (.str r.v), kit_ty (by decide +kernel), k⟩
theorem ok_changes {f : Addr} {fd : FuncData} (F : Fun K "_law_changes" "_law_changes" s_changes f fd) (T : LTxt mg) (D1 : Def P w K mg base "_law_change" 2 p_change spChange) : FnOk P w K mg base CX0 3 f fd p_changes (spChanges K) := by
  obtain ⟨fC, fdC, gC, kC, bC, GC⟩ := D1.ex
  refine F.ok sc_changes (fun vs H Q E h => ?_) (fun cdv A outer s H vs Q E hr h => ?_)
  · obtain ⟨f, d, ts, us, rs, rfl, _⟩ := h
    rfl
  · obtain ⟨fo, d, ts, us, rs, rfl, hf, hd, mf, md, ok, k⟩ := h
    have hu64 := hr.units
    refine ⟨_, pss_cons (ps_if (PW.pt (pw_or (pt_not (pt_val (pe_callB call_isi (by rfl) T.isi (by decide +kernel) (pa_cons (pv 0) (pa_cons (pe_bltn (v := V.ty "list") (by rfl) T.list (by decide +kernel) rfl) pa_nil)))))
          (pw_or1 (pt_cmpR op_ne (pe_callB call_len_seq (by rfl) T.len PySem.boot_len (pa_cons (pv 0) pa_nil)) (pe_callB call_len_seq (by rfl) T.len PySem.boot_len (pa_cons (pv 1) pa_nil)) (nomark _))))) (pss_one (ps_ret pe_bl)) pss_nil)
      (pss_cons (ps_for PassesOwn.never rfl (pi_list (pv 0)) (pg_name (i := 2) sc_changes.nd rfl (Or.inl rfl))
        (pss_one (ps_if (pt_not (pt_val (pe_call GC hr rfl gC kC bC .nil pass0 (pa_cons (pv 2) pa_nil)))) (pss_one (ps_ret pe_bl)) pss_nil)))
      (pss_cons (ps_set (i := 3) sc_changes.nd rfl (Or.inl rfl) (pe_cmpR (op_eqD hu64) (pv 0) (pv 1) (nomark _)))
      (pss_cons (ps_expr (pe_bm0 PySem.F.plainAttrs_list PySem.F.slot_list_clear PySem.F.type_list_clear mt_clear (pv 0)))
      (pss_one (ps_ret (pv 3)))))), ?_⟩
    refine ⟨_, rfl, _, _, _, _, true, rfl, .ty _, .base (.lst hf), kit_ty (by decide +kernel), true, rfl, iteF ?_⟩
    refine ⟨_, rfl, fo, _, rfl, .inl (SqL.of hf), _, rfl, d, _, rfl, .inl (SqL.of hd), rfl, _, rfl, iteNS (by rw [List.length_map, List.length_map, Paired.length mf, Paired.length md]) ?_⟩
    refine ⟨_, rfl, fo, rfl, ⟨_, SqL.of hf⟩, for_list (xs := ts.map V.ref) (fun i σ H' => H = H' ∧ ∃ y, σ = [some (.ref fo), some (.ref d), y, none]) ⟨rfl, none, rfl⟩ ?_ ?_ ?_⟩
    · rintro i σ H' _ ⟨rfl, _⟩
      exact SqL.of hf
    · rintro i x σ H' hx ⟨rfl, y, rfl⟩
      obtain ⟨t, r, rfl, _, ht⟩ := RowsAt.at mf hx
      exact ⟨_, rfl, t, r, rfl, ht, true, rfl, iteF ⟨rfl, _, rfl⟩⟩
    · rintro σ H' ⟨rfl, y, rfl⟩
      refine ⟨_, rfl, _, rfl, .list (rs.map Row.D), .list (rs.map Row.D), .lst (SqL.of hf) mf.dp, .lst (SqL.of hd) md.dp, rows_shaped ok, rows_shaped ok, ?_⟩
      rw [rows_eqv ok]
      exact ⟨_, rfl, .inl ⟨rfl, _, SqL.of hf⟩, fo, _, rfl, rfl, hf, _, rfl, k⟩
end
end KL

namespace KL
open PySem L2 L2H LX KB
/-! ### a law's plain helpers: pairs -/
def spPairs (K : PySem.W.Frag) : Sp := fun vs H Q _ => ∃ (f d : Addr) (ts us : List Addr) (ps : List (Str × Str)), vs = [.ref f, .ref d] ∧ H f = some (.lst (ts.map V.ref)) ∧ H d = some (.lst (us.map V.ref)) ∧ PairsAt H ts ps ∧ PairsAt H us ps ∧ (∀ r ∈ ps, PairOk r) ∧
  Q (.bl true) (upd H f (.lst []))
section
variable {P : Program} {w : World} {K : PySem.W.Frag} {mg : Str → Option Value} {base : Heap}
theorem ok_pairs {f : Addr} {fd : FuncData} (F : Fun K "_law_pairs" "_law_pairs" s_pairs f fd) (T : LTxt mg) : FnOk P w K mg base CX0 1 f fd p_pairs (spPairs K) := by
  refine F.ok sc_pairs (fun vs H Q E h => ?_) (fun cdv A outer s H vs Q E hr h => ?_)
  · obtain ⟨f, d, ts, us, ps, rfl, _⟩ := h
    rfl
  · obtain ⟨fo, d, ts, us, ps, rfl, hf, hd, mf, md, ok, k⟩ := h
    have hu64 := hr.units
    refine ⟨_, pss_cons (ps_if (PW.pt (pw_or (pt_not (pt_val (pe_callB call_isi (by rfl) T.isi (by decide +kernel) (pa_cons (pv 0) (pa_cons (pe_bltn (v := V.ty "list") (by rfl) T.list (by decide +kernel) rfl) pa_nil)))))
          (pw_or1 (pt_cmpR op_ne (pe_callB call_len_seq (by rfl) T.len PySem.boot_len (pa_cons (pv 0) pa_nil)) (pe_callB call_len_seq (by rfl) T.len PySem.boot_len (pa_cons (pv 1) pa_nil)) (nomark _))))) (pss_one (ps_ret pe_bl)) pss_nil)
      (pss_cons (ps_for PassesOwn.never rfl (pi_list (pv 0)) (pg_name (i := 2) sc_pairs.nd rfl (Or.inl rfl))
        (pss_cons (ps_if (PW.pt (pw_or (pt_not (pt_val (pe_callB call_isi (by rfl) T.isi (by decide +kernel) (pa_cons (pv 2) (pa_cons (pe_bltn (v := V.ty "tuple") (by rfl) T.tuple (by decide +kernel) rfl) pa_nil)))))
          (pw_or1 (pt_cmpR op_ne (pe_callB call_len_seq (by rfl) T.len PySem.boot_len (pa_cons (pv 2) pa_nil)) pe_int (nomark _))))) (pss_one (ps_ret pe_bl)) pss_nil)
        (pss_one (ps_if (PW.pt (pw_or (pt_not (pt_val (pe_callB call_isi (by rfl) T.isi (by decide +kernel) (pa_cons (pe_ix ix_tup (pv 2) pe_int (fun _ _ => rfl)) (pa_cons (pe_bltn (v := V.ty "str") (by rfl) T.str (by decide +kernel) rfl) pa_nil)))))
          (pw_or1 (pt_not (pt_val (pe_callB call_isi (by rfl) T.isi (by decide +kernel) (pa_cons (pe_ix ix_tup (pv 2) pe_int (fun _ _ => rfl)) (pa_cons (pe_bltn (v := V.ty "str") (by rfl) T.str (by decide +kernel) rfl) pa_nil)))))))) (pss_one (ps_ret pe_bl)) pss_nil))))
      (pss_cons (ps_set (i := 3) sc_pairs.nd rfl (Or.inl rfl) (pe_cmpR (op_eqD hu64) (pv 0) (pv 1) (nomark _)))
      (pss_cons (ps_expr (pe_bm0 PySem.F.plainAttrs_list PySem.F.slot_list_clear PySem.F.type_list_clear mt_clear (pv 0)))
      (pss_one (ps_ret (pv 3)))))), ?_⟩
    refine ⟨_, rfl, _, _, _, _, true, rfl, .ty _, .base (.lst hf), kit_ty (by decide +kernel), true, rfl, iteF ?_⟩
    refine ⟨_, rfl, fo, _, rfl, .inl (SqL.of hf), _, rfl, d, _, rfl, .inl (SqL.of hd), rfl, _, rfl, iteNS (by rw [List.length_map, List.length_map, Paired.length mf, Paired.length md]) ?_⟩
    refine ⟨_, rfl, fo, rfl, ⟨_, SqL.of hf⟩, for_list (xs := ts.map V.ref) (fun i σ H' => H = H' ∧ ∃ y, σ = [some (.ref fo), some (.ref d), y, none]) ⟨rfl, none, rfl⟩ ?_ ?_ ?_⟩
    · rintro i σ H' _ ⟨rfl, _⟩
      exact SqL.of hf
    · rintro i x σ H' hx ⟨rfl, y, rfl⟩
      obtain ⟨t, a, b, rfl, ht⟩ := PairsAt.at mf hx
      refine ⟨_, rfl, _, _, _, _, true, rfl, .ty _, .base (.tup ht), kit_ty (by decide +kernel), true, rfl, iteF ?_⟩
      refine ⟨_, rfl, t, _, rfl, .inr (SqT.of ht), rfl, _, rfl, iteNS rfl ?_⟩
      refine ⟨_, rfl, t, _, 0, .str a, rfl, rfl, SqT.of ht, rfl, _, _, _, _, true, rfl, .ty _, .base (.str a), kit_ty (by decide +kernel), true, rfl, iteF ?_⟩
      exact ⟨_, rfl, t, _, 1, .str b, rfl, rfl, SqT.of ht, rfl, _, _, _, _, true, rfl, .ty _, .base (.str b), kit_ty (by decide +kernel), true, rfl, iteF ⟨rfl, _, rfl⟩⟩
    · rintro σ H' ⟨rfl, y, rfl⟩
      refine ⟨_, rfl, _, rfl, .list (ps.map pairD), .list (ps.map pairD), .lst (SqL.of hf) mf.dp, .lst (SqL.of hd) md.dp, pairs_shaped ok, pairs_shaped ok, ?_⟩
      rw [pairs_eqv ok]
      exact ⟨_, rfl, .inl ⟨rfl, _, SqL.of hf⟩, fo, _, rfl, rfl, hf, _, rfl, k⟩
end
end KL

namespace KB
open PySem L2 L2H LX
/-! ### logs by themselves, as plain lists -/
/-- does a key begin with a prefix -/
def isPre (p k : Str) : Bool := decide (cutS k none (some (p.length : Int)) = p)
def wantedM (rs : List Row) (g : Nat) (p : Str) (b most : Int) : List Row := ((rs.drop g).filter fun r => decide (r.n > b) && isPre p r.k).take most.toNat
/-- what is forgotten when all up to u is -/
def goneM (len g : Nat) (u : Int) : Nat := max g (min u.toNat len)
theorem goneM_ge (len g : Nat) (u : Int) : g ≤ goneM len g u := Nat.le_max_left _ _
theorem goneM_le {len g : Nat} (u : Int) (h : g ≤ len) : goneM len g u ≤ len := Nat.max_le.mpr ⟨h, Nat.min_le_right _ _⟩
/-- numbered from 1 on -/
def Num (rs : List Row) : Prop := ∀ (i : Nat) (r : Row), rs[i]? = some r → r.n = (i : Int) + 1
theorem Num.nil : Num [] := fun i r h => by simp at h
theorem Num.snoc {rs : List Row} (h : Num rs) {r : Row} (e : r.n = (rs.length : Int) + 1) : Num (rs ++ [r]) := fun i x hx => by
  by_cases c : i < rs.length
  · rw [List.getElem?_append_left c] at hx
    exact h i x hx
  · rw [List.getElem?_append_right (by omega)] at hx
    have z : i - rs.length = 0 := by
      cases q : i - rs.length with
      | zero => rfl
      | succ n => rw [q] at hx; simp at hx
    rw [z] at hx
    cases hx
    rw [e]
    omega
theorem isPre_nil (k : Str) : isPre "" k = true := by
  unfold isPre
  refine decide_eq_true ?_
  refine TL.ext_tl ?_
  have e : TL.tl (cutS k none (some ((("" : Str).length : Nat) : Int))) = ((tl k).drop 0).take (HT.sIx k.length k.length (some (0 : Int)) - 0) := by
    show (cutS k none (some (0 : Int))).cps.toList = _
    unfold cutS
    exact List.toList_toArray
  rw [e]
  have z : HT.sIx k.length k.length (some (0 : Int)) = 0 := by
    have q := HT.sIx_nat k.length k.length 0
    rw [Nat.zero_min] at q
    exact q
  rw [z]
  rfl
theorem wantedM_all {rs : List Row} (h : Num rs) (g : Nat) {most : Int} (hm : (rs.length : Int) ≤ most) : wantedM rs g "" 0 most = rs.drop g := by
  unfold wantedM
  have e : (rs.drop g).filter (fun r => decide (r.n > 0) && isPre "" r.k) = rs.drop g := by
    refine List.filter_eq_self.mpr fun r hr => ?_
    obtain ⟨i, hi⟩ := List.mem_iff_getElem?.mp (List.mem_of_mem_drop hr)
    have := h i r hi
    rw [isPre_nil, Bool.and_true]
    exact decide_eq_true (by omega)
  rw [e]
  refine List.take_of_length_le ?_
  rw [List.length_drop]
  omega
theorem wantedM_ok {rs : List Row} (h : ∀ r ∈ rs, r.Ok) (g : Nat) (p : Str) (b m : Int) : ∀ r ∈ wantedM rs g p b m, r.Ok := fun r hr =>
  h r (List.mem_of_mem_drop (List.mem_filter.mp (List.mem_of_mem_take hr)).1)
theorem RowsAt.drop {H : Hp} : ∀ {ts : List Addr} {rs : List Row} (n : Nat), RowsAt H ts rs → RowsAt H (ts.drop n) (rs.drop n)
  | _, _, 0, m => m
  | _, _, n + 1, .nil => .nil
  | _, _, n + 1, .cons r m => RowsAt.drop n m
theorem RowsAt.take {H : Hp} : ∀ {ts : List Addr} {rs : List Row} (n : Nat), RowsAt H ts rs → RowsAt H (ts.take n) (rs.take n)
  | _, _, 0, m => .nil
  | _, _, n + 1, .nil => .nil
  | _, _, n + 1, .cons r m => .cons r (RowsAt.take n m)
theorem RowsAt.last {H : Hp} {ts : List Addr} {rs : List Row} (m : RowsAt H ts rs) (h : 0 < rs.length) : ∃ t r, atI (ts.map V.ref) (-1) = some (V.ref t) ∧ H t = some (.tup r.V) ∧ rs[rs.length - 1]? = some r := by
  have hl := Paired.length m
  rcases List.eq_nil_or_concat ts with e | ⟨l, b, e⟩
  · subst e
    simp only [List.length_nil] at hl
    omega
  · have ha : atI (ts.map V.ref) (-1) = some (V.ref b) := by
      have q := atI_last (l.map V.ref) (V.ref b)
      rw [e]
      simpa using q
    have hx : (ts.map V.ref)[rs.length - 1]? = some (V.ref b) := by
      have e2 : rs.length - 1 = l.length := by
        rw [← hl, e]
        simp
      rw [e2, e]
      simp
    obtain ⟨t, r, et, er, ht⟩ := RowsAt.at m hx
    cases et
    exact ⟨b, r, ha, ht, er⟩
theorem cutV_from (xs : List V) {g : Nat} (h : g ≤ xs.length) : cutV xs (some (g : Int)) none = xs.drop g := by
  unfold cutV
  rw [HT.sIx_none, HT.sIx_nat, Nat.min_eq_left h]
  refine List.take_of_length_le ?_
  rw [List.length_drop]
  exact Nat.le_refl _
theorem cutV_upto (xs : List V) {m : Int} (h : 0 ≤ m) : cutV xs none (some m) = xs.take m.toNat := by
  obtain ⟨j, rfl⟩ := Int.eq_ofNat_of_zero_le h
  unfold cutV
  rw [HT.sIx_none]
  have e : HT.sIx xs.length xs.length (some ((j : Nat) : Int)) = min j xs.length := HT.sIx_nat _ _ _
  show (xs.drop 0).take (HT.sIx xs.length xs.length (some ((j : Nat) : Int)) - 0) = _
  rw [e, List.drop_zero, Nat.sub_zero, Int.toNat_natCast]
  by_cases c : j ≤ xs.length
  · rw [Nat.min_eq_left c]
  · rw [Nat.min_eq_right (by omega), List.take_length, List.take_of_length_le (by omega)]
/-! ### what stands by a log, whatever it is made of -/
/-- F' holds what F held and new ones -/
def Grow (F F' : List Addr) (H : Hp) : Prop := ∀ a ∈ F', a ∈ F ∨ H a = none
theorem Grow.refl (F : List Addr) (H : Hp) : Grow F F H := fun _ h => .inl h
theorem Grow.apart {F F' S : List Addr} {H : Hp} (g : Grow F F' H) (d : ∀ a ∈ F, a ∉ S) (s : ∀ a ∈ S, ∃ o, H a = some o) : ∀ a ∈ F', a ∉ S := fun a ha m => by
  rcases g a ha with h | h
  · exact d a h m
  · obtain ⟨o, e⟩ := s a m
    rw [h] at e
    cases e
theorem Grow.apart2 {F F' S : List Addr} {H : Hp} (g : Grow F F' H) (d : ∀ a ∈ S, a ∉ F) (s : ∀ a ∈ S, ∃ o, H a = some o) : ∀ a ∈ S, a ∉ F' := fun a ha m => by
  rcases g a m with h | h
  · exact d a ha h
  · obtain ⟨o, e⟩ := s a ha
    rw [h] at e
    cases e
theorem Grow.trans {F F1 F2 : List Addr} {H H1 : Hp} (a : Grow F F1 H) (b : Grow F1 F2 H1) (k : ∀ x, H1 x = none → H x = none) : Grow F F2 H := fun x hx => by
  rcases b x hx with h | h
  · exact a x h
  · exact .inr (k x h)
theorem Ch.seq {F F1 : List Addr} {H H1 H2 : Hp} (a : Ch H H1 F) (g : Grow F F1 H) (b : Ch H1 H2 F1) : Ch H H2 F := by
  refine ⟨fun x o e n => b.st x o (a.st x o e n) (n.imp (fun z y => ?_) id), fun x o e => let ⟨_, z⟩ := a.th x o e; b.th _ _ z⟩
  rcases g x y with h | h
  · exact z h
  · rw [e] at h
    cases h
def spLogInit (C : Addr) (Lg : List Addr → Hp → Addr → List Row → Nat → Prop) : Sp := fun vs H Q _ => ∃ (p dx : Addr), vs = [.ref p] ∧ H p = some (.ins C dx []) ∧
  ∀ F H', Lg F H' p [] 0 → (∀ a ∈ F, a = p ∨ H a = none) → Ch H H' [p] → Q .non H'
def spLogNote (Lg : List Addr → Hp → Addr → List Row → Nat → Prop) : Sp := fun vs H Q _ => ∃ (F : List Addr) (p : Addr) (t : Int) (w k v : Str) (rs : List Row) (g : Nat), vs = [.ref p, .int t, .str w, .str k, .str v] ∧ Lg F H p rs g ∧ rs.length ≤ 100000 ∧ (Row.mk 0 t w k v).Ok ∧
  ∀ F' H', Lg F' H' p (rs ++ [⟨(rs.length : Int) + 1, t, w, k, v⟩]) g → Grow F F' H → Ch H H' F → Q (.int ((rs.length : Int) + 1)) H'
def spLogLast (Lg : List Addr → Hp → Addr → List Row → Nat → Prop) : Sp := fun vs H Q _ => ∃ (F : List Addr) (p : Addr) (rs : List Row) (g : Nat), vs = [.ref p] ∧ Lg F H p rs g ∧
  ∀ F' H', Lg F' H' p rs g → Grow F F' H → Ch H H' F → Q (.int rs.length) H'
def spLogFirst (Lg : List Addr → Hp → Addr → List Row → Nat → Prop) : Sp := fun vs H Q _ => ∃ (F : List Addr) (p : Addr) (rs : List Row) (g : Nat), vs = [.ref p] ∧ Lg F H p rs g ∧
  ∀ F' H', Lg F' H' p rs g → Grow F F' H → Ch H H' F → Q (.int ((g : Int) + 1)) H'
def spLogWanted (Lg : List Addr → Hp → Addr → List Row → Nat → Prop) : Sp := fun vs H Q _ => ∃ (F : List Addr) (p : Addr) (z : Str) (b m : Int) (rs : List Row) (g : Nat), vs = [.ref p, .str z, .int b, .int m] ∧ Lg F H p rs g ∧ TOk 60 z ∧ 0 ≤ m ∧ b ≤ 100000 ∧ rs.length ≤ 900 ∧
  ∀ F' q ts H', Lg F' H' p rs g → Grow F F' H → Ch H H' F → H q = none → q ∉ F' → H' q = some (.lst (ts.map V.ref)) → RowsAt H' ts (wantedM rs g z b m) → Q (.ref q) H'
def spLogForget (Lg : List Addr → Hp → Addr → List Row → Nat → Prop) : Sp := fun vs H Q _ => ∃ (F : List Addr) (p : Addr) (u : Int) (rs : List Row) (g : Nat), vs = [.ref p, .int u] ∧ Lg F H p rs g ∧ rs.length ≤ 900 ∧
  ∀ F' H', Lg F' H' p rs (goneM rs.length g u) → Grow F F' H → Ch H H' F → Q (.int ((goneM rs.length g u : Int) - g)) H'
/-- a method as its callers see it -/
structure MDef (P : Program) (w : World) (K : PySem.W.Frag) (mg : Str → Option Value) (base : Heap) (C : Addr) (m : Str) (CX : CXT) (k : Nat) (sp : Sp) : Prop where
  ex : ∃ f fd ps, Meth K C m f ∧ Binds K fd ps [] ∧ FnOk P w K mg base CX k f fd ps sp
structure LogApi (P : Program) (w : World) (K : PySem.W.Frag) (mg : Str → Option Value) (base : Heap) (C : Addr) (Lg : List Addr → Hp → Addr → List Row → Nat → Prop) : Prop where
  frame : ∀ {F H H' p rs g l}, Lg F H p rs g → Ch H H' l → (∀ a ∈ F, a ∉ l) → Lg F H' p rs g
  own : ∀ {F H p rs g}, Lg F H p rs g → ∀ a ∈ F, ∃ o, H a = some o
  inst : ∀ {F H p rs g}, Lg F H p rs g → p ∈ F ∧ ∃ dx fs, H p = some (.ins C dx fs) ∧ ∀ m ∈ ([("note" : Str), "last", "first", "wanted", "forget"] : List Str), fs.lookup m = none
  le : ∀ {F H p rs g}, Lg F H p rs g → g ≤ rs.length
  make : ∃ f fd ps, Mk K C f ∧ Binds K fd ps [] ∧ FnOk P w K mg base CX0 2 f fd ps (spLogInit C Lg)
  note : MDef P w K mg base C "note" CX0 2 (spLogNote Lg)
  last : MDef P w K mg base C "last" CX0 2 (spLogLast Lg)
  first : MDef P w K mg base C "first" CX0 2 (spLogFirst Lg)
  wanted : MDef P w K mg base C "wanted" CX0 3 (spLogWanted Lg)
  forget : MDef P w K mg base C "forget" CX0 3 (spLogForget Lg)
end KB

/-! sorted of texts, any number of them; the order of texts; tables of texts -/
namespace LX
open PySem PySem.Spec PyProof.Rows L2 L2H
section
variable {X : Cx}
def rSortedSL (K : PySem.W.Frag) : List V → Hp → VK → Prop := fun vs H Q => ∃ (a : Addr) (xs : List Str), vs = [V.ref a] ∧ SqL K H a (xs.map V.str) ∧
  ∀ (ys : List Str) (p : Addr), ys.Perm xs → sortedS ys = true → H p = none → Q (.ref p) (upd H p (.lst (ys.map V.str)))
theorem cr_sortedSL : CallR X (.builtin "sorted") (rSortedSL X.K) := by
  intro pins s σ H vs us Q I r h
  obtain ⟨a, xs, rfl, hs, q⟩ := h
  obtain ⟨its, rv, hl, hz⟩ := I.list hs
  rw [Vals.ref1 r]
  have hlen0 := rv.length
  refine PyProof.Rows.sorted_strsAny hl.isList rv.strs (by rw [← hlen0]; exact hz) fun out ys h1 h2 h3 => ?_
  obtain ⟨ep, he'⟩ := PyProof.Rows.sortedAll_at s.heap its out
  have hlen : (ys.map V.str).length ≤ sizeLine := by
    rw [List.length_map] at hz ⊢
    rw [h2.length_eq]
    exact hz
  exact ⟨.ref _, upd H (s.heap.objs.size + 1) (.lst (ys.map V.str)), I.laid (t' := s.toks) (fun _ _ => PyProof.Rows.sortedAll_old) (Nat.le_succ _) ⟨hlen, out.toList, ep, vals_of_strs h1, he'⟩, rfl, q ys _ h2 h3 (I.hok.fresh (Nat.le_succ _))⟩
def rSortedDL : List V → Hp → VK → Prop := fun xs H Q => ∃ (a : Addr) (kvs : List (Key × V)) (ks : List Str), xs = [.ref a] ∧ Rd H a (.dK kvs) ∧ kvs.map (·.1) = ks.map Sum.inr ∧
    ∀ ys p, ys.Perm ks → sortedS ys = true → H p = none → Q (.ref p) (upd H p (.lst (ys.map V.str)))
theorem cr_sortedDL (hcalm : X.calm = true) : CallR X (.builtin "sorted") rSortedDL := by
  intro pins s σ H xs us Q I r q
  obtain ⟨a, kvs, ks, ex, hd, hks, q⟩ := q
  subst ex
  obtain ⟨u, eu, rx⟩ := vals1 r
  subst eu
  cases rx
  obtain ⟨z, lo, vs, rel, dd⟩ := dk_rd I.hok hd
  obtain ⟨ep, hat⟩ := dd.dictAt
  have hkeys : vs.map (·.1) = ks.map Sum.inr := rel.keys.symm.trans hks
  have hl : vs.length = ks.length := by
    have e := congrArg List.length hkeys
    rw [List.length_map, List.length_map] at e
    exact e
  have hkl : kvs.length = vs.length := by
    have e := congrArg List.length rel.keys
    rw [List.length_map, List.length_map] at e
    exact e
  have h16 : vs.length ≤ sizeLine := by rw [← hkl]; exact z
  refine Calls.call_function_entry PyProof.Rows.kind_sorted PyProof.Rows.plain_sorted PyProof.Rows.entry_sorted (PyProof.Rows.args_sorted1 _) ?_
  unfold Builtin.«sorted»
  refine wpAny_bind (m := checkCount "sorted" 1 1 _) (wpAny_pure ?_)
  refine wpAny_bind (PySem.W.kdu_collect (A := X.A.in1) (PySem.W.kdl_dict (knd := mixKind X.prog X.w) (kvs := vs) (ep := ep) lo) (I.ok.hd hcalm) hat h16 fun h' tk acc hk hacc => ?_)
  have hal : acc.toList.length = ks.length := by rw [Array.length_toList, hacc.1, hl]
  have hS : StrsAre acc.toList ks := strs_at hal fun j v e => by
    obtain ⟨k, x, e1, e2⟩ := hacc.2 j v (by rw [← Array.getElem?_toList]; exact e)
    have e3 : (vs.map (·.1))[j]? = some k := by rw [List.getElem?_map, e1]; all_goals rfl
    rw [hkeys, List.getElem?_map] at e3
    cases e4 : ks[j]? with
    | none => rw [e4] at e3; cases e3
    | some y =>
      rw [e4] at e3
      have e5 : Sum.inr y = k := Option.some.inj e3
      subst e5
      obtain ⟨t, ev⟩ := Value.isStrOf_shape (x := y) (v := v) e2
      exact ⟨y, t, rfl, ev⟩
  have I1 : Inv X pins σ H { s with heap := h', toks := tk } := I.kept hk
  refine wpAny_bind (wpAny_newList ?_ (by rw [hal, ← hl]; exact h16))
  have hoL : (h'.push (seqObj "list" acc.toList.toArray 0)).get? h'.objs.size = some (seqObj "list" acc.toList.toArray 0) := Heap.get?_push_size _ rfl
  show wpAny _ _ _ _ _ { s with heap := h'.push (seqObj "list" acc.toList.toArray 0), toks := tk }
  refine wpAny_bind (wpAny_holding (wpAny_call_entry PyProof.Rows.slot_list_sort ⟨_, hoL, rfl⟩ PyProof.Rows.entry_list_sort
    (list_sort_treeKAny strKind_oneLt (s := { s with heap := h'.push (seqObj "list" acc.toList.toArray 0), toks := tk }) hoL hS.keysOf (fun v₁ v₂ rest e => keyKind_strs (by rw [← e]; exact hS)) (by rw [hal, ← hl]; exact h16) fun st' hp hs => ⟨_, rfl, ?_⟩)
    (PyProof.Rows.args_list_sort _)))
  obtain ⟨ys, g1, g2, g3⟩ := sorted_out_str hS hp hs
  obtain ⟨e', he'⟩ := PyProof.Rows.sortedHeap_at (vs := acc.toList) (out := (arrOf st').map (·.2)) hoL
  have hlen : (ys.map V.str).length ≤ sizeLine := by
    rw [List.length_map, g2.length_eq, ← hl]
    exact h16
  refine wpAny_pure ⟨_, rfl, .ref h'.objs.size, upd H h'.objs.size (.lst (ys.map V.str)), I1.laid (t' := tk) (fun b u e => ?_) (Nat.le_refl _)
    (show ObjOk X.prog X.w _ _ _ (.lst (ys.map V.str)) from ⟨hlen, ((arrOf st').map (·.2)).toList, e', vals_of_strs g1, by rw [Array.toArray_toList]; exact he'⟩), rfl, q ys _ g2 g3 (I1.hok.fresh (Nat.le_refl _))⟩
  have hb : b < h'.objs.size := Heap.lt_size e
  rw [PyProof.Rows.sortedHeap_old (Nat.ne_of_lt hb) (by rw [size_push']; exact Nat.lt_succ_of_lt hb)]
  exact Heap.get?_push_of_some _ e
end
end LX
namespace KB
open PySem L2 L2H LX
/-! ### the order of texts -/
abbrev ltS (x y : Str) : Prop := tl x < tl y
abbrev leS (x y : Str) : Prop := PySem.Spec.ltCps y.cps.toList x.cps.toList = false
theorem leS_iff {x y : Str} : leS x y ↔ ¬ tl y < tl x := by
  unfold leS
  rw [PyProof.Rows.ltCps_eq, decide_eq_false_iff_not]
theorem leS_refl (x : Str) : leS x x := leS_iff.mpr (List.lt_irrefl _)
theorem leS_trans {x y z : Str} (a : leS x y) (b : leS y z) : leS x z := by
  rw [leS_iff] at a b ⊢
  exact List.not_lt.mpr (List.le_trans (List.not_lt.mp a) (List.not_lt.mp b))
theorem leS_antisymm {x y : Str} (a : leS x y) (b : leS y x) : x = y := by
  rw [leS_iff] at a b
  exact TL.ext_tl (List.le_antisymm (List.not_lt.mp a) (List.not_lt.mp b))
theorem rising_pw : ∀ (p : Str) (l : List Str), PyProof.Rows.risingS p l = true → (p :: l).Pairwise leS
  | p, [], _ => List.pairwise_singleton _ _
  | p, x :: r, h => by
    unfold PyProof.Rows.risingS at h
    rw [Bool.and_eq_true, Bool.not_eq_true'] at h
    have q := rising_pw x r h.2
    refine List.pairwise_cons.mpr ⟨fun y hy => ?_, q⟩
    rcases List.mem_cons.mp hy with e | hy
    · rw [e]; exact h.1
    · exact leS_trans h.1 ((List.pairwise_cons.mp q).1 y hy)
theorem sortedS_pw {l : List Str} (h : PyProof.Rows.sortedS l = true) : l.Pairwise leS := by
  cases l with
  | nil => exact .nil
  | cons x r => exact rising_pw x r h
theorem pw_uniq : ∀ {l m : List Str}, l.Pairwise leS → m.Pairwise leS → l.Perm m → l = m
  | [], m, _, _, h => (List.Perm.eq_nil h.symm).symm
  | x :: l, [], _, _, h => absurd h.length_eq (by simp)
  | x :: l, y :: m, a, b, h => by
    have h1 : leS y x := by
      rcases List.mem_cons.mp (h.mem_iff.mp (List.mem_cons_self (a := x) (l := l))) with e | hx
      · rw [e]; exact leS_refl y
      · exact (List.pairwise_cons.mp b).1 x hx
    have h2 : leS x y := by
      rcases List.mem_cons.mp (h.mem_iff.mpr (List.mem_cons_self (a := y) (l := m))) with e | hx
      · rw [e]; exact leS_refl x
      · exact (List.pairwise_cons.mp a).1 y hx
    have e := leS_antisymm h2 h1
    subst e
    rw [pw_uniq (List.pairwise_cons.mp a).2 (List.pairwise_cons.mp b).2 h.cons_inv]
theorem sortedS_uniq {l m : List Str} (a : PyProof.Rows.sortedS l = true) (b : PyProof.Rows.sortedS m = true) (h : l.Perm m) : l = m := pw_uniq (sortedS_pw a) (sortedS_pw b) h
/-! ### tables of texts -/
abbrev KVs := List (Str × Str)
def getP (d : KVs) (k : Str) : Option Str := (d.find? fun p => decide (p.1 = k)).map (·.2)
def putP (d : KVs) (k v : Str) : KVs := if (d.any fun p => decide (p.1 = k)) = true then d.map (fun p => if p.1 = k then (p.1, v) else p) else d ++ [(k, v)]
def dropP (d : KVs) (k : Str) : KVs := d.filter fun p => decide (p.1 ≠ k)
def dV (d : KVs) : List (Key × V) := d.map fun p => ((Sum.inr p.1 : Key), V.str p.2)
theorem inrD (a b : Str) : decide ((Sum.inr a : Key) = Sum.inr b) = decide (a = b) := by
  by_cases e : a = b
  · rw [decide_eq_true e, decide_eq_true (congrArg Sum.inr e)]
  · rw [decide_eq_false e, decide_eq_false fun z => e (Sum.inr.inj z)]
theorem valV_dV (d : KVs) (k : Str) : valV (dV d) (Sum.inr k) = (getP d k).map V.str := by
  induction d with
  | nil => rfl
  | cons p r ih =>
    by_cases e : p.1 = k
    · show valV ((Sum.inr p.1, V.str p.2) :: dV r) (Sum.inr k) = _
      rw [valV_pos (by exact congrArg Sum.inr e)]
      unfold getP
      rw [List.find?_cons_of_pos (by exact decide_eq_true e)]
      rfl
    · show valV ((Sum.inr p.1, V.str p.2) :: dV r) (Sum.inr k) = _
      rw [valV_neg (by exact fun z => e (Sum.inr.inj z)), ih]
      unfold getP
      rw [List.find?_cons_of_neg (by rw [decide_eq_false e]; decide)]
theorem any_dV (d : KVs) (k : Str) : ((dV d).any fun kv => decide (kv.1 = Sum.inr k)) = d.any fun p => decide (p.1 = k) := by
  unfold dV
  rw [List.any_map]
  congr 1
  funext p
  exact inrD p.1 k
theorem putK_dV (d : KVs) (k v : Str) : putK (dV d) (Sum.inr k) (.str v) = dV (putP d k v) := by
  unfold putK putP
  rw [any_dV]
  by_cases e : (d.any fun p => decide (p.1 = k)) = true
  · rw [if_pos e, if_pos e]
    unfold dV
    rw [List.map_map, List.map_map]
    refine List.map_congr_left fun p _ => ?_
    show (if (Sum.inr p.1 : Key) = Sum.inr k then _ else _) = _
    by_cases z : p.1 = k
    · rw [if_pos (congrArg Sum.inr z)]
      simp only [Function.comp_apply, if_pos z]
    · rw [if_neg fun y => z (Sum.inr.inj y)]
      simp only [Function.comp_apply, if_neg z]
  · rw [if_neg e, if_neg e]
    unfold dV
    rw [List.map_append]
    rfl
theorem dropK_dV (d : KVs) (k : Str) : dropK (dV d) (Sum.inr k) = dV (dropP d k) := by
  unfold dropK dropP dV
  rw [List.filter_map]
  congr 1
  refine List.filter_congr fun p _ => ?_
  show decide ((Sum.inr p.1 : Key) ≠ Sum.inr k) = decide (p.1 ≠ k)
  refine decide_eq_decide.mpr (not_congr ⟨fun y => Sum.inr.inj y, fun y => congrArg Sum.inr y⟩)
theorem keys_dV (d : KVs) : (dV d).map (·.1) = (d.map (·.1)).map Sum.inr := by
  unfold dV
  rw [List.map_map, List.map_map]
  rfl
theorem getP_any (d : KVs) (k : Str) : (d.any fun p => decide (p.1 = k)) = (getP d k).isSome := by
  induction d with
  | nil => rfl
  | cons p r ih =>
    rw [List.any_cons]
    unfold getP
    by_cases e : p.1 = k
    · rw [List.find?_cons_of_pos (by exact decide_eq_true e), decide_eq_true e]; rfl
    · rw [List.find?_cons_of_neg (by rw [decide_eq_false e]; decide), decide_eq_false e, Bool.false_or, ih]; rfl
theorem getP_none {d : KVs} {k : Str} : getP d k = none ↔ k ∉ d.map (·.1) := by
  rw [← Option.not_isSome_iff_eq_none, ← getP_any, List.any_eq_true]
  constructor
  · intro h m
    obtain ⟨p, hp, e⟩ := List.mem_map.mp m
    exact h ⟨p, hp, decide_eq_true e⟩
  · rintro h ⟨p, hp, e⟩
    exact h (List.mem_map.mpr ⟨p, hp, of_decide_eq_true e⟩)
theorem getP_mem {d : KVs} {k v : Str} (h : getP d k = some v) : (k, v) ∈ d := by
  unfold getP at h
  cases e : d.find? (fun p => decide (p.1 = k)) with
  | none => rw [e] at h; cases h
  | some p =>
    rw [e] at h
    have h1 : p.2 = v := Option.some.inj h
    have h2 : p.1 = k := of_decide_eq_true (List.find?_some (p := fun p : Str × Str => decide (p.1 = k)) e)
    have h3 := List.mem_of_find?_eq_some e
    rw [← h1, ← h2]
    exact h3
theorem getP_of {d : KVs} (n : (d.map (·.1)).Nodup) {p : Str × Str} (h : p ∈ d) : getP d p.1 = some p.2 := by
  induction d with
  | nil => cases h
  | cons q r ih =>
    rw [List.map_cons, List.nodup_cons] at n
    unfold getP
    rcases List.mem_cons.mp h with e | h
    · subst e
      rw [List.find?_cons_of_pos (by exact decide_eq_true rfl)]; rfl
    · have ne : ¬ q.1 = p.1 := fun z => n.1 (z ▸ List.mem_map.mpr ⟨p, h, rfl⟩)
      rw [List.find?_cons_of_neg (by rw [decide_eq_false ne]; decide)]
      exact ih n.2 h
theorem keys_putP_old {d : KVs} {k v : Str} (h : (d.any fun p => decide (p.1 = k)) = true) : (putP d k v).map (·.1) = d.map (·.1) := by
  unfold putP
  rw [if_pos h, List.map_map]
  refine List.map_congr_left fun p _ => ?_
  by_cases z : p.1 = k
  · simp only [Function.comp_apply, if_pos z]
  · simp only [Function.comp_apply, if_neg z]
theorem putP_nodup {d : KVs} {k v : Str} (n : (d.map (·.1)).Nodup) : ((putP d k v).map (·.1)).Nodup := by
  by_cases h : (d.any fun p => decide (p.1 = k)) = true
  · rw [keys_putP_old h]; exact n
  · unfold putP
    rw [if_neg h, List.map_append, List.map_cons, List.map_nil]
    have nk : k ∉ d.map (·.1) := by
      rw [← getP_none, ← Option.not_isSome_iff_eq_none, ← getP_any]
      exact h
    refine List.nodup_append.mpr ⟨n, List.nodup_cons.mpr ⟨fun z => (nomatch z), List.nodup_nil⟩, fun a ha b hb z => nk ?_⟩
    have z2 : a = k := z.trans (List.mem_singleton.mp hb)
    rw [← z2]
    exact ha
theorem putP_len (d : KVs) (k v : Str) : (putP d k v).length ≤ d.length + 1 := by
  unfold putP
  split
  · rw [List.length_map]; exact Nat.le_succ _
  · rw [List.length_append]; exact Nat.le_refl _
theorem dropP_len (d : KVs) (k : Str) : (dropP d k).length ≤ d.length := List.length_filter_le _ _
theorem dropP_nodup {d : KVs} {k : Str} (n : (d.map (·.1)).Nodup) : ((dropP d k).map (·.1)).Nodup := n.sublist (List.Sublist.map _ List.filter_sublist)
theorem getP_putP (d : KVs) (k v j : Str) : getP (putP d k v) j = if k = j then some v else getP d j := by
  unfold putP
  by_cases h : (d.any fun p => decide (p.1 = k)) = true
  · rw [if_pos h]
    induction d with
    | nil => cases h
    | cons p r ih =>
      rw [List.map_cons]
      unfold getP
      by_cases z : p.1 = k
      · rw [if_pos z]
        by_cases e : k = j
        · rw [if_pos e, List.find?_cons_of_pos (by exact decide_eq_true (z.trans e))]; rfl
        · have e' : ¬ p.1 = j := fun y => e (z.symm.trans y)
          rw [if_neg e, List.find?_cons_of_neg (by rw [decide_eq_false e']; decide), List.find?_cons_of_neg (by rw [decide_eq_false e']; decide)]
          by_cases h' : (r.any fun p => decide (p.1 = k)) = true
          · have := ih h'
            rw [if_neg e] at this
            exact this
          · have : r.map (fun p => if p.1 = k then (p.1, v) else p) = r := by
              refine (List.map_congr_left fun q hq => ?_).trans (List.map_id r)
              rw [if_neg fun y => h' (List.any_eq_true.mpr ⟨q, hq, decide_eq_true y⟩)]
              rfl
            rw [this]
      · rw [if_neg z]
        have h' : (r.any fun p => decide (p.1 = k)) = true := by
          rw [List.any_cons, decide_eq_false z, Bool.false_or] at h
          exact h
        by_cases e : p.1 = j
        · rw [List.find?_cons_of_pos (by exact decide_eq_true e), List.find?_cons_of_pos (by exact decide_eq_true e), if_neg fun y => z (e.trans y.symm)]
        · rw [List.find?_cons_of_neg (by rw [decide_eq_false e]; decide), List.find?_cons_of_neg (by rw [decide_eq_false e]; decide)]
          exact ih h'
  · rw [if_neg h]
    induction d with
    | nil =>
      show getP [(k, v)] j = _
      unfold getP
      by_cases e : k = j
      · rw [if_pos e, List.find?_cons_of_pos (by exact decide_eq_true e)]; rfl
      · rw [if_neg e, List.find?_cons_of_neg (by rw [decide_eq_false e]; decide)]
    | cons p r ih =>
      have h2 := h
      rw [List.any_cons, Bool.or_eq_true, not_or] at h2
      have z : ¬ p.1 = k := fun y => h2.1 (decide_eq_true y)
      rw [List.cons_append]
      unfold getP
      by_cases e : p.1 = j
      · rw [List.find?_cons_of_pos (by exact decide_eq_true e), List.find?_cons_of_pos (by exact decide_eq_true e), if_neg fun y => z (e.trans y.symm)]
      · rw [List.find?_cons_of_neg (by rw [decide_eq_false e]; decide), List.find?_cons_of_neg (by rw [decide_eq_false e]; decide)]
        exact ih h2.2
theorem getP_dropP (d : KVs) (k j : Str) : getP (dropP d k) j = if k = j then none else getP d j := by
  induction d with
  | nil => split <;> rfl
  | cons p r ih =>
    unfold dropP at ih ⊢
    by_cases z : p.1 = k
    · rw [List.filter_cons_of_neg (by simp [z]), ih]
      by_cases e : k = j
      · rw [if_pos e, if_pos e]
      · rw [if_neg e, if_neg e]
        unfold getP
        rw [List.find?_cons_of_neg (by rw [decide_eq_false fun y => e (z.symm.trans y)]; decide)]
    · rw [List.filter_cons_of_pos (by simp [z])]
      unfold getP at ih ⊢
      by_cases e : p.1 = j
      · rw [List.find?_cons_of_pos (by exact decide_eq_true e), List.find?_cons_of_pos (by exact decide_eq_true e), if_neg fun y => z (e.trans y.symm)]
      · rw [List.find?_cons_of_neg (by rw [decide_eq_false e]; decide), List.find?_cons_of_neg (by rw [decide_eq_false e]; decide)]
        exact ih
/-- just what f tells, in the keys' order -/
structure Told (f : Str → Option Str) (ps : KVs) : Prop where
  srt : PyProof.Rows.sortedS (ps.map (·.1)) = true
  nd : (ps.map (·.1)).Nodup
  get : ∀ k, getP ps k = f k
theorem Told.uniq {f : Str → Option Str} {ps qs : KVs} (a : Told f ps) (b : Told f qs) : ps = qs := by
  have pe : (ps.map (·.1)).Perm (qs.map (·.1)) := by
    refine (List.perm_ext_iff_of_nodup a.nd b.nd).mpr fun k => ?_
    have h1 := getP_none (d := ps) (k := k)
    have h2 := getP_none (d := qs) (k := k)
    rw [a.get] at h1
    rw [b.get] at h2
    exact Decidable.not_iff_not.mp (h1.symm.trans h2)
  have ke := sortedS_uniq a.srt b.srt pe
  have self : ∀ {xs : KVs}, Told f xs → xs = (xs.map (·.1)).map fun k => (k, (f k).getD "") := fun {xs} t => by
    rw [List.map_map]
    refine (List.map_id xs).symm.trans (List.map_congr_left fun p hp => ?_)
    have g := getP_of t.nd hp
    rw [t.get] at g
    show p = (p.1, (f p.1).getD "")
    rw [g]
    rfl
  rw [self a, self b, ke]
/-- sorted keys of a table, each with what it holds -/
theorem told_of {d : KVs} (n : (d.map (·.1)).Nodup) {ys : List Str} (p : ys.Perm (d.map (·.1))) (s : PyProof.Rows.sortedS ys = true) : Told (getP d) (ys.map fun k => (k, (getP d k).getD "")) := by
  have e : (ys.map fun k => (k, (getP d k).getD "")).map (·.1) = ys := by
    rw [List.map_map]
    exact (List.map_congr_left fun _ _ => rfl).trans (List.map_id ys)
  have nd := p.nodup_iff.mpr n
  refine ⟨by rw [e]; exact s, by rw [e]; exact nd, fun k => ?_⟩
  by_cases h : k ∈ ys
  · have := getP_of (d := ys.map fun k => (k, (getP d k).getD "")) (by rw [e]; exact nd) (List.mem_map.mpr ⟨k, h, rfl⟩)
    rw [this]
    cases g : getP d k with
    | some v => rfl
    | none => exact absurd (p.mem_iff.mp h) (getP_none.mp g)
  · rw [getP_none.mpr (by rw [e]; exact h), getP_none.mpr fun z => h (p.mem_iff.mpr z)]
end KB

namespace KB
open PySem L2 L2H LX
/-! ### ears by themselves, as plain lists -/
structure GoodR (r : Row) : Prop where
  ok : r.Ok
  wd : r.w = "put" ∨ r.w = "cut"
/-- the number of the last that was taken in -/
def lastN (b : Int) (tk : List Row) : Int := match tk.getLast? with
  | some r => r.n
  | none => b - 1
def takeM (b : Int) (tk : List Row) : List Row → List Row
  | [] => tk
  | r :: rs => takeM b (if r.n > lastN b tk then tk ++ [r] else tk) rs
def stepM (f : Str → Option Str) (r : Row) : Str → Option Str := fun k => if r.k = k then (if r.w = "put" then some r.v else none) else f k
def holdM (gv : KVs) (tk : List Row) : Str → Option Str := tk.foldl stepM (getP gv)
theorem lastN_snoc (b : Int) (tk : List Row) (r : Row) : lastN b (tk ++ [r]) = r.n := by
  unfold lastN
  rw [List.getLast?_concat]
theorem takeM_len (b : Int) : ∀ (rs tk : List Row), (takeM b tk rs).length ≤ tk.length + rs.length
  | [], tk => Nat.le_refl _
  | r :: rs, tk => by
    unfold takeM
    refine Nat.le_trans (takeM_len b rs _) ?_
    split
    · rw [List.length_append, List.length_cons, List.length_cons, List.length_nil]; omega
    · rw [List.length_cons]; omega
theorem takeM_good {b : Int} : ∀ {rs tk : List Row}, (∀ r ∈ tk, GoodR r) → (∀ r ∈ rs, GoodR r) → ∀ r ∈ takeM b tk rs, GoodR r
  | [], tk, h, _ => h
  | r :: rs, tk, h, g => by
    unfold takeM
    refine takeM_good (rs := rs) ?_ (fun x hx => g x (List.mem_cons_of_mem _ hx))
    split
    · intro x hx
      rcases List.mem_append.mp hx with hx | hx
      · exact h x hx
      · rw [List.mem_singleton.mp hx]; exact g r List.mem_cons_self
    · exact h
theorem takeM_app (b : Int) : ∀ (rs tk ss : List Row), takeM b tk (rs ++ ss) = takeM b (takeM b tk rs) ss
  | [], tk, ss => rfl
  | r :: rs, tk, ss => by
    rw [List.cons_append]
    show takeM b _ (rs ++ ss) = takeM b (takeM b _ rs) ss
    exact takeM_app b rs _ ss
def PairOkF (f : Str → Option Str) : Prop := ∀ k v, f k = some v → TOk 60 k ∧ TOk 60 v
theorem holdF {gv : KVs} (h : ∀ p ∈ gv, PairOk p) : PairOkF (getP gv) := fun k v e => h (k, v) (getP_mem e)
theorem stepF {f : Str → Option Str} {r : Row} (h : PairOkF f) (g : r.Ok) : PairOkF (stepM f r) := fun k v e => by
  unfold stepM at e
  by_cases c : r.k = k
  · rw [if_pos c] at e
    by_cases d : r.w = "put"
    · rw [if_pos d] at e
      cases e
      exact ⟨c ▸ g.k, g.v⟩
    · rw [if_neg d] at e
      cases e
  · rw [if_neg c] at e
    exact h k v e
theorem foldF {f : Str → Option Str} : ∀ {tk : List Row}, PairOkF f → (∀ r ∈ tk, GoodR r) → PairOkF (tk.foldl stepM f)
  | [], h, _ => h
  | r :: tk, h, g => foldF (tk := tk) (stepF h (g r List.mem_cons_self).ok) fun x hx => g x (List.mem_cons_of_mem _ hx)
theorem Told.ok {f : Str → Option Str} {ps : KVs} (h : PairOkF f) (t : Told f ps) : ∀ p ∈ ps, PairOk p := fun p hp => by
  have := getP_of t.nd hp
  rw [t.get] at this
  exact h _ _ this
/-! ### what stands by an ear, whatever it is made of -/
abbrev ErT := List Addr → Hp → Addr → Int → KVs → List Row → Prop
def spEarInit (K : PySem.W.Frag) (C : Addr) (Er : ErT) : Sp := fun vs H Q _ => ∃ (p dx : Addr) (b : Int) (gv : KVs) (pv : V), vs = [.ref p, .int b, pv] ∧ H p = some (.ins C dx []) ∧ 1 ≤ b ∧ (gv.map (·.1)).Nodup ∧ (∀ x ∈ gv, PairOk x) ∧ gv.length ≤ 200 ∧
  ((pv = .non ∧ gv = []) ∨ ∃ q ts, pv = .ref q ∧ (SqL K H q (ts.map V.ref) ∨ SqT K H q (ts.map V.ref)) ∧ PairsAt H ts gv) ∧
  ∀ F H', Er F H' p b gv [] → (∀ a ∈ F, a = p ∨ H a = none) → Ch H H' [p] → Q .non H'
def spEarHear (Er : ErT) : Sp := fun vs H Q _ => ∃ (F : List Addr) (p q : Addr) (b : Int) (gv : KVs) (tk rs : List Row) (ts : List Addr), vs = [.ref p, .ref q] ∧ Er F H p b gv tk ∧ H q = some (.lst (ts.map V.ref)) ∧ q ∉ F ∧ RowsAt H ts rs ∧ (∀ r ∈ rs, GoodR r) ∧
  gv.length + tk.length + rs.length ≤ 990 ∧ ∀ F' H', Er F' H' p b gv (takeM b tk rs) → Grow F F' H → Ch H H' F → Q (.int (lastN b (takeM b tk rs))) H'
def spEarHeard (Er : ErT) : Sp := fun vs H Q _ => ∃ (F : List Addr) (p : Addr) (b : Int) (gv : KVs) (tk : List Row), vs = [.ref p] ∧ Er F H p b gv tk ∧
  ∀ F' q ts H', Er F' H' p b gv tk → Grow F F' H → Ch H H' F → H q = none → q ∉ F' → H' q = some (.lst (ts.map V.ref)) → RowsAt H' ts tk → Q (.ref q) H'
def spEarState (Er : ErT) : Sp := fun vs H Q _ => ∃ (F : List Addr) (p : Addr) (b : Int) (gv : KVs) (tk : List Row), vs = [.ref p] ∧ Er F H p b gv tk ∧ gv.length + tk.length ≤ 990 ∧ (∀ r ∈ tk, GoodR r) ∧
  ∀ F' q ts ps H', Er F' H' p b gv tk → Grow F F' H → Ch H H' F → H q = none → q ∉ F' → H' q = some (.lst (ts.map V.ref)) → PairsAt H' ts ps → Told (holdM gv tk) ps → Q (.ref q) H'
structure EarApi (P : Program) (w : World) (K : PySem.W.Frag) (mg : Str → Option Value) (base : Heap) (C : Addr) (Er : ErT) (hs : List Str) : Prop where
  frame : ∀ {F H H' p b gv tk l}, Er F H p b gv tk → Ch H H' l → (∀ a ∈ F, a ∉ l) → Er F H' p b gv tk
  own : ∀ {F H p b gv tk}, Er F H p b gv tk → ∀ a ∈ F, ∃ o, H a = some o
  inst : ∀ {F H p b gv tk}, Er F H p b gv tk → p ∈ F ∧ ∃ dx fs, H p = some (.ins C dx fs) ∧ ∀ m ∈ ([("hear" : Str), "heard", "state"] : List Str), fs.lookup m = none
  make : ∃ f fd ps, Mk K C f ∧ FnOk P w K mg base CX0 4 f fd ps (spEarInit K C Er) ∧ Binds K fd ps [] ∧ (∃ ds, Vals [.non] ds ∧ Binds K fd ps ds) ∧ (∃ ds, Vals [.int 1, .non] ds ∧ Binds K fd ps ds) ∧
    ∃ g, KBn K fd ps 1 ["pairs", "start"] g fun vs zs => vs ++ zs.reverse
  hear : MDef P w K mg base C "hear" CX0 4 (spEarHear Er)
  heard : MDef P w K mg base C "heard" CX0 4 (spEarHeard Er)
  state : ("state" : Str) ∈ hs → MDef P w K mg base C "state" CX0 4 (spEarState Er)
end KB

namespace KL
open PySem L2 L2H LX KB
/-! ### law_k03's own: the rows -/
def PoolAt (H : Hp) (q : Addr) (zs : List Str) : Prop := H q = some (.lst (zs.map V.str)) ∧ zs.length = 6 ∧ ∀ z ∈ zs, TOk 60 z
theorem PoolAt.same {H H' : Hp} {q : Addr} {zs : List Str} (h : PoolAt H q zs) (s : Same H H') : PoolAt H' q zs := ⟨s _ _ h.1, h.2⟩
theorem cutV_mapI (f : Int → V) (ns : List Int) (lo hi : Option Int) : ∃ ms : List Int, cutV (ns.map f) lo hi = ms.map f ∧ ms.length ≤ ns.length := by
  refine ⟨(ns.drop (HT.sIx (ns.map f).length 0 lo)).take (HT.sIx (ns.map f).length (ns.map f).length hi - HT.sIx (ns.map f).length 0 lo), ?_, ?_⟩
  · unfold cutV
    rw [List.map_take, List.map_drop]
  · rw [List.length_take, List.length_drop]; omega
def spRows (K : PySem.W.Frag) : Sp := fun vs H Q _ => ∃ (a q : Addr) (ns : List Int) (zs : List Str), vs = [.ref a, .ref q] ∧ SqL K H a (ns.map V.int) ∧ ns.length ≤ 63 ∧ PoolAt H q zs ∧
  ∀ R ts rs H', H R = none → H' R = some (.lst (ts.map V.ref)) → RowsAt H' ts rs → (∀ r ∈ rs, GoodR r) → rs.length ≤ 193 → Same H H' → Q (.ref R) H'
section
variable {P : Program} {w : World} {K : PySem.W.Frag} {mg : Str → Option Value} {base : Heap}
theorem ok_rows {f : Addr} {fd : FuncData} (F : Fun K "_law_rows" "_law_rows" s_rows f fd) (LT : LTxt mg) (D0 : Def P w K mg base "_law_cell_at" 1 p_cell_at (spCellA K)) (D1 : Def P w K mg base "_law_text" 2 p_text spText) : FnOk P w K mg base CX0 3 f fd p_rows (spRows K) := by
  obtain ⟨f0, fd0, g0, k0, b0, G0⟩ := D0.ex
  obtain ⟨f1, fd1, g1, k1, b1, G1⟩ := D1.ex
  refine F.ok sc_rows (fun vs H Q E h => ?_) (fun cdv A outer s H vs Q E hr h => ?_)
  · obtain ⟨a, q, ns, zs, rfl, _⟩ := h
    rfl
  · obtain ⟨a, q, ns, zs, rfl, hs, hlen, hq, k⟩ := h
    have hr1 : Room 1 _ := hr.mono (by decide)
    refine ⟨_, pss_cons (ps_set (i := 2) sc_rows.nd rfl (Or.inl rfl) (pe_slice sl_list (pv 0) (po_some pe_int) (po_some pe_int)))
      (C8.pss_cut (ps_if (pt_cmpR op_eq (pe_op op_mod (pe_call G0 hr1 rfl g0 k0 b0 .nil pass0 (pa_cons (pv 0) (pa_cons pe_int pa_nil))) pe_int) pe_int (nomark _))
        (pss_one (ps_set (i := 2) sc_rows.nd rfl (Or.inl rfl) (pe_op op_cat (pv 2) (pe_lc (own := [("_law_k", 8)]) (g := gName 8) rfl sc_rows.nd
          (pi_range1 (by rfl) LT.range (pa_cons (pe_ix ix_list (pe_lst (pa_cons pe_int (pa_cons pe_int pa_nil))) (pe_op op_mod (pe_op op_fdiv (pe_call G0 hr1 rfl g0 k0 b0 .nil pass0 (pa_cons (pv 0) (pa_cons pe_int pa_nil))) pe_int) pe_int) (fun _ _ => rfl)) pa_nil))
          (blkOk_by (own := [("_law_k", 8)]) (N := n_rows) (sc := defScope s_rows) (by decide +kernel))
          (fun _ _ _ _ _ => pg_name (i := 8) sc_rows.nd rfl (Or.inl rfl) (Or.inr rfl)) (fun _ _ _ _ _ => pts_nil)
          (fun _ _ _ _ _ => pe_op op_add (pe_op op_mul (pe_op op_mul pe_int (pv 8)) (pv 8)) pe_int))))) pss_nil)
      (pss_cons (ps_set (i := 3) sc_rows.nd rfl (Or.inl rfl) (pe_lst pa_nil))
      (pss_cons (ps_set (i := 4) sc_rows.nd rfl (Or.inl rfl) pe_int)
      (pss_cons (ps_for PassesOwn.never rfl (pi_list (pv 2)) (pg_name (i := 5) sc_rows.nd rfl (Or.inl rfl))
        (pss_cons (ps_set (i := 4) sc_rows.nd rfl (Or.inl rfl) (pe_op op_add (pe_op op_add (pv 4) pe_int) (pe_op op_mod (pv 5) pe_int)))
        (pss_cons (ps_set (i := 6) sc_rows.nd rfl (Or.inl rfl) (pe_ix ix_list (pe_lst (pa_cons pe_str (pa_cons pe_str pa_nil))) (pe_op op_fdiv (pe_op op_mod (pe_op op_fdiv (pv 5) pe_int) pe_int) pe_int) (fun _ _ => rfl)))
        (pss_cons (ps_set (i := 7) sc_rows.nd rfl (Or.inl rfl) (pe_ix ix_list (pe_lst (pa_cons pe_str (pa_cons (pe_call G1 hr rfl g1 k1 b1 .nil pass0 (pa_cons (pv 5) (pa_cons (pe_op op_mod (pv 5) pe_int) pa_nil))) pa_nil)))
          (pe_callTy call_int1 (by rfl) LT.int (by decide +kernel) (pa_cons (pe_cmpR op_eq (pv 6) pe_str (nomark _)) pa_nil)) (fun _ _ => rfl)))
        (pss_one (ps_expr (pe_bm PySem.F.plainAttrs_list PySem.F.slot_list_append PySem.F.type_list_append mt_append (pv 3) (pa_cons (pe_tup (pa_cons (pv 4) (pa_cons (pe_op op_mod (pv 5) pe_int) (pa_cons (pv 6)
          (pa_cons (pe_ix ix_list (pv 1) (pe_op op_mod (pe_op op_fdiv (pv 5) pe_int) pe_int) (fun _ _ => rfl)) (pa_cons (pv 7) pa_nil)))))) pa_nil)))))))
      ) (pss_one (ps_ret (pv 3))))))), ?_⟩
    refine ⟨_, rfl, _, rfl, _, rfl, a, _, rfl, hs, fun C0 hC0 => ?_⟩
    obtain ⟨ms, hms, lms⟩ := cutV_mapI V.int ns (some 3) (some 63)
    rw [hms]
    have s0 : Same H (upd H C0 (.lst (ms.map V.int))) := same_new hC0
    refine ⟨fun σ H' => ∃ (C1 : Addr) (ms1 : List Int), σ = [some (.ref a), some (.ref q), some (.ref C1), none, none, none, none, none, none] ∧ H' C1 = some (.lst (ms1.map V.int)) ∧ ms1.length ≤ 193 ∧ Same H H', ?_, ?_⟩
    · refine ⟨_, rfl, a, ns, 2, rfl, s0.seq hs, fun t => ⟨_, _, rfl, rfl, (by show (0 : Int) < 3; decide), rfl, _, rfl, ?_⟩⟩
      refine ite2 (fun _ => ?_) fun _ => ⟨C0, ms, rfl, upd_same, by omega, s0⟩
      refine ⟨_, rfl, (by show 2 ≤ sizeLine; decide), fun l hl => ?_⟩
      have s1 := s0.trans (same_new (o := .lst [V.int 30, V.int 130]) hl)
      refine ⟨_, rfl, a, ns, 2, rfl, s1.seq hs, fun t2 => ?_⟩
      refine ⟨_, _, rfl, rfl, ⟨by decide, by decide⟩, _, _, rfl, rfl, (by show (0 : Int) < 2; decide), ?_⟩
      obtain ⟨n, hn, e⟩ := at_ints (ns := [30, 130]) (z := t2 / 3 % 2) (by omega) (by show t2 / 3 % 2 < 2; omega)
      have hn1 : 0 ≤ n ∧ n ≤ 130 := by
        simp only [List.mem_cons, List.not_mem_nil, or_false] at hn
        omega
      refine ⟨l, _, _, _, rfl, rfl, SqL.of upd_same, e, n, rfl, by omega, by omega, fun D hD => ?_⟩
      have sC : Same (upd H C0 (.lst (ms.map V.int))) (upd (upd H C0 (.lst (ms.map V.int))) l (.lst [V.int 30, V.int 130])) := same_new hl
      have hC := sC _ _ upd_same
      dsimp only
      generalize upd (upd H C0 (.lst (ms.map V.int))) l (.lst [V.int 30, V.int 130]) = H0 at s1 hC hD
      have s2 := s1.trans (same_new (o := .lst []) hD)
      have dC : D ≠ C0 := (ne_of_none hC hD).symm
      refine lc_range (lo := 0) (n := n.toNat) (fun i H' => ∃ is : List Int, Ch (upd H0 D (.lst [])) H' [D] ∧ H' D = some (.lst (is.map V.int)) ∧ is.length = i) ⟨[], Ch.refl _ _, upd_same, rfl⟩ ?_ ?_
      · rintro i H2 hi ⟨is, c, hl2, len⟩
        refine ⟨rfl, _, rfl, _, _, rfl, rfl, .inl ⟨by decide, by decide⟩, _, rfl, _, _, rfl, rfl, .inl ⟨by omega, by omega⟩, _, _, rfl, rfl, ?_⟩
        refine ⟨_, hl2, by rw [List.length_map]; exact small1000 (by omega), is ++ [7 * ((0 : Int) + i) * ((0 : Int) + i) + 1], c.mut (List.mem_singleton.mpr rfl) upd_same (fun xs e => by cases e), by rw [upd_same, List.map_append]; rfl, by rw [List.length_append, len]; rfl⟩
      · rintro H2 ⟨is, c, hl2, len⟩
        have hC2 := c.at (same_new hD _ _ hC) (fun z => dC (List.mem_singleton.mp z).symm)
        refine ⟨C0, D, _, _, rfl, rfl, hC2, hl2, by rw [List.length_map, List.length_map]; exact Nat.le_of_lt (small1000 (by omega)), fun C1 hC1 => ?_⟩
        have s3 : Same H (upd H2 C1 (.lst (ms.map V.int ++ is.map V.int))) := fun b o e => by
          have nD : b ≠ D := ne_of_none (s1 _ _ e) hD
          have x := c.at (s2 _ _ e) (fun z => nD (List.mem_singleton.mp z))
          exact same_new hC1 _ _ x
        refine ⟨C1, ms ++ is, rfl, by rw [upd_same, List.map_append], by rw [List.length_append]; omega, s3⟩
    · rintro σ H1 ⟨C1, ms1, rfl, hC1, lm, s1⟩
      refine ⟨(by show 0 ≤ sizeLine; decide), fun R hR => ?_⟩
      have hRC : R ≠ C1 := (ne_of_none hC1 hR).symm
      have s2 := s1.trans (same_new (o := .lst []) hR)
      have hC2 : upd H1 R (.lst []) C1 = some (.lst (ms1.map V.int)) := by rw [upd_ne hRC.symm]; exact hC1
      have hR2 : upd H1 R (.lst []) R = some (.lst []) := upd_same
      have R0 : H R = none := s1.free hR
      generalize upd H1 R (.lst []) = H2 at s2 hC2 hR2
      refine ⟨_, rfl, C1, rfl, ⟨_, SqL.of hC2⟩, for_list (xs := ms1.map V.int) (fun i σ H' => (∃ (n : Int) (y5 y6 y7 : Option V), σ = [some (.ref a), some (.ref q), some (.ref C1), some (.ref R), some (.int n), y5, y6, y7, none]) ∧ Ch H2 H' [R] ∧
        ∃ ts rs, H' R = some (.lst (ts.map V.ref)) ∧ RowsAt H' ts rs ∧ (∀ r ∈ rs, GoodR r) ∧ rs.length = i) ⟨⟨0, none, none, none, rfl⟩, Ch.refl _ _, [], [], hR2, .nil, (fun _ h => nomatch h), rfl⟩ ?_ ?_ ?_⟩
      · rintro i σ H' _ ⟨_, c, _⟩
        exact SqL.of (c.at hC2 (fun z => hRC (List.mem_singleton.mp z).symm))
      · rintro i x σ H3 hx ⟨⟨n, y5, y6, y7, rfl⟩, c, ts, rs, hR3, mr, gr, len⟩
        have hi : i < ms1.length := by
          have := (List.getElem?_eq_some_iff.mp hx).1
          rw [List.length_map] at this
          exact this
        obtain ⟨cell, rfl⟩ : ∃ cell : Int, x = V.int cell := by
          rw [List.getElem?_map, List.getElem?_eq_getElem hi] at hx
          exact ⟨_, (Option.some.inj hx).symm⟩
        refine ⟨_, rfl, _, _, rfl, rfl, _, rfl, _, _, rfl, rfl, (by show (0 : Int) < 3; decide), _, _, rfl, rfl, ?_⟩
        refine ⟨(by show 2 ≤ sizeLine; decide), fun l hl => ?_⟩
        have hq3 : PoolAt H3 q zs := ⟨c.at (s2 _ _ hq.1) (fun z => (ne_of_none hq.1 R0) (List.mem_singleton.mp z)), hq.2⟩
        obtain ⟨wd, hwd, e2⟩ := at_strs (ns := ["put", "cut"]) (z := cell / 3 % 3 / 2) (by omega) (by show cell / 3 % 3 / 2 < 2; omega)
        have wok : PyData.strOk wd = true ∧ (wd = "put" ∨ wd = "cut") := by
          simp only [List.mem_cons, List.not_mem_nil, or_false] at hwd
          rcases hwd with rfl | rfl
          · exact ⟨by decide +kernel, .inl rfl⟩
          · exact ⟨by decide +kernel, .inr rfl⟩
        refine ⟨_, rfl, _, _, rfl, rfl, ⟨by decide, by decide⟩, _, _, rfl, rfl, (by show (0 : Int) < 3; decide), _, _, rfl, rfl, ⟨by decide, by decide⟩, l, _, _, _, rfl, rfl, SqL.of upd_same, e2, ?_⟩
        have t3 : Same H3 (upd H3 l (.lst [V.str "put", V.str "cut"])) := same_new hl
        dsimp only
        generalize upd H3 l (.lst [V.str "put", V.str "cut"]) = H4 at t3
        refine ⟨_, rfl, _, rfl, _, _, rfl, rfl, (by show (0 : Int) < 41; decide), cell, cell % 41, rfl, by omega, by omega, fun val H5 tv s5 => ?_⟩
        have tv : TOk 60 val := tv.mono (by omega)
        refine ⟨(by show 2 ≤ sizeLine; decide), fun l2 hl2 => ?_⟩
        have t5 := (t3.trans s5).trans (same_new (o := .lst [V.str "", V.str val]) hl2)
        obtain ⟨vl, hvl, e4⟩ : ∃ vl, TOk 60 vl ∧ atI [V.str "", V.str val] (if decide (V.str wd = V.str "put") = true then 1 else 0) = some (V.str vl) := by
          by_cases z : decide (V.str wd = V.str "put") = true
          · rw [if_pos z]; exact ⟨val, tv, rfl⟩
          · rw [if_neg z]; exact ⟨"", TOk.nil.mono (by decide), rfl⟩
        refine ⟨_, rfl, rfl, ?_⟩
        refine .inr ⟨_, rfl, ?_⟩
        refine ⟨l2, _, _, _, rfl, rfl, SqL.of upd_same, e4, ?_⟩
        dsimp only
        generalize upd H5 l2 (.lst [V.str "", V.str val]) = H6 at t5
        have hR6 := t5 _ _ hR3
        have hq6 := hq3.same t5
        obtain ⟨ky, hky, e5⟩ := at_strs (ns := zs) (z := cell / 9 % 6) (by omega) (by rw [hq.2.1]; show cell / 9 % 6 < 6; omega)
        refine ⟨_, rfl, .inl ⟨rfl, _, SqL.of hR6⟩, _, rfl, _, rfl, _, _, rfl, rfl, (by show (0 : Int) < 1000; decide), _, rfl, _, rfl, _, rfl, _, _, rfl, rfl, ⟨by decide, by decide⟩, _, _, rfl, rfl, (by show (0 : Int) < 6; decide), q, _, _, _, rfl, rfl, SqL.of hq6.1, e5, _, rfl, (by show 5 ≤ sizeLine; decide), fun tp htp => ?_⟩
        have t6 := t5.trans (same_new (o := .tup (Row.mk (n + 1 + cell % 3) (cell % 1000) wd ky vl).V) htp)
        have hR7 := t6 _ _ hR3
        have ntR : tp ≠ R := (ne_of_none hR6 htp).symm
        have htp7 : upd H6 tp (.tup (Row.mk (n + 1 + cell % 3) (cell % 1000) wd ky vl).V) tp = some (.tup (Row.mk (n + 1 + cell % 3) (cell % 1000) wd ky vl).V) := upd_same
        dsimp only
        refine ⟨R, _, _, rfl, rfl, hR7, by rw [List.length_map, Paired.length mr]; exact small1000 (by omega), ?_⟩
        refine ⟨⟨_, _, _, _, rfl⟩, (c.same t6).mut (List.mem_singleton.mpr rfl) hR2 (fun xs e => by cases e), ts ++ [tp], rs ++ [Row.mk (n + 1 + cell % 3) (cell % 1000) wd ky vl], by rw [upd_same, List.map_append]; rfl, ?_, fun r hr => ?_, by rw [List.length_append, len]; rfl⟩
        · have nD : ∀ a xs, upd H6 tp (.tup (Row.mk (n + 1 + cell % 3) (cell % 1000) wd ky vl).V) a = some (.tup xs) → a ≠ R := fun a xs e => ne_of e hR7 (by intro q; cases q)
          exact Paired.snoc (mr.keep fun a xs e => by rw [upd_ne (nD a xs (t6 _ _ e))]; exact t6 _ _ e) (by rw [upd_ne ntR]; exact htp7)
        · rcases List.mem_append.mp hr with hr | hr
          · exact gr r hr
          · rw [List.mem_singleton.mp hr]
            exact ⟨⟨wok.1, hq.2.2 _ hky, hvl⟩, wok.2⟩
      · rintro σ H3 ⟨⟨n, y5, y6, y7, rfl⟩, c, ts, rs, hR3, mr, gr, len⟩
        have s3 : Same H H3 := fun b o e => c.at (s2 _ _ e) (fun z => (ne_of_none e R0) (List.mem_singleton.mp z))
        exact ⟨_, rfl, k R ts rs H3 R0 hR3 mr gr (by rw [len, List.length_map]; exact lm) s3⟩
end
end KL

namespace KL
open PySem L2 L2H LX KB
/-! ### law_k03's own: what stands, by the pairs and the rows -/
def spState : Sp := fun vs H Q _ => ∃ (gq tq : Addr) (gts tts : List Addr) (gv : KVs) (tk : List Row), vs = [.ref gq, .ref tq] ∧ H gq = some (.lst (gts.map V.ref)) ∧ PairsAt H gts gv ∧ (gv.map (·.1)).Nodup ∧ H tq = some (.lst (tts.map V.ref)) ∧ RowsAt H tts tk ∧
  gv.length + tk.length ≤ 990 ∧ ∀ q ts ps H', H q = none → H' q = some (.lst (ts.map V.ref)) → PairsAt H' ts ps → Told (holdM gv tk) ps → Same H H' → Q (.ref q) H'
theorem putP_new {d : KVs} {k v : Str} (h : k ∉ d.map (·.1)) : putP d k v = d ++ [(k, v)] := by
  unfold putP
  rw [if_neg]
  rw [getP_any, getP_none.mpr h]
  decide
theorem pairsAt_get {H : Hp} : ∀ {ts : List Addr} {ps : KVs} {i : Nat} {x : V}, PairsAt H ts ps → (ts.map V.ref)[i]? = some x → ∃ t p, x = V.ref t ∧ ps[i]? = some p ∧ H t = some (.tup [.str p.1, .str p.2])
  | _, _, i, x, .nil, h => by simp at h
  | _, _, 0, x, .cons r m, h => by
    have e : x = V.ref _ := (Option.some.inj h).symm
    exact ⟨_, _, e, rfl, r⟩
  | _, _, i + 1, x, .cons r m, h => pairsAt_get (i := i) m h
theorem getP_nil (k : Str) : getP [] k = none := rfl
section
variable {P : Program} {w : World} {K : PySem.W.Frag} {mg : Str → Option Value} {base : Heap}
theorem ok_state {f : Addr} {fd : FuncData} (F : Fun K "_law_state" "_law_state" s_state f fd) (LT : LTxt mg) : FnOk P w K mg base CX0 1 f fd p_state spState := by
  refine F.ok sc_state (fun vs H Q E h => ?_) (fun cdv A outer s H vs Q E hr h => ?_)
  · obtain ⟨gq, tq, gts, tts, gv, tk, rfl, _⟩ := h
    rfl
  · obtain ⟨gq, tq, gts, tts, gv, tk, rfl, hg, mg1, ng, ht, mt, hl, k⟩ := h
    have hu := hu_of hr
    refine ⟨_, pss_cons (ps_set (i := 2) sc_state.nd rfl (Or.inr rfl) pe_dnewK)
      (pss_cons (ps_for PassesOwn.never rfl (pi_list (pv 0)) (pg_name (i := 3) sc_state.nd rfl (Or.inl rfl))
        (pss_one (ps_dput hu (pv 2) (pe_ix ix_tup (pv 3) pe_int (fun _ _ => rfl)) (pe_ix ix_tup (pv 3) pe_int (fun _ _ => rfl)) rfl)))
      (pss_cons (ps_for PassesOwn.never rfl (pi_list (pv 1)) (pg_name (i := 4) sc_state.nd rfl (Or.inl rfl))
        (pss_one (ps_if (pt_cmpR op_eq (pe_ix ix_tup (pv 4) pe_int (fun _ _ => rfl)) pe_str (nomark _))
          (pss_one (ps_dput hu (pv 2) (pe_ix ix_tup (pv 4) pe_int (fun _ _ => rfl)) (pe_ix ix_tup (pv 4) pe_int (fun _ _ => rfl)) rfl))
          (pss_one (ps_if (pt_cmp (pc_din hu (pe_ix ix_tup (pv 4) pe_int (fun _ _ => rfl)) (pv 2)))
            (pss_one (ps_expr (pe_dpop1 (pv 2) (pe_ix ix_tup (pv 4) pe_int (fun _ _ => rfl)) ⟨by rfl, by rfl, by rfl, by rfl⟩))) pss_nil)))))
      (pss_one (ps_ret (pe_lc (own := [("_law_key", 5)]) (g := gName 5) rfl sc_state.nd
          (pi_list (pe_callB (cr_sortedDL (by rfl)) (by rfl) LT.sorted (by decide +kernel) (pa_cons (pv 2) pa_nil)))
          (blkOk_by (own := [("_law_key", 5)]) (N := n_state) (sc := defScope s_state) (by decide +kernel))
          (fun _ _ _ _ _ => pg_name (i := 5) sc_state.nd rfl (Or.inl rfl) (Or.inr rfl)) (fun _ _ _ _ _ => pts_nil)
          (fun _ _ _ _ _ => pe_tup (pa_cons (pv 5) (pa_cons (pe_dget hu (pv 2) (pv 5) (fun _ _ => rfl)) pa_nil)))))))), ?_⟩
    intro D hD
    have gD : gq ≠ D := ne_of_none hg hD
    have tD : tq ≠ D := ne_of_none ht hD
    have s1 : Same H (upd H D (.dK [])) := same_new hD
    have mg2 := mg1.keep fun a xs e => s1 _ _ e
    have mt2 := mt.keep fun a xs e => s1 _ _ e
    have hD1 : upd H D (.dK []) D = some (.dK []) := upd_same
    have hg1 := s1 _ _ hg
    have ht1 := s1 _ _ ht
    generalize upd H D (.dK []) = H1 at s1 mg2 mt2 hD1 hg1 ht1
    have nD : ∀ {H' : Hp} {kvs : List (Key × V)}, H' D = some (.dK kvs) → ∀ a xs, H' a = some (.tup xs) → a ≠ D := fun h a xs e => ne_of e h (by intro q; cases q)
    refine ⟨_, rfl, gq, rfl, ⟨_, SqL.of hg1⟩, for_list (xs := gts.map V.ref) (fun i σ H' => (∃ y3 : Option V, σ = [some (.ref gq), some (.ref tq), some (.ref D), y3, none, none]) ∧ Ch H1 H' [D] ∧ H' D = some (.dK (dV (gv.take i)))) ⟨⟨none, rfl⟩, Ch.refl _ _, hD1⟩ ?_ ?_ ?_⟩
    · rintro i σ H' _ ⟨_, c, _⟩
      exact SqL.of (c.at hg1 (fun z => gD (List.mem_singleton.mp z)))
    · rintro i x σ H2 hx ⟨⟨y3, rfl⟩, c, hd⟩
      obtain ⟨t, p, rfl, hp, hpt⟩ := pairsAt_get mg2 hx
      have hpt2 := c.tup _ _ hpt
      have hi : i < gv.length := (List.getElem?_eq_some_iff.mp hp).1
      have tk1 : gv.take (i + 1) = gv.take i ++ [p] := by rw [List.take_add_one, hp]; rfl
      have nk : p.1 ∉ (gv.take i).map (·.1) := by
        have n2 := ng
        rw [← List.take_append_drop (i + 1) gv, tk1, List.map_append, List.map_append] at n2
        have n3 := (List.nodup_append.mp (List.nodup_append.mp n2).1).2.2
        exact fun z => n3 _ z p.1 (by simp) rfl
      refine ⟨_, rfl, t, _, 1, .str p.2, rfl, rfl, SqT.of hpt2, rfl, _, rfl, _, rfl, t, _, 0, .str p.1, rfl, rfl, SqT.of hpt2, rfl, D, _, rfl, DPut.k (k := Sum.inr p.1) hd ?_, ⟨_, rfl⟩, c.mut (List.mem_singleton.mpr rfl) hD1 (fun xs e => by cases e), ?_⟩
      · unfold dV
        rw [List.length_map, List.length_take]
        exact small1000 (by omega)
      · rw [upd_same, putK_dV, putP_new nk, tk1]
    · rintro σ H2 ⟨⟨y3, rfl⟩, c, hd⟩
      rw [List.length_map, Paired.length mg2, List.take_length] at hd
      have mt3 := mt2.keep c.tup
      have ht2 := c.at ht1 (fun z => tD (List.mem_singleton.mp z))
      refine ⟨_, rfl, tq, rfl, ⟨_, SqL.of ht2⟩, for_list (xs := tts.map V.ref) (fun i σ H' => (∃ y4 : Option V, σ = [some (.ref gq), some (.ref tq), some (.ref D), y3, y4, none]) ∧ Ch H2 H' [D] ∧ ∃ d : KVs, H' D = some (.dK (dV d)) ∧ (d.map (·.1)).Nodup ∧ d.length ≤ gv.length + i ∧ getP d = holdM gv (tk.take i))
        ⟨⟨none, rfl⟩, Ch.refl _ _, gv, hd, ng, Nat.le_refl _, rfl⟩ ?_ ?_ ?_⟩
      · rintro i σ H' _ ⟨_, c', _⟩
        exact SqL.of (c'.at ht2 (fun z => tD (List.mem_singleton.mp z)))
      · rintro i x σ H3 hx ⟨⟨y4, rfl⟩, c3, d, hd3, nd, ld, gd⟩
        obtain ⟨t, r, rfl, hr', hrt⟩ := RowsAt.at mt3 hx
        have hrt3 := c3.tup _ _ hrt
        have hi : i < tk.length := (List.getElem?_eq_some_iff.mp hr').1
        have tk1 : holdM gv (tk.take (i + 1)) = stepM (getP d) r := by
          rw [List.take_add_one, hr', gd]
          unfold holdM
          rw [List.foldl_append]
          rfl
        refine ⟨_, rfl, t, _, 2, .str r.w, rfl, rfl, SqT.of hrt3, rfl, rfl, _, rfl, ?_⟩
        by_cases w1 : r.w = "put"
        · rw [decide_eq_true (congrArg V.str w1)]
          refine iteT ?_
          refine ⟨_, rfl, t, _, 4, .str r.v, rfl, rfl, SqT.of hrt3, rfl, _, rfl, _, rfl, t, _, 3, .str r.k, rfl, rfl, SqT.of hrt3, rfl, D, _, rfl, DPut.k (k := Sum.inr r.k) hd3 ?_, ⟨_, rfl⟩, c3.mut (List.mem_singleton.mpr rfl) hd (fun xs e => by cases e), putP d r.k r.v, ?_, putP_nodup nd, Nat.le_trans (putP_len _ _ _) (by omega), ?_⟩
          · unfold dV
            rw [List.length_map]
            exact small1000 (by omega)
          · rw [upd_same, putK_dV]
          · rw [tk1]
            funext j
            rw [getP_putP]
            unfold stepM
            rw [if_pos w1]
        · rw [decide_eq_false (fun e => w1 (V.str.inj e))]
          refine iteF ?_
          have st : stepM (getP d) r = getP (dropP d r.k) := by
            funext j
            rw [getP_dropP]
            unfold stepM
            rw [if_neg w1]
          refine ⟨_, rfl, t, _, 3, .str r.k, rfl, rfl, SqT.of hrt3, rfl, _, rfl, D, _, rfl, DGet.k (k := Sum.inr r.k) hd3, _, rfl, ?_⟩
          rw [valV_dV]
          cases g : getP d r.k with
          | none =>
            refine iteF ⟨⟨_, rfl⟩, c3, d, hd3, nd, by omega, ?_⟩
            rw [tk1, st]
            funext j
            rw [getP_dropP]
            by_cases e : r.k = j
            · rw [if_pos e, ← e, g]
            · rw [if_neg e]
          | some v =>
            refine iteT ⟨_, rfl, D, rfl, .inl ⟨_, .inl hd3⟩, _, rfl, t, _, 3, .str r.k, rfl, rfl, SqT.of hrt3, rfl, dV d, Sum.inr r.k, .str v, hd3, rfl, by rw [valV_dV, g]; rfl, ⟨_, rfl⟩, c3.mut (List.mem_singleton.mpr rfl) hd (fun xs e => by cases e), dropP d r.k, ?_, dropP_nodup nd, Nat.le_trans (dropP_len _ _) (by omega), ?_⟩
            · rw [upd_same, dropK_dV]
            · rw [tk1, st]
      · rintro σ H3 ⟨⟨y4, rfl⟩, c3, d, hd3, nd, ld, gd⟩
        rw [List.length_map, Paired.length mt3, List.take_length] at gd
        rw [List.length_map, Paired.length mt3] at ld
        refine ⟨_, rfl, D, dV d, d.map (·.1), rfl, .inl hd3, keys_dV d, fun ys S pe sr hS => ?_⟩
        have TD := told_of nd pe sr
        rw [gd] at TD
        have DS : D ≠ S := ne_of_none hd3 hS
        have s4 : Same H3 (upd H3 S (.lst (ys.map V.str))) := same_new hS
        have hS4 : upd H3 S (.lst (ys.map V.str)) S = some (.lst (ys.map V.str)) := upd_same
        dsimp only
        generalize upd H3 S (.lst (ys.map V.str)) = H4 at s4 hS4
        refine ⟨S, rfl, ⟨_, SqL.of hS4⟩, fun R hR => ?_⟩
        have hd4 := s4 _ _ hd3
        have SR : S ≠ R := ne_of_none hS4 hR
        have DR : D ≠ R := ne_of_none hd4 hR
        have ly : ys.length = d.length := by rw [pe.length_eq, List.length_map]
        have s13 : Same H H3 := fun b o e => c3.at (c.at (s1 _ _ e) (fun z => (ne_of_none e hD) (List.mem_singleton.mp z))) (fun z => (ne_of_none e hD) (List.mem_singleton.mp z))
        refine lc_list (xs := ys.map V.str) (fun i H' => Ch (upd H4 R (.lst [])) H' [R] ∧ ∃ ts, H' R = some (.lst (ts.map V.ref)) ∧ PairsAt H' ts ((ys.take i).map fun k => (k, (getP d k).getD ""))) ⟨Ch.refl _ _, [], upd_same, .nil⟩ ?_ ?_ ?_
        · rintro i H' _ ⟨c5, _⟩
          exact SqL.of (c5.at (same_new hR _ _ hS4) (fun z => SR (List.mem_singleton.mp z)))
        · rintro i x H5 hx ⟨c5, ts, hR5, m5⟩
          rw [List.getElem?_map] at hx
          cases ey : ys[i]? with
          | none => rw [ey] at hx; cases hx
          | some ky =>
            rw [ey] at hx
            have ex : V.str ky = x := Option.some.inj hx
            subst ex
            have hd5 := c5.at (same_new hR _ _ hd4) (fun z => DR (List.mem_singleton.mp z))
            have mem : ky ∈ d.map (·.1) := pe.mem_iff.mp (List.mem_of_getElem? ey)
            obtain ⟨v, gk⟩ : ∃ v, getP d ky = some v := by
              cases g : getP d ky with
              | none => exact absurd mem (getP_none.mp g)
              | some v => exact ⟨v, rfl⟩
            have gv5 : DGet H5 D (V.str ky) (some (.str v)) := by
              have q := DGet.k (k := Sum.inr ky) hd5
              rw [valV_dV, gk] at q
              exact q
            refine ⟨rfl, _, rfl, _, rfl, _, rfl, D, _, rfl, gv5, (by show 2 ≤ sizeLine; decide), fun tp htp => ?_⟩
            have ntR : tp ≠ R := (ne_of_none hR5 htp).symm
            have s6 := same_new (o := .tup [V.str ky, V.str v]) htp
            have lts : ts.length ≤ 990 := by
              rw [Paired.length m5, List.length_map, List.length_take]
              omega
            refine ⟨_, s6 _ _ hR5, by rw [List.length_map]; exact small1000 (by omega), (c5.same s6).mut (List.mem_singleton.mpr rfl) upd_same (fun xs e => by cases e), ts ++ [tp], by rw [upd_same, List.map_append]; rfl, ?_⟩
            have nR : ∀ a xs, upd H5 tp (.tup [V.str ky, V.str v]) a = some (.tup xs) → a ≠ R := fun a xs e => ne_of e (s6 _ _ hR5) (by intro q; cases q)
            have st : (ys.take (i + 1)).map (fun k => (k, (getP d k).getD "")) = (ys.take i).map (fun k => (k, (getP d k).getD "")) ++ [(ky, v)] := by
              rw [List.take_add_one, ey, List.map_append]
              show _ ++ [(ky, (getP d ky).getD "")] = _
              rw [gk]
              rfl
            rw [st]
            exact Paired.snoc (m5.keep fun a xs e => by rw [upd_ne (nR a xs (s6 _ _ e))]; exact s6 _ _ e) (by rw [upd_ne ntR]; exact upd_same)
        · rintro H5 ⟨c5, ts, hR5, m5⟩
          rw [List.length_map, List.take_length, gd] at m5
          have R0 : H R = none := s13.free (s4.free hR)
          refine k R ts _ H5 R0 hR5 m5 TD fun b o e => ?_
          exact c5.at (same_new hR _ _ (s4 _ _ (s13 _ _ e))) (fun z => (ne_of_none e R0) (List.mem_singleton.mp z))
end
end KL

namespace KL
open PySem L2 L2H LX KB
/-! ### law_k03's own: the pairs at first, and an ear made of them -/
def spBegin : Sp := fun vs H Q _ => ∃ (q : Addr) (c : Int) (zs : List Str), vs = [.ref q, .int c] ∧ PoolAt H q zs ∧
  ∀ R ts gv H', H R = none → H' R = some (.lst (ts.map V.ref)) → PairsAt H' ts gv → (gv.map (·.1)).Nodup → (∀ x ∈ gv, PairOk x) → gv.length ≤ 5 → Same H H' → Q (.ref R) H'
def spMade (Er : ErT) : Sp := fun vs H Q _ => ∃ (b : Int) (q : Addr) (c : Int) (ts : List Addr) (gv : KVs), vs = [.int b, .ref q, .int c] ∧ 1 ≤ b ∧ H q = some (.lst (ts.map V.ref)) ∧ PairsAt H ts gv ∧ (gv.map (·.1)).Nodup ∧ (∀ x ∈ gv, PairOk x) ∧ gv.length ≤ 200 ∧
  ∀ F p H', Er F H' p b gv [] → (∀ a ∈ F, H a = none) → Same H H' → Q (.ref p) H'
theorem inV_strs (k : Str) : ∀ ks : List Str, inV (.str k) (ks.map V.str) = decide (k ∈ ks)
  | [] => rfl
  | x :: r => by
    have ih := inV_strs k r
    unfold inV at ih ⊢
    rw [List.map_cons, List.any_cons, ih]
    by_cases e : x = k
    · subst e
      rw [decide_eq_true (List.mem_cons_self)]
      have : eqV (.str x) (.str x) = true := by simp [eqV]
      rw [this]; rfl
    · have : eqV (.str x) (.str k) = false := by simp [eqV, e]
      rw [this, Bool.false_or]
      refine decide_eq_decide.mpr ⟨fun h => List.mem_cons_of_mem _ h, fun h => ?_⟩
      rcases List.mem_cons.mp h with z | z
      · exact absurd z.symm e
      · exact z
theorem flat_strs : ∀ ks : List Str, (ks.map V.str).all flatV = true
  | [] => rfl
  | x :: r => by rw [List.map_cons, List.all_cons, flat_strs r]; rfl
section
variable {P : Program} {w : World} {K : PySem.W.Frag} {mg : Str → Option Value} {base : Heap}
theorem ok_begin {f : Addr} {fd : FuncData} (F : Fun K "_law_begin" "_law_begin" s_begin f fd) (LT : LTxt mg) (D1 : Def P w K mg base "_law_text" 2 p_text spText) : FnOk P w K mg base CX0 3 f fd p_begin spBegin := by
  obtain ⟨f1, fd1, g1, k1, b1, G1⟩ := D1.ex
  refine F.ok sc_begin (fun vs H Q E h => ?_) (fun cdv A outer s H vs Q E hr h => ?_)
  · obtain ⟨q, c, zs, rfl, _⟩ := h
    rfl
  · obtain ⟨q, c, zs, rfl, hq, k⟩ := h
    refine ⟨_, pss_cons (ps_set (i := 2) sc_begin.nd rfl (Or.inl rfl) (pe_lst pa_nil))
      (pss_cons (ps_for PassesOwn.never rfl (pi_range1 (by rfl) LT.range (pa_cons (pe_op op_mod (pv 1) pe_int) pa_nil)) (pg_name (i := 3) sc_begin.nd rfl (Or.inl rfl))
        (pss_one (ps_if (pt_cmpR op_notIn_seq (pe_ix ix_list (pv 0) (pv 3) (fun _ _ => rfl)) (pe_lc (own := [("_law_one", 4)]) (g := gName 4) (te := tOp (rIxT K) (tVar 4) (tC (.int 0))) rfl sc_begin.nd
            (pi_list (pv 2)) (blkOk_by (own := [("_law_one", 4)]) (N := n_begin) (sc := defScope s_begin) (by decide +kernel))
            (fun _ _ _ _ _ => pg_name (i := 4) sc_begin.nd rfl (Or.inl rfl) (Or.inr rfl)) (fun _ _ _ _ _ => pts_nil) (fun _ _ _ _ _ => pe_ix ix_tup (pv 4) pe_int (fun _ _ => rfl))) (by rfl))
          (pss_one (ps_expr (pe_bm PySem.F.plainAttrs_list PySem.F.slot_list_append PySem.F.type_list_append mt_append (pv 2)
            (pa_cons (pe_tup (pa_cons (pe_ix ix_list (pv 0) (pv 3) (fun _ _ => rfl)) (pa_cons (pe_call G1 hr rfl g1 k1 b1 .nil pass0 (pa_cons (pe_op op_add (pv 1) (pv 3)) (pa_cons (pv 3) pa_nil))) pa_nil))) pa_nil)))) pss_nil)))
      (pss_one (ps_ret (pv 2)))), ?_⟩
    refine ⟨(by show 0 ≤ sizeLine; decide), fun R hR => ?_⟩
    have s1 : Same H (upd H R (.lst [])) := same_new hR
    have hR1 : upd H R (.lst []) R = some (.lst []) := upd_same
    generalize upd H R (.lst []) = H1 at s1 hR1
    have qR : q ≠ R := ne_of_none hq.1 hR
    refine ⟨_, rfl, _, _, rfl, rfl, (by show (0 : Int) < 6; decide), c % 6, rfl, by omega, by omega, ?_⟩
    refine for_range (n := (c % 6).toNat) (fun i σ H' => (∃ y3 : Option V, σ = [some (.ref q), some (.int c), some (.ref R), y3, none]) ∧ Ch H1 H' [R] ∧ ∃ ts gv, H' R = some (.lst (ts.map V.ref)) ∧ PairsAt H' ts gv ∧ (gv.map (·.1)).Nodup ∧ (∀ x ∈ gv, PairOk x) ∧ gv.length ≤ i)
      ⟨⟨none, rfl⟩, Ch.refl _ _, [], [], hR1, .nil, .nil, (fun _ h => nomatch h), Nat.le_refl _⟩ ?_ ?_
    · rintro i σ H2 hi ⟨⟨y3, rfl⟩, c2, ts, gv, hR2, m2, nd, ok, lg⟩
      have hq2 : PoolAt H2 q zs := ⟨c2.at (s1 _ _ hq.1) (fun z => qR (List.mem_singleton.mp z)), hq.2⟩
      obtain ⟨ky, hky, e1⟩ := at_strs (ns := zs) (z := (0 : Int) + i) (by omega) (by rw [hq.2.1]; omega)
      refine ⟨_, rfl, _, rfl, q, _, _, _, rfl, rfl, SqL.of hq2.1, e1, _, rfl, R, rfl, ⟨_, SqL.of hR2⟩, fun L hL => ?_⟩
      have RL : R ≠ L := ne_of_none hR2 hL
      have L0 : H1 L = none := c2.none _ hL
      refine lc_list (xs := ts.map V.ref) (fun j H' => Ch (upd H2 L (.lst [])) H' [L] ∧ H' L = some (.lst (((gv.take j).map (·.1)).map V.str))) ⟨Ch.refl _ _, upd_same⟩ ?_ ?_ ?_
      · rintro j H' _ ⟨c3, _⟩
        exact SqL.of (c3.at (same_new hL _ _ hR2) (fun z => RL (List.mem_singleton.mp z)))
      · rintro j x H3 hx ⟨c3, hl3⟩
        obtain ⟨t, p, rfl, hp, ht⟩ := pairsAt_get m2 hx
        have ht3 := c3.tup _ _ (same_new hL _ _ ht)
        have hj : j < gv.length := (List.getElem?_eq_some_iff.mp hp).1
        refine ⟨rfl, _, rfl, t, _, 0, .str p.1, rfl, rfl, SqT.of ht3, rfl, _, hl3, ?_, c3.mut (List.mem_singleton.mpr rfl) upd_same (fun xs e => by cases e), ?_⟩
        · rw [List.length_map, List.length_map, List.length_take]; exact small1000 (by omega)
        · rw [upd_same, List.take_add_one, hp, List.map_append, List.map_append]; rfl
      · rintro H3 ⟨c3, hl3⟩
        rw [List.length_map, Paired.length m2, List.take_length] at hl3
        have hR3 := c3.at (same_new hL _ _ hR2) (fun z => RL (List.mem_singleton.mp z))
        have c13 : Ch H1 H3 [R] := by
          refine ⟨fun x o e n => ?_, fun x o e => ?_⟩
          · have x2 := c2.st x o e n
            exact c3.at (same_new hL _ _ x2) (fun z => (ne_of_none e L0) (List.mem_singleton.mp z))
          · obtain ⟨o2, e2⟩ := c2.th x o e
            exact c3.th x o2 (same_new hL _ _ e2)
        have m3 : PairsAt H3 ts gv := m2.keep fun a xs e => c3.tup _ _ (same_new hL _ _ e)
        refine ⟨L, _, rfl, .inl (SqL.of hl3), rfl, flat_strs _, ?_⟩
        rw [inV_strs]
        refine ⟨_, rfl, ?_⟩
        by_cases mem : ky ∈ gv.map (·.1)
        · rw [decide_eq_true mem]
          exact iteF ⟨⟨_, rfl⟩, c13, ts, gv, hR3, m3, nd, ok, by omega⟩
        · rw [decide_eq_false mem]
          refine iteT ?_
          have hq3 : PoolAt H3 q zs := ⟨c13.at (s1 _ _ hq.1) (fun z => qR (List.mem_singleton.mp z)), hq.2⟩
          refine ⟨_, rfl, .inl ⟨rfl, _, SqL.of hR3⟩, _, rfl, _, rfl, q, _, _, _, rfl, rfl, SqL.of hq3.1, e1, _, rfl, _, rfl, _, _, rfl, rfl, _, rfl, _, (0 : Int) + i, rfl, by omega, by omega, fun val H4 tv s4 => ?_⟩
          have tv : TOk 60 val := tv.mono (by omega)
          refine ⟨(by show 2 ≤ sizeLine; decide), fun tp htp => ?_⟩
          have s5 := s4.trans (same_new (o := .tup [V.str ky, V.str val]) htp)
          have hR5 := s5 _ _ hR3
          have ntR : tp ≠ R := (ne_of_none (s4 _ _ hR3) htp).symm
          refine ⟨R, _, _, rfl, rfl, hR5, by rw [List.length_map, Paired.length m3]; exact small1000 (by omega), ⟨_, rfl⟩, (c13.same s5).mut (List.mem_singleton.mpr rfl) hR1 (fun xs e => by cases e), ts ++ [tp], gv ++ [(ky, val)], by rw [upd_same, List.map_append]; rfl, ?_, ?_, fun x hx => ?_, ?_⟩
          · have nR : ∀ a xs, upd H4 tp (.tup [V.str ky, V.str val]) a = some (.tup xs) → a ≠ R := fun a xs e => ne_of e hR5 (by intro q; cases q)
            exact Paired.snoc (m3.keep fun a xs e => by rw [upd_ne (nR a xs (s5 _ _ e))]; exact s5 _ _ e) (by rw [upd_ne ntR]; exact upd_same)
          · have := putP_nodup (d := gv) (k := ky) (v := val) nd
            rw [putP_new mem] at this
            exact this
          · rcases List.mem_append.mp hx with hx | hx
            · exact ok x hx
            · rw [List.mem_singleton.mp hx]
              exact ⟨hq.2.2 _ hky, tv⟩
          · rw [List.length_append]
            exact Nat.succ_le_succ lg
    · rintro σ H2 ⟨⟨y3, rfl⟩, c2, ts, gv, hR2, m2, nd, ok, lg⟩
      have R0 : H R = none := hR
      refine ⟨_, rfl, k R ts gv H2 R0 hR2 m2 nd ok (by omega) fun b o e => c2.at (s1 _ _ e) (fun z => (ne_of_none e R0) (List.mem_singleton.mp z))⟩
theorem ok_made {Er : ErT} {f C : Addr} {fd : FuncData} (F : Fun K "_law_made" "_law_made" s_made f fd) (mgC : mg (Str.ofString "Ear") = some (Value.ref C)) (A1 : EarApi P w K mg base C Er esL) (LT : LTxt mg) : FnOk P w K mg base CX0 6 f fd p_made (spMade Er) := by
  obtain ⟨fI, fdI, psI, MI, GI, b3, ⟨d2, v2, b2⟩, ⟨d1, v1, b1⟩, gK, bK⟩ := A1.make
  refine F.ok sc_made (fun vs H Q E h => ?_) (fun cdv A outer s H vs Q E hr h => ?_)
  · obtain ⟨b, q, c, ts, gv, rfl, _⟩ := h
    rfl
  · obtain ⟨b, q, c, ts, gv, rfl, hb, hq, mq, nd, ok, hl, k⟩ := h
    have hu64 := hr.units
    refine ⟨_, C8.pss_cut (ps_if (PW.pt (pw_and (pt_cmpR op_eq (pv 0) pe_int (nomark _)) (pw_and (pt_cmpR (op_eqD hu64) (pv 1) (pe_lst pa_nil) (nomark _)) (pw_and1 (pt_cmpR op_eq (pe_op op_mod (pv 2) pe_int) pe_int (nomark _))))))
        (pss_one (ps_ret (pe_make0 MI GI hr rfl mgC b1 v1 pass0))) pss_nil)
      (C8.pss_cut (ps_if (PW.pt (pw_and (pt_cmpR (op_eqD hu64) (pv 1) (pe_lst pa_nil) (nomark _)) (pw_and1 (pt_cmpR op_eq (pe_op op_mod (pv 2) pe_int) pe_int (nomark _)))))
        (pss_one (ps_ret (pe_make MI GI hr rfl mgC b2 v2 pass0 (pa_cons (pv 0) pa_nil)))) pss_nil)
      (C8.pss_cut (ps_if (PW.pt (pw_and (pt_cmpR (op_eqD hu64) (pv 1) (pe_lst pa_nil) (nomark _)) (pw_and1 (pt_cmpR op_eq (pe_op op_mod (pv 2) pe_int) pe_int (nomark _)))))
        (pss_one (ps_ret (pe_make MI GI hr rfl mgC b3 .nil pass0 (pa_cons (pv 0) (pa_cons pe_non pa_nil))))) pss_nil)
      (pss_cons (ps_if (pt_cmpR op_eq (pe_op op_mod (pv 2) pe_int) pe_int (nomark _))
        (pss_one (ps_ret (pe_makeK0 MI GI hr rfl mgC bK pass0 (pk_cons (pv 1) (pk_cons (pv 0) pk_nil))))) pss_nil)
      (pss_cons (ps_if (pt_cmpR op_eq (pe_op op_mod (pv 2) pe_int) pe_int (nomark _))
        (pss_one (ps_ret (pe_make MI GI hr rfl mgC b3 .nil pass0 (pa_cons (pv 0) (pa_cons (pv 1) pa_nil))))) pss_nil)
      (pss_one (ps_ret (pe_make MI GI hr rfl mgC b3 .nil pass0 (pa_cons (pv 0) (pa_cons (pe_callTy call_tuple_of (by rfl) LT.tuple (by decide +kernel) (pa_cons (pv 1) pa_nil)) pa_nil))))))))), ?_⟩
    have L0 : ∀ {H1 l}, Same H H1 → H1 l = none → Same H (upd H1 l (.lst [])) := fun a b => a.trans (same_new b)
    -- is it the empty list
    have emp : ∀ {H1 : Hp} {l : Addr}, Same H H1 → H1 l = none →
        ∃ a b, Dp K (upd H1 l (.lst [])) (.ref q) a ∧ Dp K (upd H1 l (.lst [])) (.ref l) b ∧ SeqAt.shaped a = true ∧ SeqAt.shaped b = true ∧ PyData.eqv a b = decide (gv = []) := fun {H1 l} s1 h1 => by
      have s2 := L0 s1 h1
      refine ⟨.list (gv.map pairD), .list [], .lst (SqL.of (s2 _ _ hq)) (mq.keep fun a xs e => s2 _ _ e).dp, .lst (SqL.of upd_same) .nil, pairs_shaped ok, rfl, ?_⟩
      cases gv with
      | nil => rfl
      | cons p r' => rw [decide_eq_false (fun e => by cases e)]; rfl
    -- an ear is made
    have go : ∀ {H1 : Hp} {pv : V} {b1 : Int} {gv1 : KVs}, Same H H1 → b1 = b → gv1 = gv → ((pv = .non ∧ gv1 = []) ∨ ∃ q1, pv = .ref q1 ∧ ((q1 = q) ∨ H1 q1 = some (.tup (ts.map V.ref)))) → ∀ x dx, H1 x = none → H1 dx = none → dx ≠ x →
        spEarInit K C Er [.ref x, .int b1, pv] (upd (upd H1 dx (.own x)) x (.ins C dx [])) (fun v H2 => v = .non ∧ Q (.ref x) H2) E0 := fun {H1 pv b1 gv1} s1 eb eg hp x dx nx ndx ne => by
      subst eb eg
      have s2 : Same H1 (upd (upd H1 dx (.own x)) x (.ins C dx [])) := fun b o e => by rw [upd_ne (ne_of_none e nx), upd_ne (ne_of_none e ndx)]; exact e
      have s3 := s1.trans s2
      refine ⟨x, dx, b1, gv1, pv, rfl, upd_same, hb, nd, ok, hl, ?_, fun F H' hE hF c => ⟨rfl, ?_⟩⟩
      · rcases hp with hp | ⟨q1, rfl, hp⟩
        · exact .inl hp
        · refine .inr ⟨q1, ts, rfl, ?_, mq.keep fun a xs e => s3 _ _ e⟩
          rcases hp with rfl | hp
          · exact .inl (SqL.of (s3 _ _ hq))
          · exact .inr (SqT.of (s2 _ _ hp))
      · have x0 : H x = none := s1.free nx
        refine k F x H' hE (fun a ha => ?_) fun a o e => c.at (s3 _ _ e) (fun z => (ne_of_none e x0) (List.mem_singleton.mp z))
        rcases hF a ha with rfl | h
        · exact x0
        · exact s3.free h
    refine ⟨fun σ H' => σ = [some (.int b), some (.ref q), some (.int c)] ∧ Same H H', ?_, ?_⟩
    · refine ⟨_, rfl, rfl, _, rfl, ?_⟩
      refine ite2 (fun h1 => ?_) fun _ => ⟨rfl, Same.refl _⟩
      refine ⟨_, rfl, (by show 0 ≤ sizeLine; decide), fun l hl => ?_⟩
      obtain ⟨d1, d2, e1, e2, e3, e4, e5⟩ := emp (Same.refl H) hl
      refine ⟨d1, d2, e1, e2, e3, e4, _, rfl, ?_⟩
      rw [e5]
      refine ite2 (fun h2 => ?_) fun _ => ⟨rfl, L0 (Same.refl H) hl⟩
      refine ⟨_, rfl, _, _, rfl, rfl, (by show (0 : Int) < 2; decide), rfl, _, rfl, ?_⟩
      refine ite2 (fun _ => ?_) fun _ => ⟨rfl, L0 (Same.refl H) hl⟩
      have b1 : (1 : Int) = b := (V.int.inj (of_decide_eq_true h1)).symm
      exact go (L0 (Same.refl H) hl) b1 rfl (.inl ⟨rfl, of_decide_eq_true h2⟩)
    rintro σ H1 ⟨rfl, s1⟩
    refine ⟨fun σ H' => σ = [some (.int b), some (.ref q), some (.int c)] ∧ Same H H', ?_, ?_⟩
    · refine ⟨_, rfl, (by show 0 ≤ sizeLine; decide), fun l hl => ?_⟩
      obtain ⟨d1, d2, e1, e2, e3, e4, e5⟩ := emp s1 hl
      refine ⟨d1, d2, e1, e2, e3, e4, _, rfl, ?_⟩
      rw [e5]
      refine ite2 (fun h2 => ?_) fun _ => ⟨rfl, L0 s1 hl⟩
      refine ⟨_, rfl, _, _, rfl, rfl, (by show (0 : Int) < 3; decide), rfl, _, rfl, ?_⟩
      refine ite2 (fun _ => ?_) fun _ => ⟨rfl, L0 s1 hl⟩
      exact ⟨_, rfl, go (L0 s1 hl) rfl rfl (.inl ⟨rfl, of_decide_eq_true h2⟩)⟩
    rintro σ H1 ⟨rfl, s1⟩
    refine ⟨fun σ H' => σ = [some (.int b), some (.ref q), some (.int c)] ∧ Same H H', ?_, ?_⟩
    · refine ⟨_, rfl, (by show 0 ≤ sizeLine; decide), fun l hl => ?_⟩
      obtain ⟨d1, d2, e1, e2, e3, e4, e5⟩ := emp s1 hl
      refine ⟨d1, d2, e1, e2, e3, e4, _, rfl, ?_⟩
      rw [e5]
      refine ite2 (fun h2 => ?_) fun _ => ⟨rfl, L0 s1 hl⟩
      refine ⟨_, rfl, _, _, rfl, rfl, (by show (0 : Int) < 3; decide), rfl, _, rfl, ?_⟩
      refine ite2 (fun _ => ?_) fun _ => ⟨rfl, L0 s1 hl⟩
      exact ⟨_, rfl, go (L0 s1 hl) rfl rfl (.inl ⟨rfl, of_decide_eq_true h2⟩)⟩
    rintro σ H1 ⟨rfl, s1⟩
    refine ⟨_, rfl, _, _, rfl, rfl, (by show (0 : Int) < 4; decide), rfl, _, rfl, ?_⟩
    refine ite2 (fun _ => ?_) fun _ => ?_
    · refine ⟨_, rfl, _, rfl, rfl, ?_⟩
      exact ⟨rfl, go s1 rfl rfl (.inr ⟨q, rfl, .inl rfl⟩)⟩
    refine ⟨_, rfl, _, _, rfl, rfl, (by show (0 : Int) < 2; decide), rfl, _, rfl, ?_⟩
    refine ite2 (fun _ => ?_) fun _ => ?_
    · exact ⟨_, rfl, _, rfl, go s1 rfl rfl (.inr ⟨q, rfl, .inl rfl⟩)⟩
    refine ⟨_, rfl, _, rfl, q, _, rfl, .inl ⟨SqL.of (s1 _ _ hq), fun l hl => ?_⟩⟩
    exact go (s1.trans (same_new hl)) rfl rfl (.inr ⟨l, rfl, .inr upd_same⟩)
end
end KL

namespace KL
open PySem L2 L2H LX KB
/-! ### law_k03's own: a hearing -/
def keptD (t : Addr) : List (Key × V) := [(Sum.inr "told", .ref t)]
theorem kept_t (t : Addr) : valV (keptD t) (Sum.inr "told") = some (.ref t) := valV_pos rfl
theorem kept_put (t t' : Addr) : putK (keptD t) (Sum.inr "told") (.ref t') = keptD t' := by
  unfold putK
  rw [valV_any, kept_t, if_pos (show (some (V.ref t)).isSome = true from rfl)]
  unfold keptD
  simp only [List.map_cons, List.map_nil, if_pos]
structure ESide (Er : ErT) (F : List Addr) (H : Hp) (p tq m t : Addr) (b : Int) (gv : KVs) (tts : List Addr) (tk : List Row) : Prop where
  er : Er F H p b gv tk
  di : H m = some (.dK (keptD t))
  to : H t = some (.lst [])
  li : H tq = some (.lst (tts.map V.ref))
  at_ : RowsAt H tts tk
  good : ∀ r ∈ tk, GoodR r
  ne : tq ≠ t
  ap : ∀ a ∈ F, a ∉ [tq, m, t]
theorem ESide.gT {Er : ErT} {F : List Addr} {H : Hp} {p tq m t : Addr} {b : Int} {gv : KVs} {tts : List Addr} {tk : List Row} (S : ESide Er F H p tq m t b gv tts tk) : DGet H m (.str "told") (some (.ref t)) := by
  have h := DGet.k (k := Sum.inr "told") S.di
  rw [kept_t] at h
  exact h
theorem ESide.th {Er : ErT} {F : List Addr} {H : Hp} {p tq m t : Addr} {b : Int} {gv : KVs} {tts : List Addr} {tk : List Row} (S : ESide Er F H p tq m t b gv tts tk) : ∀ a ∈ [tq, m, t], ∃ o, H a = some o := fun a ha => by
  simp only [List.mem_cons, List.not_mem_nil, or_false] at ha
  rcases ha with rfl | rfl | rfl
  · exact ⟨_, S.li⟩
  · exact ⟨_, S.di⟩
  · exact ⟨_, S.to⟩
def EAfter (Er : ErT) (F : List Addr) (H : Hp) (p tq m t : Addr) (b : Int) (gv : KVs) (tk : List Row) (H' : Hp) : Prop :=
  ∃ F' t' tts', ESide Er F' H' p tq m t' b gv tts' tk ∧ Grow F F' H ∧ (t' = t ∨ H t' = none) ∧ Ch H H' (tq :: m :: F)
def spHeard (Er : ErT) : Sp := fun vs H Q _ => ∃ (F : List Addr) (p tq m t bq : Addr) (b : Int) (gv : KVs) (tts bts : List Addr) (tk rs : List Row), vs = [.ref p, .ref tq, .int b, .ref bq, .ref m] ∧ ESide Er F H p tq m t b gv tts tk ∧
  H bq = some (.lst (bts.map V.ref)) ∧ RowsAt H bts rs ∧ (∀ r ∈ rs, GoodR r) ∧ bq ∉ tq :: m :: t :: F ∧ gv.length + tk.length + rs.length ≤ 990 ∧
  ∀ H', EAfter Er F H p tq m t b gv (takeM b tk rs) H' → Q (.bl true) H'
theorem Ch.app {H H1 H2 : Hp} {L F1 : List Addr} (a : Ch H H1 L) (g : ∀ x ∈ F1, x ∈ L ∨ H x = none) (b : Ch H1 H2 F1) : Ch H H2 L := by
  refine ⟨fun x o e n => b.st x o (a.st x o e n) (n.imp (fun z y => ?_) id), fun x o e => let ⟨_, z⟩ := a.th x o e; b.th _ _ z⟩
  rcases g x y with h | h
  · exact z h
  · rw [e] at h
    cases h
theorem lastN_at {b : Int} {tk : List Row} {r : Row} (h : tk[tk.length - 1]? = some r) : lastN b tk = r.n := by
  unfold lastN
  rw [List.getLast?_eq_getElem?, h]
section
variable {P : Program} {w : World} {K : PySem.W.Frag} {mg : Str → Option Value} {base : Heap}
theorem ok_heard {Er : ErT} {f C : Addr} {fd : FuncData} (F : Fun K "_law_heard" "_law_heard" s_heard f fd) (cl : Cls K C) (A1 : EarApi P w K mg base C Er esL) (LT : LTxt mg) (DW : Def P w K mg base "_law_whole" 1 p_whole spWhole)
    (DC : Def P w K mg base "_law_changes" 3 p_changes (spChanges K)) : FnOk P w K mg base CX0 5 f fd p_heard (spHeard Er) := by
  obtain ⟨f1, fd1, g1, k1, b1, G1⟩ := DC.ex
  obtain ⟨fW, fdW, gW, kW, bW, GW⟩ := DW.ex
  obtain ⟨fH, fdH, psH, mH, bH, GH⟩ := A1.hear.ex
  obtain ⟨fD, fdD, psD, mD, bD, GD⟩ := A1.heard.ex
  refine F.ok sc_heard (fun vs H Q E h => ?_) (fun cdv A outer s H vs Q E hr h => ?_)
  · obtain ⟨F, p, tq, m, t, bq, b, gv, tts, bts, tk, rs, rfl, _⟩ := h
    rfl
  · obtain ⟨Fo, p, tq, m, t, bq, b, gv, tts, bts, tk, rs, rfl, S, hb, mb, gr, nb, hl, k⟩ := h
    have hu := hu_of hr
    have hu64 := hr.units
    have hr1 : Room 1 _ := hr.mono (by decide)
    have hr3 : Room 3 _ := hr.mono (by decide)
    refine ⟨_, pss_cons (ps_set (i := 5) sc_heard.nd rfl (Or.inl rfl) (pe_callTy call_list_of (by rfl) LT.list (by decide +kernel) (pa_cons (pv 3) pa_nil)))
      (pss_cons (ps_set (i := 6) sc_heard.nd rfl (Or.inl rfl) (pe_op op_sub (pv 2) pe_int))
      (C8.pss_cut (ps_if (pt_cmpR (op_neD hu64) (pv 1) (pe_lst pa_nil) (nomark _))
        (pss_one (ps_set (i := 6) sc_heard.nd rfl (Or.inl rfl) (pe_ix ix_tup (pe_ix ix_list (pv 1) (pe_un un_neg pe_int) (fun _ _ => rfl)) pe_int (fun _ _ => rfl)))) pss_nil)
      (pss_cons (ps_for PassesOwn.never rfl (pi_list (pv 3)) (pg_name (i := 7) sc_heard.nd rfl (Or.inl rfl))
        (pss_one (ps_if (pt_cmpR op_gt (pe_ix ix_tup (pv 7) pe_int (fun _ _ => rfl)) (pv 6) (nomark _))
          (pss_cons (ps_expr (pe_bm PySem.F.plainAttrs_list PySem.F.slot_list_append PySem.F.type_list_append mt_append (pv 1) (pa_cons (pv 7) pa_nil)))
          (pss_one (ps_set (i := 6) sc_heard.nd rfl (Or.inl rfl) (pe_ix ix_tup (pv 7) pe_int (fun _ _ => rfl))))) pss_nil)))
      (pss_cons (ps_set (i := 8) sc_heard.nd rfl (Or.inl rfl) (pe_meth (E := E0) (pv 0) cl mH GH hr bH .nil pass0 (pa_cons (pv 5) pa_nil)))
      (pss_cons (ps_set (i := 9) sc_heard.nd rfl (Or.inl rfl) (pe_cmpR (op_eqD hu64) (pv 5) (pv 3) (nomark _)))
      (pss_cons (ps_expr (pe_bm0 PySem.F.plainAttrs_list PySem.F.slot_list_clear PySem.F.type_list_clear mt_clear (pv 5)))
      (pss_cons (ps_set (i := 10) sc_heard.nd rfl (Or.inl rfl) (pe_meth0 (E := E0) (pv 0) cl mD GD hr bD .nil pass0))
      (pss_cons (ps_if (PW.pt (pw_or (pt_cmpR (op_neD hu64) (pe_dget hu (pv 4) pe_str (fun _ _ => rfl)) (pe_lst pa_nil) (nomark _))
          (pw_or1 (pt_not (pt_val (pe_call G1 hr3 rfl g1 k1 b1 .nil pass0 (pa_cons (pv 10) (pa_cons (pv 1) pa_nil)))))))) (pss_one (ps_ret pe_bl)) pss_nil)
      (pss_cons (ps_dput hu (pv 4) pe_str (pv 10) rfl)
      (pss_one (ps_ret (pe_and (pe_call GW hr1 rfl gW kW bW .nil pass0 (pa_cons (pv 8) pa_nil)) (pe_and (pe_cmpR op_eq (pv 8) (pv 6) (nomark _)) (pe_one (pv 9))))))))))))))), ?_⟩
    refine ⟨_, rfl, bq, _, rfl, .inl (SqL.of hb), fun hq hhq => ?_⟩
    have s1 : Same H (upd H hq (.lst (bts.map V.ref))) := same_new hhq
    have h1 : upd H hq (.lst (bts.map V.ref)) hq = some (.lst (bts.map V.ref)) := upd_same
    generalize upd H hq (.lst (bts.map V.ref)) = H1 at s1 h1
    refine ⟨_, rfl, _, _, rfl, rfl, ?_⟩
    refine ⟨fun σ H' => σ = [some (.ref p), some (.ref tq), some (.int b), some (.ref bq), some (.ref m), some (.ref hq), some (.int (lastN b tk)), none, none, none, none] ∧ Same H1 H', ?_, ?_⟩
    · refine ⟨_, rfl, (by show 0 ≤ sizeLine; decide), fun l2 hl2 => ?_⟩
      have s2 := s1.trans (same_new (o := .lst []) hl2)
      have ma := S.at_.keep fun a xs e => s2 _ _ e
      refine ⟨.list (tk.map Row.D), .list [], .lst (SqL.of (s2 _ _ S.li)) ma.dp, .lst (SqL.of upd_same) .nil, rows_shaped (fun r hr => (S.good r hr).ok), rfl, _, rfl, ?_⟩
      cases tk with
      | nil => exact iteF ⟨rfl, same_new hl2⟩
      | cons r0 rr =>
        obtain ⟨tz, ro, ea, hz, e⟩ := RowsAt.last ma (by simp)
        refine iteT ⟨_, rfl, _, rfl, tq, _, _, _, rfl, rfl, SqL.of (s2 _ _ S.li), ea, tz, _, 0, .int ro.n, rfl, rfl, SqT.of hz, rfl, ?_, same_new hl2⟩
        rw [lastN_at e]
        rfl
    rintro σ H2 ⟨rfl, s2⟩
    have s02 := s1.trans s2
    have mb2 := mb.keep fun a xs e => s02 _ _ e
    have hb2 := s02 _ _ hb
    have S2li := s02 _ _ S.li
    have btq : bq ≠ tq := fun z => nb (by rw [z]; simp)
    have hq0 : H hq = none := hhq
    have qtq : hq ≠ tq := (ne_of_none S.li hq0).symm
    have lb : (bts.map V.ref).length = rs.length := by rw [List.length_map, Paired.length mb]
    refine ⟨_, rfl, bq, rfl, ⟨_, SqL.of hb2⟩, for_list (xs := bts.map V.ref) (fun i σ H' => (∃ y7 : Option V, σ = [some (.ref p), some (.ref tq), some (.int b), some (.ref bq), some (.ref m), some (.ref hq), some (.int (lastN b (takeM b tk (rs.take i)))), y7, none, none, none]) ∧ Ch H2 H' [tq] ∧
      ∃ tts', H' tq = some (.lst (tts'.map V.ref)) ∧ RowsAt H' tts' (takeM b tk (rs.take i))) ⟨⟨none, rfl⟩, Ch.refl _ _, tts, S2li, S.at_.keep fun a xs e => s02 _ _ e⟩ ?_ ?_ ?_⟩
    · rintro i σ H' _ ⟨_, c, _⟩
      exact SqL.of (c.at hb2 (fun z => btq (List.mem_singleton.mp z)))
    · rintro i x σ H3 hx ⟨⟨y7, rfl⟩, c, tts', h3, m3⟩
      obtain ⟨tr, r, rfl, hr', hrt⟩ := RowsAt.at mb2 hx
      have hrt3 := c.tup _ _ hrt
      have hi : i < rs.length := (List.getElem?_eq_some_iff.mp hr').1
      have tk1 : takeM b tk (rs.take (i + 1)) = (if r.n > lastN b (takeM b tk (rs.take i)) then takeM b tk (rs.take i) ++ [r] else takeM b tk (rs.take i)) := by
        rw [List.take_add_one, hr', takeM_app]
        rfl
      refine ⟨_, rfl, tr, _, 0, .int r.n, rfl, rfl, SqT.of hrt3, rfl, _, rfl, _, _, rfl, rfl, _, rfl, ?_⟩
      by_cases c1 : r.n > lastN b (takeM b tk (rs.take i))
      · rw [decide_eq_true c1]
        rw [if_pos c1] at tk1
        have lt := takeM_len b (rs.take i) tk
        rw [List.length_take] at lt
        refine iteT ⟨_, rfl, .inl ⟨rfl, _, SqL.of h3⟩, _, rfl, tq, _, _, rfl, rfl, h3, by rw [List.length_map, Paired.length m3]; exact small1000 (by omega), ?_⟩
        have ntR : tr ≠ tq := ne_of hrt3 h3 (by intro z; cases z)
        refine ⟨_, rfl, tr, _, 0, .int r.n, rfl, rfl, SqT.of (by rw [upd_ne ntR]; exact hrt3), rfl, ⟨some (.ref tr), ?_⟩, c.mut (List.mem_singleton.mpr rfl) S2li (fun xs e => by cases e), tts' ++ [tr], by rw [upd_same, List.map_append]; rfl, ?_⟩
        · rw [tk1, lastN_snoc]
          rfl
        · rw [tk1]
          have nR : ∀ a xs, H3 a = some (.tup xs) → a ≠ tq := fun a xs e => ne_of e h3 (by intro q; cases q)
          exact Paired.snoc (m3.keep fun a xs e => by rw [upd_ne (nR a xs e)]; exact e) (by rw [upd_ne ntR]; exact hrt3)
      · rw [decide_eq_false c1]
        rw [if_neg c1] at tk1
        refine iteF ⟨⟨some (.ref tr), ?_⟩, c, tts', h3, ?_⟩
        · rw [tk1]
          rfl
        · rw [tk1]; exact m3
    · rintro σ H3 ⟨⟨y7, rfl⟩, c, tts', h3, m3⟩
      rw [lb, List.take_length] at m3 ⊢
      have c3 : Ch H H3 [tq] := (Ch.of s02 _).trans c
      have gtk := takeM_good (b := b) S.good gr
      generalize hT : takeM b tk rs = tk2 at m3 k gtk ⊢
      have hq3 : H3 hq = some (.lst (bts.map V.ref)) := c.at (s2 _ _ h1) (fun z => qtq (List.mem_singleton.mp z))
      have ntF : ∀ a ∈ Fo, a ∉ [tq] := fun a ha z => S.ap a ha (by rw [List.mem_singleton.mp z]; simp)
      have E3 := A1.frame S.er c3 ntF
      have nqF : hq ∉ Fo := fun z => by
        obtain ⟨o, e⟩ := A1.own S.er _ z
        rw [hq0] at e
        cases e
      have mb3 : RowsAt H3 bts rs := mb2.keep c.tup
      obtain ⟨hpF, dz, fs, hob, hfs⟩ := A1.inst E3
      refine ⟨_, rfl, p, dz, fs, rfl, hob, hfs _ (by simp), _, rfl, Fo, p, hq, b, gv, tk, rs, bts, rfl, E3, hq3, nqF, mb3, gr, hl, fun F4 H4 E4 G4 C4 => ?_⟩
      rw [hT] at E4 ⊢
      have hq4 := C4.at hq3 nqF
      have bF : bq ∉ Fo := fun z => nb (by simp [z])
      have hb4 := C4.at (c3.at hb (fun z => btq (List.mem_singleton.mp z))) bF
      have mb4 := mb3.keep C4.tup
      refine ⟨_, rfl, _, rfl, .list (rs.map Row.D), .list (rs.map Row.D), .lst (SqL.of hq4) mb4.dp, .lst (SqL.of hb4) mb4.dp, rows_shaped (fun r hr => (gr r hr).ok), rows_shaped (fun r hr => (gr r hr).ok), ?_⟩
      rw [rows_eqv (fun r hr => (gr r hr).ok)]
      refine ⟨_, rfl, .inl ⟨rfl, _, SqL.of hq4⟩, hq, _, rfl, rfl, hq4, ?_⟩
      have c34 : Ch H3 H4 (hq :: Fo) := C4.mono fun x hx => List.mem_cons_of_mem _ hx
      have c35 : Ch H3 (upd H4 hq (.lst [])) (hq :: Fo) := c34.mut List.mem_cons_self hq3 (fun xs e => by cases e)
      have gF4 : ∀ x ∈ F4, x ∈ hq :: Fo ∨ H3 x = none := fun x hx => (G4 x hx).imp (fun z => List.mem_cons_of_mem _ z) id
      have nqF4 : hq ∉ F4 := fun z => by
        rcases G4 _ z with y | y
        · exact nqF y
        · rw [hq3] at y; cases y
      have E5 := A1.frame E4 ((Ch.refl H4 [hq]).mut (o := .lst []) (List.mem_singleton.mpr rfl) hq4 (fun xs e => by cases e)) (fun a ha z => nqF4 (by rw [← List.mem_singleton.mp z]; exact ha))
      dsimp only
      generalize upd H4 hq (.lst []) = H5 at c35 E5
      obtain ⟨hpF4, dz4, fs4, hob4, hfs4⟩ := A1.inst E5
      refine ⟨_, rfl, p, dz4, fs4, rfl, hob4, hfs4 _ (by simp), F4, p, b, gv, tk2, rfl, E5, fun F6 f6 us H6 E6 G6 C6 n6 nf6 h6 r6 => ?_⟩
      have c36 : Ch H3 H6 (hq :: Fo) := Ch.app c35 gF4 C6
      have gF6 : ∀ x ∈ F6, x ∈ hq :: Fo ∨ H3 x = none := fun x hx => by
        rcases G6 x hx with y | y
        · exact gF4 x y
        · exact .inr (c35.none _ y)
      have f63 : H3 f6 = none := c35.none _ n6
      have f60 : H f6 = none := c3.none _ f63
      have stay : ∀ {a o}, a ∈ [tq, m, t] → H3 a = some o → H6 a = some o := fun {a o} ha e => by
        refine c36.at e fun z => ?_
        rcases List.mem_cons.mp z with z | z
        · obtain ⟨o, e0⟩ := S.th a ha
          rw [z, hq0] at e0
          cases e0
        · exact S.ap a z ha
      have mtq : m ≠ tq := ne_of S.di S.li (by intro z; cases z)
      have di3 : H3 m = some (.dK (keptD t)) := c3.at S.di fun z => mtq (List.mem_singleton.mp z)
      have to3 : H3 t = some (.lst []) := c3.at S.to fun z => S.ne (List.mem_singleton.mp z).symm
      have di6 := stay (by simp) di3
      have to6 := stay (by simp) to3
      have li6 := stay (by simp) h3
      have m6 := m3.keep c36.tup
      have gT : DGet H6 m (.str "told") (some (.ref t)) := by
        have q := DGet.k (k := Sum.inr "told") di6
        rw [kept_t] at q
        exact q
      refine ⟨_, rfl, m, _, rfl, gT, (by show 0 ≤ sizeLine; decide), fun z7 hz7 => ?_⟩
      have s7 : Same H6 (upd H6 z7 (.lst [])) := same_new hz7
      refine ⟨.list [], .list [], .lst (SqL.of (s7 _ _ to6)) .nil, .lst (SqL.of upd_same) .nil, rfl, rfl, _, rfl, iteF ?_⟩
      refine ⟨_, rfl, _, rfl, f6, tq, us, tts', tk2, rfl, s7 _ _ h6, s7 _ _ li6, r6.keep fun x xs e => s7 _ _ e, m6.keep fun x xs e => s7 _ _ e, fun r hr => (gtk r hr).ok, true, rfl, iteF ?_⟩
      have c38 : Ch H3 (upd (upd H6 z7 (.lst [])) f6 (.lst [])) (hq :: Fo) := (c36.same s7).new _ f63
      have nt6 : ∀ {a o}, H3 a = some o → a ≠ f6 := fun e => ne_of_none e f63
      have E7 := A1.frame E6 (Ch.of s7 []) (fun _ _ z => nomatch z)
      have E8 := A1.frame E7 ((Ch.refl (upd H6 z7 (.lst [])) [f6]).mut (o := .lst []) (List.mem_singleton.mpr rfl) (s7 _ _ h6) (fun xs e => by cases e)) (fun a ha z => nf6 (by rw [← List.mem_singleton.mp z]; exact ha))
      have di8 : upd (upd H6 z7 (.lst [])) f6 (.lst []) m = some (.dK (keptD t)) := by rw [upd_ne (nt6 di3)]; exact s7 _ _ di6
      have li8 : upd (upd H6 z7 (.lst [])) f6 (.lst []) tq = some (.lst (tts'.map V.ref)) := by rw [upd_ne (nt6 h3)]; exact s7 _ _ li6
      have f8 : upd (upd H6 z7 (.lst [])) f6 (.lst []) f6 = some (.lst []) := upd_same
      have m8 := m3.keep c38.tup
      dsimp only
      generalize upd (upd H6 z7 (.lst [])) f6 (.lst []) = H8 at c38 E8 di8 li8 f8 m8
      refine ⟨_, rfl, _, rfl, m, _, rfl, DPut.k (kvs := keptD t) (k := Sum.inr "told") di8 (by show 1 < sizeLine; decide), ?_⟩
      rw [kept_put]
      have mF6 : ∀ a ∈ F6, a ∉ [tq, m, f6] := fun a ha z => by
        have base : a ∈ [tq, m] → False := fun y => by
          have y2 : a ∈ [tq, m, t] := by
            simp only [List.mem_cons, List.not_mem_nil, or_false] at y ⊢
            rcases y with y | y <;> simp [y]
          obtain ⟨o, e⟩ := S.th a y2
          rcases gF6 a ha with h | h
          · rcases List.mem_cons.mp h with h | h
            · rw [h, hq0] at e; cases e
            · exact S.ap a h y2
          · rw [c3.none _ h] at e; cases e
        simp only [List.mem_cons, List.not_mem_nil, or_false] at z
        rcases z with z | z | z
        · exact base (by simp [z])
        · exact base (by simp [z])
        · exact nf6 (by rw [← z]; exact ha)
      have cm : Ch H8 (upd H8 m (.dK (keptD f6))) [m] := (Ch.refl _ _).mut (List.mem_singleton.mpr rfl) di8 (fun xs e => by cases e)
      have E9 := A1.frame E8 cm (fun a ha z => mF6 a ha (by rw [List.mem_singleton.mp z]; simp))
      refine ⟨_, rfl, _, true, rfl, .inl ⟨⟨_, rfl⟩, rfl⟩, true, rfl, iteT ?_⟩
      refine ⟨_, rfl, _, rfl, rfl, ?_⟩
      rw [decide_eq_true rfl]
      refine ⟨true, rfl, iteT ⟨_, rfl, ?_⟩⟩
      refine k _ ⟨F6, f6, tts', ⟨E9, upd_same, ?_, ?_, m8.keep cm.tup, gtk, (nt6 h3), mF6⟩, fun x hx => ?_, .inr f60, ?_⟩
      · rw [upd_ne (ne_of f8 di8 (by intro z; cases z))]; exact f8
      · rw [upd_ne mtq.symm]; exact li8
      · rcases gF6 x hx with y | y
        · rcases List.mem_cons.mp y with y | y
          · exact .inr (by rw [y]; exact hq0)
          · exact .inl y
        · exact .inr (c3.none _ y)
      · refine ⟨fun x o e n => ?_, fun x o e => ?_⟩
        · have x3 := (c3.mono (m := tq :: m :: Fo) (fun y hy => by rw [List.mem_singleton.mp hy]; simp)).st x o e n
          have xq : x ≠ hq := ne_of_none e hq0
          have x8 := c38.st x o x3 (n.imp (fun z y => by
            rcases List.mem_cons.mp y with y | y
            · exact xq y
            · exact z (by simp [y])) id)
          exact (cm.mono (m := tq :: m :: Fo) (fun y hy => by rw [List.mem_singleton.mp hy]; simp)).st x o x8 n
        · obtain ⟨o1, x1⟩ := c3.th x o e
          obtain ⟨o2, x2⟩ := c38.th x o1 x1
          exact cm.th x o2 x2
end
end KL

namespace KL
open PySem L2 L2H LX KB
/-! ### law_k03: what stands between two turns -/
structure Es where
  F : List Addr
  p : Addr
  tq : Addr
  m : Addr
  t : Addr
  b : Int
  gv : KVs
  gq : Addr
  gts : List Addr
  tts : List Addr
  tk : List Row
def Es.W (X : Es) : List Addr := X.tq :: X.m :: X.F
def Es.O (X : Es) : List Addr := X.tq :: X.m :: X.t :: X.F
structure EsAt (Er : ErT) (H : Hp) (X : Es) : Prop where
  es : ESide Er X.F H X.p X.tq X.m X.t X.b X.gv X.tts X.tk
  gl : H X.gq = some (.lst (X.gts.map V.ref))
  gp : PairsAt H X.gts X.gv
  gn : (X.gv.map (·.1)).Nodup
  gk : ∀ x ∈ X.gv, PairOk x
  g5 : X.gv.length ≤ 5
theorem EsAt.th {Er : ErT} {H : Hp} {X : Es} {K : PySem.W.Frag} {P : Program} {w : World} {mg : Str → Option Value} {base : Heap} {C : Addr} (A1 : EarApi P w K mg base C Er esL) (S : EsAt Er H X) : ∀ a ∈ X.O, ∃ o, H a = some o := fun a ha => by
  unfold Es.O at ha
  simp only [List.mem_cons] at ha
  rcases ha with h | h | h | h
  · exact S.es.th a (by simp [h])
  · exact S.es.th a (by simp [h])
  · exact S.es.th a (by simp [h])
  · exact A1.own S.es.er a h
theorem W_sub_O {X : Es} : ∀ a ∈ X.W, a ∈ X.O := fun a ha => by
  unfold Es.W at ha
  unfold Es.O
  simp only [List.mem_cons] at ha ⊢
  rcases ha with h | h | h <;> simp [h]
structure EBoth (Er : ErT) (H0 H : Hp) (S0 : List Addr) (X Y : Es) : Prop where
  sx : EsAt Er H X
  sy : EsAt Er H Y
  xy : ∀ a ∈ X.W, a ∉ Y.O
  yx : ∀ a ∈ Y.W, a ∉ X.O
  x0 : ∀ a ∈ X.W, a ∉ S0
  y0 : ∀ a ∈ Y.W, a ∉ S0
  tx : X.t ∉ S0
  ty : Y.t ∉ S0
  xg : X.gq ∈ S0
  yg : Y.gq ∈ S0
  th : ∀ a ∈ S0, ∃ o, H a = some o
  old : Same H0 H
  nx : ∀ a ∈ X.W, H0 a = none
  ny : ∀ a ∈ Y.W, H0 a = none
theorem EBoth.swap {Er : ErT} {H0 H : Hp} {S0 : List Addr} {X Y : Es} (B : EBoth Er H0 H S0 X Y) : EBoth Er H0 H S0 Y X :=
  ⟨B.sy, B.sx, B.yx, B.xy, B.y0, B.x0, B.ty, B.tx, B.yg, B.xg, B.th, B.old, B.ny, B.nx⟩
theorem apartBy {H : Hp} {A B : List Addr} (a1 : ∀ a ∈ A, ∃ o, H a = some o) (b1 : ∀ b ∈ B, H b = none) : ∀ a ∈ A, a ∉ B := fun a ha hb => by
  obtain ⟨o, e⟩ := a1 a ha
  rw [b1 a hb] at e
  cases e
section
variable {P : Program} {w : World} {K : PySem.W.Frag} {mg : Str → Option Value} {base : Heap} {Er : ErT} {C : Addr}
theorem ESide.fr (A1 : EarApi P w K mg base C Er esL) {F : List Addr} {H H' : Hp} {p tq m t : Addr} {b : Int} {gv : KVs} {tts : List Addr} {tk : List Row} {l : List Addr} (S : ESide Er F H p tq m t b gv tts tk) (c : Ch H H' l) (d : ∀ a ∈ tq :: m :: t :: F, a ∉ l) : ESide Er F H' p tq m t b gv tts tk :=
  ⟨A1.frame S.er c (fun a ha => d a (by simp [ha])), c.at S.di (d _ (by simp)), c.at S.to (d _ (by simp)), c.at S.li (d _ (by simp)), S.at_.keep c.tup, S.good, S.ne, S.ap⟩
theorem EBoth.same (A1 : EarApi P w K mg base C Er esL) {H0 H H' : Hp} {S0 : List Addr} {X Y : Es} (B : EBoth Er H0 H S0 X Y) (s : Same H H') : EBoth Er H0 H' S0 X Y := by
  have c := Ch.of s []
  have f : ∀ {X : Es}, EsAt Er H X → EsAt Er H' X := fun S => ⟨S.es.fr A1 c (fun _ _ z => nomatch z), s _ _ S.gl, S.gp.keep fun a xs e => s _ _ e, S.gn, S.gk, S.g5⟩
  exact ⟨f B.sx, f B.sy, B.xy, B.yx, B.x0, B.y0, B.tx, B.ty, B.xg, B.yg, fun a ha => let ⟨o, e⟩ := B.th a ha; ⟨o, s _ _ e⟩, B.old.trans s, B.nx, B.ny⟩
theorem ESide.stated (A1 : EarApi P w K mg base C Er esL) {F F' : List Addr} {H H' : Hp} {p tq m t : Addr} {b : Int} {gv : KVs} {tts : List Addr} {tk : List Row} (S : ESide Er F H p tq m t b gv tts tk) (e : Er F' H' p b gv tk) (g : Grow F F' H) (c : Ch H H' F) : ESide Er F' H' p tq m t b gv tts tk := by
  have n : ∀ a ∈ [tq, m, t], a ∉ F := fun a ha z => S.ap a z ha
  exact ⟨e, c.at S.di (n _ (by simp)), c.at S.to (n _ (by simp)), c.at S.li (n _ (by simp)), S.at_.keep c.tup, S.good, S.ne, g.apart S.ap S.th⟩
/-- the one side goes on -/
theorem EBoth.go (A1 : EarApi P w K mg base C Er esL) {H0 H H' : Hp} {S0 : List Addr} {X Y : Es} {F' tts' : List Addr} {t' : Addr} {tk' : List Row} (B : EBoth Er H0 H S0 X Y) (S : ESide Er F' H' X.p X.tq X.m t' X.b X.gv tts' tk') (c : Ch H H' X.W) (g : Grow X.F F' H) (et : t' = X.t ∨ H t' = none) :
    EBoth Er H0 H' S0 ⟨F', X.p, X.tq, X.m, t', X.b, X.gv, X.gq, X.gts, tts', tk'⟩ Y ∧ ∀ a ∈ S0, ∀ o, H a = some o → H' a = some o := by
  have dY : ∀ a ∈ Y.O, a ∉ X.W := fun a ha z => B.xy a z ha
  have d0 : ∀ a ∈ S0, a ∉ X.W := fun a ha z => B.x0 a z ha
  have keepS : ∀ a ∈ S0, ∀ o, H a = some o → H' a = some o := fun a ha o e => c.at e (d0 a ha)
  have thY := B.sy.th A1
  have thX := B.sx.th A1
  have wx : ∀ a ∈ X.tq :: X.m :: F', a ∈ X.W ∨ H a = none := fun a ha => by
    unfold Es.W
    simp only [List.mem_cons] at ha ⊢
    rcases ha with h | h | h
    · exact .inl (.inl h)
    · exact .inl (.inr (.inl h))
    · rcases g a h with z | z
      · exact .inl (.inr (.inr z))
      · exact .inr z
  have ox : ∀ a ∈ X.tq :: X.m :: t' :: F', a ∈ X.O ∨ H a = none := fun a ha => by
    unfold Es.O
    simp only [List.mem_cons] at ha ⊢
    rcases ha with h | h | h | h
    · exact .inl (.inl h)
    · exact .inl (.inr (.inl h))
    · rcases et with e | e
      · exact .inl (.inr (.inr (.inl (h.trans e))))
      · exact .inr (by rw [h]; exact e)
    · rcases g a h with z | z
      · exact .inl (.inr (.inr (.inr z)))
      · exact .inr z
  refine ⟨⟨⟨S, keepS _ B.xg _ B.sx.gl, B.sx.gp.keep c.tup, B.sx.gn, B.sx.gk, B.sx.g5⟩, ⟨B.sy.es.fr A1 c dY, keepS _ B.yg _ B.sy.gl, B.sy.gp.keep c.tup, B.sy.gn, B.sy.gk, B.sy.g5⟩, fun a ha z => ?_, fun a ha z => ?_, fun a ha z => ?_, B.y0, fun z => ?_, B.ty, B.xg, B.yg, fun a ha => ?_, c.old B.old B.nx, fun a ha => ?_, B.ny⟩, keepS⟩
  · rcases wx a ha with h | h
    · exact B.xy a h z
    · obtain ⟨o, e⟩ := thY a z
      rw [h] at e
      cases e
  · rcases ox a z with h | h
    · exact B.yx a ha h
    · obtain ⟨o, e⟩ := thY a (W_sub_O a ha)
      rw [h] at e
      cases e
  · rcases wx a ha with h | h
    · exact B.x0 a h z
    · obtain ⟨o, e⟩ := B.th a z
      rw [h] at e
      cases e
  · rcases et with e | e
    · exact B.tx (by rw [← e]; exact z)
    · obtain ⟨o, e2⟩ := B.th _ z
      rw [e] at e2
      cases e2
  · obtain ⟨o, e⟩ := B.th a ha
    exact ⟨o, keepS a ha o e⟩
  · rcases wx a ha with h | h
    · exact B.nx a h
    · exact B.old.free h
end
/-! the lists in which the law keeps them -/
structure LsAt (H : Hp) (E T Kp Sl G R : Addr) (els tls kls sls gls : List V) (rts : List Addr) (rs : List Row) : Prop where
  e : H E = some (.lst els)
  t : H T = some (.lst tls)
  k : H Kp = some (.lst kls)
  s : H Sl = some (.lst sls)
  g : H G = some (.lst gls)
  r : H R = some (.lst (rts.map V.ref))
  m : RowsAt H rts rs
structure Sits (X : Es) (wh : Int) (els tls kls sls gls : List V) : Prop where
  e : atI els wh = some (.ref X.p)
  t : atI tls wh = some (.ref X.tq)
  k : atI kls wh = some (.ref X.m)
  s : atI sls wh = some (.int X.b)
  g : atI gls wh = some (.ref X.gq)
structure Ad where
  E : Addr
  T : Addr
  Kp : Addr
  Sl : Addr
  G : Addr
  R : Addr
  g0 : Addr
  g1 : Addr
  rts : List Addr
  rs : List Row
def Ad.l (D : Ad) : List Addr := [D.E, D.T, D.Kp, D.Sl, D.G, D.R, D.g0, D.g1]
def EWld (Er : ErT) (H0 : Hp) (D : Ad) (n1 n2 : Nat) (wh : Int) (H : Hp) : Prop := ∃ (X Y : Es) (els tls kls sls gls : List V), LsAt H D.E D.T D.Kp D.Sl D.G D.R els tls kls sls gls D.rts D.rs ∧ Sits X wh els tls kls sls gls ∧ Sits Y (1 - wh) els tls kls sls gls ∧
  EBoth Er H0 H D.l X Y ∧ X.tk.length ≤ n1 ∧ Y.tk.length ≤ n2
theorem EWld.swap {Er : ErT} {H0 H : Hp} {D : Ad} {n1 n2 : Nat} {wh : Int} (h : EWld Er H0 D n1 n2 wh H) : EWld Er H0 D n2 n1 (1 - wh) H := by
  obtain ⟨X, Y, els, tls, kls, sls, gls, h1, h2, h3, h4, h5, h6⟩ := h
  have e : 1 - (1 - wh) = wh := by omega
  exact ⟨Y, X, els, tls, kls, sls, gls, h1, h3, by rw [e]; exact h2, h4.swap, h6, h5⟩
theorem EWld.to {Er : ErT} {H0 H : Hp} {D : Ad} {n : Nat} {wh wh' : Int} (h : EWld Er H0 D n n wh H) (a : wh = 0 ∨ wh = 1) (b : wh' = 0 ∨ wh' = 1) : EWld Er H0 D n n wh' H := by
  by_cases e : wh = wh'
  · rw [← e]; exact h
  · have : wh' = 1 - wh := by omega
    rw [this]; exact h.swap
theorem EWld.mono {Er : ErT} {H0 H : Hp} {D : Ad} {n1 n2 m1 m2 : Nat} {wh : Int} (h : EWld Er H0 D n1 n2 wh H) (l1 : n1 ≤ m1) (l2 : n2 ≤ m2) : EWld Er H0 D m1 m2 wh H := by
  obtain ⟨X, Y, els, tls, kls, sls, gls, h1, h2, h3, h4, h5, h6⟩ := h
  exact ⟨X, Y, els, tls, kls, sls, gls, h1, h2, h3, h4, Nat.le_trans h5 l1, Nat.le_trans h6 l2⟩
theorem LsAt.keep {H H' : Hp} {D : Ad} {els tls kls sls gls : List V} (h : LsAt H D.E D.T D.Kp D.Sl D.G D.R els tls kls sls gls D.rts D.rs) (k : ∀ a ∈ D.l, ∀ o, H a = some o → H' a = some o) (kt : ∀ b xs, H b = some (.tup xs) → H' b = some (.tup xs)) :
    LsAt H' D.E D.T D.Kp D.Sl D.G D.R els tls kls sls gls D.rts D.rs :=
  ⟨k _ (by simp [Ad.l]) _ h.e, k _ (by simp [Ad.l]) _ h.t, k _ (by simp [Ad.l]) _ h.k, k _ (by simp [Ad.l]) _ h.s, k _ (by simp [Ad.l]) _ h.g, k _ (by simp [Ad.l]) _ h.r, h.m.keep kt⟩
section
variable {P : Program} {w : World} {K : PySem.W.Frag} {mg : Str → Option Value} {base : Heap} {Er : ErT} {C : Addr}
theorem EWld.same (A1 : EarApi P w K mg base C Er esL) {H0 H H' : Hp} {D : Ad} {n1 n2 : Nat} {wh : Int} (h : EWld Er H0 D n1 n2 wh H) (s : Same H H') : EWld Er H0 D n1 n2 wh H' := by
  obtain ⟨X, Y, els, tls, kls, sls, gls, h1, h2, h3, h4, h5, h6⟩ := h
  exact ⟨X, Y, els, tls, kls, sls, gls, h1.keep (fun a _ o e => s _ _ e) (fun b xs e => s _ _ e), h2, h3, h4.same A1 s, h5, h6⟩
end
theorem EWld.old {Er : ErT} {H0 H : Hp} {D : Ad} {n1 n2 : Nat} {wh : Int} (h : EWld Er H0 D n1 n2 wh H) : Same H0 H := by
  obtain ⟨X, Y, els, tls, kls, sls, gls, h1, h2, h3, h4, h5, h6⟩ := h
  exact h4.old
theorem EWld.row {Er : ErT} {H0 H : Hp} {D : Ad} {n1 n2 : Nat} {wh : Int} (h : EWld Er H0 D n1 n2 wh H) : H D.R = some (.lst (D.rts.map V.ref)) ∧ RowsAt H D.rts D.rs := by
  obtain ⟨X, Y, els, tls, kls, sls, gls, h1, h2, h3, h4, h5, h6⟩ := h
  exact ⟨h1.r, h1.m⟩
theorem EWld.th {P : Program} {w : World} {K : PySem.W.Frag} {mg : Str → Option Value} {base : Heap} {Er : ErT} {C : Addr} (A1 : EarApi P w K mg base C Er esL) {H0 H : Hp} {D : Ad} {n1 n2 : Nat} {wh : Int} (h : EWld Er H0 D n1 n2 wh H) {b : Addr} (hb : H b = none) :
    ∃ (X Y : Es) (els tls kls sls gls : List V), LsAt H D.E D.T D.Kp D.Sl D.G D.R els tls kls sls gls D.rts D.rs ∧ Sits X wh els tls kls sls gls ∧ Sits Y (1 - wh) els tls kls sls gls ∧ EBoth Er H0 H D.l X Y ∧ X.tk.length ≤ n1 ∧ Y.tk.length ≤ n2 ∧ b ∉ X.tq :: X.m :: X.t :: X.F := by
  obtain ⟨X, Y, els, tls, kls, sls, gls, h1, h2, h3, h4, h5, h6⟩ := h
  refine ⟨X, Y, els, tls, kls, sls, gls, h1, h2, h3, h4, h5, h6, fun z => ?_⟩
  obtain ⟨o, e⟩ := h4.sx.th A1 b z
  rw [hb] at e
  cases e
/-! rows out of rows -/
theorem RowsAt.rev {H : Hp} : ∀ {ts : List Addr} {rs : List Row}, RowsAt H ts rs → RowsAt H ts.reverse rs.reverse
  | _, _, .nil => .nil
  | _, _, .cons r m => by
    rw [List.reverse_cons, List.reverse_cons]
    exact Paired.snoc (RowsAt.rev m) r
theorem RowsAt.app {H : Hp} : ∀ {ts us : List Addr} {rs ss : List Row}, RowsAt H ts rs → RowsAt H us ss → RowsAt H (ts ++ us) (rs ++ ss)
  | _, _, _, _, .nil, n => n
  | _, _, _, _, .cons r m, n => .cons r (RowsAt.app m n)
theorem cutV_win (xs : List V) {lo d : Int} (h0 : 0 ≤ lo) (h1 : 0 ≤ d) : ∃ i j : Nat, cutV xs (some lo) (some (lo + d)) = (xs.drop i).take j ∧ j ≤ d.toNat := by
  obtain ⟨a, rfl⟩ := Int.eq_ofNat_of_zero_le h0
  obtain ⟨e, rfl⟩ := Int.eq_ofNat_of_zero_le h1
  have e1 : HT.sIx xs.length 0 (some ((a : Nat) : Int)) = min a xs.length := HT.sIx_nat _ _ _
  have e2 : HT.sIx xs.length xs.length (some (((a : Nat) : Int) + ((e : Nat) : Int))) = min (a + e) xs.length := by
    rw [← Int.natCast_add]
    exact HT.sIx_nat _ _ _
  refine ⟨_, _, rfl, ?_⟩
  rw [e1, e2, Int.toNat_natCast]
  omega
theorem len_up {xs : List Row} {n : Nat} {ts : List Addr} {H : Hp} (m : RowsAt H ts xs) (h : ts.length ≤ n) : xs.length ≤ n := by rw [← Paired.length m]; exact h
theorem ndne {l : List Addr} (nd : l.Nodup) (i j : Nat) (h : i < j) (hj : j < l.length) : l[i]'(Nat.lt_trans h hj) ≠ l[j] := List.pairwise_iff_getElem.mp nd i j _ hj h
structure Al (l : List Addr) (H : Hp) : Prop where
  ex : ∀ x ∈ l, ∃ o, H x = some o
  nd : l.Nodup
theorem Al.same {l : List Addr} {H H' : Hp} (a : Al l H) (s : Same H H') : Al l H' := ⟨fun x hx => let ⟨o, e⟩ := a.ex x hx; ⟨o, s _ _ e⟩, a.nd⟩
theorem Al.ne {l : List Addr} {H : Hp} {y : Addr} (a : Al l H) (h : H y = none) : ∀ x ∈ l, x ≠ y := fun x hx z => by
  obtain ⟨o, e⟩ := a.ex x hx
  rw [z, h] at e
  cases e
theorem Al.snoc {l : List Addr} {H H' : Hp} {y : Addr} (a : Al l H) (h : H y = none) (s : Same H H') (hy : ∃ o, H' y = some o) : Al (l ++ [y]) H' := by
  refine ⟨fun x hx => ?_, List.nodup_append.mpr ⟨a.nd, List.nodup_cons.mpr ⟨fun z => (nomatch z), List.nodup_nil⟩, fun x hx b hb z => a.ne h x hx (z.trans (List.mem_singleton.mp hb))⟩⟩
  rcases List.mem_append.mp hx with hx | hx
  · obtain ⟨o, e⟩ := a.ex x hx
    exact ⟨o, s _ _ e⟩
  · rw [List.mem_singleton.mp hx]
    exact hy
theorem merge_kept (t : Addr) : mergeK [] (keptD t) = keptD t := by
  unfold mergeK keptD
  simp only [List.foldl_cons, List.foldl_nil]
  exact putK_new _ rfl
theorem kept_made {H : Hp} {m t : Addr} (hm : H m = none) (ht : upd H m (.dK []) t = none) :
    upd (upd (upd H m (.dK [])) t (.lst [])) m (.dK (mergeK [] (keptD t))) m = some (.dK (keptD t)) ∧ upd (upd (upd H m (.dK [])) t (.lst [])) m (.dK (mergeK [] (keptD t))) t = some (.lst []) ∧
    Same H (upd (upd (upd H m (.dK [])) t (.lst [])) m (.dK (mergeK [] (keptD t)))) ∧ upd (upd H m (.dK [])) t (.lst []) m = some (.dK []) ∧ H t = none ∧ m ≠ t := by
  have s1 : Same H (upd H m (.dK [])) := same_new hm
  have s2 : Same (upd H m (.dK [])) (upd (upd H m (.dK [])) t (.lst [])) := same_new ht
  have mt : m ≠ t := ne_of_none upd_same ht
  refine ⟨by rw [merge_kept]; exact upd_same, by rw [upd_ne mt.symm]; exact upd_same, fun b o q => ?_, s2 _ _ upd_same, s1.free ht, mt⟩
  rw [upd_ne (ne_of_none q hm)]
  exact s2 _ _ (s1 _ _ q)
theorem al_kept {l : List Addr} {H : Hp} {m t : Addr} (a : Al l H) (hm : H m = none) (ht : upd H m (.dK []) t = none) : Al (l ++ [m] ++ [t]) (upd (upd (upd H m (.dK [])) t (.lst [])) m (.dK (mergeK [] (keptD t)))) := by
  have a1 := (a.snoc hm (same_new hm) ⟨_, upd_same⟩).snoc ht (same_new (o := .lst []) ht) ⟨_, upd_same⟩
  refine ⟨fun x hx => ?_, a1.nd⟩
  obtain ⟨o, e⟩ := a1.ex x hx
  by_cases z : x = m
  · rw [z]; exact ⟨_, upd_same⟩
  · rw [upd_ne z]; exact ⟨o, e⟩
theorem twolists_shaped {g h : KVs} (a : ∀ x ∈ g, PairOk x) (b : ∀ x ∈ h, PairOk x) : SeqAt.shaped (.list [.list (g.map pairD), .list (h.map pairD)]) = true ∧ PyData.eqv (.list [.list (g.map pairD), .list (h.map pairD)]) (.list [.list (g.map pairD), .list (h.map pairD)]) = true := by
  have la := pairs_lay a
  have lb := pairs_lay b
  have l2 : PyData.canLay0 (.list [.list (g.map pairD), .list (h.map pairD)]) = true := by
    show (PyData.canLayAll0 (g.map pairD) && (PyData.canLayAll0 (h.map pairD) && true)) = true
    rw [la, lb]; rfl
  have d1 := pairs_depth g
  have d2 := pairs_depth h
  refine ⟨?_, PySem.SeqAt.eqv_refl _ l2⟩
  unfold SeqAt.shaped
  rw [Bool.and_eq_true]
  refine ⟨l2, decide_eq_true ?_⟩
  simp only [PyData.depth, PyData.depthAll]
  omega
end KL

namespace KL
open PySem L2 L2H LX KB
/-! ### law_k03: where the turns begin -/
section
variable {P : Program} {w : World} {K : PySem.W.Frag} {mg : Str → Option Value} {base : Heap} {Er : ErT} {C : Addr}
theorem start_wld (A1 : EarApi P w K mg base C Er esL) {H H9 Ha Hg : Hp} {R Sl ga gb G ha0 hb0 Hd E qa qb T m0 t0 m1 t1 Kp p0 p1 : Addr} {F0 F1 gta gtb rts : List Addr} {gva gvb : KVs} {bb : Int} {rs : List Row}
    (nd : [R, Sl, ga, gb, G, ha0, hb0, Hd, E, qa, qb, T, m0, t0, m1, t1, Kp].Nodup) (e0 : Er F0 Hg p0 1 gva []) (e1 : Er F1 Hg p1 bb gvb []) (a0 : ∀ x ∈ F0, ∃ o, Ha x = some o) (a1 : ∀ x ∈ F1, ∃ o, Ha x = some o)
    (nA : ∀ x ∈ [qa, qb, T, m0, t0, m1, t1, Kp], Ha x = none) (f0 : ∀ x ∈ F0, H9 x = none ∧ x ≠ E) (f1 : ∀ x ∈ F1, H9 x = none ∧ x ≠ E) (ex9 : ∀ x ∈ [R, Sl, ga, gb, G], ∃ o, H9 x = some o) (f01 : ∀ x ∈ F0, x ∉ F1) (old : Same H Hg)
    (n9 : ∀ x, H9 x = none → H x = none) (nH : ∀ x, Ha x = none → H x = none) (hE : Hg E = some (.lst [V.ref p0, V.ref p1])) (hT : Hg T = some (.lst [V.ref qa, V.ref qb])) (hK : Hg Kp = some (.lst [V.ref m0, V.ref m1])) (hS : Hg Sl = some (.lst [V.int 1, V.int bb]))
    (hG : Hg G = some (.lst [V.ref ga, V.ref gb])) (hR : Hg R = some (.lst (rts.map V.ref))) (mR : RowsAt Hg rts rs) (hga : Hg ga = some (.lst (gta.map V.ref))) (hgb : Hg gb = some (.lst (gtb.map V.ref))) (mga : PairsAt Hg gta gva) (mgb : PairsAt Hg gtb gvb)
    (hqa : Hg qa = some (.lst [])) (hqb : Hg qb = some (.lst [])) (dm0 : Hg m0 = some (.dK (keptD t0))) (dt0 : Hg t0 = some (.lst [])) (dm1 : Hg m1 = some (.dK (keptD t1))) (dt1 : Hg t1 = some (.lst []))
    (nda : (gva.map (·.1)).Nodup) (ndb : (gvb.map (·.1)).Nodup) (oka : ∀ x ∈ gva, PairOk x) (okb : ∀ x ∈ gvb, PairOk x) (l5a : gva.length ≤ 5) (l5b : gvb.length ≤ 5) : EWld Er H ⟨E, T, Kp, Sl, G, R, ga, gb, rts, rs⟩ 0 0 0 Hg := by
  have late : ∀ {F : List Addr} {x y : Addr}, (∀ x ∈ F, ∃ o, Ha x = some o) → x ∈ F → y ∈ [qa, qb, T, m0, t0, m1, t1, Kp] → x ≠ y := fun a hx hy z => by
    obtain ⟨o, e⟩ := a _ hx
    rw [z, nA _ hy] at e
    cases e
  have soon : ∀ {F : List Addr} {x y : Addr}, (∀ x ∈ F, H9 x = none ∧ x ≠ E) → x ∈ F → y ∈ [R, Sl, ga, gb, G] → x ≠ y := fun f hx hy z => by
    obtain ⟨o, e⟩ := ex9 _ hy
    rw [← z, (f _ hx).1] at e
    cases e
  have nd0 := nd
  simp only [List.nodup_cons, List.mem_cons, List.not_mem_nil, or_false, not_or, not_false_eq_true, List.nodup_nil, and_true] at nd
  obtain ⟨nR, nSl, nga, ngb, nG, nha, nhb, nHd, nE, nqa, nqb, nT, nm0, nt0, nm1, nt1⟩ := nd
  have fr0 : ∀ x ∈ F0, x ∉ [E, T, Kp, Sl, G, R, ga, gb] := fun x hx z => by
    simp only [List.mem_cons, List.not_mem_nil, or_false] at z
    rcases z with z | z | z | z | z | z | z | z
    · exact (f0 x hx).2 z
    · exact late a0 hx (by simp) z
    · exact late a0 hx (by simp) z
    · exact soon f0 hx (by simp) z
    · exact soon f0 hx (by simp) z
    · exact soon f0 hx (by simp) z
    · exact soon f0 hx (by simp) z
    · exact soon f0 hx (by simp) z
  have fr1 : ∀ x ∈ F1, x ∉ [E, T, Kp, Sl, G, R, ga, gb] := fun x hx z => by
    simp only [List.mem_cons, List.not_mem_nil, or_false] at z
    rcases z with z | z | z | z | z | z | z | z
    · exact (f1 x hx).2 z
    · exact late a1 hx (by simp) z
    · exact late a1 hx (by simp) z
    · exact soon f1 hx (by simp) z
    · exact soon f1 hx (by simp) z
    · exact soon f1 hx (by simp) z
    · exact soon f1 hx (by simp) z
    · exact soon f1 hx (by simp) z
  have lt0 : ∀ x ∈ F0, x ≠ qa ∧ x ≠ qb ∧ x ≠ m0 ∧ x ≠ t0 ∧ x ≠ m1 ∧ x ≠ t1 := fun x hx => ⟨late a0 hx (by simp), late a0 hx (by simp), late a0 hx (by simp), late a0 hx (by simp), late a0 hx (by simp), late a0 hx (by simp)⟩
  have lt1 : ∀ x ∈ F1, x ≠ qa ∧ x ≠ qb ∧ x ≠ m0 ∧ x ≠ t0 ∧ x ≠ m1 ∧ x ≠ t1 := fun x hx => ⟨late a1 hx (by simp), late a1 hx (by simp), late a1 hx (by simp), late a1 hx (by simp), late a1 hx (by simp), late a1 hx (by simp)⟩
  refine ⟨⟨F0, p0, qa, m0, t0, 1, gva, ga, gta, [], []⟩, ⟨F1, p1, qb, m1, t1, bb, gvb, gb, gtb, [], []⟩, _, _, _, _, _, ⟨hE, hT, hK, hS, hG, hR, mR⟩, ⟨rfl, rfl, rfl, rfl, rfl⟩, ⟨rfl, rfl, rfl, rfl, rfl⟩, ?_, Nat.le_refl _, Nat.le_refl _⟩
  refine ⟨⟨⟨e0, dm0, dt0, hqa, .nil, (fun _ h => nomatch h), ?_, fun x hx z => ?_⟩, hga, mga, nda, oka, l5a⟩, ⟨⟨e1, dm1, dt1, hqb, .nil, (fun _ h => nomatch h), ?_, fun x hx z => ?_⟩, hgb, mgb, ndb, okb, l5b⟩, fun x hx z => ?_, fun x hx z => ?_, fun x hx z => ?_, fun x hx z => ?_, fun z => ?_, fun z => ?_, by simp [Ad.l], by simp [Ad.l], fun x hx => ?_, old, fun x hx => ?_, fun x hx => ?_⟩
  · exact nqa.2.2.2.1
  · simp only [List.mem_cons, List.not_mem_nil, or_false] at z
    obtain ⟨h1, h2, h3, h4, h5, h6⟩ := lt0 x hx
    rcases z with z | z | z
    · exact h1 z
    · exact h3 z
    · exact h4 z
  · exact nqb.2.2.2.2.1
  · simp only [List.mem_cons, List.not_mem_nil, or_false] at z
    obtain ⟨h1, h2, h3, h4, h5, h6⟩ := lt1 x hx
    rcases z with z | z | z
    · exact h2 z
    · exact h5 z
    · exact h6 z
  · unfold Es.W at hx
    unfold Es.O at z
    simp only [List.mem_cons] at hx z
    rcases hx with hx | hx | hx
    · subst hx
      rcases z with z | z | z | z
      · exact nqa.1 z
      · exact nqa.2.2.2.2.1 z
      · exact nqa.2.2.2.2.2.1 z
      · exact (lt1 _ z).1 rfl
    · subst hx
      rcases z with z | z | z | z
      · exact nqb.2.1 z.symm
      · exact nm0.2.1 z
      · exact nm0.2.2.1 z
      · exact (lt1 _ z).2.2.1 rfl
    · obtain ⟨h1, h2, h3, h4, h5, h6⟩ := lt0 x hx
      rcases z with z | z | z | z
      · exact h2 z
      · exact h5 z
      · exact h6 z
      · exact f01 x hx z
  · unfold Es.W at hx
    unfold Es.O at z
    simp only [List.mem_cons] at hx z
    rcases hx with hx | hx | hx
    · subst hx
      rcases z with z | z | z | z
      · exact nqa.1 z.symm
      · exact nqb.2.1 z
      · exact nqb.2.2.1 z
      · exact (lt0 _ z).2.1 rfl
    · subst hx
      rcases z with z | z | z | z
      · exact nqa.2.2.2.2.1 z.symm
      · exact nm0.2.1 z.symm
      · exact nt0.1 z.symm
      · exact (lt0 _ z).2.2.2.2.1 rfl
    · obtain ⟨h1, h2, h3, h4, h5, h6⟩ := lt1 x hx
      rcases z with z | z | z | z
      · exact h1 z
      · exact h3 z
      · exact h4 z
      · exact f01 x z hx
  · unfold Es.W at hx
    simp only [List.mem_cons] at hx
    rcases hx with hx | hx | hx
    · rw [hx] at z
      simp only [Ad.l, List.mem_cons, List.not_mem_nil, or_false] at z
      rcases z with z | z | z | z | z | z | z | z
      · exact ndne nd0 8 9 (by decide) (by show 9 < 17; decide) z.symm
      · exact ndne nd0 9 11 (by decide) (by show 11 < 17; decide) z
      · exact ndne nd0 9 16 (by decide) (by show 16 < 17; decide) z
      · exact ndne nd0 1 9 (by decide) (by show 9 < 17; decide) z.symm
      · exact ndne nd0 4 9 (by decide) (by show 9 < 17; decide) z.symm
      · exact ndne nd0 0 9 (by decide) (by show 9 < 17; decide) z.symm
      · exact ndne nd0 2 9 (by decide) (by show 9 < 17; decide) z.symm
      · exact ndne nd0 3 9 (by decide) (by show 9 < 17; decide) z.symm
    · rw [hx] at z
      simp only [Ad.l, List.mem_cons, List.not_mem_nil, or_false] at z
      rcases z with z | z | z | z | z | z | z | z
      · exact ndne nd0 8 12 (by decide) (by show 12 < 17; decide) z.symm
      · exact ndne nd0 11 12 (by decide) (by show 12 < 17; decide) z.symm
      · exact ndne nd0 12 16 (by decide) (by show 16 < 17; decide) z
      · exact ndne nd0 1 12 (by decide) (by show 12 < 17; decide) z.symm
      · exact ndne nd0 4 12 (by decide) (by show 12 < 17; decide) z.symm
      · exact ndne nd0 0 12 (by decide) (by show 12 < 17; decide) z.symm
      · exact ndne nd0 2 12 (by decide) (by show 12 < 17; decide) z.symm
      · exact ndne nd0 3 12 (by decide) (by show 12 < 17; decide) z.symm
    · exact fr0 x hx z
  · unfold Es.W at hx
    simp only [List.mem_cons] at hx
    rcases hx with hx | hx | hx
    · rw [hx] at z
      simp only [Ad.l, List.mem_cons, List.not_mem_nil, or_false] at z
      rcases z with z | z | z | z | z | z | z | z
      · exact ndne nd0 8 10 (by decide) (by show 10 < 17; decide) z.symm
      · exact ndne nd0 10 11 (by decide) (by show 11 < 17; decide) z
      · exact ndne nd0 10 16 (by decide) (by show 16 < 17; decide) z
      · exact ndne nd0 1 10 (by decide) (by show 10 < 17; decide) z.symm
      · exact ndne nd0 4 10 (by decide) (by show 10 < 17; decide) z.symm
      · exact ndne nd0 0 10 (by decide) (by show 10 < 17; decide) z.symm
      · exact ndne nd0 2 10 (by decide) (by show 10 < 17; decide) z.symm
      · exact ndne nd0 3 10 (by decide) (by show 10 < 17; decide) z.symm
    · rw [hx] at z
      simp only [Ad.l, List.mem_cons, List.not_mem_nil, or_false] at z
      rcases z with z | z | z | z | z | z | z | z
      · exact ndne nd0 8 14 (by decide) (by show 14 < 17; decide) z.symm
      · exact ndne nd0 11 14 (by decide) (by show 14 < 17; decide) z.symm
      · exact ndne nd0 14 16 (by decide) (by show 16 < 17; decide) z
      · exact ndne nd0 1 14 (by decide) (by show 14 < 17; decide) z.symm
      · exact ndne nd0 4 14 (by decide) (by show 14 < 17; decide) z.symm
      · exact ndne nd0 0 14 (by decide) (by show 14 < 17; decide) z.symm
      · exact ndne nd0 2 14 (by decide) (by show 14 < 17; decide) z.symm
      · exact ndne nd0 3 14 (by decide) (by show 14 < 17; decide) z.symm
    · exact fr1 x hx z
  · simp only [Ad.l, List.mem_cons, List.not_mem_nil, or_false] at z
    rcases z with z | z | z | z | z | z | z | z
    · exact ndne nd0 8 13 (by decide) (by show 13 < 17; decide) z.symm
    · exact ndne nd0 11 13 (by decide) (by show 13 < 17; decide) z.symm
    · exact ndne nd0 13 16 (by decide) (by show 16 < 17; decide) z
    · exact ndne nd0 1 13 (by decide) (by show 13 < 17; decide) z.symm
    · exact ndne nd0 4 13 (by decide) (by show 13 < 17; decide) z.symm
    · exact ndne nd0 0 13 (by decide) (by show 13 < 17; decide) z.symm
    · exact ndne nd0 2 13 (by decide) (by show 13 < 17; decide) z.symm
    · exact ndne nd0 3 13 (by decide) (by show 13 < 17; decide) z.symm
  · simp only [Ad.l, List.mem_cons, List.not_mem_nil, or_false] at z
    rcases z with z | z | z | z | z | z | z | z
    · exact ndne nd0 8 15 (by decide) (by show 15 < 17; decide) z.symm
    · exact ndne nd0 11 15 (by decide) (by show 15 < 17; decide) z.symm
    · exact ndne nd0 15 16 (by decide) (by show 16 < 17; decide) z
    · exact ndne nd0 1 15 (by decide) (by show 15 < 17; decide) z.symm
    · exact ndne nd0 4 15 (by decide) (by show 15 < 17; decide) z.symm
    · exact ndne nd0 0 15 (by decide) (by show 15 < 17; decide) z.symm
    · exact ndne nd0 2 15 (by decide) (by show 15 < 17; decide) z.symm
    · exact ndne nd0 3 15 (by decide) (by show 15 < 17; decide) z.symm
  · simp only [Ad.l, List.mem_cons, List.not_mem_nil, or_false] at hx
    rcases hx with rfl | rfl | rfl | rfl | rfl | rfl | rfl | rfl
    · exact ⟨_, hE⟩
    · exact ⟨_, hT⟩
    · exact ⟨_, hK⟩
    · exact ⟨_, hS⟩
    · exact ⟨_, hG⟩
    · exact ⟨_, hR⟩
    · exact ⟨_, hga⟩
    · exact ⟨_, hgb⟩
  · unfold Es.W at hx
    simp only [List.mem_cons] at hx
    rcases hx with hx | hx | hx
    · exact nH _ (nA _ (by simp [hx]))
    · exact nH _ (nA _ (by simp [hx]))
    · exact n9 _ (f0 _ hx).1
  · unfold Es.W at hx
    simp only [List.mem_cons] at hx
    rcases hx with hx | hx | hx
    · exact nH _ (nA _ (by simp [hx]))
    · exact nH _ (nA _ (by simp [hx]))
    · exact n9 _ (f1 _ hx).1
end
end KL

namespace KL
open PySem L2 L2H LX KB
def spLaw (K : PySem.W.Frag) : Sp := fun vs H Q _ => ∃ (a : Addr) (ns : List Int), vs = [.ref a] ∧ SqL K H a (ns.map V.int) ∧ ns.length ≤ 63 ∧ ∀ H', Q (.bl true) H'
section
variable {P : Program} {w : World} {K : PySem.W.Frag} {mg : Str → Option Value} {base : Heap} {Er : ErT}
theorem ok_law {f C : Addr} {fd : FuncData} (F : Fun K "law" "law" s_law f fd) (cl : Cls K C) (A1 : EarApi P w K mg base C Er esL) (LT : LTxt mg)
    (D0 : Def P w K mg base "_law_cell_at" 1 p_cell_at (spCellA K)) (D1 : Def P w K mg base "_law_pool" 3 p_pool spPool) (D2 : Def P w K mg base "_law_rows" 3 p_rows (spRows K)) (D3 : Def P w K mg base "_law_begin" 3 p_begin spBegin)
    (D4 : Def P w K mg base "_law_made" 6 p_made (spMade Er)) (D5 : Def P w K mg base "_law_heard" 5 p_heard (spHeard Er)) (D6 : Def P w K mg base "_law_state" 1 p_state spState) (D7 : Def P w K mg base "_law_pairs" 1 p_pairs (spPairs K)) :
    FnOk P w K mg base CX0 7 f fd p_law (spLaw K) := by
  obtain ⟨f0, fd0, g0, k0, b0, G0⟩ := D0.ex
  obtain ⟨f1, fd1, g1, k1, b1, G1⟩ := D1.ex
  obtain ⟨f2, fd2, g2, k2, b2, G2⟩ := D2.ex
  obtain ⟨f3, fd3, g3, k3, b3, G3⟩ := D3.ex
  obtain ⟨f4, fd4, g4, k4, b4, G4⟩ := D4.ex
  obtain ⟨f5, fd5, g5, k5, b5, G5⟩ := D5.ex
  obtain ⟨f6, fd6, g6, k6, b6, G6⟩ := D6.ex
  obtain ⟨f7, fd7, g7, k7, b7, G7⟩ := D7.ex
  obtain ⟨fS, fdS, psS, mS, bS, GS⟩ := (A1.state (by decide +kernel)).ex
  refine F.ok sc_law (fun vs H Q E h => ?_) (fun cdv A outer s H vs Q E hr h => ?_)
  · obtain ⟨a, ns, rfl, _⟩ := h
    rfl
  · obtain ⟨a, ns, rfl, hs, hlen, k⟩ := h
    have hu := hu_of hr
    have hu64 := hr.units
    have hr1 : Room 1 _ := hr.mono (by decide)
    have hr3 : Room 3 _ := hr.mono (by decide)
    have hr4 : Room 4 _ := hr.mono (by decide)
    have hr5 : Room 5 _ := hr.mono (by decide)
    refine ⟨_, pss_cons (ps_set (i := 1) sc_law.nd rfl (Or.inl rfl) (pe_call G1 hr3 rfl g1 k1 b1 .nil pass0 (pa_cons (pe_call G0 hr1 rfl g0 k0 b0 .nil pass0 (pa_cons (pv 0) (pa_cons pe_int pa_nil))) (pa_cons (pe_call G0 hr1 rfl g0 k0 b0 .nil pass0 (pa_cons (pv 0) (pa_cons pe_int pa_nil))) pa_nil))))
      (pss_cons (ps_set (i := 2) sc_law.nd rfl (Or.inl rfl) (pe_call G2 hr3 rfl g2 k2 b2 .nil pass0 (pa_cons (pv 0) (pa_cons (pv 1) pa_nil))))
      (pss_cons (ps_set (i := 3) sc_law.nd rfl (Or.inr rfl) (pe_lst (pa_cons pe_int (pa_cons (pe_op op_add pe_int (pe_op op_mod (pe_op op_fdiv (pe_call G0 hr1 rfl g0 k0 b0 .nil pass0 (pa_cons (pv 0) (pa_cons pe_int pa_nil))) pe_int) pe_int)) pa_nil))))
      (pss_cons (ps_set (i := 4) sc_law.nd rfl (Or.inl rfl) (pe_lst (pa_cons (pe_call G3 hr3 rfl g3 k3 b3 .nil pass0 (pa_cons (pv 1) (pa_cons (pe_call G0 hr1 rfl g0 k0 b0 .nil pass0 (pa_cons (pv 0) (pa_cons pe_int pa_nil))) pa_nil)))
        (pa_cons (pe_call G3 hr3 rfl g3 k3 b3 .nil pass0 (pa_cons (pv 1) (pa_cons (pe_op op_fdiv (pe_call G0 hr1 rfl g0 k0 b0 .nil pass0 (pa_cons (pv 0) (pa_cons pe_int pa_nil))) pe_int) pa_nil))) pa_nil))))
      (pss_cons (ps_set (i := 5) sc_law.nd rfl (Or.inr rfl) (pe_lst (pa_cons (pe_callTy call_list_of (by rfl) LT.list (by decide +kernel) (pa_cons (pe_ix ix_list (pv 4) pe_int (fun _ _ => rfl)) pa_nil))
        (pa_cons (pe_callTy call_list_of (by rfl) LT.list (by decide +kernel) (pa_cons (pe_ix ix_list (pv 4) pe_int (fun _ _ => rfl)) pa_nil)) pa_nil))))
      (pss_cons (ps_setLc (i := 7) (own := [("_law_k", 6)]) (g := gName 6) rfl sc_law.nd rfl rfl rfl
          (pi_range1 (by rfl) LT.range (pa_cons pe_int pa_nil)) (blkOk_by (own := [("_law_k", 6)]) (N := n_law) (sc := defScope s_law) (by decide +kernel))
          (fun _ _ _ _ _ => pg_name (i := 6) sc_law.nd rfl (Or.inl rfl) (Or.inr rfl)) (fun _ _ _ _ _ => pts_nil)
          (fun _ _ _ _ _ => pe_call G4 hr rfl g4 k4 b4 .nil pass0 (pa_cons (pe_ix (r := rIxL K) ix_list (pv 3) (pv 6) (fun _ _ => rfl)) (pa_cons (pe_ix (r := rIxL K) ix_list (pv 5) (pv 6) (fun _ _ => rfl)) (pa_cons (pe_call G0 hr1 rfl g0 k0 b0 .nil pass0 (pa_cons (pv 0) (pa_cons pe_int pa_nil))) pa_nil)))))
      (pss_cons (ps_set (i := 8) sc_law.nd rfl (Or.inl rfl) (pe_lst (pa_cons (pe_lst pa_nil) (pa_cons (pe_lst pa_nil) pa_nil))))
      (pss_cons (ps_set (i := 9) sc_law.nd rfl (Or.inl rfl) (pe_lst (pa_cons (pe_disp (pps_cons pe_str (pe_lst pa_nil) pps_nil) (by rfl) (by rfl) (fun z => by cases z) (by decide)) (pa_cons (pe_disp (pps_cons pe_str (pe_lst pa_nil) pps_nil) (by rfl) (by rfl) (fun z => by cases z) (by decide)) pa_nil))))
      (pss_cons (ps_if (pt_cmpR (op_neD hu64) (pv 5) (pv 4) (nomark _)) (pss_one (ps_ret pe_bl)) pss_nil)
      (pss_cons (ps_expr (pe_bm0 PySem.F.plainAttrs_list PySem.F.slot_list_clear PySem.F.type_list_clear mt_clear (pe_ix ix_list (pv 5) pe_int (fun _ _ => rfl))))
      (pss_cons (ps_expr (pe_bm0 PySem.F.plainAttrs_list PySem.F.slot_list_clear PySem.F.type_list_clear mt_clear (pe_ix ix_list (pv 5) pe_int (fun _ _ => rfl))))
      (pss_cons (ps_for PassesOwn.never rfl (pi_range2 (by rfl) LT.range (pa_cons pe_int (pa_cons (pe_callB call_len_seq (by rfl) LT.len PySem.boot_len (pa_cons (pv 0) pa_nil)) pa_nil))) (pg_name (i := 6) sc_law.nd rfl (Or.inl rfl))
        (pss_cons (ps_set (i := 10) sc_law.nd rfl (Or.inl rfl) (pe_op op_mod (pe_ix ix_list (pv 0) (pv 6) (fun _ _ => rfl)) pe_int))
        (pss_cons (ps_set (i := 11) sc_law.nd rfl (Or.inl rfl) (pe_op op_mod (pe_op op_fdiv (pe_ix ix_list (pv 0) (pv 6) (fun _ _ => rfl)) pe_int) (pe_op op_add (pe_callB call_len_seq (by rfl) LT.len PySem.boot_len (pa_cons (pv 2) pa_nil)) pe_int)))
        (pss_cons (ps_set (i := 12) sc_law.nd rfl (Or.inl rfl) (pe_op op_fdiv (pe_op op_fdiv (pe_ix ix_list (pv 0) (pv 6) (fun _ _ => rfl)) pe_int) (pe_op op_add (pe_callB call_len_seq (by rfl) LT.len PySem.boot_len (pa_cons (pv 2) pa_nil)) pe_int)))
        (pss_cons (ps_set (i := 13) sc_law.nd rfl (Or.inl rfl) (pe_slice sl_list (pv 2) (po_some (pv 11)) (po_some (pe_op op_add (pv 11) (pe_op op_mod (pv 12) pe_int)))))
        (C8.pss_cut (ps_if (pt_cmpR op_eq (pe_op op_mod (pe_op op_fdiv (pv 12) pe_int) pe_int) pe_int (nomark _)) (pss_one (ps_set (i := 13) sc_law.nd rfl (Or.inl rfl) (pe_revL (pv 13)))) pss_nil)
        (C8.pss_cut (ps_if (pt_cmpR op_eq (pe_op op_mod (pe_op op_fdiv (pv 12) pe_int) pe_int) pe_int (nomark _)) (pss_one (ps_set (i := 13) sc_law.nd rfl (Or.inl rfl) (pe_op op_cat (pv 13) (pe_slice sl_list (pv 2) po_none (po_some (pe_op op_mod (pe_op op_fdiv (pv 12) pe_int) pe_int)))))) pss_nil)
        (pss_cons (ps_if (pt_not (pt_val (pe_call G5 hr5 rfl g5 k5 b5 .nil pass0 (pa_cons (pe_ix ix_list (pv 7) (pv 10) (fun _ _ => rfl)) (pa_cons (pe_ix ix_list (pv 8) (pv 10) (fun _ _ => rfl)) (pa_cons (pe_ix ix_list (pv 3) (pv 10) (fun _ _ => rfl)) (pa_cons (pv 13) (pa_cons (pe_ix ix_list (pv 9) (pv 10) (fun _ _ => rfl)) pa_nil)))))))) (pss_one (ps_ret pe_bl)) pss_nil)
        (pss_cons (ps_set (i := 14) sc_law.nd rfl (Or.inl rfl) (pe_call G6 hr1 rfl g6 k6 b6 .nil pass0 (pa_cons (pe_ix ix_list (pv 4) (pv 10) (fun _ _ => rfl)) (pa_cons (pe_ix ix_list (pv 8) (pv 10) (fun _ _ => rfl)) pa_nil))))
        (pss_one (ps_if (PW.pt (pw_and (pt_cmpR op_eq (pe_op op_mod (pe_op op_add (pv 6) (pe_ix ix_list (pv 0) (pv 6) (fun _ _ => rfl))) pe_int) pe_int (nomark _)) (pw_and1 (pt_not (pt_val (pe_call G7 hr1 rfl g7 k7 b7 .nil pass0
          (pa_cons (pe_meth0 (E := E0) (pe_ix ix_list (pv 7) (pv 10) (fun _ _ => rfl)) cl mS GS hr4 bS .nil pass0) (pa_cons (pv 14) pa_nil)))))))) (pss_one (ps_ret pe_bl)) pss_nil)))))))))))
      (pss_cons (ps_for PassesOwn.never rfl (pi_range1 (by rfl) LT.range (pa_cons pe_int pa_nil)) (pg_name (i := 6) sc_law.nd rfl (Or.inl rfl))
        (pss_cons (ps_if (pt_not (pt_val (pe_call G5 hr5 rfl g5 k5 b5 .nil pass0 (pa_cons (pe_ix ix_list (pv 7) (pv 6) (fun _ _ => rfl)) (pa_cons (pe_ix ix_list (pv 8) (pv 6) (fun _ _ => rfl)) (pa_cons (pe_ix ix_list (pv 3) (pv 6) (fun _ _ => rfl)) (pa_cons (pv 2) (pa_cons (pe_ix ix_list (pv 9) (pv 6) (fun _ _ => rfl)) pa_nil)))))))) (pss_one (ps_ret pe_bl)) pss_nil)
        (pss_one (ps_if (pt_not (pt_val (pe_call G7 hr1 rfl g7 k7 b7 .nil pass0 (pa_cons (pe_meth0 (E := E0) (pe_ix ix_list (pv 7) (pv 6) (fun _ _ => rfl)) cl mS GS hr4 bS .nil pass0)
          (pa_cons (pe_call G6 hr1 rfl g6 k6 b6 .nil pass0 (pa_cons (pe_ix ix_list (pv 4) (pv 6) (fun _ _ => rfl)) (pa_cons (pe_ix ix_list (pv 8) (pv 6) (fun _ _ => rfl)) pa_nil))) pa_nil))))) (pss_one (ps_ret pe_bl)) pss_nil))))
      (pss_one (ps_ret pe_bl)))))))))))))), ?_⟩
    refine ⟨_, rfl, a, ns, 0, rfl, hs, fun c0 => ⟨_, rfl, a, ns, 1, rfl, hs, fun c1 => ⟨c0, c1, rfl, fun q zs H1 hq0 hq hz6 hzs s1 => ?_⟩⟩⟩
    refine ⟨_, rfl, _, rfl, a, q, ns, zs, rfl, s1.seq hs, hlen, ⟨hq, hz6, hzs⟩, fun R rts rs H2 hR0 hR mR gR lR s2 => ?_⟩
    have z2 : Same H H2 := s1.trans s2
    refine ⟨_, rfl, a, ns, 2, rfl, z2.seq hs, fun t2 => ⟨_, _, rfl, rfl, ⟨by decide, by decide⟩, _, _, rfl, rfl, (by show (0 : Int) < 90; decide), _, _, rfl, rfl, (by show 2 ≤ sizeLine; decide), fun Sl hSl => ?_⟩⟩
    have hb1 : 1 ≤ 1 + t2 / 3 % 90 := by omega
    dsimp only
    generalize hbb : 1 + t2 / 3 % 90 = bb at hb1
    have L2 : Al [R] H2 := ⟨fun x hx => by rw [List.mem_singleton.mp hx]; exact ⟨_, hR⟩, List.nodup_cons.mpr ⟨fun z => (nomatch z), List.nodup_nil⟩⟩
    have s3 : Same H2 (upd H2 Sl (.lst [V.int 1, V.int bb])) := same_new hSl
    have hS3 : upd H2 Sl (.lst [V.int 1, V.int bb]) Sl = some (.lst [V.int 1, V.int bb]) := upd_same
    have L3 := L2.snoc hSl s3 ⟨_, hS3⟩
    have PA3 : PoolAt (upd H2 Sl (.lst [V.int 1, V.int bb])) q zs := ⟨s3 _ _ (s2 _ _ hq), hz6, hzs⟩
    have z3 := z2.trans s3
    generalize upd H2 Sl (.lst [V.int 1, V.int bb]) = H3 at s3 hS3 L3 PA3 z3
    refine ⟨_, rfl, _, rfl, a, ns, 1, rfl, z3.seq hs, fun c2 => ⟨q, c2, zs, rfl, PA3, fun ga gta gva H4 hga0 hga mga nda oka l5a s4 => ?_⟩⟩
    have L4 := L3.snoc hga0 s4 ⟨_, hga⟩
    have z4 := z3.trans s4
    refine ⟨_, rfl, _, rfl, a, ns, 0, rfl, z4.seq hs, fun c3 => ⟨_, _, rfl, rfl, ⟨by decide, by decide⟩, q, _, zs, rfl, PA3.same s4, fun gb gtb gvb H5 hgb0 hgb mgb ndb okb l5b s5 => ?_⟩⟩
    have L5 := L4.snoc hgb0 s5 ⟨_, hgb⟩
    have z5 := z4.trans s5
    refine ⟨(by show 2 ≤ sizeLine; decide), fun G hG => ?_⟩
    have s6 : Same H5 (upd H5 G (.lst [V.ref ga, V.ref gb])) := same_new hG
    have hG6 : upd H5 G (.lst [V.ref ga, V.ref gb]) G = some (.lst [V.ref ga, V.ref gb]) := upd_same
    have L6 := L5.snoc hG s6 ⟨_, hG6⟩
    have z6 := z5.trans s6
    try dsimp only
    generalize upd H5 G (.lst [V.ref ga, V.ref gb]) = H6 at s6 hG6 L6 z6
    have hga6 := s6 _ _ (s5 _ _ hga)
    have hgb6 := s6 _ _ hgb
    refine ⟨_, rfl, G, _, 0, _, rfl, rfl, SqL.of hG6, rfl, ga, _, rfl, .inl (SqL.of hga6), fun ha0 hha => ?_⟩
    have s7 := same_new (o := .lst (gta.map V.ref)) hha
    have hh7 : upd H6 ha0 (.lst (gta.map V.ref)) ha0 = some (.lst (gta.map V.ref)) := upd_same
    have L7 := L6.snoc hha s7 ⟨_, hh7⟩
    try dsimp only
    generalize upd H6 ha0 (.lst (gta.map V.ref)) = H7 at s7 hh7 L7
    refine ⟨_, rfl, G, _, 1, _, rfl, rfl, SqL.of (s7 _ _ hG6), rfl, gb, _, rfl, .inl (SqL.of (s7 _ _ hgb6)), fun hb0 hhb => ?_⟩
    have s8 := same_new (o := .lst (gtb.map V.ref)) hhb
    have hh8 : upd H7 hb0 (.lst (gtb.map V.ref)) hb0 = some (.lst (gtb.map V.ref)) := upd_same
    have L8 := L7.snoc hhb s8 ⟨_, hh8⟩
    try dsimp only
    generalize upd H7 hb0 (.lst (gtb.map V.ref)) = H8 at s8 hh8 L8
    refine ⟨(by show 2 ≤ sizeLine; decide), fun Hd hHd => ?_⟩
    have s9 := same_new (o := .lst [V.ref ha0, V.ref hb0]) hHd
    have hD9 : upd H8 Hd (.lst [V.ref ha0, V.ref hb0]) Hd = some (.lst [V.ref ha0, V.ref hb0]) := upd_same
    have L9 := L8.snoc hHd s9 ⟨_, hD9⟩
    try dsimp only
    generalize upd H8 Hd (.lst [V.ref ha0, V.ref hb0]) = H9 at s9 hD9 L9
    have z9 := z6.trans (s7.trans (s8.trans s9))
    have hha9 := s9 _ _ (s8 _ _ hh7)
    have hhb9 := s9 _ _ hh8
    have s69 := s7.trans (s8.trans s9)
    have s49 := s5.trans (s6.trans s69)
    have s29 := s3.trans (s4.trans s49)
    refine ⟨2, rfl, by decide, by decide, fun E hE => ?_⟩
    have s10 : Same H9 (upd H9 E (.lst [])) := same_new hE
    have z10 := z9.trans s10
    refine lc_range (lo := 0) (n := 2) (fun i H' => Ch (upd H9 E (.lst [])) H' [E] ∧ ((i = 0 ∧ H' E = some (.lst [])) ∨ (i = 1 ∧ ∃ F0 p0, H' E = some (.lst [V.ref p0]) ∧ Er F0 H' p0 1 gva [] ∧ ∀ x ∈ F0, H9 x = none ∧ x ≠ E) ∨
      (i = 2 ∧ ∃ F0 p0 F1 p1, H' E = some (.lst [V.ref p0, V.ref p1]) ∧ Er F0 H' p0 1 gva [] ∧ Er F1 H' p1 bb gvb [] ∧ (∀ x ∈ F0, H9 x = none ∧ x ≠ E) ∧ (∀ x ∈ F1, H9 x = none ∧ x ≠ E) ∧ ∀ x ∈ F0, x ∉ F1))) ⟨Ch.refl _ _, .inl ⟨rfl, upd_same⟩⟩ ?_ ?_
    · rintro i Ha hi ⟨c, hc⟩
      have keep : ∀ {b : Addr} {o : HO}, H9 b = some o → Ha b = some o := fun {b o} e => c.at (s10 _ _ e) fun z => (ne_of_none e hE) (List.mem_singleton.mp z)
      have sA : Same H Ha := fun b o e => keep (z9 _ _ e)
      have free : ∀ x, Ha x = none → H9 x = none := fun x e => s10.free (c.none x e)
      have addE : ∀ {Hb : Hp} {F : List Addr} {p0 : Addr} {b0 : Int} {g0 : KVs} {o : HO}, Er F Hb p0 b0 g0 [] → Ha E = some o → (∀ x ∈ F, Ha x = none) → Hb E = some o → (∀ xs, o ≠ .tup xs) → ∀ o', Er F (upd Hb E o') p0 b0 g0 [] ∧ ∀ x ∈ F, H9 x = none ∧ x ≠ E := fun {Hb F p0 b0 g0 o} e1 e2 e3 e4 e5 o' => by
        have nE : ∀ x ∈ F, x ≠ E := fun x hx z => by
          have := e3 x hx
          rw [z, e2] at this
          cases this
        exact ⟨A1.frame e1 ((Ch.refl Hb [E]).mut (List.mem_singleton.mpr rfl) e4 e5) (fun x hx z => nE x hx (List.mem_singleton.mp z)), fun x hx => ⟨free x (e3 x hx), nE x hx⟩⟩
      rcases hc with ⟨rfl, hEa⟩ | ⟨rfl, F0, p0, hEa, e0, f0⟩ | ⟨rfl, _⟩
      · refine ⟨rfl, _, rfl, _, rfl, Sl, _, _, _, rfl, rfl, SqL.of (keep ((s4.trans s49) _ _ hS3)), rfl, _, rfl, _, rfl, Hd, _, _, _, rfl, rfl, SqL.of (keep hD9), rfl, _, rfl, a, ns, 2, rfl, sA.seq hs, fun t => ⟨1, ha0, t, gta, gva, rfl, by decide, keep hha9, mga.keep (fun x xs e => keep (s49 _ _ e)), nda, oka, by omega, fun F0 p0 Hb e1 e2 e3 => ?_⟩⟩
        obtain ⟨e4, e5⟩ := addE e1 hEa e2 (e3 _ _ hEa) (fun xs z => by cases z) (.lst ([] ++ [V.ref p0]))
        exact ⟨_, e3 _ _ hEa, by show 0 < sizeLine; decide, (c.same e3).mut (List.mem_singleton.mpr rfl) upd_same (fun xs z => by cases z), .inr (.inl ⟨rfl, F0, p0, upd_same, e4, e5⟩)⟩
      · refine ⟨rfl, _, rfl, _, rfl, Sl, _, _, _, rfl, rfl, SqL.of (keep ((s4.trans s49) _ _ hS3)), rfl, _, rfl, _, rfl, Hd, _, _, _, rfl, rfl, SqL.of (keep hD9), rfl, _, rfl, a, ns, 2, rfl, sA.seq hs, fun t => ⟨bb, hb0, t, gtb, gvb, rfl, hb1, keep hhb9, mgb.keep (fun x xs e => keep (s69 _ _ (s6 _ _ e))), ndb, okb, by omega, fun F1 p1 Hb e1 e2 e3 => ?_⟩⟩
        obtain ⟨e4, e5⟩ := addE e1 hEa e2 (e3 _ _ hEa) (fun xs z => by cases z) (.lst ([V.ref p0] ++ [V.ref p1]))
        have e0b := A1.frame e0 (Ch.of e3 []) (fun _ _ z => nomatch z)
        have e0c := A1.frame e0b ((Ch.refl Hb [E]).mut (o := .lst ([V.ref p0] ++ [V.ref p1])) (List.mem_singleton.mpr rfl) (e3 _ _ hEa) (fun xs z => by cases z)) (fun x hx z => (f0 x hx).2 (List.mem_singleton.mp z))
        refine ⟨_, e3 _ _ hEa, by show 1 < sizeLine; decide, (c.same e3).mut (List.mem_singleton.mpr rfl) upd_same (fun xs z => by cases z), .inr (.inr ⟨rfl, F0, p0, F1, p1, upd_same, e0c, e4, f0, e5, fun x hx y => ?_⟩)⟩
        obtain ⟨o, eo⟩ := A1.own e0 x hx
        rw [e2 x y] at eo
        cases eo
      · omega
    · rintro Ha ⟨c, hc⟩
      rcases hc with ⟨h, _⟩ | ⟨h, _⟩ | ⟨_, F0, p0, F1, p1, hEa, e0, e1, f0, f1, f01⟩
      · cases h
      · cases h
      have sEa : Same H9 Ha := fun b o e => c.at (s10 _ _ e) fun z => (ne_of_none e hE) (List.mem_singleton.mp z)
      have L10 := L9.snoc hE sEa ⟨_, hEa⟩
      have zA := z9.trans sEa
      clear L2 L3 L4 L5 L6 L7 L8 L9
      refine ⟨(by show 0 ≤ sizeLine; decide), fun qa hqa => ⟨(by show 0 ≤ sizeLine; decide), fun qb hqb => ⟨(by show 2 ≤ sizeLine; decide), fun T hT => ?_⟩⟩⟩
      have sa := same_new (o := .lst []) hqa
      have sb := same_new (o := .lst []) hqb
      have sc := same_new (o := .lst [V.ref qa, V.ref qb]) hT
      have hqb0 : Ha qb = none := sa.free hqb
      have hT0 : Ha T = none := sa.free (sb.free hT)
      have L11 := L10.snoc hqa sa ⟨_, upd_same⟩
      have L12 := L11.snoc hqb sb ⟨_, upd_same⟩
      have L13 := L12.snoc hT sc ⟨_, upd_same⟩
      have hTb : upd (upd (upd Ha qa (.lst [])) qb (.lst [])) T (.lst [V.ref qa, V.ref qb]) T = some (.lst [V.ref qa, V.ref qb]) := upd_same
      have hqab : upd (upd (upd Ha qa (.lst [])) qb (.lst [])) T (.lst [V.ref qa, V.ref qb]) qa = some (.lst []) := sc _ _ (sb _ _ upd_same)
      have hqbb : upd (upd (upd Ha qa (.lst [])) qb (.lst [])) T (.lst [V.ref qa, V.ref qb]) qb = some (.lst []) := sc _ _ upd_same
      have sab : Same Ha (upd (upd (upd Ha qa (.lst [])) qb (.lst [])) T (.lst [V.ref qa, V.ref qb])) := sa.trans (sb.trans sc)
      clear L11 L12 sa sb sc
      try dsimp only
      generalize upd (upd (upd Ha qa (.lst [])) qb (.lst [])) T (.lst [V.ref qa, V.ref qb]) = Hb at L13 hTb hqab hqbb sab
      intro m0 hm0
      refine ⟨(by show 0 ≤ sizeLine; decide), fun t0 ht0 => ?_⟩
      obtain ⟨dm0, dt0, sd, mid0, nt0, nmt0⟩ := kept_made hm0 ht0
      have L15 := al_kept L13 hm0 ht0
      refine ⟨mid0, keptD t0, rfl, (by show 1 ≤ 15; decide), ?_⟩
      revert dm0 dt0 sd L15
      generalize upd (upd (upd Hb m0 (.dK [])) t0 (.lst [])) m0 (.dK (mergeK [] (keptD t0))) = Hc
      intro dm0 dt0 sd L15
      intro m1 hm1
      refine ⟨(by show 0 ≤ sizeLine; decide), fun t1 ht1 => ?_⟩
      obtain ⟨dm1, dt1, se, mid1, nt1, nmt1⟩ := kept_made hm1 ht1
      have L17 := al_kept L15 hm1 ht1
      refine ⟨mid1, keptD t1, rfl, (by show 1 ≤ 15; decide), ?_⟩
      revert dm1 dt1 se L17
      generalize upd (upd (upd Hc m1 (.dK [])) t1 (.lst [])) m1 (.dK (mergeK [] (keptD t1))) = He
      intro dm1 dt1 se L17
      refine ⟨(by show 2 ≤ sizeLine; decide), fun Kp hKp => ?_⟩
      have sf := same_new (o := .lst [V.ref m0, V.ref m1]) hKp
      have L18 := L17.snoc hKp sf ⟨_, upd_same⟩
      have hK : upd He Kp (.lst [V.ref m0, V.ref m1]) Kp = some (.lst [V.ref m0, V.ref m1]) := upd_same
      try dsimp only
      generalize upd He Kp (.lst [V.ref m0, V.ref m1]) = Hf at sf L18 hK
      have sbf : Same Hb Hf := sd.trans (se.trans sf)
      have saf : Same Ha Hf := sab.trans sbf
      have s9f : Same H9 Hf := sEa.trans saf
      obtain ⟨tsh, teq⟩ := twolists_shaped oka okb
      have mgaf : PairsAt Hf gta gva := mga.keep fun x xs e => s9f _ _ (s49 _ _ e)
      have mgbf : PairsAt Hf gtb gvb := mgb.keep fun x xs e => s9f _ _ (s69 _ _ (s6 _ _ e))
      have hgaf := s9f _ _ (s69 _ _ hga6)
      have hgbf := s9f _ _ (s69 _ _ hgb6)
      have hGf := s9f _ _ (s69 _ _ hG6)
      have hhaf := s9f _ _ hha9
      have hhbf := s9f _ _ hhb9
      have hDf := s9f _ _ hD9
      refine ⟨_, rfl, _, rfl, .list [.list (gva.map pairD), .list (gvb.map pairD)], .list [.list (gva.map pairD), .list (gvb.map pairD)], .lst (SqL.of hDf) (.cons (.lst (SqL.of hhaf) mgaf.dp) (.cons (.lst (SqL.of hhbf) mgbf.dp) .nil)),
        .lst (SqL.of hGf) (.cons (.lst (SqL.of hgaf) mgaf.dp) (.cons (.lst (SqL.of hgbf) mgbf.dp) .nil)), tsh, tsh, _, rfl, ?_⟩
      rw [teq]
      refine iteF ?_
      have nd : [R, Sl, ga, gb, G, ha0, hb0, Hd, E, qa, qb, T, m0, t0, m1, t1, Kp].Nodup := L18.nd
      have c1 : Ch Hf (upd Hf ha0 (.lst [])) [ha0, hb0] := (Ch.refl _ _).mut (by simp) hhaf (fun xs z => by cases z)
      refine ⟨_, rfl, Hd, _, 0, _, rfl, rfl, SqL.of hDf, rfl, .inl ⟨rfl, _, SqL.of hhaf⟩, ha0, _, rfl, rfl, hhaf, ?_⟩
      have nab : hb0 ≠ ha0 := (ndne nd 5 6 (by decide) (by show 6 < 17; decide)).symm
      have nHa : Hd ≠ ha0 := (ndne nd 5 7 (by decide) (by show 7 < 17; decide)).symm
      have hhb1 : upd Hf ha0 (.lst []) hb0 = some (.lst (gtb.map V.ref)) := by rw [upd_ne nab]; exact hhbf
      have hD1 : upd Hf ha0 (.lst []) Hd = some (.lst [V.ref ha0, V.ref hb0]) := by rw [upd_ne nHa]; exact hDf
      have c2 : Ch Hf (upd (upd Hf ha0 (.lst [])) hb0 (.lst [])) [ha0, hb0] := c1.mut (by simp) hhbf (fun xs z => by cases z)
      refine ⟨_, rfl, Hd, _, 1, _, rfl, rfl, SqL.of hD1, rfl, .inl ⟨rfl, _, SqL.of hhb1⟩, hb0, _, rfl, rfl, hhb1, ?_⟩
      try dsimp only
      generalize upd (upd Hf ha0 (.lst [])) hb0 (.lst []) = Hg at c2
      have nha : ∀ b, b ∈ [R, Sl, ga, gb, G] → b ∉ [ha0, hb0] := fun b hb z => by
        simp only [List.mem_cons, List.not_mem_nil, or_false] at hb z
        rcases hb with h | h | h | h | h <;> rcases z with z | z
        · exact ndne nd 0 5 (by decide) (by show 5 < 17; decide) (h.symm.trans z)
        · exact ndne nd 0 6 (by decide) (by show 6 < 17; decide) (h.symm.trans z)
        · exact ndne nd 1 5 (by decide) (by show 5 < 17; decide) (h.symm.trans z)
        · exact ndne nd 1 6 (by decide) (by show 6 < 17; decide) (h.symm.trans z)
        · exact ndne nd 2 5 (by decide) (by show 5 < 17; decide) (h.symm.trans z)
        · exact ndne nd 2 6 (by decide) (by show 6 < 17; decide) (h.symm.trans z)
        · exact ndne nd 3 5 (by decide) (by show 5 < 17; decide) (h.symm.trans z)
        · exact ndne nd 3 6 (by decide) (by show 6 < 17; decide) (h.symm.trans z)
        · exact ndne nd 4 5 (by decide) (by show 5 < 17; decide) (h.symm.trans z)
        · exact ndne nd 4 6 (by decide) (by show 6 < 17; decide) (h.symm.trans z)
      -- what came later than the handed lists
      have lateN : ∀ {b : Addr}, H9 b = none → b ∉ [ha0, hb0] := fun {b} e z => by
        simp only [List.mem_cons, List.not_mem_nil, or_false] at z
        rcases z with z | z
        · rw [z, hha9] at e; cases e
        · rw [z, hhb9] at e; cases e
      have fa : ∀ x, Ha x = none → H9 x = none := fun x => sEa.free
      have nq1 := hqb0
      have ex9 : ∀ x ∈ [R, Sl, ga, gb, G], ∃ o, H9 x = some o := fun x hx => by
        simp only [List.mem_cons, List.not_mem_nil, or_false] at hx
        rcases hx with rfl | rfl | rfl | rfl | rfl
        · exact ⟨_, s29 _ _ hR⟩
        · exact ⟨_, (s4.trans s49) _ _ hS3⟩
        · exact ⟨_, s69 _ _ hga6⟩
        · exact ⟨_, s69 _ _ hgb6⟩
        · exact ⟨_, s69 _ _ hG6⟩
      have nA : ∀ x ∈ [qa, qb, T, m0, t0, m1, t1, Kp], Ha x = none := fun x hx => by
        simp only [List.mem_cons, List.not_mem_nil, or_false] at hx
        rcases hx with rfl | rfl | rfl | rfl | rfl | rfl | rfl | rfl
        · exact hqa
        · exact hqb0
        · exact hT0
        · exact sab.free hm0
        · exact sab.free nt0
        · exact (sab.trans sd).free hm1
        · exact (sab.trans sd).free nt1
        · exact (sab.trans (sd.trans se)).free hKp
      have lt : ∀ x ∈ [qa, qb, T, m0, t0, m1, t1, Kp], x ∉ [ha0, hb0] := fun x hx => lateN (fa x (nA x hx))
      have oldg : Same H Hg := fun b o e => c2.at (s9f _ _ (z9 _ _ e)) fun z => by
        simp only [List.mem_cons, List.not_mem_nil, or_false] at z
        rcases z with z | z
        · exact ne_of_none e (z6.free hha) z
        · exact ne_of_none e (z6.free (s7.free hhb)) z
      have sfb : Same Hc Hf := se.trans sf
      have W0 : EWld Er H ⟨E, T, Kp, Sl, G, R, ga, gb, rts, rs⟩ 0 0 0 Hg :=
        start_wld A1 (Ha := Ha) (H9 := H9) nd (A1.frame (A1.frame e0 (Ch.of saf []) (fun _ _ z => nomatch z)) c2 (fun x hx => lateN (f0 x hx).1)) (A1.frame (A1.frame e1 (Ch.of saf []) (fun _ _ z => nomatch z)) c2 (fun x hx => lateN (f1 x hx).1)) (A1.own e0) (A1.own e1) nA f0 f1 ex9 f01 oldg
          (fun x e => z9.free e) (fun x e => z9.free (fa x e)) (c2.at (saf _ _ hEa) (lateN hE)) (c2.at (sbf _ _ hTb) (lt _ (by simp))) (c2.at hK (lt _ (by simp))) (c2.at (s9f _ _ ((s4.trans s49) _ _ hS3)) (nha _ (by simp))) (c2.at hGf (nha _ (by simp))) (c2.at (s9f _ _ (s29 _ _ hR)) (nha _ (by simp)))
          (mR.keep fun x xs e => c2.tup _ _ (s9f _ _ (s29 _ _ e))) (c2.at hgaf (nha _ (by simp))) (c2.at hgbf (nha _ (by simp))) (mgaf.keep c2.tup) (mgbf.keep c2.tup) (c2.at (sbf _ _ hqab) (lt _ (by simp))) (c2.at (sbf _ _ hqbb) (lt _ (by simp))) (c2.at (sfb _ _ dm0) (lt _ (by simp))) (c2.at (sfb _ _ dt0) (lt _ (by simp)))
          (c2.at (sf _ _ dm1) (lt _ (by simp))) (c2.at (sf _ _ dt1) (lt _ (by simp))) nda ndb oka okb l5a l5b
      have gR2 : ∀ r ∈ rs, GoodR r := gR
      clear lt nA ex9 fa lateN nha nq1 oldg sfb hhb1 hD1 c1 c2 nab nHa nd L18 L17 L15 L13 L10 sf se sd sab saf sbf s9f s10 z10 z9 z6 z5 z4 z3 z2 s1 s2 s3 s4 s5 s6 s7 s8 s9 s29 s49 s69 e0 e1 f0 f1 f01 mgaf mgbf hgaf hgbf hGf hhaf hhbf hDf tsh teq dm0 dt0 dm1 dt1 mid0 mid1 nt0 nt1 nmt0 nmt1 hTb hqab hqbb hK hb1 PA3 mga mgb nda ndb oka okb
      generalize hD : (⟨E, T, Kp, Sl, G, R, ga, gb, rts, rs⟩ : Ad) = D at W0
      have aE : D.E = E := by rw [← hD]
      have aT : D.T = T := by rw [← hD]
      have aK : D.Kp = Kp := by rw [← hD]
      have aS : D.Sl = Sl := by rw [← hD]
      have aG : D.G = G := by rw [← hD]
      have aR : D.R = R := by rw [← hD]
      have aRS : D.rs = rs := by rw [← hD]
      subst aE aT aK aS aG aR aRS
      have seq : ∀ {n1 n2 wh H'}, EWld Er H D n1 n2 wh H' → SqL K H' a (ns.map V.int) := fun {n1 n2 wh H'} h => h.old.seq hs
      have hlm : (ns.map V.int).length ≤ 63 := by rw [List.length_map]; exact hlen
      refine ⟨_, rfl, a, _, rfl, .inl (seq W0), 3, _, rfl, ⟨by decide, by decide, by omega, by omega⟩, ?_⟩
      refine for_range (lo := 3) (n := (((ns.map V.int).length : Int) - 3).toNat) (fun i σ H' => (∃ y6 y10 y11 y12 y13 y14 : Option V, σ = [some (.ref a), some (.ref q), some (.ref D.R), some (.ref D.Sl), some (.ref D.G), some (.ref Hd), y6, some (.ref D.E), some (.ref D.T), some (.ref D.Kp), y10, y11, y12, y13, y14]) ∧ EWld Er H D (12 * i) (12 * i) 0 H')
        ⟨⟨_, _, _, _, _, _, rfl⟩, W0⟩ ?_ ?_
      · rintro i σ H1 hi ⟨⟨y6, y10, y11, y12, y13, y14, rfl⟩, W1⟩
        rw [List.length_map] at hi
        obtain ⟨cell, _, a1⟩ := at_ints (ns := ns) (z := (3 : Int) + i) (by omega) (by omega)
        have hw : cell % 2 = 0 ∨ cell % 2 = 1 := by omega
        obtain ⟨hR1, mR1⟩ := W1.row
        have q1 := seq W1
        have lR0 : ((D.rts.map V.ref).length : Int) ≤ 193 := by
          rw [List.length_map, Paired.length mR1]
          omega
        refine ⟨_, rfl, _, rfl, a, _, _, _, rfl, rfl, q1, a1, _, _, rfl, rfl, (by show (0 : Int) < 2; decide), ?_⟩
        refine ⟨_, rfl, _, rfl, a, _, _, _, rfl, rfl, q1, a1, _, _, rfl, rfl, ⟨by decide, by decide⟩, _, rfl, D.R, _, rfl, .inl (SqL.of hR1), _, _, rfl, rfl, _, _, rfl, rfl, (by show (0 : Int) < ((D.rts.map V.ref).length : Int) + 1; omega), ?_⟩
        refine ⟨_, rfl, _, rfl, a, _, _, _, rfl, rfl, q1, a1, _, _, rfl, rfl, ⟨by decide, by decide⟩, _, rfl, D.R, _, rfl, .inl (SqL.of hR1), _, _, rfl, rfl, _, _, rfl, rfl, ⟨(by show (0 : Int) < ((D.rts.map V.ref).length : Int) + 1; omega), (by show ((D.rts.map V.ref).length : Int) + 1 < 1073741824; omega)⟩, ?_⟩
        have hlow : 0 ≤ cell / 2 % (((D.rts.map V.ref).length : Int) + 1) := Int.emod_nonneg _ (by omega)
        dsimp only
        generalize cell / 2 % (((D.rts.map V.ref).length : Int) + 1) = low at hlow
        generalize cell / 2 / (((D.rts.map V.ref).length : Int) + 1) = more
        have hm9 : 0 ≤ more % 9 := Int.emod_nonneg _ (by decide)
        have hm9' : more % 9 < 9 := Int.emod_lt_of_pos _ (by decide)
        obtain ⟨j1, j2, ecut, lcut⟩ := cutV_win (D.rts.map V.ref) (lo := low) (d := more % 9) hlow hm9
        refine ⟨_, rfl, _, rfl, _, rfl, _, rfl, _, rfl, _, _, rfl, rfl, (by show (0 : Int) < 9; decide), _, _, rfl, rfl, _, rfl, D.R, _, rfl, SqL.of hR1, fun ba hba => ?_⟩
        rw [ecut, ← List.map_drop, ← List.map_take]
        have sA := same_new (o := .lst (((D.rts.drop j1).take j2).map V.ref)) hba
        refine ⟨fun σ H' => ∃ (bq : Addr) (bts : List Addr) (brs : List Row), σ = [some (.ref a), some (.ref q), some (.ref D.R), some (.ref D.Sl), some (.ref D.G), some (.ref Hd), some (.int (3 + i)), some (.ref D.E), some (.ref D.T), some (.ref D.Kp), some (.int (cell % 2)), some (.int low), some (.int more), some (.ref bq), y14] ∧
          H' bq = some (.lst (bts.map V.ref)) ∧ RowsAt H' bts brs ∧ (∀ r ∈ brs, GoodR r) ∧ bts.length ≤ 8 ∧ Same H1 H' ∧ H1 bq = none, ?_, ?_⟩
        · have mb := (mR1.keep fun x xs e => sA _ _ e).drop j1 |>.take j2
          have gb : ∀ r ∈ (D.rs.drop j1).take j2, GoodR r := fun r hr => gR2 r (List.mem_of_mem_drop (List.mem_of_mem_take hr))
          have lb : ((D.rts.drop j1).take j2).length ≤ 8 := by
            rw [List.length_take]
            omega
          refine ⟨_, rfl, _, _, rfl, rfl, ⟨by decide, by decide⟩, _, _, rfl, rfl, (by show (0 : Int) < 3; decide), rfl, _, rfl, ?_⟩
          refine ite2 (fun _ => ?_) fun _ => ⟨ba, _, _, rfl, upd_same, mb, gb, lb, sA, hba⟩
          refine ⟨_, rfl, ba, _, rfl, SqL.of upd_same, fun bb2 hbb2 => ?_⟩
          have sB := same_new (o := .lst (((D.rts.drop j1).take j2).map V.ref).reverse) hbb2
          refine ⟨bb2, _, _, rfl, by rw [upd_same, ← List.map_reverse], RowsAt.rev (mb.keep fun x xs e => sB _ _ e), fun r hr => gb r (List.mem_reverse.mp hr), by rw [List.length_reverse]; exact lb, sA.trans sB, sA.free hbb2⟩
        rintro σ Ha ⟨bq, bts, brs, rfl, hbq, mb, gb, lb, sA, hbq0⟩
        refine ⟨fun σ H' => ∃ (bq : Addr) (bts : List Addr) (brs : List Row), σ = [some (.ref a), some (.ref q), some (.ref D.R), some (.ref D.Sl), some (.ref D.G), some (.ref Hd), some (.int (3 + i)), some (.ref D.E), some (.ref D.T), some (.ref D.Kp), some (.int (cell % 2)), some (.int low), some (.int more), some (.ref bq), y14] ∧
          H' bq = some (.lst (bts.map V.ref)) ∧ RowsAt H' bts brs ∧ (∀ r ∈ brs, GoodR r) ∧ bts.length ≤ 12 ∧ Same H1 H' ∧ H1 bq = none, ?_, ?_⟩
        · refine ⟨_, rfl, _, _, rfl, rfl, ⟨by decide, by decide⟩, _, _, rfl, rfl, (by show (0 : Int) < 3; decide), rfl, _, rfl, ?_⟩
          refine ite2 (fun _ => ?_) fun _ => ⟨bq, _, _, rfl, hbq, mb, gb, by omega, sA, hbq0⟩
          have hRa := sA _ _ hR1
          have mRa := mR1.keep fun x xs e => sA _ _ e
          have h4 : 0 ≤ more / 27 % 4 := Int.emod_nonneg _ (by decide)
          have h4' : more / 27 % 4 < 4 := Int.emod_lt_of_pos _ (by decide)
          refine ⟨_, rfl, _, rfl, _, rfl, _, _, rfl, rfl, ⟨by decide, by decide⟩, _, _, rfl, rfl, (by show (0 : Int) < 4; decide), _, rfl, D.R, _, rfl, SqL.of hRa, fun b3 hb3 => ?_⟩
          rw [cutV_upto _ h4, ← List.map_take]
          have s3 := same_new (o := .lst ((D.rts.take (more / 27 % 4).toNat).map V.ref)) hb3
          have l3 : (D.rts.take (more / 27 % 4).toNat).length ≤ 3 := by rw [List.length_take]; omega
          refine ⟨bq, b3, _, _, rfl, rfl, s3 _ _ hbq, upd_same, by rw [List.length_map, List.length_map]; exact Nat.le_of_lt (small1000 (by omega)), fun b4 hb4 => ?_⟩
          have s4 := s3.trans (same_new (o := .lst (bts.map V.ref ++ (D.rts.take (more / 27 % 4).toNat).map V.ref)) hb4)
          refine ⟨b4, bts ++ D.rts.take (more / 27 % 4).toNat, brs ++ D.rs.take (more / 27 % 4).toNat, rfl, by rw [upd_same, List.map_append], RowsAt.app (mb.keep fun x xs e => s4 _ _ e) ((mRa.keep fun x xs e => s4 _ _ e).take _), fun r hr => ?_, by rw [List.length_append]; omega, sA.trans s4, (sA.trans s3).free hb4⟩
          rcases List.mem_append.mp hr with hr | hr
          · exact gb r hr
          · exact gR2 r (List.mem_of_mem_take hr)
        rintro σ H2 ⟨bq, bts, brs, rfl, hbq, mb, gb, lb, s12, hbq0⟩
        obtain ⟨X, Y, els, tls, kls, sls, gls, h1, h2, h3, B, lx, ly, nb⟩ := (W1.to (.inl rfl) hw).th A1 hbq0
        have B2 := B.same A1 s12
        have h12 := h1.keep (fun a _ o e => s12 _ _ e) (fun b xs e => s12 _ _ e)
        have lbr : brs.length ≤ 12 := len_up mb lb
        have lg5 := B2.sx.g5
        have i60 : i ≤ 60 := by omega
        refine ⟨_, rfl, _, rfl, D.E, _, _, _, rfl, rfl, SqL.of h12.e, h2.e, _, rfl, _, rfl, D.T, _, _, _, rfl, rfl, SqL.of h12.t, h2.t, _, rfl, _, rfl, D.Sl, _, _, _, rfl, rfl, SqL.of h12.s, h2.s, _, rfl, _, rfl, _, rfl, D.Kp, _, _, _, rfl, rfl, SqL.of h12.k, h2.k,
          X.F, X.p, X.tq, X.m, X.t, bq, X.b, X.gv, X.tts, bts, X.tk, brs, rfl, B2.sx.es, hbq, mb, gb, nb, by omega, fun H3 af => ⟨true, rfl, iteF ?_⟩⟩
        obtain ⟨F', t', tts', S', G', et, C'⟩ := af
        obtain ⟨B3, keep3⟩ := B2.go A1 S' C' G' et
        have h13 := h12.keep keep3 C'.tup
        have tkl := takeM_len X.b brs X.tk
        generalize takeM X.b X.tk brs = tk' at S' B3 tkl
        have q3 : SqL K H3 a (ns.map V.int) := B3.old.seq hs
        refine ⟨_, rfl, _, rfl, D.G, _, _, _, rfl, rfl, SqL.of h13.g, h2.g, _, rfl, _, rfl, D.T, _, _, _, rfl, rfl, SqL.of h13.t, h2.t, X.gq, X.tq, X.gts, tts', X.gv, tk', rfl, B3.sx.gl, B3.sx.gp, B3.sx.gn, S'.li, S'.at_, by omega, fun dq dts ps H4 hd0 hd md Td s34 => ?_⟩
        have B4 := B3.same A1 s34
        have h14 := h13.keep (fun a _ o e => s34 _ _ e) (fun b xs e => s34 _ _ e)
        have q4 : SqL K H4 a (ns.map V.int) := B4.old.seq hs
        have fin : ∀ {Hz : Hp} {F5 : List Addr} {els tls kls sls gls : List V}, LsAt Hz D.E D.T D.Kp D.Sl D.G D.R els tls kls sls gls D.rts D.rs → Sits X (cell % 2) els tls kls sls gls → Sits Y (1 - cell % 2) els tls kls sls gls → EBoth Er H Hz D.l ⟨F5, X.p, X.tq, X.m, t', X.b, X.gv, X.gq, X.gts, tts', tk'⟩ Y → EWld Er H D (12 * (i + 1)) (12 * (i + 1)) 0 Hz :=
          fun {Hz F5 els tls kls sls gls} a1 a2 a3 a4 => EWld.to (wh := cell % 2) ⟨⟨F5, X.p, X.tq, X.m, t', X.b, X.gv, X.gq, X.gts, tts', tk'⟩, Y, els, tls, kls, sls, gls, a1, ⟨a2.e, a2.t, a2.k, a2.s, a2.g⟩, a3, a4, by show tk'.length ≤ _; omega, by omega⟩ hw (.inl rfl)
        refine ⟨_, rfl, _, rfl, _, rfl, a, _, _, _, rfl, rfl, q4, a1, _, _, rfl, rfl, _, _, rfl, rfl, (by show (0 : Int) < 9; decide), rfl, _, rfl, ?_⟩
        refine ite2 (fun _ => ?_) fun _ => ⟨⟨_, _, _, _, _, _, rfl⟩, fin h14 h2 h3 B4⟩
        obtain ⟨hpF, dz, fs, hob, hfs⟩ := A1.inst B4.sx.es.er
        refine ⟨_, rfl, _, rfl, D.E, _, _, _, rfl, rfl, SqL.of h14.e, h2.e, X.p, dz, fs, rfl, hob, hfs _ (by simp), F', X.p, X.b, X.gv, tk', rfl, B4.sx.es.er, by omega, B4.sx.es.good, fun F5 f5 us ps5 H5 E5 G5' C5 n5 nf5 h5 m5 T5 => ?_⟩
        have ep := T5.uniq Td
        subst ep
        have dF : dq ∉ F' := fun z => by
          obtain ⟨o, e⟩ := A1.own B3.sx.es.er dq z
          rw [hd0] at e
          cases e
        refine ⟨_, rfl, f5, dq, us, dts, ps5, rfl, h5, C5.at hd dF, m5, md.keep C5.tup, T5.ok (foldF (holdF B4.sx.gk) B4.sx.es.good), true, rfl, iteF ⟨⟨_, _, _, _, _, _, rfl⟩, ?_⟩⟩
        have cc : Ch H4 (upd H5 f5 (.lst [])) F' := C5.new _ n5
        have E6 := A1.frame E5 ((Ch.refl H5 [f5]).mut (o := .lst []) (List.mem_singleton.mpr rfl) h5 (fun xs z => by cases z)) (fun x hx z => nf5 (by rw [← List.mem_singleton.mp z]; exact hx))
        obtain ⟨B6, keep6⟩ := B4.go A1 (B4.sx.es.stated A1 E6 G5' cc) (cc.mono fun x hx => by unfold Es.W; simp [hx]) G5' (.inl rfl)
        exact fin (h14.keep keep6 cc.tup) h2 h3 B6
      · rintro σ H1 ⟨⟨y6, y10, y11, y12, y13, y14, rfl⟩, W1⟩
        have lk : (((ns.map V.int).length : Int) - 3).toNat ≤ 60 := by omega
        have W2 : EWld Er H D 720 720 0 H1 := W1.mono (by omega) (by omega)
        clear W1 W0
        refine ⟨2, rfl, by decide, by decide, for_range (lo := 0) (n := 2) (fun j σ H' => (∃ y6 : Option V, σ = [some (.ref a), some (.ref q), some (.ref D.R), some (.ref D.Sl), some (.ref D.G), some (.ref Hd), y6, some (.ref D.E), some (.ref D.T), some (.ref D.Kp), y10, y11, y12, y13, y14]) ∧ EWld Er H D (if j = 0 then 720 else 913) (if j ≤ 1 then 720 else 913) 0 H')
          ⟨⟨_, rfl⟩, W2⟩ ?_ ?_⟩
        · rintro j σ Ha hj ⟨⟨z6, rfl⟩, W3⟩
          have hj2 : j = 0 ∨ j = 1 := by omega
          obtain ⟨n2, Wj, back⟩ : ∃ n2, EWld Er H D 720 n2 ((0 : Int) + j) Ha ∧ ∀ H', EWld Er H D 913 n2 ((0 : Int) + j) H' → EWld Er H D (if j + 1 = 0 then 720 else 913) (if j + 1 ≤ 1 then 720 else 913) 0 H' := by
            rcases hj2 with rfl | rfl
            · exact ⟨720, W3, fun H' h => h⟩
            · exact ⟨913, W3.swap, fun H' h => h.swap⟩
          clear W3
          generalize (0 : Int) + j = wh at Wj back
          obtain ⟨X, Y, els, tls, kls, sls, gls, h1, h2, h3, B, lx, ly⟩ := Wj
          have lg5 := B.sx.g5
          have nb : D.R ∉ X.tq :: X.m :: X.t :: X.F := fun z => by
            simp only [List.mem_cons] at z
            rcases z with z | z | z | z
            · exact B.x0 X.tq (by simp [Es.W]) (by rw [← z]; simp [Ad.l])
            · exact B.x0 X.m (by simp [Es.W]) (by rw [← z]; simp [Ad.l])
            · exact B.tx (by rw [← z]; simp [Ad.l])
            · exact B.x0 D.R (by simp [Es.W, z]) (by simp [Ad.l])
          refine ⟨_, rfl, _, rfl, D.E, _, _, _, rfl, rfl, SqL.of h1.e, h2.e, _, rfl, _, rfl, D.T, _, _, _, rfl, rfl, SqL.of h1.t, h2.t, _, rfl, _, rfl, D.Sl, _, _, _, rfl, rfl, SqL.of h1.s, h2.s, _, rfl, _, rfl, _, rfl, D.Kp, _, _, _, rfl, rfl, SqL.of h1.k, h2.k,
            X.F, X.p, X.tq, X.m, X.t, D.R, X.b, X.gv, X.tts, D.rts, X.tk, D.rs, rfl, B.sx.es, h1.r, h1.m, gR2, nb, by omega, fun H3 af => ⟨true, rfl, iteF ?_⟩⟩
          obtain ⟨F', t', tts', S', G', et, C'⟩ := af
          obtain ⟨B3, keep3⟩ := B.go A1 S' C' G' et
          have h13 := h1.keep keep3 C'.tup
          have tkl := takeM_len X.b D.rs X.tk
          generalize takeM X.b X.tk D.rs = tk' at S' B3 tkl
          obtain ⟨hpF, dz, fs, hob, hfs⟩ := A1.inst B3.sx.es.er
          refine ⟨_, rfl, _, rfl, D.E, _, _, _, rfl, rfl, SqL.of h13.e, h2.e, X.p, dz, fs, rfl, hob, hfs _ (by simp), F', X.p, X.b, X.gv, tk', rfl, B3.sx.es.er, by omega, B3.sx.es.good, fun F5 f5 us ps5 H5 E5 G5' C5 n5 nf5 h5 m5 T5 => ?_⟩
          obtain ⟨B5, keep5⟩ := B3.go A1 (B3.sx.es.stated A1 E5 G5' C5) (C5.mono fun x hx => by unfold Es.W; simp [hx]) G5' (.inl rfl)
          have h15 := h13.keep keep5 C5.tup
          refine ⟨_, rfl, _, rfl, D.G, _, _, _, rfl, rfl, SqL.of h15.g, h2.g, _, rfl, _, rfl, D.T, _, _, _, rfl, rfl, SqL.of h15.t, h2.t, X.gq, X.tq, X.gts, tts', X.gv, tk', rfl, B5.sx.gl, B5.sx.gp, B5.sx.gn, B5.sx.es.li, B5.sx.es.at_, by omega, fun dq dts ps H6 hd0 hd md Td s56 => ?_⟩
          have ep := T5.uniq Td
          subst ep
          refine ⟨f5, dq, us, dts, ps5, rfl, s56 _ _ h5, hd, m5.keep (fun x xs e => s56 _ _ e), md, T5.ok (foldF (holdF B3.sx.gk) B3.sx.es.good), true, rfl, iteF ⟨⟨_, rfl⟩, back _ ?_⟩⟩
          have E6 := A1.frame (A1.frame E5 (Ch.of s56 []) (fun _ _ z => nomatch z)) ((Ch.refl H6 [f5]).mut (o := .lst []) (List.mem_singleton.mpr rfl) (s56 _ _ h5) (fun xs z => by cases z)) (fun x hx z => nf5 (by rw [← List.mem_singleton.mp z]; exact hx))
          have cc : Ch H3 (upd H6 f5 (.lst [])) F' := (C5.same s56).new _ n5
          obtain ⟨B7, keep7⟩ := B3.go A1 (B3.sx.es.stated A1 E6 G5' cc) (cc.mono fun x hx => by unfold Es.W; simp [hx]) G5' (.inl rfl)
          exact ⟨⟨F5, X.p, X.tq, X.m, t', X.b, X.gv, X.gq, X.gts, tts', tk'⟩, Y, els, tls, kls, sls, gls, h13.keep keep7 cc.tup, ⟨h2.e, h2.t, h2.k, h2.s, h2.g⟩, h3, B7, by show tk'.length ≤ _; omega, ly⟩
        · rintro σ Ha ⟨⟨z6, rfl⟩, W3⟩
          exact k Ha
end
end KL

/-! sorted of pairs of texts, any number of them; sorted of a dict's items -/
namespace PT
open PySem PySem.Spec PyProof.Rows L2 L2H
/-- pairs of texts, by their first, then by their second -/
def lexS (p q : Str × Str) : Bool := if p.1 = q.1 then decide (p.2.cps.toList < q.2.cps.toList) else decide (p.1.cps.toList < q.1.cps.toList)
theorem lexS_iff {p q : Str × Str} : lexS p q = true ↔ p.1.cps.toList < q.1.cps.toList ∨ (p.1 = q.1 ∧ p.2.cps.toList < q.2.cps.toList) := by
  unfold lexS
  by_cases e : p.1 = q.1
  · rw [if_pos e, decide_eq_true_eq, e]
    exact ⟨fun h => .inr ⟨rfl, h⟩, fun h => h.elim (fun z => absurd z (List.lt_irrefl _)) fun z => z.2⟩
  · rw [if_neg e, decide_eq_true_eq]
    exact ⟨.inl, fun h => h.elim id fun z => absurd z.1 e⟩
theorem ltL_trans {a b c : List Nat} (h : a < b) (k : b < c) : a < c := List.lt_trans h k
theorem ltL_as {a b : List Nat} (h : a < b) : ¬ b < a := fun k => List.lt_irrefl _ (List.lt_trans h k)
theorem tri {a b : Str} (h : ¬ a.cps.toList < b.cps.toList) (k : ¬ b.cps.toList < a.cps.toList) : a = b := TL.ext_tl (List.le_antisymm (List.not_lt.mp k) (List.not_lt.mp h))
theorem swo_lexS {α : Type} (k : α → Str × Str) : SrtO.Swo fun u v => lexS (k u) (k v) := by
  refine ⟨fun x y h => ?_, fun x y z h1 h2 => ?_⟩
  · refine Bool.eq_false_iff.mpr fun g => ?_
    rcases lexS_iff.mp h with a | ⟨a1, a2⟩ <;> rcases lexS_iff.mp g with b | ⟨b1, b2⟩
    · exact ltL_as a b
    · rw [b1] at a; exact List.lt_irrefl _ a
    · rw [a1] at b; exact List.lt_irrefl _ b
    · exact ltL_as a2 b2
  · refine Bool.eq_false_iff.mpr fun g => ?_
    have n1 : ¬ lexS (k y) (k x) = true := by rw [h1]; decide
    have n2 : ¬ lexS (k z) (k y) = true := by rw [h2]; decide
    rw [lexS_iff, not_or, not_and] at n1 n2
    have q1 := List.not_lt.mp n1.1
    have q2 := List.not_lt.mp n2.1
    rcases lexS_iff.mp g with a | ⟨a1, a2⟩
    · exact List.not_lt.mpr (List.le_trans q1 q2) a
    · have q3 := n2.1
      rw [a1] at q3
      have e : (k x).1 = (k y).1 := tri q3 n1.1
      have r1 := n1.2 e.symm
      have r2 := n2.2 (a1.trans e)
      exact List.not_lt.mpr (List.le_trans (List.not_lt.mp r1) (List.not_lt.mp r2)) a2
section
variable {prog : Program} {w : World} {A : Around} {E : Value → Shared → Prop} {s : Shared}
/-- v is a tuple of two texts in the heap -/
def Two (h : Heap) (v : Value) (p : Str × Str) : Prop := ∃ b o c1 c2 n, v = .ref b ∧ h.get? b = some o ∧ o.cls = .type "tuple" ∧ o.data = .seq #[.str p.1 c1, .str p.2 c2] n
theorem Two.keeps {g g' : Heap} {v : Value} {p : Str × Str} (x : Two g v p) (k : ∀ b o, g.get? b = some o → o.cls = .type "tuple" → g'.get? b = some o) : Two g' v p := by
  obtain ⟨b, o, c1, c2, n, e, h1, h2, h3⟩ := x
  exact ⟨b, o, c1, c2, n, e, k _ _ h1 h2, h2, h3⟩
theorem two_cmp {vs : List Value} {k : Value → Str × Str} (hk : ∀ v ∈ vs, Two s.heap v (k v)) : SrtO.Cmp prog w A s (tuples' true) (fun p => p.1 ∈ vs) (SrtO.lt2 fun v u => lexS (k v) (k u)) := by
  intro p q m1 m2
  have g1 := hk _ m1
  have g2 := hk _ m2
  show wpAny (model prog w) A (keyLt' (tuples' true) p.1 q.1) (fun r z => z = s ∧ r = lexS (k p.1) (k q.1)) (fun _ _ => False) s
  generalize k p.1 = x at g1 ⊢
  generalize k q.1 = y at g2 ⊢
  obtain ⟨x1, x2⟩ := x
  obtain ⟨y1, y2⟩ := y
  obtain ⟨b, o, c1, c2, n, e1, i1, i2, i3⟩ := g1
  obtain ⟨d, u, d1, d2, m, e2, j1, j2, j3⟩ := g2
  rw [e1, e2]
  refine PySem.W.kat_lt i1 i3 j1 j3 ?_
  show PySem.W.KatLex prog w A true (decide (2 < 2)) _ [(.str x1 c1, .str y1 d1), (.str x2 c2, .str y2 d2)] 0 s
  refine PySem.W.kat_cons (SeqAt.EqAt.str_str x1 c1 y1 d1 prog w _ _ ?_)
  refine PySem.W.kat_go (fun a1 => ?_) fun a1 => ?_
  · have ex : x1 = y1 := by simpa using a1
    refine PySem.W.kat_yes (PySem.W.kat_cons (SeqAt.EqAt.str_str x2 c2 y2 d2 prog w _ _ ?_))
    refine PySem.W.kat_go (fun a2 => ?_) fun a2 => ?_
    · have ey : x2 = y2 := by simpa using a2
      have ef : lexS (x1, x2) (y1, y2) = false := by
        unfold lexS
        rw [if_pos ex]
        refine decide_eq_false ?_
        rw [ey]
        exact List.lt_irrefl _
      exact PySem.W.kat_yes (PySem.W.kat_nil ⟨rfl, ef.symm⟩)
    · have ef : lexS (x1, x2) (y1, y2) = decide (x2.cps.toList < y2.cps.toList) := by
        unfold lexS
        rw [if_pos ex]
      refine PySem.W.kat_no (PySem.W.kat_one _ _ (PyProof.Rows.lt_str ?_))
      exact (show s = s ∧ decide (x2.cps.toList < y2.cps.toList) = lexS (x1, x2) (y1, y2) from ⟨rfl, ef.symm⟩)
  · have ex : ¬ x1 = y1 := by simpa using a1
    have ef : lexS (x1, x2) (y1, y2) = decide (x1.cps.toList < y1.cps.toList) := by
      unfold lexS
      rw [if_neg ex]
    exact PySem.W.kat_no (oneLt_str ⟨rfl, ef.symm⟩)
theorem two_firsts {g : Heap} {k : Value → Str × Str} : ∀ {vs : List Value}, (∀ v ∈ vs, Two g v (k v)) → ∃ fs : List Value, PySem.W.KatTups g vs fs ∧ fs.length = vs.length ∧ ∀ f ∈ fs, ∃ x c, f = Value.str x c
  | [], _ => ⟨[], PySem.W.KatTups.nil, rfl, fun _ z => nomatch z⟩
  | v :: vs, h => by
    obtain ⟨fs, a1, a2, a3⟩ := two_firsts (vs := vs) fun x hx => h x (List.mem_cons_of_mem _ hx)
    obtain ⟨b, o, c1, c2, n, e, i1, i2, i3⟩ := h v List.mem_cons_self
    subst e
    refine ⟨.str (k (.ref b)).1 c1 :: fs, PySem.W.KatTups.cons i1 i2 i3 rfl a1, by rw [List.length_cons, List.length_cons, a2], fun f hf => ?_⟩
    rcases List.mem_cons.mp hf with rfl | hf
    · exact ⟨_, _, rfl⟩
    · exact a3 f hf
theorem two_sortable {a : Addr} {vs : List Value} {k : Value → Str × Str} (h0 : 0 < vs.length) (hk : ∀ v ∈ vs, Two s.heap v (k v)) (ha : ∀ o, s.heap.get? a = some o → o.cls ≠ .type "tuple") : SrtO.SortableO prog w A s a vs fun v u => lexS (k v) (k u) := by
  intro g keep
  have hg : ∀ v ∈ vs, Two g v (k v) := fun v hv => (hk v hv).keeps fun b o e c => keep b o (fun z => ha o (z ▸ e) c) e
  obtain ⟨fs, a1, a2, a3⟩ := two_firsts hg
  refine ⟨tuples' true, fun Q F hq => ?_, two_cmp hg⟩
  refine PySem.W.kat_kind (T := .type "str") a1 (by omega) (fun f hf => ?_) (by rfl) ?_
  · obtain ⟨x, c, rfl⟩ := a3 f hf
    exact PySem.W.Looks.now
  · have e : (Value.type "str" != Value.type "tuple") = true := by decide +kernel
    rw [e]
    exact hq
end
end PT
namespace LX
open PySem PySem.Spec PyProof.Rows L2 L2H
section
variable {X : Cx}
/-- sorted(xs), xs a list of pairs of texts -/
def rSortTT (K : PySem.W.Frag) : List V → Hp → VK → Prop := fun vs H Q => ∃ (a : Addr) (xs : List V) (k : V → Str × Str), vs = [V.ref a] ∧ SqL K H a xs ∧ (∀ x ∈ xs, ∃ t, x = V.ref t ∧ H t = some (.tup [.str (k x).1, .str (k x).2])) ∧
  ∀ ys p, ys.Perm xs → ys.Pairwise (fun x y => PT.lexS (k y) (k x) = false) → H p = none → Q (.ref p) (upd H p (.lst ys))
theorem cr_sortTT : CallR X (.builtin "sorted") (rSortTT X.K) := by
  intro pins s σ H vs us Q I r h
  obtain ⟨a, xs, k, rfl, hs, hx, q⟩ := h
  obtain ⟨its, rv, hl, hz⟩ := I.list hs
  obtain ⟨u, rfl, ru⟩ := vals1 r
  obtain rfl : u = Value.ref a := ru
  obtain ⟨e1, e2⟩ := refs_back rv fun x m => let ⟨t, e, _⟩ := hx x m; ⟨t, e⟩
  have two : ∀ v ∈ its, PT.Two s.heap v (k (backV v)) := fun v hv => by
    obtain ⟨t, rfl⟩ := e2 v hv
    have hm : V.ref t ∈ xs := by rw [e1]; exact List.mem_map.mpr ⟨_, hv, rfl⟩
    obtain ⟨t', e, ht⟩ := hx _ hm
    cases e
    obtain ⟨_, its2, r2, o, ho, hc, n, hd⟩ := I.hok _ _ ht
    obtain ⟨u1, u2, rfl, ri, rj⟩ := vals2 r2
    obtain ⟨t1, rfl⟩ := ri
    obtain ⟨t2, rfl⟩ := rj
    exact ⟨t, o, t1, t2, n, rfl, ho, hc, hd⟩
  refine SrtO.sorted_ord (PT.swo_lexS fun v => k (backV v)) hl.isList (by rw [← rv.length]; exact hz) (fun h2 h₁ b hb kk => ?_) fun out hso hst => ?_
  · refine PT.two_sortable (s := { s with heap := h₁ }) (k := fun v => k (backV v)) (by omega) (fun v hv => (two v hv).keeps fun c o e _ => (kk c o e).2) fun o e => ?_
    have z : some o = some (seqObj "list" its.toArray 0) := e.symm.trans hb
    cases z
    intro c
    exact absurd (Value.type.inj c) (by decide)
  · have h3 : ∀ u ∈ out, ∃ b, u = Value.ref b := fun u hu => e2 u (hst.perm.mem_iff.mp hu)
    obtain ⟨n, hn⟩ := sortedAll_at s.heap its out.toArray
    have hp : (out.map backV).Perm xs := by
      rw [e1]
      exact hst.perm.map backV
    refine ⟨.ref (s.heap.objs.size + 1), upd H (s.heap.objs.size + 1) (.lst (out.map backV)), I.laid (t' := s.toks) (fun b o e => sortedAll_old e) (Nat.le_succ _) ⟨?_, out, n, vals_back h3, hn⟩, rfl, q _ _ hp (List.pairwise_map.mpr hso) (I.hok.fresh (Nat.le_succ _))⟩
    rw [hp.length_eq]
    exact hz
end
end LX

namespace KB
open PySem L2 L2H LX
/-! ### tables of any kind, beside the dicts that hold them -/
section
variable {α β : Type} [DecidableEq α]
def getA (d : List (α × β)) (k : α) : Option β := (d.find? fun p => decide (p.1 = k)).map (·.2)
def putA (d : List (α × β)) (k : α) (v : β) : List (α × β) := if (d.any fun p => decide (p.1 = k)) = true then d.map (fun p => if p.1 = k then (p.1, v) else p) else d ++ [(k, v)]
def dropA (d : List (α × β)) (k : α) : List (α × β) := d.filter fun p => decide (p.1 ≠ k)
theorem getA_nil (k : α) : getA ([] : List (α × β)) k = none := rfl
theorem getA_pos {p : α × β} {r : List (α × β)} {k : α} (e : p.1 = k) : getA (p :: r) k = some p.2 := by
  unfold getA
  rw [List.find?_cons_of_pos (by exact decide_eq_true e)]; rfl
theorem getA_neg {p : α × β} {r : List (α × β)} {k : α} (e : ¬ p.1 = k) : getA (p :: r) k = getA r k := by
  unfold getA
  rw [List.find?_cons_of_neg (by rw [decide_eq_false e]; decide)]
theorem getA_any (d : List (α × β)) (k : α) : (d.any fun p => decide (p.1 = k)) = (getA d k).isSome := by
  induction d with
  | nil => rfl
  | cons p r ih =>
    rw [List.any_cons]
    by_cases e : p.1 = k
    · rw [getA_pos e, decide_eq_true e]; rfl
    · rw [getA_neg e, decide_eq_false e, Bool.false_or, ih]
theorem getA_none {d : List (α × β)} {k : α} : getA d k = none ↔ k ∉ d.map (·.1) := by
  rw [← Option.not_isSome_iff_eq_none, ← getA_any, List.any_eq_true]
  constructor
  · intro h m
    obtain ⟨p, hp, e⟩ := List.mem_map.mp m
    exact h ⟨p, hp, decide_eq_true e⟩
  · rintro h ⟨p, hp, e⟩
    exact h (List.mem_map.mpr ⟨p, hp, of_decide_eq_true e⟩)
theorem getA_mem {d : List (α × β)} {k : α} {v : β} (h : getA d k = some v) : (k, v) ∈ d := by
  induction d with
  | nil => cases h
  | cons p r ih =>
    by_cases e : p.1 = k
    · rw [getA_pos e] at h
      have : p.2 = v := Option.some.inj h
      rw [← this, ← e]
      exact List.mem_cons_self
    · rw [getA_neg e] at h
      exact List.mem_cons_of_mem _ (ih h)
theorem getA_of {d : List (α × β)} (n : (d.map (·.1)).Nodup) {p : α × β} (h : p ∈ d) : getA d p.1 = some p.2 := by
  induction d with
  | nil => cases h
  | cons q r ih =>
    rw [List.map_cons, List.nodup_cons] at n
    rcases List.mem_cons.mp h with e | h
    · subst e
      exact getA_pos rfl
    · rw [getA_neg fun z => n.1 (z ▸ List.mem_map.mpr ⟨p, h, rfl⟩)]
      exact ih n.2 h
theorem putA_new {d : List (α × β)} {k : α} {v : β} (h : getA d k = none) : putA d k v = d ++ [(k, v)] := by
  unfold putA
  rw [getA_any, h, if_neg (fun z => by cases z)]
theorem keys_putA_old {d : List (α × β)} {k : α} {v : β} (h : (d.any fun p => decide (p.1 = k)) = true) : (putA d k v).map (·.1) = d.map (·.1) := by
  unfold putA
  rw [if_pos h, List.map_map]
  refine List.map_congr_left fun p _ => ?_
  by_cases z : p.1 = k
  · simp only [Function.comp_apply, if_pos z]
  · simp only [Function.comp_apply, if_neg z]
theorem putA_nodup {d : List (α × β)} {k : α} {v : β} (n : (d.map (·.1)).Nodup) : ((putA d k v).map (·.1)).Nodup := by
  cases h : getA d k with
  | some x => rw [keys_putA_old (by rw [getA_any, h]; rfl)]; exact n
  | none =>
    rw [putA_new h, List.map_append, List.map_cons, List.map_nil]
    refine List.nodup_append.mpr ⟨n, List.nodup_cons.mpr ⟨fun z => (nomatch z), List.nodup_nil⟩, fun a ha b hb z => getA_none.mp h ?_⟩
    have z2 : a = k := z.trans (List.mem_singleton.mp hb)
    rw [← z2]
    exact ha
theorem putA_len (d : List (α × β)) (k : α) (v : β) : (putA d k v).length ≤ d.length + 1 := by
  unfold putA
  split
  · rw [List.length_map]; exact Nat.le_succ _
  · rw [List.length_append]; exact Nat.le_refl _
theorem dropA_len (d : List (α × β)) (k : α) : (dropA d k).length ≤ d.length := List.length_filter_le _ _
theorem dropA_nodup {d : List (α × β)} {k : α} (n : (d.map (·.1)).Nodup) : ((dropA d k).map (·.1)).Nodup := n.sublist (List.Sublist.map _ List.filter_sublist)
theorem getA_mapneg {d : List (α × β)} {k j : α} {v : β} (e : ¬ k = j) : getA (d.map fun p => if p.1 = k then (p.1, v) else p) j = getA d j := by
  induction d with
  | nil => rfl
  | cons p r ih =>
    rw [List.map_cons]
    by_cases z : p.1 = k
    · rw [if_pos z, getA_neg (p := (p.1, v)) (fun y => e (z.symm.trans y)), getA_neg (p := p) (fun y => e (z.symm.trans y)), ih]
    · rw [if_neg z]
      by_cases y : p.1 = j
      · rw [getA_pos y, getA_pos y]
      · rw [getA_neg y, getA_neg y, ih]
theorem getA_mappos {d : List (α × β)} {k : α} {v : β} (h : (getA d k).isSome = true) : getA (d.map fun p => if p.1 = k then (p.1, v) else p) k = some v := by
  induction d with
  | nil => cases h
  | cons p r ih =>
    rw [List.map_cons]
    by_cases z : p.1 = k
    · rw [if_pos z]; exact getA_pos z
    · rw [if_neg z, getA_neg z]
      rw [getA_neg z] at h
      exact ih h
theorem getA_app {d : List (α × β)} {k j : α} {v : β} (h : getA d k = none) : getA (d ++ [(k, v)]) j = if k = j then some v else getA d j := by
  induction d with
  | nil =>
    show getA [(k, v)] j = _
    by_cases e : k = j
    · rw [if_pos e]; exact getA_pos e
    · rw [if_neg e]; exact getA_neg e
  | cons p r ih =>
    have z : ¬ p.1 = k := fun y => by rw [getA_pos y] at h; cases h
    rw [getA_neg z] at h
    rw [List.cons_append]
    by_cases e : p.1 = j
    · rw [getA_pos e, getA_pos e, if_neg fun y => z (e.trans y.symm)]
    · rw [getA_neg e, getA_neg e, ih h]
theorem getA_putA (d : List (α × β)) (k j : α) (v : β) : getA (putA d k v) j = if k = j then some v else getA d j := by
  cases h : getA d k with
  | none => rw [putA_new h, getA_app h]
  | some x =>
    have e : (d.any fun p => decide (p.1 = k)) = true := by rw [getA_any, h]; rfl
    unfold putA
    rw [if_pos e]
    by_cases z : k = j
    · rw [if_pos z, ← z]
      exact getA_mappos (by rw [h]; rfl)
    · rw [if_neg z]
      exact getA_mapneg z
theorem getA_dropA (d : List (α × β)) (k j : α) : getA (dropA d k) j = if k = j then none else getA d j := by
  induction d with
  | nil => split <;> rfl
  | cons p r ih =>
    unfold dropA at ih ⊢
    by_cases z : p.1 = k
    · rw [List.filter_cons_of_neg (by simp [z]), ih]
      by_cases e : k = j
      · rw [if_pos e, if_pos e]
      · rw [if_neg e, if_neg e, getA_neg fun y => e (z.symm.trans y)]
    · rw [List.filter_cons_of_pos (by simp [z])]
      by_cases e : p.1 = j
      · rw [getA_pos e, getA_pos e, if_neg fun y => z (e.trans y.symm)]
      · rw [getA_neg e, getA_neg e, ih]
/-- a dict's pairs beside a table's -/
abbrev DRel (inj : α → Key) (R : β → V → Prop) (d : List (α × β)) (kvs : List (Key × V)) : Prop := Paired (fun (p : α × β) (q : Key × V) => q.1 = inj p.1 ∧ R p.2 q.2) d kvs
theorem DRel.mono {inj : α → Key} {R R' : β → V → Prop} {d : List (α × β)} {kvs : List (Key × V)} (h : DRel inj R d kvs) (s : ∀ b v, R b v → R' b v) : DRel inj R' d kvs := Paired.mono (fun _ _ q => ⟨q.1, s _ _ q.2⟩) h
theorem DRel.get {inj : α → Key} (hi : ∀ a b, inj a = inj b → a = b) {R : β → V → Prop} : ∀ {d : List (α × β)} {kvs : List (Key × V)}, DRel inj R d kvs → ∀ k, (getA d k = none ∧ valV kvs (inj k) = none) ∨ ∃ b v, getA d k = some b ∧ valV kvs (inj k) = some v ∧ R b v
  | _, _, .nil, k => .inl ⟨rfl, rfl⟩
  | p :: r, q :: s, .cons h m, k => by
    by_cases e : p.1 = k
    · exact .inr ⟨p.2, q.2, getA_pos e, valV_pos (h.1.trans (congrArg inj e)), h.2⟩
    · rw [getA_neg e, valV_neg (fun z => e (hi _ _ (h.1.symm.trans z)))]
      exact DRel.get hi m k
theorem DRel.some_ {inj : α → Key} (hi : ∀ a b, inj a = inj b → a = b) {R : β → V → Prop} {d : List (α × β)} {kvs : List (Key × V)} (h : DRel inj R d kvs) {k : α} {b : β} (e : getA d k = some b) : ∃ v, valV kvs (inj k) = some v ∧ R b v := by
  rcases h.get hi k with ⟨z, _⟩ | ⟨b', v, e1, e2, e3⟩
  · rw [e] at z; cases z
  · rw [e] at e1
    cases e1
    exact ⟨v, e2, e3⟩
theorem DRel.none_ {inj : α → Key} (hi : ∀ a b, inj a = inj b → a = b) {R : β → V → Prop} {d : List (α × β)} {kvs : List (Key × V)} (h : DRel inj R d kvs) {k : α} (e : getA d k = none) : valV kvs (inj k) = none := by
  rcases h.get hi k with ⟨_, z⟩ | ⟨b', v, e1, e2, e3⟩
  · exact z
  · rw [e] at e1; cases e1
theorem DRel.isSome {inj : α → Key} (hi : ∀ a b, inj a = inj b → a = b) {R : β → V → Prop} {d : List (α × β)} {kvs : List (Key × V)} (h : DRel inj R d kvs) (k : α) : (valV kvs (inj k)).isSome = (getA d k).isSome := by
  rcases h.get hi k with ⟨z1, z2⟩ | ⟨b', v, e1, e2, e3⟩
  · rw [z1, z2]; rfl
  · rw [e1, e2]; rfl
theorem DRel.put {inj : α → Key} (hi : ∀ a b, inj a = inj b → a = b) {R : β → V → Prop} {d : List (α × β)} {kvs : List (Key × V)} (h : DRel inj R d kvs) {k : α} {b : β} {v : V} (r : R b v) : DRel inj R (putA d k b) (putK kvs (inj k) v) := by
  have any_ : (kvs.any fun kv => decide (kv.1 = inj k)) = d.any fun p => decide (p.1 = k) := by
    rw [valV_any, getA_any]
    exact h.isSome hi k
  unfold putA putK
  rw [any_]
  by_cases e : (d.any fun p => decide (p.1 = k)) = true
  · rw [if_pos e, if_pos e]
    clear e any_
    induction h with
    | nil => exact .nil
    | cons x m ih =>
      rename_i p q l1 l2
      refine .cons ?_ ih
      show (if q.1 = inj k then (q.1, v) else q).1 = inj (if p.1 = k then (p.1, b) else p).1 ∧ R (if p.1 = k then (p.1, b) else p).2 (if q.1 = inj k then (q.1, v) else q).2
      by_cases z : p.1 = k
      · rw [if_pos z, if_pos (x.1.trans (congrArg inj z))]
        exact ⟨x.1, r⟩
      · rw [if_neg z, if_neg fun y => z (hi _ _ (x.1.symm.trans y))]
        exact x
  · rw [if_neg e, if_neg e]
    exact Paired.snoc h ⟨rfl, r⟩
theorem DRel.drop {inj : α → Key} (hi : ∀ a b, inj a = inj b → a = b) {R : β → V → Prop} {d : List (α × β)} {kvs : List (Key × V)} (h : DRel inj R d kvs) (k : α) : DRel inj R (dropA d k) (dropK kvs (inj k)) := by
  unfold dropA dropK
  induction h with
  | nil => exact .nil
  | cons x m ih =>
    rename_i p q l1 l2
    by_cases z : p.1 = k
    · rw [List.filter_cons_of_neg (by simp [z]), List.filter_cons_of_neg (by simp [x.1, z])]
      exact ih
    · have z2 : ¬ q.1 = inj k := fun y => z (hi _ _ (x.1.symm.trans y))
      rw [List.filter_cons_of_pos (by simp [z]), List.filter_cons_of_pos (by simp [z2])]
      exact .cons x ih
theorem DRel.keys {inj : α → Key} {R : β → V → Prop} {d : List (α × β)} {kvs : List (Key × V)} (h : DRel inj R d kvs) : kvs.map (·.1) = (d.map (·.1)).map inj := by
  induction h with
  | nil => rfl
  | cons x m ih => rw [List.map_cons, List.map_cons, List.map_cons, ih, x.1]
theorem DRel.len {inj : α → Key} {R : β → V → Prop} {d : List (α × β)} {kvs : List (Key × V)} (h : DRel inj R d kvs) : kvs.length = d.length := (Paired.length h).symm
end
theorem inl_inj (a b : Int) (h : (Sum.inl a : Key) = Sum.inl b) : a = b := Sum.inl.inj h
theorem inr_inj (a b : Str) (h : (Sum.inr a : Key) = Sum.inr b) : a = b := Sum.inr.inj h
end KB

/-! sorted(d.items()) of a dict of texts -/
namespace PT
open PySem PySem.Spec PyProof.Rows L2 L2H KB
theorem ent_of {P : Program} {w : World} : ∀ {ps : KVs} {vs : List (Key × Value)} {es : List DictEntry} {j : Nat} {p : Str × Str}, KV (dV ps) vs → PySem.Pairs (mixKind P w) es vs → ps[j]? = some p →
    ∃ e c1 c2, es[j]? = some e ∧ e.key = Value.str p.1 c1 ∧ e.val = Value.str p.2 c2
  | [], _, _, j, p, _, _, h => by simp at h
  | q :: ps, _, _, 0, p, .cons r m, .cons h1 h2 h3, h => by
    have e : q = p := Option.some.inj h
    subst e
    obtain ⟨r1, r2⟩ := r
    obtain ⟨c2, ev⟩ := (show ∃ c, _ = Value.str q.2 c from r2)
    have h1' := h1
    rw [← r1] at h1'
    obtain ⟨c1, ek⟩ := Value.isStrOf_shape (x := q.1) h1'
    exact ⟨_, c1, c2, rfl, ek, h2.trans ev⟩
  | q :: ps, _, _, j + 1, p, .cons r m, .cons h1 h2 h3, h => ent_of (j := j) m h3 (by simpa using h)
end PT
namespace LX
open PySem PySem.Spec PyProof.Rows L2 L2H KB
section
variable {X : Cx}
def rItemsK : V → List V → Hp → VK → Prop := fun x xs H Q => ∃ (a : Addr) (kvs : List (Key × V)), x = .ref a ∧ xs = [] ∧ H a = some (.dK kvs) ∧ ∀ p, H p = none → Q (.ref p) (upd H p (DX.itemsO p a))
theorem mt_itemsK : MtR X "dict.items" rItemsK := by
  intro pins s σ H x xs v us Q I rx rxs h
  obtain ⟨a, kvs, rfl, rfl, ha, q⟩ := h
  cases rx
  cases rxs
  obtain ⟨_, nsys, vs, rel, o, es, ep, g1, g2, g3, _⟩ := dk_of I.hok ha
  refine DT.callItems (es := es) (ep := ep) nsys ⟨o, g1, g2, g3⟩ ?_
  exact ⟨.ref s.heap.objs.size, upd H s.heap.objs.size (DX.itemsO s.heap.objs.size a), I.laid (t' := s.toks) (fun b u e => Heap.get?_push_of_some _ e) (Nat.le_refl _) (DX.itemsO_ok (Heap.get?_push_size _ rfl)), rfl, q _ (I.hok.fresh (Nat.le_refl _))⟩
/-- the view at p of the dict at a, whose keys and values are texts -/
def rSortItK : List V → Hp → VK → Prop := fun vs H Q => ∃ (p a : Addr) (ps : KVs), vs = [.ref p] ∧ H p = some (DX.itemsO p a) ∧ H a = some (.dK (dV ps)) ∧
  ∀ H' l ts qs, Same H H' → H l = none → H' l = some (.lst (ts.map V.ref)) → PairsAt H' ts qs → qs.Perm ps → qs.Pairwise (fun x y => PT.lexS y x = false) → Q (.ref l) H'
theorem cr_sortItK (hc : X.calm = true) : CallR X (.builtin "sorted") rSortItK := by
  intro pins s σ H xs us Q I r h
  obtain ⟨p, a, ps, rfl, hp, ha, q⟩ := h
  obtain rfl := Vals.ref1 r
  have view : s.heap.IsItemsView p a := (show ObjOk X.prog X.w H s.heap p (DX.itemsO p a) from I.hok p _ hp).1
  obtain ⟨z, nsys, vs, rel, o, es, ep, g1, g2, g3, _, g5, _⟩ := dk_of I.hok ha
  have l0 : (dV ps).length = ps.length := List.length_map _
  have l1 : ps.length = vs.length := l0.symm.trans (Paired.length rel)
  have l2 : es.size = vs.length := by rw [← Array.length_toList]; exact g5.length
  refine DT.sortedI (es := es) (ep := ep) (I.ok.hd hc) view ⟨o, g1, g2, g3⟩ (by rw [l2, ← l1, ← l0]; exact z) fun h' tk as hk hlt hl hG => ?_
  have lak : as.length = ps.length := by omega
  have nd : as.Nodup := List.Pairwise.imp (fun h => Nat.ne_of_lt h) hG.rise
  have zk : ((as.zip ps).map (·.1)) = as := List.map_fst_zip (Nat.le_of_eq lak)
  have ndz : ((as.zip ps).map (·.1)).Nodup := by rw [zk]; exact nd
  -- what each of them is
  let k : Value → Str × Str := fun v => match v with
    | .ref b => (getA (as.zip ps) b).getD ("", "")
    | _ => ("", "")
  have kAt : ∀ {j : Nat} {b : Addr}, as[j]? = some b → ∃ pr, ps[j]? = some pr ∧ k (.ref b) = pr := fun {j b} hj => by
    have hlt : j < ps.length := by rw [← lak]; exact (List.getElem?_eq_some_iff.mp hj).1
    refine ⟨ps[j], List.getElem?_eq_getElem hlt, ?_⟩
    have m : (b, ps[j]) ∈ as.zip ps := List.mem_iff_getElem?.mpr ⟨j, List.getElem?_zip_eq_some.mpr ⟨hj, List.getElem?_eq_getElem hlt⟩⟩
    show (getA (as.zip ps) b).getD ("", "") = ps[j]
    rw [getA_of ndz m]
    rfl
  have two : ∀ {j : Nat} {b : Addr}, as[j]? = some b → PT.Two h' (.ref b) (k (.ref b)) := fun {j b} hj => by
    obtain ⟨pr, e1, e2⟩ := kAt hj
    obtain ⟨en, e3, e4⟩ := hG.pairs j b hj
    obtain ⟨en', c1, c2, e5, e6, e7⟩ := PT.ent_of rel g5 e1
    rw [Array.getElem?_toList, e3] at e5
    cases e5
    rw [e6, e7] at e4
    rw [e2]
    exact ⟨b, _, c1, c2, 0, rfl, e4, rfl, rfl⟩
  have twoM : ∀ v ∈ as.map Value.ref, PT.Two h' v (k v) := fun v hv => by
    obtain ⟨b, hb, rfl⟩ := List.mem_map.mp hv
    obtain ⟨j, hj⟩ := List.mem_iff_getElem?.mp hb
    exact two hj
  have hob : (h'.push { cls := .type "list", data := .seq (as.map Value.ref).toArray }).get? h'.objs.size = some (seqObj "list" (as.map Value.ref).toArray 0) := Heap.get?_push_size _ rfl
  have ne0 : ∀ b u, h'.get? b = some u → b ≠ h'.objs.size := fun b u e => Nat.ne_of_lt (Heap.lt_size e)
  have ka : ∀ b u, h'.get? b = some u → (h'.push { cls := .type "list", data := .seq (as.map Value.ref).toArray }).get? b = some u := fun b u e => Heap.get?_push_of_some _ e
  generalize h'.push { cls := .type "list", data := .seq (as.map Value.ref).toArray } = h2 at hob ka ⊢
  have lz : (as.map Value.ref).length ≤ sizeLine := by
    rw [List.length_map, lak, ← l0]
    exact z
  refine wpAny_call_entry PyProof.Rows.slot_list_sort ⟨_, hob, rfl⟩ PyProof.Rows.entry_list_sort (SrtO.list_sort_ord (s := { s with heap := h2, toks := tk }) (PT.swo_lexS k) hob lz (fun hh2 => ?_) fun out hso hst => ⟨_, rfl, ?_⟩) (PyProof.Rows.args_list_sort _)
  · refine PT.two_sortable (s := { s with heap := h2, toks := tk }) (k := k) (by omega) (fun v hv => (twoM v hv).keeps fun b u e _ => ka b u e) fun u e => ?_
    have z2 : some u = some (seqObj "list" (as.map Value.ref).toArray 0) := e.symm.trans hob
    cases z2
    intro c
    exact absurd (Value.type.inj c) (by decide)
  · show EP X pins σ Q (.ref h'.objs.size) { s with heap := sortedHeap h2 h'.objs.size (as.map Value.ref) out.toArray, toks := tk }
    -- the list's items, in their new order
    have back : out = (out.map backV).map (fun v => match v with | .ref b => Value.ref b | _ => Value.none) := by
      rw [List.map_map]
      refine (List.map_id out).symm.trans (List.map_congr_left fun v hv => ?_)
      obtain ⟨b, _, rfl⟩ := List.mem_map.mp (hst.perm.mem_iff.mp hv)
      rfl
    obtain ⟨bs, hbs⟩ : ∃ bs : List Addr, out = bs.map Value.ref := by
      refine ⟨out.map fun v => match v with | .ref b => b | _ => 0, ?_⟩
      rw [List.map_map]
      refine (List.map_id out).symm.trans (List.map_congr_left fun v hv => ?_)
      obtain ⟨b, _, rfl⟩ := List.mem_map.mp (hst.perm.mem_iff.mp hv)
      rfl
    have pbs : bs.Perm as := by
      have e := (hst.perm.map fun v => match v with | .ref b => b | _ => (0 : Addr))
      rw [hbs, List.map_map, List.map_map] at e
      have e1 : ∀ l : List Addr, l.map ((fun v : Value => match v with | .ref b => b | _ => (0 : Addr)) ∘ Value.ref) = l := fun l => (List.map_congr_left fun _ _ => rfl).trans (List.map_id l)
      rw [e1, e1] at e
      exact e
    have kF : ∀ b u, h'.get? b = some u → (sortedHeap h2 h'.objs.size (as.map Value.ref) out.toArray).get? b = some u := fun b u e => (PyProof.Rows.sortedHeap_old (ne0 _ _ e) (Heap.lt_size (ka _ _ e))).trans (ka _ _ e)
    have kS : ∀ b u, s.heap.get? b = some u → (sortedHeap h2 h'.objs.size (as.map Value.ref) out.toArray).get? b = some u := fun b u e => kF b u (hk b u e)
    obtain ⟨eF, heF⟩ := PyProof.Rows.sortedHeap_at (vs := as.map Value.ref) (out := out.toArray) hob
    generalize sortedHeap h2 h'.objs.size (as.map Value.ref) out.toArray = hF at kF kS heF ⊢
    have I1 : Inv X pins σ H { s with heap := hF, toks := tk } := I.kept (t' := tk) kS
    have hn0 : H h'.objs.size = none := I.hok.fresh (Nat.le_of_lt hlt)
    have hlen : (bs.map V.ref).length ≤ sizeLine := by
      rw [List.length_map, pbs.length_eq, ← List.length_map (f := Value.ref)]
      exact lz
    have rv : Vals (bs.map V.ref) out := by
      rw [hbs]
      exact vals_maps (fun b : Addr => V.ref b) (fun b => Value.ref b) bs fun _ _ => rfl
    have I2 : Inv X pins σ (upd H h'.objs.size (.lst (bs.map V.ref))) { s with heap := hF, toks := tk } :=
      I1.take (h' := hF) (t' := tk) (fun b ob _ e => e) (I.fpOk (Nat.le_of_lt hlt) hn0) ⟨hlen, out, eF, rv, heF⟩
    obtain ⟨H2, I3, g, qt⟩ := DX.takeT (P := fun b ws => ws = [.str (k (.ref b)).1, .str (k (.ref b)).2]) I as _ I2 nd fun b hb => by
      obtain ⟨j, hj⟩ := List.mem_iff_getElem?.mp hb
      have hbl : s.heap.objs.size ≤ b := Nat.le_of_lt (hG.above b hb)
      obtain ⟨b', ob, c1, c2, n, eb, t1, t2, t3⟩ := two hj
      cases eb
      refine ⟨hbl, ?_, _, rfl, fun H3 => ⟨(by show 2 ≤ sizeLine; decide), [Value.str (k (.ref b)).1 c1, Value.str (k (.ref b)).2 c2], .cons ⟨_, rfl⟩ (.cons ⟨_, rfl⟩ .nil), ⟨ob, kF _ _ t1, t2, n, t3⟩⟩⟩
      rw [upd_ne (ne0 _ _ t1)]
      exact I.hok.fresh hbl
    have gr : Same H H2 := fun b u e => g b u (by rw [upd_ne (ne_of_none e hn0)]; exact e)
    have pk : (bs.map fun b => k (.ref b)).Perm ps := by
      have e := pbs.map fun b => k (.ref b)
      have e2 : as.map (fun b => k (.ref b)) = ps := by
        refine List.ext_getElem? fun j => ?_
        rw [List.getElem?_map]
        cases ej : as[j]? with
        | none =>
          have : ps.length ≤ j := by rw [← lak]; exact List.getElem?_eq_none_iff.mp ej
          rw [List.getElem?_eq_none this]
          rfl
        | some b =>
          obtain ⟨pr, e3, e4⟩ := kAt ej
          rw [e3, ← e4]
          rfl
      rw [e2] at e
      exact e
    have so : (bs.map fun b => k (.ref b)).Pairwise (fun x y => PT.lexS y x = false) := by
      rw [hbs] at hso
      exact List.pairwise_map.mpr (List.pairwise_map.mp hso)
    refine ⟨.ref h'.objs.size, H2, I3, rfl, q H2 h'.objs.size bs _ gr hn0 (g _ _ upd_same) ?_ pk so⟩
    have all : ∀ l : List Addr, (∀ b ∈ l, b ∈ as) → PairsAt H2 l (l.map fun b => k (.ref b)) := fun l => by
      induction l with
      | nil => exact fun _ => .nil
      | cons b l ih =>
        intro hl
        refine .cons ?_ (ih fun c hc => hl c (List.mem_cons_of_mem _ hc))
        obtain ⟨ws, rfl, hH⟩ := qt b (hl b List.mem_cons_self)
        exact hH
    exact all bs fun b hb => pbs.mem_iff.mp hb
end
end LX
namespace KB
open PySem L2 L2H LX
/-! ### sorted pairs of unlike keys -/
theorem lexS_le {x y : Str × Str} (h : PT.lexS y x = false) : leS x.1 y.1 := by
  rw [leS_iff]
  intro z
  have := PT.lexS_iff (p := y) (q := x) |>.mpr (.inl z)
  rw [this] at h
  cases h
theorem sortedS_of : ∀ {l : List Str}, l.Pairwise leS → PyProof.Rows.sortedS l = true
  | [], _ => rfl
  | x :: l, h => by
    show PyProof.Rows.risingS x l = true
    have go : ∀ (p : Str) (r : List Str), (p :: r).Pairwise leS → PyProof.Rows.risingS p r = true := fun p r => by
      induction r generalizing p with
      | nil => exact fun _ => rfl
      | cons y r ih =>
        intro h
        have h1 := (List.pairwise_cons.mp h).1 y List.mem_cons_self
        have h2 := ih y (List.pairwise_cons.mp h).2
        unfold PyProof.Rows.risingS
        rw [Bool.and_eq_true, Bool.not_eq_true']
        exact ⟨h1, h2⟩
    exact go x l h
theorem told_perm {d qs : KVs} (n : (d.map (·.1)).Nodup) (p : qs.Perm d) (s : qs.Pairwise fun x y => PT.lexS y x = false) : Told (getP d) qs := by
  have nq : (qs.map (·.1)).Nodup := (p.map (·.1)).nodup_iff.mpr n
  refine ⟨sortedS_of (List.pairwise_map.mpr (s.imp fun h => lexS_le h)), nq, fun k => ?_⟩
  cases e : getP d k with
  | none =>
    refine getP_none.mpr fun z => getP_none.mp e ((p.map (·.1)).mem_iff.mp z)
  | some v =>
    have m := p.mem_iff.mpr (getP_mem e)
    exact getP_of nq m
end KB

namespace KB
open PySem L2 L2H LX
/-! ### an object's fields, by place -/
def pos (k : Str) : List Str → Option Nat
  | [] => none
  | x :: r => if x = k then some 0 else (pos k r).map (· + 1)
theorem zf_no {k : Str} : ∀ {ns : List Str} {vs : List V}, pos k ns = none → (ns.zip vs).lookup k = none
  | [], _, _ => rfl
  | x :: r, [], _ => rfl
  | x :: r, v :: vs, h => by
    unfold pos at h
    by_cases e : x = k
    · rw [if_pos e] at h; cases h
    · rw [if_neg e] at h
      have h2 : pos k r = none := by
        cases q : pos k r with
        | none => rfl
        | some i => rw [q] at h; cases h
      rw [List.zip_cons_cons, List.lookup_cons, show (k == x) = false from beq_eq_false_iff_ne.mpr fun z => e z.symm]
      exact zf_no h2
theorem zf_get {k : Str} : ∀ {ns : List Str} {vs : List V} {i : Nat} {v : V}, pos k ns = some i → vs[i]? = some v → (ns.zip vs).lookup k = some v
  | [], _, i, v, h, _ => by cases h
  | x :: r, [], i, v, _, h => by simp at h
  | x :: r, u :: vs, i, v, h, hv => by
    unfold pos at h
    by_cases e : x = k
    · rw [if_pos e] at h
      cases h
      rw [List.zip_cons_cons, List.lookup_cons, show (k == x) = true from beq_iff_eq.mpr e.symm]
      exact hv
    · rw [if_neg e] at h
      cases q : pos k r with
      | none => rw [q] at h; cases h
      | some j =>
        rw [q] at h
        cases h
        rw [List.zip_cons_cons, List.lookup_cons, show (k == x) = false from beq_eq_false_iff_ne.mpr fun z => e z.symm]
        exact zf_get q hv
theorem zf_put {k : Str} {y : V} : ∀ {ns : List Str} {vs : List V} {i : Nat}, pos k ns = some i → ns.length = vs.length → putF k y (ns.zip vs) = ns.zip (vs.set i y)
  | [], _, i, h, _ => by cases h
  | x :: r, [], i, _, h => by cases h
  | x :: r, u :: vs, i, h, hl => by
    unfold pos at h
    rw [List.zip_cons_cons]
    show (if x = k then (x, y) :: r.zip vs else (x, u) :: putF k y (r.zip vs)) = _
    by_cases e : x = k
    · rw [if_pos e] at h ⊢
      cases h
      rfl
    · rw [if_neg e] at h ⊢
      cases q : pos k r with
      | none => rw [q] at h; cases h
      | some j =>
        rw [q] at h
        cases h
        rw [zf_put q (Nat.succ.inj hl)]
        rfl
theorem zf_new {k : Str} {y : V} : ∀ {ns : List Str} {vs : List V}, pos k ns = none → ns.length = vs.length → putF k y (ns.zip vs) = (ns ++ [k]).zip (vs ++ [y])
  | [], [], h, _ => rfl
  | [], _ :: _, _, h => by cases h
  | x :: r, [], _, h => by cases h
  | x :: r, u :: vs, h, hl => by
    unfold pos at h
    rw [List.zip_cons_cons]
    show (if x = k then (x, y) :: r.zip vs else (x, u) :: putF k y (r.zip vs)) = _
    by_cases e : x = k
    · rw [if_pos e] at h; cases h
    · rw [if_neg e] at h ⊢
      have h2 : pos k r = none := by
        cases q : pos k r with
        | none => rfl
        | some i => rw [q] at h; cases h
      rw [zf_new h2 (Nat.succ.inj hl)]
      rfl
/-! ### does a text begin with another -/
theorem starts_isPre (k p : Str) : Txt.startswith k p = isPre p k := by
  have hk : (tl k).length = k.length := Array.length_toList
  have hp : (tl p).length = p.length := Array.length_toList
  have e1 : Txt.startswith k p = (decide (p.length ≤ k.length) && ((tl k).take p.length == tl p)) := by
    unfold Txt.startswith
    rw [PySem.StrLaws.subAt_eq, Nat.zero_add, List.drop_zero]
  have e2 : tl (cutS k none (some (p.length : Int))) = (tl k).take (min p.length k.length) := by
    show ((k.cps.toList.drop (HT.sIx k.length 0 none)).take (HT.sIx k.length k.length (some (p.length : Int)) - HT.sIx k.length 0 none)).toArray.toList = _
    rw [List.toList_toArray, HT.sIx_none, HT.sIx_nat, List.drop_zero, Nat.sub_zero]
  rw [e1]
  unfold isPre
  by_cases c : p.length ≤ k.length
  · rw [decide_eq_true c, Bool.true_and]
    rw [Nat.min_eq_left c] at e2
    by_cases d : (tl k).take p.length = tl p
    · rw [beq_iff_eq.mpr d]
      refine (decide_eq_true ?_).symm
      exact TL.ext_tl (e2.trans d)
    · rw [beq_eq_false_iff_ne.mpr d]
      refine (decide_eq_false fun z => d ?_).symm
      rw [← e2, z]
  · rw [decide_eq_false c, Bool.false_and]
    refine (decide_eq_false fun z => c ?_).symm
    have q := congrArg (fun s : Str => (tl s).length) z
    rw [e2, List.length_take, hp, hk] at q
    omega
theorem smallS {n : Nat} (h : n ≤ 200000) : n < sizeLine := Nat.lt_of_le_of_lt h (by decide)
end KB

namespace LX
open PySem PySem.Spec PyProof.Rows L2 L2H
/-- a name that holds a list or a tuple, walked -/
def iSeq (K : PySem.W.Frag) (i : Nat) : TI := fun σ H R => ∃ a, σ[i]? = some (some (.ref a)) ∧ (((∃ xs, SqL K H a xs) ∧ R (Itl K a) H) ∨ ((∃ xs, SqT K H a xs) ∧ R (Itt K a) H))
theorem pi_seq {X : Cx} {tg : Expr} {i : Nat} {x : Str} {pos : Pos} (h : PE X (.Name x pos) (tVar i)) : PI X tg (.Name x pos) (iSeq X.K i) := by
  refine ⟨fun pins s σ H R I q => ?_⟩
  obtain ⟨a, e, ⟨h1, h2⟩ | ⟨h1, h2⟩⟩ := q
  · exact (pi_list (tg := tg) h).run pins s σ H R I ⟨_, e, a, rfl, h1, h2⟩
  · exact (pi_tup (tg := tg) h).run pins s σ H R I ⟨_, e, a, rfl, h1, h2⟩
end LX
namespace KL
open PySem L2 L2H LX KB
/-! ### the program's ear -/
abbrev nsEar : List Str := ["_last", "_taken", "_standing"]
structure EarT (K : PySem.W.Frag) (C : Addr) : Prop where
  cl : Cls K C
  nL : NoAttr K C "_last"
  nT : NoAttr K C "_taken"
  nS : NoAttr K C "_standing"
structure EaAt (C : Addr) (H : Hp) (p q d : Addr) (ts : List Addr) (ps : KVs) (b : Int) (gv : KVs) (tk : List Row) : Prop where
  ob : ∃ dx, H p = some (.ins C dx (nsEar.zip [.int (lastN b tk), .ref q, .ref d]))
  kp : H q = some (.lst (ts.map V.ref))
  at_ : RowsAt H ts tk
  st : H d = some (.dK (dV ps))
  nd : (ps.map (·.1)).Nodup
  fn : getP ps = holdM gv tk
  ln : ps.length ≤ gv.length + tk.length
def ErP (C : Addr) : ErT := fun F H p b gv tk => ∃ q d ts ps, F = [p, q, d] ∧ EaAt C H p q d ts ps b gv tk
section
variable {C : Addr} {H H' : Hp} {p q d : Addr} {ts : List Addr} {ps : KVs} {b : Int} {gv : KVs} {tk : List Row} {F l : List Addr}
theorem EaAt.ne (L : EaAt C H p q d ts ps b gv tk) : p ≠ q ∧ p ≠ d ∧ q ≠ d := by
  obtain ⟨dx, h⟩ := L.ob
  exact ⟨ne_of h L.kp (by intro z; cases z), ne_of h L.st (by intro z; cases z), ne_of L.kp L.st (by intro z; cases z)⟩
theorem EaAt.len (L : EaAt C H p q d ts ps b gv tk) : ts.length = tk.length := Paired.length L.at_
theorem ErP.frame (L : ErP C F H p b gv tk) (c : Ch H H' l) (k : ∀ a ∈ F, a ∉ l) : ErP C F H' p b gv tk := by
  obtain ⟨q, d, ts, ps, rfl, L⟩ := L
  obtain ⟨dx, h⟩ := L.ob
  exact ⟨q, d, ts, ps, rfl, ⟨dx, c.at h (k p (by simp))⟩, c.at L.kp (k q (by simp)), L.at_.keep c.tup, c.at L.st (k d (by simp)), L.nd, L.fn, L.ln⟩
theorem ErP.own (L : ErP C F H p b gv tk) : ∀ a ∈ F, ∃ o, H a = some o := by
  obtain ⟨q, d, ts, ps, rfl, L⟩ := L
  obtain ⟨dx, h⟩ := L.ob
  intro a ha
  simp only [List.mem_cons, List.not_mem_nil, or_false] at ha
  rcases ha with rfl | rfl | rfl
  · exact ⟨_, h⟩
  · exact ⟨_, L.kp⟩
  · exact ⟨_, L.st⟩
theorem ErP.inst (L : ErP C F H p b gv tk) : p ∈ F ∧ ∃ dx fs, H p = some (.ins C dx fs) ∧ ∀ m ∈ ([("hear" : Str), "heard", "state"] : List Str), fs.lookup m = none := by
  obtain ⟨q, d, ts, ps, rfl, L⟩ := L
  obtain ⟨dx, h⟩ := L.ob
  refine ⟨by simp, dx, _, h, fun m hm => ?_⟩
  simp only [List.mem_cons, List.not_mem_nil, or_false] at hm
  rcases hm with rfl | rfl | rfl <;> exact zf_no (by decide +kernel)
end
/-- one change is taken in -/
def spTakeIn (C : Addr) : Sp := fun vs H Q _ => ∃ (p q d t : Addr) (ts : List Addr) (ps : KVs) (b : Int) (gv : KVs) (tk : List Row) (r : Row), vs = [.ref p, .ref t] ∧ EaAt C H p q d ts ps b gv tk ∧ H t = some (.tup r.V) ∧ GoodR r ∧ gv.length + tk.length ≤ 989 ∧
  ∀ ps' H', EaAt C H' p q d (ts ++ [t]) ps' b gv (tk ++ [r]) → Ch H H' [p, q, d] → Q .non H'
def spMany (C : Addr) : Sp := fun vs H Q _ => ∃ (F : List Addr) (p : Addr) (b : Int) (gv : KVs) (tk : List Row), vs = [.ref p] ∧ ErP C F H p b gv tk ∧ Q (.int tk.length) H
theorem holdM_snoc (gv : KVs) (tk : List Row) (r : Row) : holdM gv (tk ++ [r]) = stepM (holdM gv tk) r := by
  unfold holdM
  rw [List.foldl_append]
  rfl
theorem putK_pairs (ps : KVs) (k v : Str) : putK (dV ps) (Sum.inr k) (.str v) = dV (putP ps k v) := putK_dV ps k v
/-- pairs put in one by one -/
def putAll (ps qs : KVs) : KVs := qs.foldl (fun d x => putP d x.1 x.2) ps
theorem putAll_new : ∀ {qs ps : KVs}, ((ps ++ qs).map (·.1)).Nodup → putAll ps qs = ps ++ qs
  | [], ps, _ => (List.append_nil ps).symm
  | x :: qs, ps, n => by
    have h : ¬ (ps.any fun y => decide (y.1 = x.1)) = true := by
      rw [getP_any]
      have : getP ps x.1 = none := by
        refine getP_none.mpr fun z => ?_
        rw [List.map_append] at n
        exact (List.nodup_append.mp n).2.2 _ z _ (by simp) rfl
      rw [this]
      decide
    show putAll (putP ps x.1 x.2) qs = _
    have e : putP ps x.1 x.2 = ps ++ [x] := by
      unfold putP
      rw [if_neg h]
    rw [e, putAll_new (by rw [List.append_assoc]; exact n), List.append_assoc]
    rfl
section
variable {P : Program} {w : World} {K : PySem.W.Frag} {mg : Str → Option Value} {base : Heap}
theorem ok_Ear_take_in {f C : Addr} {fd : FuncData} (F : Fun K "_take_in" "Ear._take_in" s_Ear_u_take_in f fd) (T : EarT K C) : FnOk P w K mg base CX0 1 f fd p_Ear_u_take_in (spTakeIn C) := by
  refine F.ok sc_Ear_u_take_in (fun vs H Q E h => ?_) (fun cdv A outer s H vs Q E hr h => ?_)
  · obtain ⟨p, q, d, t, ts, ps, b, gv, tk, r, rfl, _⟩ := h
    rfl
  · obtain ⟨p, q, d, t, ts, ps, b, gv, tk, r, rfl, L, ht, gr, hl, k⟩ := h
    have hu := hu_of hr
    obtain ⟨dx, hp⟩ := L.ob
    obtain ⟨npq, npd, nqd⟩ := L.ne
    refine ⟨_, pss_cons (ps_asg (pv 1) (pg_tup (n := 5) rfl (pgs_cons (pg_name (i := 2) sc_Ear_u_take_in.nd rfl (Or.inl rfl)) (pgs_cons (pg_name (i := 3) sc_Ear_u_take_in.nd rfl (Or.inl rfl)) (pgs_cons (pg_name (i := 4) sc_Ear_u_take_in.nd rfl (Or.inl rfl))
        (pgs_cons (pg_name (i := 5) sc_Ear_u_take_in.nd rfl (Or.inl rfl)) (pgs_cons (pg_name (i := 6) sc_Ear_u_take_in.nd rfl (Or.inl rfl)) pgs_nil)))))))
      (pss_cons (ps_fld (pv 0) (pv 2) rfl)
      (pss_cons (ps_expr (pe_bm PySem.F.plainAttrs_list PySem.F.slot_list_append PySem.F.type_list_append mt_append (pe_fld (pv 0) rfl) (pa_cons (pv 1) pa_nil)))
      (pss_one (ps_if (pt_cmpR op_eq (pv 4) pe_str (nomark _)) (pss_one (ps_dput hu (pe_fld (pv 0) rfl) (pv 5) (pv 6) rfl))
        (pss_one (ps_expr (pe_dpop2 (pe_fld (pv 0) rfl) (pv 5) pe_non ⟨by rfl, by rfl, by rfl, by rfl⟩))))))), ?_⟩
    refine ⟨_, rfl, t, _, rfl, SqT.of ht, rfl, ?_⟩
    refine ⟨_, _, rfl, _, _, rfl, _, _, rfl, _, _, rfl, _, _, rfl, rfl, ?_⟩
    refine ⟨_, rfl, _, rfl, p, C, dx, _, rfl, hp, T.cl, T.nL, (by show 3 < 1000; decide), ?_⟩
    rw [zf_put (i := 0) (by decide +kernel) rfl]
    have c1 : Ch H (upd H p (.ins C dx (nsEar.zip [.int r.n, .ref q, .ref d]))) [p, q, d] := (Ch.refl H [p, q, d]).mut (by simp) hp (fun _ z => by cases z)
    have q1 : upd H p (.ins C dx (nsEar.zip [.int r.n, .ref q, .ref d])) q = some (.lst (ts.map V.ref)) := by rw [upd_ne npq.symm]; exact L.kp
    refine ⟨_, rfl, p, C, dx, _, _, rfl, upd_same, T.cl, T.nT, zf_get (i := 1) (by decide +kernel) rfl, .inl ⟨rfl, _, .inl (.inl q1)⟩, _, rfl, q, _, .ref t, rfl, rfl, q1, ?_, ?_⟩
    · rw [List.length_map, L.len]
      exact smallS (by omega)
    have c2 : Ch H (upd (upd H p (.ins C dx (nsEar.zip [.int r.n, .ref q, .ref d]))) q (.lst (ts.map V.ref ++ [.ref t]))) [p, q, d] := c1.mut (by simp) L.kp (fun _ z => by cases z)
    have p2 : (upd (upd H p (.ins C dx (nsEar.zip [.int r.n, .ref q, .ref d]))) q (.lst (ts.map V.ref ++ [.ref t]))) p = some (.ins C dx (nsEar.zip [.int r.n, .ref q, .ref d])) := by rw [upd_ne npq]; exact upd_same
    have q2 : (upd (upd H p (.ins C dx (nsEar.zip [.int r.n, .ref q, .ref d]))) q (.lst (ts.map V.ref ++ [.ref t]))) q = some (.lst ((ts ++ [t]).map V.ref)) := by rw [upd_same, List.map_append]; rfl
    have d2 : (upd (upd H p (.ins C dx (nsEar.zip [.int r.n, .ref q, .ref d]))) q (.lst (ts.map V.ref ++ [.ref t]))) d = some (.dK (dV ps)) := by rw [upd_ne nqd.symm, upd_ne npd.symm]; exact L.st
    have a2 : RowsAt (upd (upd H p (.ins C dx (nsEar.zip [.int r.n, .ref q, .ref d]))) q (.lst (ts.map V.ref ++ [.ref t]))) (ts ++ [t]) (tk ++ [r]) := Paired.snoc (L.at_.keep c2.tup) (c2.tup _ _ ht)
    dsimp only [List.set]
    generalize upd (upd H p (.ins C dx (nsEar.zip [.int r.n, .ref q, .ref d]))) q (.lst (ts.map V.ref ++ [.ref t])) = H2 at c2 p2 q2 d2 a2 ⊢
    have gS : (nsEar.zip [V.int r.n, V.ref q, V.ref d]).lookup ("_standing" : Str) = some (.ref d) := zf_get (i := 2) (by decide +kernel) rfl
    have eh : ∀ {ps' : KVs}, getP ps' = stepM (getP ps) r → getP ps' = holdM gv (tk ++ [r]) := fun {ps'} e => by rw [holdM_snoc, ← L.fn]; exact e
    have lz : (dV ps).length < sizeLine := by
      show (ps.map _).length < sizeLine
      rw [List.length_map]
      have := L.ln
      exact smallS (by omega)
    have fin : ∀ (ps' : KVs) (H' : Hp), H' d = some (.dK (dV ps')) → (ps'.map (·.1)).Nodup → getP ps' = stepM (getP ps) r → ps'.length ≤ ps.length + 1 → Ch H2 H' [d] → Q .non H' := fun ps' H' h1 h2 h3 h4 ck => by
      have o : ∀ {a}, a ≠ d → a ∉ [d] := fun h z => h (List.mem_singleton.mp z)
      refine k ps' H' ⟨⟨dx, ?_⟩, ck.at q2 (o nqd), a2.keep ck.tup, h1, h2, eh h3, ?_⟩ (c2.trans (ck.mono fun x hx => by rw [List.mem_singleton.mp hx]; simp))
      · rw [lastN_snoc]
        exact ck.at p2 (o npd)
      · have := L.ln
        rw [List.length_append]
        simp only [List.length_cons, List.length_nil]
        omega
    refine ⟨_, rfl, rfl, _, rfl, ?_⟩
    rcases gr.wd with ew | ew
    · rw [decide_eq_true (congrArg V.str ew)]
      refine iteT ⟨_, rfl, _, rfl, p, C, dx, _, _, rfl, p2, T.cl, T.nS, gS, _, rfl, d, _, rfl, DPut.k (k := Sum.inr r.k) d2 lz, ?_⟩
      rw [putK_dV]
      refine fin _ _ upd_same (putP_nodup L.nd) ?_ (putP_len _ _ _) ((Ch.refl _ _).mut (by simp) d2 (fun _ z => by cases z))
      funext j
      rw [getP_putP]
      unfold stepM
      rw [if_pos ew]
    · have nw : ¬ r.w = "put" := fun z => absurd (ew.symm.trans z) (by decide +kernel)
      rw [decide_eq_false fun z => nw (V.str.inj z)]
      refine iteF ⟨_, rfl, p, C, dx, _, _, rfl, p2, T.cl, T.nS, gS, d, rfl, .inl ⟨_, .inl d2⟩, _, rfl, _, Sum.inr r.k, d2, rfl, fun v hv => ?_, fun hn => ?_⟩
      · rw [dropK_dV]
        refine fin _ _ upd_same (dropP_nodup L.nd) ?_ (Nat.le_succ_of_le (dropP_len _ _)) ((Ch.refl _ _).mut (by simp) d2 (fun _ z => by cases z))
        funext j
        rw [getP_dropP]
        unfold stepM
        rw [if_neg nw]
      · refine fin ps _ d2 L.nd ?_ (Nat.le_succ _) (Ch.refl _ _)
        funext j
        unfold stepM
        by_cases c : r.k = j
        · rw [if_pos c, if_neg nw, ← c]
          rw [valV_dV] at hn
          cases g : getP ps r.k with
          | none => rfl
          | some v => rw [g] at hn; cases hn
        · rw [if_neg c]
theorem ok_Ear_hear {f fT C : Addr} {fd fdT : FuncData} {psT : List Str} (F : Fun K "hear" "Ear.hear" s_Ear_hear f fd) (T : EarT K C) (mT : Meth K C "_take_in" fT) (bT : Binds K fdT psT []) (GT : FnOk P w K mg base CX0 1 fT fdT psT (spTakeIn C)) :
    FnOk P w K mg base CX0 2 f fd p_Ear_hear (spEarHear (ErP C)) := by
  refine F.ok sc_Ear_hear (fun vs H Q E h => ?_) (fun cdv A outer s H vs Q E hr h => ?_)
  · obtain ⟨Fo, p, q, b, gv, tk, rs, ts, rfl, _⟩ := h
    rfl
  · obtain ⟨Fo, p, ql, b, gv, tk, rs, rts, rfl, LP, hql, nq, hrs, gr, hl, k⟩ := h
    obtain ⟨q, d, ts, ps, rfl, L⟩ := id LP
    obtain ⟨npq, npd, nqd⟩ := L.ne
    refine ⟨_, pss_cons (ps_for PassesOwn.never rfl (pi_list (pv 1)) (pg_name (i := 2) sc_Ear_hear.nd rfl (Or.inl rfl))
        (pss_one (ps_if (pt_cmpR op_gt (pe_ix ix_tup (pv 2) pe_int (fun _ _ => rfl)) (pe_fld (pv 0) rfl) (nomark _)) (pss_one (ps_expr (pe_meth (E := E0) (pv 0) T.cl mT GT hr bT .nil pass0 (pa_cons (pv 2) pa_nil)))) pss_nil)))
      (pss_one (ps_ret (pe_fld (pv 0) rfl))), ?_⟩
    have nql : ∀ a ∈ [p, q, d], a ≠ ql := fun a ha z => nq (z ▸ ha)
    refine ⟨_, rfl, ql, rfl, ⟨_, SqL.of hql⟩, ?_⟩
    refine for_list (xs := rts.map V.ref) (fun i σ H' => ∃ (y : Option V) (ts' : List Addr) (ps' : KVs), σ = [some (.ref p), some (.ref ql), y] ∧ EaAt C H' p q d ts' ps' b gv (takeM b tk (rs.take i)) ∧ Ch H H' [p, q, d]) ⟨none, ts, ps, rfl, L, Ch.refl _ _⟩ ?_ ?_ ?_
    · rintro i σ H1 _ ⟨y, ts', ps', rfl, L1, c1⟩
      exact SqL.of (c1.at hql nq)
    · rintro i x σ H1 hx ⟨y, ts', ps', rfl, L1, c1⟩
      obtain ⟨t, r, rfl, er, et⟩ := RowsAt.at hrs hx
      have et1 := c1.tup _ _ et
      obtain ⟨dx, hp⟩ := L1.ob
      have e1 : rs.take (i + 1) = rs.take i ++ [r] := by
        rw [List.take_add_one, er]; rfl
      have e2 : takeM b tk (rs.take (i + 1)) = if r.n > lastN b (takeM b tk (rs.take i)) then takeM b tk (rs.take i) ++ [r] else takeM b tk (rs.take i) := by
        rw [e1, takeM_app]
        rfl
      refine ⟨_, rfl, t, _, 0, .int r.n, rfl, rfl, SqT.of et1, rfl, _, rfl, p, C, dx, _, _, rfl, hp, T.cl, T.nL, zf_get (i := 0) (by decide +kernel) rfl, _, _, rfl, rfl, _, rfl, ?_⟩
      rw [e2]
      by_cases cc : r.n > lastN b (takeM b tk (rs.take i))
      · rw [decide_eq_true cc, if_pos cc]
        have ln := takeM_len b (rs.take i) tk
        have l2 := List.length_take_le i rs
        have l3 : i < rs.length := (List.getElem?_eq_some_iff.mp er).1
        have l4 : (rs.take i).length = i := List.length_take_of_le (Nat.le_of_lt l3)
        refine iteT ⟨_, rfl, p, dx, _, rfl, hp, zf_no (by decide +kernel), _, rfl, p, q, d, t, ts', ps', b, gv, _, r, rfl, L1, et1, gr r (List.mem_of_getElem? er), by omega, fun ps2 H2 L2 c2 => ?_⟩
        exact ⟨_, _, ps2, rfl, L2, c1.trans c2⟩
      · rw [decide_eq_false cc, if_neg cc]
        exact iteF ⟨_, ts', ps', rfl, L1, c1⟩
    · rintro σ H1 ⟨y, ts', ps', rfl, L1, c1⟩
      rw [List.length_map, Paired.length hrs, List.take_length] at L1
      obtain ⟨dx, hp⟩ := L1.ob
      exact ⟨_, rfl, p, C, dx, _, _, rfl, hp, T.cl, T.nL, zf_get (i := 0) (by decide +kernel) rfl, k [p, q, d] H1 ⟨q, d, ts', ps', rfl, L1⟩ (Grow.refl _ _) c1⟩
theorem ok_Ear_heard {f C : Addr} {fd : FuncData} (F : Fun K "heard" "Ear.heard" s_Ear_heard f fd) (T : EarT K C) (ml : mg "list" = none) : FnOk P w K mg base CX0 1 f fd p_Ear_heard (spEarHeard (ErP C)) := by
  refine F.ok sc_Ear_heard (fun vs H Q E h => ?_) (fun cdv A outer s H vs Q E hr h => ?_)
  · obtain ⟨Fo, p, b, gv, tk, rfl, _⟩ := h
    rfl
  · obtain ⟨Fo, p, b, gv, tk, rfl, LP, k⟩ := h
    obtain ⟨q, d, ts, ps, rfl, L⟩ := id LP
    obtain ⟨dx, hp⟩ := L.ob
    refine ⟨_, pss_one (ps_ret (pe_callTy call_list_of (by rfl) ml (by decide +kernel) (pa_cons (pe_fld (pv 0) rfl) pa_nil))), ?_⟩
    refine ⟨_, rfl, p, C, dx, _, _, rfl, hp, T.cl, T.nT, zf_get (i := 1) (by decide +kernel) rfl, q, _, rfl, .inl (SqL.of L.kp), fun l hl => ?_⟩
    have sm := same_new (o := .lst (ts.map V.ref)) hl
    refine k [p, q, d] l ts _ (LP.frame (Ch.of sm []) (fun _ _ z => nomatch z)) (Grow.refl _ _) (Ch.of sm _) hl (fun y => ?_) upd_same (L.at_.keep fun b xs e => sm _ _ e)
    obtain ⟨o, e⟩ := LP.own l y
    rw [hl] at e
    cases e
theorem pairsAt2 {H : Hp} : ∀ {ts : List Addr} {ps : KVs} {j : Nat} {y : V}, PairsAt H ts ps → (ts.map V.ref)[j]? = some y → ∃ t r, y = V.ref t ∧ ps[j]? = some r ∧ H t = some (.tup [.str r.1, .str r.2])
  | _, _, j, y, .nil, h => by simp at h
  | _, _, 0, y, .cons r m, h => ⟨_, _, (Option.some.inj h).symm, rfl, r⟩
  | _, _, j + 1, y, .cons r m, h => pairsAt2 (j := j) m (by simpa using h)
/-- a new ear -/
theorem ok_Ear_init {f C : Addr} {fd : FuncData} (F : FunD K "__init__" "Ear.__init__" (defArgs s_Ear_init) (defBody s_Ear_init) (defScope s_Ear_init) [.int 1, .non] [] f fd) (T : EarT K C) : FnOk P w K mg base CX0 1 f fd p_Ear_init (spEarInit K C (ErP C)) := by
  refine F.ok sc_Ear_init (fun vs H Q E h => ?_) (fun cdv A outer s H vs Q E hr h => ?_)
  · obtain ⟨p, dx, b, gv, pv, rfl, _⟩ := h
    rfl
  · obtain ⟨p, dx, b, gv, pw, rfl, hp, hb, nd, okp, hl, hpv, k⟩ := h
    have hu := hu_of hr
    refine ⟨_, PSs.nox (pss_cons (ps_fld (pv 0) (pe_op op_sub (pv 1) pe_int) rfl) (pss_cons (ps_fld (pv 0) (pe_lst pa_nil) rfl) (pss_cons (ps_fld (pv 0) pe_dnewK rfl)
      (pss_one (ps_if (pt_cmp (pc_notN (pv 2))) (pss_one (ps_for PassesOwn.never rfl (pi_seq (pv 2)) (pg_tup (n := 2) rfl (pgs_cons (pg_name (i := 3) sc_Ear_init.nd rfl (Or.inl rfl)) (pgs_cons (pg_name (i := 4) sc_Ear_init.nd rfl (Or.inl rfl)) pgs_nil)))
        (pss_one (ps_dput hu (pe_fld (pv 0) rfl) (pv 3) (pv 4) rfl)))) pss_nil))))), ?_⟩
    refine ⟨_, rfl, _, _, rfl, rfl, _, rfl, p, C, dx, [], rfl, hp, T.cl, T.nL, (by show 0 < 1000; decide), ?_⟩
    refine ⟨(by show 0 ≤ sizeLine; decide), fun q hq => ?_⟩
    have npq : p ≠ q := ne_of_none upd_same hq
    refine ⟨_, rfl, p, C, dx, _, rfl, (by rw [upd_ne npq]; exact upd_same), T.cl, T.nT, (by show 1 < 1000; decide), ?_⟩
    intro d hd
    have npd : p ≠ d := ne_of_none upd_same hd
    have nqd : q ≠ d := ne_of_none (by rw [upd_ne npq.symm]; exact upd_same) hd
    refine ⟨_, rfl, p, C, dx, _, rfl, (by rw [upd_ne npd]; exact upd_same), T.cl, T.nS, (by show 2 < 1000; decide), ?_⟩
    have q0 : H q = none := by rw [upd_ne npq.symm] at hq; exact hq
    have d0 : H d = none := by rw [upd_ne npd.symm, upd_ne nqd.symm, upd_ne npd.symm] at hd; exact hd
    have ed : putF "_standing" (V.ref d) (putF "_taken" (V.ref q) (putF "_last" (V.int (b - 1)) [])) = nsEar.zip [.int (b - 1), .ref q, .ref d] := rfl
    rw [ed]
    have c0 : Ch H (upd (upd (upd (upd (upd H p (.ins C dx (putF "_last" (V.int (b - 1)) []))) q (.lst [])) p (.ins C dx (putF "_taken" (V.ref q) (putF "_last" (V.int (b - 1)) [])))) d (.dK [])) p (.ins C dx (nsEar.zip [.int (b - 1), .ref q, .ref d]))) [p] :=
      ((((((Ch.refl H [p]).mut (by simp) hp (fun _ z => by cases z)).new _ q0).mut (by simp) hp (fun _ z => by cases z)).new _ d0).mut (by simp) hp (fun _ z => by cases z))
    have e1 : ∀ H0 : Hp, upd H0 p (.ins C dx (nsEar.zip [.int (b - 1), .ref q, .ref d])) p = some (.ins C dx (nsEar.zip [.int (b - 1), .ref q, .ref d])) := fun _ => upd_same
    have e2 : (upd (upd (upd (upd (upd H p (.ins C dx (putF "_last" (V.int (b - 1)) []))) q (.lst [])) p (.ins C dx (putF "_taken" (V.ref q) (putF "_last" (V.int (b - 1)) [])))) d (.dK [])) p (.ins C dx (nsEar.zip [.int (b - 1), .ref q, .ref d]))) q = some (.lst []) := by
      rw [upd_ne npq.symm, upd_ne nqd, upd_ne npq.symm]; exact upd_same
    have e3 : (upd (upd (upd (upd (upd H p (.ins C dx (putF "_last" (V.int (b - 1)) []))) q (.lst [])) p (.ins C dx (putF "_taken" (V.ref q) (putF "_last" (V.int (b - 1)) [])))) d (.dK [])) p (.ins C dx (nsEar.zip [.int (b - 1), .ref q, .ref d]))) d = some (.dK []) := by
      rw [upd_ne npd.symm]; exact upd_same
    have e1 := e1 (upd (upd (upd (upd H p (.ins C dx (putF "_last" (V.int (b - 1)) []))) q (.lst [])) p (.ins C dx (putF "_taken" (V.ref q) (putF "_last" (V.int (b - 1)) [])))) d (.dK []))
    generalize upd (upd (upd (upd (upd H p (.ins C dx (putF "_last" (V.int (b - 1)) []))) q (.lst [])) p (.ins C dx (putF "_taken" (V.ref q) (putF "_last" (V.int (b - 1)) [])))) d (.dK [])) p (.ins C dx (nsEar.zip [.int (b - 1), .ref q, .ref d])) = H1 at c0 e1 e2 e3 ⊢
    -- the pairs, one by one
    have gS : (nsEar.zip [V.int (b - 1), V.ref q, V.ref d]).lookup ("_standing" : Str) = some (.ref d) := zf_get (i := 2) (by decide +kernel) rfl
    have fin : ∀ {H' : Hp}, H' d = some (.dK (dV gv)) → Ch H1 H' [d] → Q .non H' := fun {H'} h1 ck => by
      have o : ∀ {a}, a ≠ d → a ∉ [d] := fun h z => h (List.mem_singleton.mp z)
      have cc : Ch H H' [p] := ⟨fun x u e n => ck.st x u (c0.st x u e n) (.inl (o (ne_of_none e d0))), fun x u e => let ⟨_, z⟩ := c0.th x u e; ck.th x _ z⟩
      refine k [p, q, d] H' ⟨q, d, [], gv, rfl, ⟨dx, ck.at e1 (o npd)⟩, ck.at e2 (o nqd), .nil, h1, nd, rfl, Nat.le_refl _⟩ (fun a ha => ?_) cc
      simp only [List.mem_cons, List.not_mem_nil, or_false] at ha
      rcases ha with rfl | rfl | rfl
      · exact .inl rfl
      · exact .inr q0
      · exact .inr d0
    have nsq : ∀ {qs ps : KVs} {x : Str × Str}, ((ps ++ x :: qs).map (·.1)).Nodup → putP ps x.1 x.2 = ps ++ [x] := fun {qs ps x} n => by
      have h : getP ps x.1 = none := by
        refine getP_none.mpr fun z => ?_
        rw [List.map_append] at n
        exact (List.nodup_append.mp n).2.2 _ z _ (by simp) rfl
      unfold putP
      rw [getP_any, h]
      rfl
    -- a turn
    have turn : ∀ {i : Nat} {x : Str × Str} {y3 y4 : Option V} {H2 : Hp}, gv[i]? = some x → H2 d = some (.dK (dV (gv.take i))) → Ch H1 H2 [d] →
        H2 p = some (.ins C dx (nsEar.zip [.int (b - 1), .ref q, .ref d])) ∧ (dV (gv.take i)).length < sizeLine ∧ upd H2 d (.dK (putK (dV (gv.take i)) (Sum.inr x.1) (.str x.2))) d = some (.dK (dV (gv.take (i + 1)))) ∧ Ch H1 (upd H2 d (.dK (putK (dV (gv.take i)) (Sum.inr x.1) (.str x.2)))) [d] := fun {i x y3 y4 H2} hx h1 ck => by
      have o : ∀ {a}, a ≠ d → a ∉ [d] := fun h z => h (List.mem_singleton.mp z)
      have et : gv.take (i + 1) = gv.take i ++ [x] := by
        rw [List.take_add_one, hx]; rfl
      refine ⟨ck.at e1 (o npd), ?_, ?_, ck.mut (by simp) e3 (fun _ z => by cases z)⟩
      · show ((gv.take i).map _).length < sizeLine
        rw [List.length_map]
        have := List.length_take_le' i gv
        exact smallS (by omega)
      · rw [upd_same, putK_dV, nsq (qs := gv.drop (i + 1)), et]
        have e : gv.take i ++ x :: gv.drop (i + 1) = gv := by
          have h2 := List.take_append_drop i gv
          rw [List.drop_eq_getElem_cons (List.getElem?_eq_some_iff.mp hx).1] at h2
          rw [← (List.getElem?_eq_some_iff.mp hx).2]
          exact h2
        rw [e]
        exact nd
    have one : ∀ {a x : Addr}, a ≠ x → a ∉ [x] := fun h z => h (List.mem_singleton.mp z)
    have keepL : ∀ {H2 : Hp} {a : Addr} {xs : List V}, Ch H1 H2 [d] → SqL K H a xs → SqL K H2 a xs := fun {H2 a xs} ck h => by
      rcases h with (h | ⟨u, h⟩) | h
      · exact .inl (.inl (ck.st _ _ (c0.st _ _ h (.inl (one (ne_of h hp (by intro z; cases z))))) (.inl (one (ne_of_none h d0)))))
      · exact .inl (.inr ⟨u, ck.st _ _ (c0.st _ _ h (.inl (one (ne_of h hp (by intro z; cases z))))) (.inl (one (ne_of_none h d0)))⟩)
      · exact .inr h
    have keepT : ∀ {H2 : Hp} {a : Addr} {xs : List V}, Ch H1 H2 [d] → SqT K H a xs → SqT K H2 a xs := fun {H2 a xs} ck h => by
      rcases h with (h | ⟨u, h⟩) | h
      · exact .inl (.inl (ck.st _ _ (c0.st _ _ h (.inl (one (ne_of h hp (by intro z; cases z))))) (.inl (one (ne_of_none h d0)))))
      · exact .inl (.inr ⟨u, ck.st _ _ (c0.st _ _ h (.inl (one (ne_of h hp (by intro z; cases z))))) (.inl (one (ne_of_none h d0)))⟩)
      · exact .inr h
    rcases hpv with ⟨rfl, rfl⟩ | ⟨pq, pts, rfl, hsq, hpt⟩
    · exact ⟨_, rfl, false, by rw [decide_eq_true rfl]; rfl, iteF (fin e3 (Ch.refl _ _))⟩
    · refine ⟨_, rfl, true, by rw [decide_eq_false (fun z => by cases z)]; rfl, iteT ?_⟩
      have len : (pts.map V.ref).length = gv.length := by rw [List.length_map, Paired.length hpt]
      have step : ∀ {i : Nat} {x : V} {y3 y4 : Option V} {H2 : Hp} {D : Ends}, (pts.map V.ref)[i]? = some x → H2 d = some (.dK (dV (gv.take i))) → Ch H1 H2 [d] →
          (∀ y3 y4 H3, H3 d = some (.dK (dV (gv.take (i + 1)))) → Ch H1 H3 [d] → D.nx [some (V.ref p), some (V.int b), some (V.ref pq), y3, y4] H3) →
          gTup K 2 (gCons (gName 3) (gCons (gName 4) gNil)) x [some (V.ref p), some (V.int b), some (V.ref pq), y3, y4] H2 fun σ2 H3 => sDPut (tFld K (tVar 0) "_standing") (tVar 3) (tVar 4) D σ2 H3 := fun {i x y3 y4 H2 D} hx h1 ck hN => by
        obtain ⟨t, a, v, rfl, ht⟩ := PairsAt.at hpt hx
        have hlt : i < gv.length := by rw [← len]; exact (List.getElem?_eq_some_iff.mp hx).1
        obtain ⟨x, hgx⟩ : ∃ x, gv[i]? = some x := ⟨gv[i], by simp [hlt]⟩
        have ht2 := ck.tup _ _ (c0.tup _ _ ht)
        have exv : x = (a, v) := by
          obtain ⟨t', r', e1', e2', e3'⟩ := pairsAt2 hpt hx
          cases e1'
          rw [hgx] at e2'
          cases e2'
          rw [ht] at e3'
          cases e3'
          rfl
        subst exv
        obtain ⟨t1, t2, t3, t4⟩ := turn (y3 := none) (y4 := none) hgx h1 ck
        exact ⟨t, _, rfl, SqT.of ht2, rfl, _, _, rfl, _, _, rfl, rfl, _, rfl, _, rfl, p, C, dx, _, _, rfl, t1, T.cl, T.nS, gS, _, rfl, d, _, rfl, DPut.k (k := Sum.inr a) h1 t2, hN _ _ _ t3 t4⟩
      rcases hsq with hs | hs
      · refine ⟨pq, rfl, .inl ⟨⟨_, keepL (Ch.refl _ _) hs⟩, ?_⟩⟩
        refine for_list (xs := pts.map V.ref) (fun i σ H' => (∃ y3 y4 : Option V, σ = [some (.ref p), some (.int b), some (.ref pq), y3, y4]) ∧ H' d = some (.dK (dV (gv.take i))) ∧ Ch H1 H' [d]) ⟨⟨none, none, rfl⟩, e3, Ch.refl _ _⟩ ?_ ?_ ?_
        · rintro i σ H2 _ ⟨⟨y3, y4, rfl⟩, h1, ck⟩
          exact keepL ck hs
        · rintro i x σ H2 hx ⟨⟨y3, y4, rfl⟩, h1, ck⟩
          exact step hx h1 ck fun y3 y4 H3 h3 c3 => ⟨⟨y3, y4, rfl⟩, h3, c3⟩
        · rintro σ H2 ⟨⟨y3, y4, rfl⟩, h1, ck⟩
          rw [len, List.take_length] at h1
          exact fin h1 ck
      · refine ⟨pq, rfl, .inr ⟨⟨_, keepT (Ch.refl _ _) hs⟩, ?_⟩⟩
        refine for_tup (xs := pts.map V.ref) (fun i σ H' => (∃ y3 y4 : Option V, σ = [some (.ref p), some (.int b), some (.ref pq), y3, y4]) ∧ H' d = some (.dK (dV (gv.take i))) ∧ Ch H1 H' [d]) ⟨⟨none, none, rfl⟩, e3, Ch.refl _ _⟩ ?_ ?_ ?_
        · rintro i σ H2 _ ⟨⟨y3, y4, rfl⟩, h1, ck⟩
          exact keepT ck hs
        · rintro i x σ H2 hx ⟨⟨y3, y4, rfl⟩, h1, ck⟩
          exact step hx h1 ck fun y3 y4 H3 h3 c3 => ⟨⟨y3, y4, rfl⟩, h3, c3⟩
        · rintro σ H2 ⟨⟨y3, y4, rfl⟩, h1, ck⟩
          rw [len, List.take_length] at h1
          exact fin h1 ck
end
end KL

namespace KL
open PySem L2 L2H LX KB
section
variable {P : Program} {w : World} {K : PySem.W.Frag} {mg : Str → Option Value} {base : Heap}
theorem ok_Ear_state {f C : Addr} {fd : FuncData} (F : Fun K "state" "Ear.state" s_Ear_state f fd) (T : EarT K C) (ms : mg "sorted" = none) : FnOk P w K mg base CX0 1 f fd p_Ear_state (spEarState (ErP C)) := by
  refine F.ok sc_Ear_state (fun vs H Q E h => ?_) (fun cdv A outer s H vs Q E hr h => ?_)
  · obtain ⟨Fo, p, b, gv, tk, rfl, _⟩ := h
    rfl
  · obtain ⟨Fo, p, b, gv, tk, rfl, LP, hl, gr, k⟩ := h
    obtain ⟨q, d, ts, ps, rfl, L⟩ := id LP
    obtain ⟨dx, hp⟩ := L.ob
    refine ⟨_, pss_one (ps_ret (pe_callB (cr_sortItK rfl) (by rfl) ms (by decide +kernel) (pa_cons (pe_bm0 PySem.F.plainAttrs_dict PySem.F.slot_dict_items PySem.F.type_dict_items mt_itemsK (pe_fld (pv 0) rfl)) pa_nil))), ?_⟩
    refine ⟨_, rfl, p, C, dx, _, _, rfl, hp, T.cl, T.nS, zf_get (i := 2) (by decide +kernel) rfl, .inr (.inr (.inl ⟨rfl, .inl ⟨_, L.st⟩⟩)), d, _, rfl, rfl, L.st, fun v hv => ?_⟩
    have s1 := same_new (o := L2.DX.itemsO v d) hv
    refine ⟨v, d, ps, rfl, upd_same, s1 _ _ L.st, fun H' l us qs s2 hl2 hat m pm so => ?_⟩
    have sm := s1.trans s2
    have t := told_perm L.nd pm so
    rw [L.fn] at t
    refine k [p, q, d] l us qs H' (LP.frame (Ch.of sm []) (fun _ _ z => nomatch z)) (Grow.refl _ _) (Ch.of sm _) (s1.free hl2) (fun y => ?_) hat m t
    obtain ⟨o, e⟩ := LP.own l y
    rw [s1 _ _ e] at hl2
    cases hl2
end
end KL

namespace KL
open PySem
theorem kit_own {K : PySem.W.Frag} {D B : Addr} {b : Bool} (hd : PySem.W.hasDictIn K B = true) (ht : PySem.W.typeIn K (.ref B) = some (.type "type")) (self : PySem.W.subIn K (.ref D) (.ref D) = some true) (h : PySem.W.subIn K (.ref D) (.ref B) = some b) :
    PySem.W.kitOne K (.ref D) (.ref B) = some b := by
  by_cases e : D = B
  · subst e
    rw [self] at h
    rw [← h]
    exact if_pos (beq_self_eq_true _)
  · obtain ⟨cd, hc, _⟩ := PySem.W.any_some hd
    have n : ¬ ((Value.ref D == Value.ref B) = true) := fun z => e (Value.ref.inj (beq_iff_eq.mp z))
    have y : ((PySem.W.clsIn K B).isSome && PySem.W.typeIn K (.ref B) == some (.type "type")) = true := by rw [hc, ht]; rfl
    unfold PySem.W.kitOne PySem.W.kitCls
    rw [if_neg n]
    dsimp only
    rw [if_pos y]
    exact h
theorem kit_type {K : PySem.W.Frag} {D : Addr} {T : String} {b : Bool} (m : PySem.W.kitMeta T = true) (h : PySem.W.subIn K (.ref D) (.type T) = some b) : PySem.W.kitOne K (.ref D) (.type T) = some b := by
  have n : ¬ ((Value.ref D == Value.type T) = true) := fun z => by cases beq_iff_eq.mp z
  unfold PySem.W.kitOne PySem.W.kitCls
  rw [if_neg n]
  dsimp only
  rw [if_pos m]
  exact h
end KL
namespace KL
open PySem L2 L2H
theorem vals_app {a b : List V} {c d : List Value} (h : Vals a c) (k : Vals b d) : Vals (a ++ b) (c ++ d) := by
  induction h with
  | nil => exact k
  | cons r m ih => exact .cons r ih
theorem vals_rev {a : List V} {c : List Value} (h : Vals a c) : Vals a.reverse c.reverse := by
  induction h with
  | nil => exact .nil
  | cons r m ih =>
    rw [List.reverse_cons, List.reverse_cons]
    exact vals_app ih (.cons r .nil)
theorem vals_appR {a b : List V} {c d : List Value} (h : Vals a c) (k : Vals b d) : Vals (a ++ b.reverse) (c ++ d.reverse) := vals_app h (vals_rev k)
end KL

namespace KL
open PySem L2 L2H LX KB

theorem all_mk {l : PySem.W.OpenLaw} {w : World} {K : PySem.W.Frag} {h : Heap} {mg : Str → Option Value} {fa C_Ear f_Ear_init dT_Ear_init f_Ear_hear f_Ear_heard f_Ear_state f_Ear_u_take_in f_whole f_cell_at f_sign f_text f_pool f_change f_changes f_pairs f_rows f_state f_made f_begin f_heard f_law : Addr} {dt0_Ear_init : Tok} (X : K.In h) (G : h.Ns mainGlobals mg) (hfa : mg "law" = some (.ref fa))
    {od_Ear_init an_Ear_init do_Ear_init od_Ear_hear an_Ear_hear od_Ear_heard an_Ear_heard od_Ear_state an_Ear_state od_Ear_u_take_in an_Ear_u_take_in od_whole an_whole od_cell_at an_cell_at od_sign an_sign od_text an_text od_pool an_pool od_change an_change od_changes an_changes od_pairs an_pairs od_rows an_rows od_state an_state od_made an_made od_begin an_begin od_heard an_heard od_law an_law : Option Addr} {sl_Ear_init ds_Ear_init sl_Ear_hear sl_Ear_heard sl_Ear_state sl_Ear_u_take_in sl_whole sl_cell_at sl_sign sl_text sl_pool sl_change sl_changes sl_pairs sl_rows sl_state sl_made sl_begin sl_heard sl_law : Array (Option Value)} {oc_Ear_init kV_Ear_init dc_Ear_init pm_Ear_init cd_Ear_init ct_Ear_init dcl_Ear_init oc_Ear_hear kV_Ear_hear dc_Ear_hear pm_Ear_hear cd_Ear_hear ct_Ear_hear oc_Ear_heard kV_Ear_heard dc_Ear_heard pm_Ear_heard cd_Ear_heard ct_Ear_heard oc_Ear_state kV_Ear_state dc_Ear_state pm_Ear_state cd_Ear_state ct_Ear_state oc_Ear_u_take_in kV_Ear_u_take_in dc_Ear_u_take_in pm_Ear_u_take_in cd_Ear_u_take_in ct_Ear_u_take_in oc_whole kV_whole dc_whole pm_whole cd_whole ct_whole oc_cell_at kV_cell_at dc_cell_at pm_cell_at cd_cell_at ct_cell_at oc_sign kV_sign dc_sign pm_sign cd_sign ct_sign oc_text kV_text dc_text pm_text cd_text ct_text oc_pool kV_pool dc_pool pm_pool cd_pool ct_pool oc_change kV_change dc_change pm_change cd_change ct_change oc_changes kV_changes dc_changes pm_changes cd_changes ct_changes oc_pairs kV_pairs dc_pairs pm_pairs cd_pairs ct_pairs oc_rows kV_rows dc_rows pm_rows cd_rows ct_rows oc_state kV_state dc_state pm_state cd_state ct_state oc_made kV_made dc_made pm_made cd_made ct_made oc_begin kV_begin dc_begin pm_begin cd_begin ct_begin oc_heard kV_heard dc_heard pm_heard cd_heard ct_heard oc_law kV_law dc_law pm_law cd_law ct_law : Value} {dn_Ear_init : Nat}
    (aC_Ear : PySem.W.nsIn K mainGlobals "Ear" = some (some (.ref C_Ear)))
    (a_Ear_init : PySem.W.findIn K (.ref C_Ear) "__init__" = some (some (.ref f_Ear_init)))
    (i_Ear_init : PySem.W.isFn K (.ref f_Ear_init) = true)
    (l_Ear_init : K.lookup f_Ear_init = some ⟨oc_Ear_init, od_Ear_init, .func (PySem.W.fnOf "__init__" "Ear.__init__" (defArgs s_Ear_init) (defBody s_Ear_init) (defScope s_Ear_init) (.ref dT_Ear_init) kV_Ear_init dc_Ear_init pm_Ear_init an_Ear_init cd_Ear_init ct_Ear_init), sl_Ear_init⟩)
    (d_Ear_init : K.lookup dT_Ear_init = some ⟨dcl_Ear_init, do_Ear_init, .seq #[.int 1 dt0_Ear_init, .none] dn_Ear_init, ds_Ear_init⟩)
    (c_Ear_init : PySem.W.codeIn K cd_Ear_init "Ear.__init__" = true)
    (k_Ear_init : PySem.W.keepIn K (.ref f_Ear_init) = true)
    (a_Ear_hear : PySem.W.findIn K (.ref C_Ear) "hear" = some (some (.ref f_Ear_hear)))
    (i_Ear_hear : PySem.W.isFn K (.ref f_Ear_hear) = true)
    (l_Ear_hear : K.lookup f_Ear_hear = some ⟨oc_Ear_hear, od_Ear_hear, .func (PySem.W.fnOf "hear" "Ear.hear" (defArgs s_Ear_hear) (defBody s_Ear_hear) (defScope s_Ear_hear) .none kV_Ear_hear dc_Ear_hear pm_Ear_hear an_Ear_hear cd_Ear_hear ct_Ear_hear), sl_Ear_hear⟩)
    (c_Ear_hear : PySem.W.codeIn K cd_Ear_hear "Ear.hear" = true)
    (k_Ear_hear : PySem.W.keepIn K (.ref f_Ear_hear) = true)
    (a_Ear_heard : PySem.W.findIn K (.ref C_Ear) "heard" = some (some (.ref f_Ear_heard)))
    (i_Ear_heard : PySem.W.isFn K (.ref f_Ear_heard) = true)
    (l_Ear_heard : K.lookup f_Ear_heard = some ⟨oc_Ear_heard, od_Ear_heard, .func (PySem.W.fnOf "heard" "Ear.heard" (defArgs s_Ear_heard) (defBody s_Ear_heard) (defScope s_Ear_heard) .none kV_Ear_heard dc_Ear_heard pm_Ear_heard an_Ear_heard cd_Ear_heard ct_Ear_heard), sl_Ear_heard⟩)
    (c_Ear_heard : PySem.W.codeIn K cd_Ear_heard "Ear.heard" = true)
    (k_Ear_heard : PySem.W.keepIn K (.ref f_Ear_heard) = true)
    (a_Ear_state : PySem.W.findIn K (.ref C_Ear) "state" = some (some (.ref f_Ear_state)))
    (i_Ear_state : PySem.W.isFn K (.ref f_Ear_state) = true)
    (l_Ear_state : K.lookup f_Ear_state = some ⟨oc_Ear_state, od_Ear_state, .func (PySem.W.fnOf "state" "Ear.state" (defArgs s_Ear_state) (defBody s_Ear_state) (defScope s_Ear_state) .none kV_Ear_state dc_Ear_state pm_Ear_state an_Ear_state cd_Ear_state ct_Ear_state), sl_Ear_state⟩)
    (c_Ear_state : PySem.W.codeIn K cd_Ear_state "Ear.state" = true)
    (k_Ear_state : PySem.W.keepIn K (.ref f_Ear_state) = true)
    (a_Ear_u_take_in : PySem.W.findIn K (.ref C_Ear) "_take_in" = some (some (.ref f_Ear_u_take_in)))
    (i_Ear_u_take_in : PySem.W.isFn K (.ref f_Ear_u_take_in) = true)
    (l_Ear_u_take_in : K.lookup f_Ear_u_take_in = some ⟨oc_Ear_u_take_in, od_Ear_u_take_in, .func (PySem.W.fnOf "_take_in" "Ear._take_in" (defArgs s_Ear_u_take_in) (defBody s_Ear_u_take_in) (defScope s_Ear_u_take_in) .none kV_Ear_u_take_in dc_Ear_u_take_in pm_Ear_u_take_in an_Ear_u_take_in cd_Ear_u_take_in ct_Ear_u_take_in), sl_Ear_u_take_in⟩)
    (c_Ear_u_take_in : PySem.W.codeIn K cd_Ear_u_take_in "Ear._take_in" = true)
    (k_Ear_u_take_in : PySem.W.keepIn K (.ref f_Ear_u_take_in) = true)
    (a_whole : PySem.W.nsIn K mainGlobals "_law_whole" = some (some (.ref f_whole)))
    (l_whole : K.lookup f_whole = some ⟨oc_whole, od_whole, .func (PySem.W.fnOf "_law_whole" "_law_whole" (defArgs s_whole) (defBody s_whole) (defScope s_whole) .none kV_whole dc_whole pm_whole an_whole cd_whole ct_whole), sl_whole⟩)
    (c_whole : PySem.W.codeIn K cd_whole "_law_whole" = true)
    (k_whole : PySem.W.keepIn K (.ref f_whole) = true)
    (a_cell_at : PySem.W.nsIn K mainGlobals "_law_cell_at" = some (some (.ref f_cell_at)))
    (l_cell_at : K.lookup f_cell_at = some ⟨oc_cell_at, od_cell_at, .func (PySem.W.fnOf "_law_cell_at" "_law_cell_at" (defArgs s_cell_at) (defBody s_cell_at) (defScope s_cell_at) .none kV_cell_at dc_cell_at pm_cell_at an_cell_at cd_cell_at ct_cell_at), sl_cell_at⟩)
    (c_cell_at : PySem.W.codeIn K cd_cell_at "_law_cell_at" = true)
    (k_cell_at : PySem.W.keepIn K (.ref f_cell_at) = true)
    (a_sign : PySem.W.nsIn K mainGlobals "_law_sign" = some (some (.ref f_sign)))
    (l_sign : K.lookup f_sign = some ⟨oc_sign, od_sign, .func (PySem.W.fnOf "_law_sign" "_law_sign" (defArgs s_sign) (defBody s_sign) (defScope s_sign) .none kV_sign dc_sign pm_sign an_sign cd_sign ct_sign), sl_sign⟩)
    (c_sign : PySem.W.codeIn K cd_sign "_law_sign" = true)
    (k_sign : PySem.W.keepIn K (.ref f_sign) = true)
    (a_text : PySem.W.nsIn K mainGlobals "_law_text" = some (some (.ref f_text)))
    (l_text : K.lookup f_text = some ⟨oc_text, od_text, .func (PySem.W.fnOf "_law_text" "_law_text" (defArgs s_text) (defBody s_text) (defScope s_text) .none kV_text dc_text pm_text an_text cd_text ct_text), sl_text⟩)
    (c_text : PySem.W.codeIn K cd_text "_law_text" = true)
    (k_text : PySem.W.keepIn K (.ref f_text) = true)
    (a_pool : PySem.W.nsIn K mainGlobals "_law_pool" = some (some (.ref f_pool)))
    (l_pool : K.lookup f_pool = some ⟨oc_pool, od_pool, .func (PySem.W.fnOf "_law_pool" "_law_pool" (defArgs s_pool) (defBody s_pool) (defScope s_pool) .none kV_pool dc_pool pm_pool an_pool cd_pool ct_pool), sl_pool⟩)
    (c_pool : PySem.W.codeIn K cd_pool "_law_pool" = true)
    (k_pool : PySem.W.keepIn K (.ref f_pool) = true)
    (a_change : PySem.W.nsIn K mainGlobals "_law_change" = some (some (.ref f_change)))
    (l_change : K.lookup f_change = some ⟨oc_change, od_change, .func (PySem.W.fnOf "_law_change" "_law_change" (defArgs s_change) (defBody s_change) (defScope s_change) .none kV_change dc_change pm_change an_change cd_change ct_change), sl_change⟩)
    (c_change : PySem.W.codeIn K cd_change "_law_change" = true)
    (k_change : PySem.W.keepIn K (.ref f_change) = true)
    (a_changes : PySem.W.nsIn K mainGlobals "_law_changes" = some (some (.ref f_changes)))
    (l_changes : K.lookup f_changes = some ⟨oc_changes, od_changes, .func (PySem.W.fnOf "_law_changes" "_law_changes" (defArgs s_changes) (defBody s_changes) (defScope s_changes) .none kV_changes dc_changes pm_changes an_changes cd_changes ct_changes), sl_changes⟩)
    (c_changes : PySem.W.codeIn K cd_changes "_law_changes" = true)
    (k_changes : PySem.W.keepIn K (.ref f_changes) = true)
    (a_pairs : PySem.W.nsIn K mainGlobals "_law_pairs" = some (some (.ref f_pairs)))
    (l_pairs : K.lookup f_pairs = some ⟨oc_pairs, od_pairs, .func (PySem.W.fnOf "_law_pairs" "_law_pairs" (defArgs s_pairs) (defBody s_pairs) (defScope s_pairs) .none kV_pairs dc_pairs pm_pairs an_pairs cd_pairs ct_pairs), sl_pairs⟩)
    (c_pairs : PySem.W.codeIn K cd_pairs "_law_pairs" = true)
    (k_pairs : PySem.W.keepIn K (.ref f_pairs) = true)
    (a_rows : PySem.W.nsIn K mainGlobals "_law_rows" = some (some (.ref f_rows)))
    (l_rows : K.lookup f_rows = some ⟨oc_rows, od_rows, .func (PySem.W.fnOf "_law_rows" "_law_rows" (defArgs s_rows) (defBody s_rows) (defScope s_rows) .none kV_rows dc_rows pm_rows an_rows cd_rows ct_rows), sl_rows⟩)
    (c_rows : PySem.W.codeIn K cd_rows "_law_rows" = true)
    (k_rows : PySem.W.keepIn K (.ref f_rows) = true)
    (a_state : PySem.W.nsIn K mainGlobals "_law_state" = some (some (.ref f_state)))
    (l_state : K.lookup f_state = some ⟨oc_state, od_state, .func (PySem.W.fnOf "_law_state" "_law_state" (defArgs s_state) (defBody s_state) (defScope s_state) .none kV_state dc_state pm_state an_state cd_state ct_state), sl_state⟩)
    (c_state : PySem.W.codeIn K cd_state "_law_state" = true)
    (k_state : PySem.W.keepIn K (.ref f_state) = true)
    (a_made : PySem.W.nsIn K mainGlobals "_law_made" = some (some (.ref f_made)))
    (l_made : K.lookup f_made = some ⟨oc_made, od_made, .func (PySem.W.fnOf "_law_made" "_law_made" (defArgs s_made) (defBody s_made) (defScope s_made) .none kV_made dc_made pm_made an_made cd_made ct_made), sl_made⟩)
    (c_made : PySem.W.codeIn K cd_made "_law_made" = true)
    (k_made : PySem.W.keepIn K (.ref f_made) = true)
    (a_begin : PySem.W.nsIn K mainGlobals "_law_begin" = some (some (.ref f_begin)))
    (l_begin : K.lookup f_begin = some ⟨oc_begin, od_begin, .func (PySem.W.fnOf "_law_begin" "_law_begin" (defArgs s_begin) (defBody s_begin) (defScope s_begin) .none kV_begin dc_begin pm_begin an_begin cd_begin ct_begin), sl_begin⟩)
    (c_begin : PySem.W.codeIn K cd_begin "_law_begin" = true)
    (k_begin : PySem.W.keepIn K (.ref f_begin) = true)
    (a_heard : PySem.W.nsIn K mainGlobals "_law_heard" = some (some (.ref f_heard)))
    (l_heard : K.lookup f_heard = some ⟨oc_heard, od_heard, .func (PySem.W.fnOf "_law_heard" "_law_heard" (defArgs s_heard) (defBody s_heard) (defScope s_heard) .none kV_heard dc_heard pm_heard an_heard cd_heard ct_heard), sl_heard⟩)
    (c_heard : PySem.W.codeIn K cd_heard "_law_heard" = true)
    (k_heard : PySem.W.keepIn K (.ref f_heard) = true)
    (a_law : PySem.W.nsIn K mainGlobals "law" = some (some (.ref f_law)))
    (l_law : K.lookup f_law = some ⟨oc_law, od_law, .func (PySem.W.fnOf "law" "law" (defArgs s_law) (defBody s_law) (defScope s_law) .none kV_law dc_law pm_law an_law cd_law ct_law), sl_law⟩)
    (c_law : PySem.W.codeIn K cd_law "law" = true)
    (k_law : PySem.W.keepIn K (.ref f_law) = true)
    (pg_Ear : PySem.W.plainGet K C_Ear Str.empty = true)
    (hd_Ear : PySem.W.hasDictIn K C_Ear = true)
    (po_Ear : PySem.W.plainOver K C_Ear = true)
    (sa_Ear : PySem.W.findIn K (.ref C_Ear) "__setattr__" = some (some (.builtin "object.__setattr__")))
    (mk_Ear : PySem.W.makesIn K C_Ear = true)
    (kc_Ear : PySem.W.keepIn K (.ref C_Ear) = true)
    (n0_Ear : PySem.W.findIn K (.ref C_Ear) "_last" = some none)
    (n1_Ear : PySem.W.findIn K (.ref C_Ear) "_taken" = some none)
    (n2_Ear : PySem.W.findIn K (.ref C_Ear) "_standing" = some none)
    (z_bool : PySem.W.nsIn K mainGlobals "bool" = some none)
    (z_int : PySem.W.nsIn K mainGlobals "int" = some none)
    (z_isinstance : PySem.W.nsIn K mainGlobals "isinstance" = some none)
    (z_len : PySem.W.nsIn K mainGlobals "len" = some none)
    (z_list : PySem.W.nsIn K mainGlobals "list" = some none)
    (z_range : PySem.W.nsIn K mainGlobals "range" = some none)
    (z_sorted : PySem.W.nsIn K mainGlobals "sorted" = some none)
    (z_str : PySem.W.nsIn K mainGlobals "str" = some none)
    (z_tuple : PySem.W.nsIn K mainGlobals "tuple" = some none)
    : ∃ fd : FuncData, (∀ (s : Shared) (v : Value), BindsTo s fd ⟨[v], []⟩ [("_law_script", v)]) ∧ ∀ base : Heap, K.In base → base.Ns mainGlobals mg → FnOk l.prog w K mg base CX0 7 fa fd ["_law_script"] (spLaw K) := by
  have e := hfa.symm.trans (PySem.W.mg_of X G a_law)
  cases e
  have Z_bool := PySem.W.mg_none_of X G z_bool
  have Z_int := PySem.W.mg_none_of X G z_int
  have Z_isinstance := PySem.W.mg_none_of X G z_isinstance
  have Z_len := PySem.W.mg_none_of X G z_len
  have Z_list := PySem.W.mg_none_of X G z_list
  have Z_range := PySem.W.mg_none_of X G z_range
  have Z_sorted := PySem.W.mg_none_of X G z_sorted
  have Z_str := PySem.W.mg_none_of X G z_str
  have Z_tuple := PySem.W.mg_none_of X G z_tuple
  have LT : LTxt mg := ⟨Z_isinstance, Z_int, Z_bool, Z_str, Z_len, Z_sorted, Z_list, Z_tuple, Z_range⟩
  have cl_Ear : Cls K C_Ear := ⟨pg_Ear, hd_Ear, po_Ear, sa_Ear⟩
  have M_Ear : Mk K C_Ear f_Ear_init := ⟨mk_Ear, a_Ear_init, i_Ear_init, kc_Ear⟩
  have g_Ear := PySem.W.mg_of X G aC_Ear
  have F_Ear_hear := fun_mk (st := s_Ear_hear) l_Ear_hear c_Ear_hear k_Ear_hear
  have b_Ear_hear := F_Ear_hear.binds (ps := p_Ear_hear) fun _ _ _ _ _ _ us hl => match us, hl with | [_, _], _ => rfl
  have F_Ear_heard := fun_mk (st := s_Ear_heard) l_Ear_heard c_Ear_heard k_Ear_heard
  have b_Ear_heard := F_Ear_heard.binds (ps := p_Ear_heard) fun _ _ _ _ _ _ us hl => match us, hl with | [_], _ => rfl
  have F_Ear_state := fun_mk (st := s_Ear_state) l_Ear_state c_Ear_state k_Ear_state
  have b_Ear_state := F_Ear_state.binds (ps := p_Ear_state) fun _ _ _ _ _ _ us hl => match us, hl with | [_], _ => rfl
  have F_Ear_u_take_in := fun_mk (st := s_Ear_u_take_in) l_Ear_u_take_in c_Ear_u_take_in k_Ear_u_take_in
  have b_Ear_u_take_in := F_Ear_u_take_in.binds (ps := p_Ear_u_take_in) fun _ _ _ _ _ _ us hl => match us, hl with | [_, _], _ => rfl
  have F_whole := fun_mk (st := s_whole) l_whole c_whole k_whole
  have b_whole := F_whole.binds (ps := p_whole) fun _ _ _ _ _ _ us hl => match us, hl with | [_], _ => rfl
  have F_cell_at := fun_mk (st := s_cell_at) l_cell_at c_cell_at k_cell_at
  have b_cell_at := F_cell_at.binds (ps := p_cell_at) fun _ _ _ _ _ _ us hl => match us, hl with | [_, _], _ => rfl
  have F_sign := fun_mk (st := s_sign) l_sign c_sign k_sign
  have b_sign := F_sign.binds (ps := p_sign) fun _ _ _ _ _ _ us hl => match us, hl with | [_], _ => rfl
  have F_text := fun_mk (st := s_text) l_text c_text k_text
  have b_text := F_text.binds (ps := p_text) fun _ _ _ _ _ _ us hl => match us, hl with | [_, _], _ => rfl
  have F_pool := fun_mk (st := s_pool) l_pool c_pool k_pool
  have b_pool := F_pool.binds (ps := p_pool) fun _ _ _ _ _ _ us hl => match us, hl with | [_, _], _ => rfl
  have F_change := fun_mk (st := s_change) l_change c_change k_change
  have b_change := F_change.binds (ps := p_change) fun _ _ _ _ _ _ us hl => match us, hl with | [_], _ => rfl
  have F_changes := fun_mk (st := s_changes) l_changes c_changes k_changes
  have b_changes := F_changes.binds (ps := p_changes) fun _ _ _ _ _ _ us hl => match us, hl with | [_, _], _ => rfl
  have F_pairs := fun_mk (st := s_pairs) l_pairs c_pairs k_pairs
  have b_pairs := F_pairs.binds (ps := p_pairs) fun _ _ _ _ _ _ us hl => match us, hl with | [_, _], _ => rfl
  have F_rows := fun_mk (st := s_rows) l_rows c_rows k_rows
  have b_rows := F_rows.binds (ps := p_rows) fun _ _ _ _ _ _ us hl => match us, hl with | [_, _], _ => rfl
  have F_state := fun_mk (st := s_state) l_state c_state k_state
  have b_state := F_state.binds (ps := p_state) fun _ _ _ _ _ _ us hl => match us, hl with | [_, _], _ => rfl
  have F_made := fun_mk (st := s_made) l_made c_made k_made
  have b_made := F_made.binds (ps := p_made) fun _ _ _ _ _ _ us hl => match us, hl with | [_, _, _], _ => rfl
  have F_begin := fun_mk (st := s_begin) l_begin c_begin k_begin
  have b_begin := F_begin.binds (ps := p_begin) fun _ _ _ _ _ _ us hl => match us, hl with | [_, _], _ => rfl
  have F_heard := fun_mk (st := s_heard) l_heard c_heard k_heard
  have b_heard := F_heard.binds (ps := p_heard) fun _ _ _ _ _ _ us hl => match us, hl with | [_, _, _, _, _], _ => rfl
  have F_law := fun_mk (st := s_law) l_law c_law k_law
  have b_law := F_law.binds (ps := p_law) fun _ _ _ _ _ _ us hl => match us, hl with | [_], _ => rfl
  have m_Ear_init : Meth K C_Ear "__init__" f_Ear_init := ⟨a_Ear_init, i_Ear_init, k_Ear_init⟩
  have m_Ear_hear : Meth K C_Ear "hear" f_Ear_hear := ⟨a_Ear_hear, i_Ear_hear, k_Ear_hear⟩
  have m_Ear_heard : Meth K C_Ear "heard" f_Ear_heard := ⟨a_Ear_heard, i_Ear_heard, k_Ear_heard⟩
  have m_Ear_state : Meth K C_Ear "state" f_Ear_state := ⟨a_Ear_state, i_Ear_state, k_Ear_state⟩
  have m_Ear_u_take_in : Meth K C_Ear "_take_in" f_Ear_u_take_in := ⟨a_Ear_u_take_in, i_Ear_u_take_in, k_Ear_u_take_in⟩
  have g_whole := PySem.W.mg_of X G a_whole
  have g_cell_at := PySem.W.mg_of X G a_cell_at
  have g_sign := PySem.W.mg_of X G a_sign
  have g_text := PySem.W.mg_of X G a_text
  have g_pool := PySem.W.mg_of X G a_pool
  have g_change := PySem.W.mg_of X G a_change
  have g_changes := PySem.W.mg_of X G a_changes
  have g_pairs := PySem.W.mg_of X G a_pairs
  have g_rows := PySem.W.mg_of X G a_rows
  have g_state := PySem.W.mg_of X G a_state
  have g_made := PySem.W.mg_of X G a_made
  have g_begin := PySem.W.mg_of X G a_begin
  have g_heard := PySem.W.mg_of X G a_heard
  have F_Ear_init : FunD K "__init__" "Ear.__init__" (defArgs s_Ear_init) (defBody s_Ear_init) (defScope s_Ear_init) [.int 1, .non] [] f_Ear_init (PySem.W.fnOf "__init__" "Ear.__init__" (defArgs s_Ear_init) (defBody s_Ear_init) (defScope s_Ear_init) (.ref dT_Ear_init) kV_Ear_init dc_Ear_init pm_Ear_init an_Ear_init cd_Ear_init ct_Ear_init) := ⟨⟨_, _, _, _, _, _, _, _, _, _, rfl, l_Ear_init, c_Ear_init, .inr ⟨by simp, _, _, _, _, rfl, d_Ear_init, rfl, .cons ⟨_, rfl⟩ (.cons rfl (.nil))⟩, .inl rfl⟩, k_Ear_init⟩
  refine ⟨PySem.W.fnOf "law" "law" (defArgs s_law) (defBody s_law) (defScope s_law) .none kV_law dc_law pm_law an_law cd_law ct_law, fun s v => .of_eq rfl, fun base _ _ => ?_⟩
  have TE : EarT K C_Ear := ⟨cl_Ear, n0_Ear, n1_Ear, n2_Ear⟩
  have GT := ok_Ear_take_in (P := l.prog) (w := w) (mg := mg) (base := base) F_Ear_u_take_in TE
  have B0 : ∃ ds, Vals ([V.int 1, V.non].drop 2) ds ∧ Binds K (PySem.W.fnOf "__init__" "Ear.__init__" (defArgs s_Ear_init) (defBody s_Ear_init) (defScope s_Ear_init) (.ref dT_Ear_init) kV_Ear_init dc_Ear_init pm_Ear_init an_Ear_init cd_Ear_init ct_Ear_init) p_Ear_init ds := F_Ear_init.binds1 3 2 (by simp) rfl fun T kV doc pm an cdv ct us its h1 h2 => match us, its, h1, h2 with | [_, _, _], [_, _], _, _ => ⟨_, rfl, rfl⟩
  have B1 : ∃ ds, Vals ([V.int 1, V.non].drop 1) ds ∧ Binds K (PySem.W.fnOf "__init__" "Ear.__init__" (defArgs s_Ear_init) (defBody s_Ear_init) (defScope s_Ear_init) (.ref dT_Ear_init) kV_Ear_init dc_Ear_init pm_Ear_init an_Ear_init cd_Ear_init ct_Ear_init) p_Ear_init ds := F_Ear_init.binds1 2 1 (by simp) rfl fun T kV doc pm an cdv ct us its h1 h2 => match us, its, h1, h2 with | [_, _], [_, _], _, _ => ⟨_, rfl, rfl⟩
  have B2 : ∃ ds, Vals ([V.int 1, V.non].drop 0) ds ∧ Binds K (PySem.W.fnOf "__init__" "Ear.__init__" (defArgs s_Ear_init) (defBody s_Ear_init) (defScope s_Ear_init) (.ref dT_Ear_init) kV_Ear_init dc_Ear_init pm_Ear_init an_Ear_init cd_Ear_init ct_Ear_init) p_Ear_init ds := F_Ear_init.binds1 1 0 (by simp) rfl fun T kV doc pm an cdv ct us its h1 h2 => match us, its, h1, h2 with | [_], [_, _], _, _ => ⟨_, rfl, rfl⟩
  have B3 : ∃ g, KBn K (PySem.W.fnOf "__init__" "Ear.__init__" (defArgs s_Ear_init) (defBody s_Ear_init) (defScope s_Ear_init) (.ref dT_Ear_init) kV_Ear_init dc_Ear_init pm_Ear_init an_Ear_init cd_Ear_init ct_Ear_init) p_Ear_init 1 ["pairs", "start"] g fun vs zs => vs ++ zs.reverse := by
    obtain ⟨its, h⟩ := F_Ear_init.kbindsD (ps := p_Ear_init) 1 ["pairs", "start"] (fun us _ ws => us ++ ws.reverse) (by simp) (fun r1 _ r3 => vals_appR r1 r3) fun T kV doc pm an cdv ct us its ws h1 h2 h3 => match us, its, ws, h1, h2, h3 with | [_], [_, _], [_, _], _, _, _ => ⟨_, rfl, rfl⟩
    exact ⟨_, h⟩
  obtain ⟨d0, r0, B0⟩ := B0
  cases r0
  have A1 : EarApi l.prog w K mg base C_Ear (ErP C_Ear) esL :=
    { frame := ErP.frame, own := ErP.own, inst := ErP.inst
      make := ⟨_, _, _, M_Ear, (ok_Ear_init F_Ear_init TE).mono (by decide), B0, B1, B2, B3⟩
      hear := ⟨_, _, _, m_Ear_hear, b_Ear_hear, (ok_Ear_hear F_Ear_hear TE m_Ear_u_take_in b_Ear_u_take_in GT).mono (by decide)⟩
      heard := ⟨_, _, _, m_Ear_heard, b_Ear_heard, (ok_Ear_heard F_Ear_heard TE Z_list).mono (by decide)⟩
      state := fun _ => ⟨_, _, _, m_Ear_state, b_Ear_state, (ok_Ear_state F_Ear_state TE Z_sorted).mono (by decide)⟩ }
  have D_whole : Def l.prog w K mg base "_law_whole" 1 p_whole spWhole := ⟨_, _, g_whole, k_whole, b_whole, ok_whole F_whole LT⟩
  have D_cell : Def l.prog w K mg base "_law_cell_at" 1 p_cell_at (spCellA K) := ⟨_, _, g_cell_at, k_cell_at, b_cell_at, ok_cell F_cell_at LT⟩
  have D_sign : Def l.prog w K mg base "_law_sign" 1 p_sign spSign := ⟨_, _, g_sign, k_sign, b_sign, ok_sign F_sign⟩
  have D_text : Def l.prog w K mg base "_law_text" 2 p_text spText := ⟨_, _, g_text, k_text, b_text, ok_text F_text LT D_sign⟩
  have D_pool : Def l.prog w K mg base "_law_pool" 3 p_pool spPool := ⟨_, _, g_pool, k_pool, b_pool, ok_pool F_pool LT D_sign D_text⟩
  have D_change : Def l.prog w K mg base "_law_change" 2 p_change spChange := ⟨_, _, g_change, k_change, b_change, ok_change F_change LT D_whole⟩
  have D_changes : Def l.prog w K mg base "_law_changes" 3 p_changes (spChanges K) := ⟨_, _, g_changes, k_changes, b_changes, ok_changes F_changes LT D_change⟩
  have D_pairs : Def l.prog w K mg base "_law_pairs" 1 p_pairs (spPairs K) := ⟨_, _, g_pairs, k_pairs, b_pairs, ok_pairs F_pairs LT⟩
  have D_rows : Def l.prog w K mg base "_law_rows" 3 p_rows (spRows K) := ⟨_, _, g_rows, k_rows, b_rows, ok_rows F_rows LT D_cell D_text⟩
  have D_begin : Def l.prog w K mg base "_law_begin" 3 p_begin spBegin := ⟨_, _, g_begin, k_begin, b_begin, ok_begin F_begin LT D_text⟩
  have D_made : Def l.prog w K mg base "_law_made" 6 p_made (spMade (ErP C_Ear)) := ⟨_, _, g_made, k_made, b_made, ok_made F_made g_Ear A1 LT⟩
  have D_heard : Def l.prog w K mg base "_law_heard" 5 p_heard (spHeard (ErP C_Ear)) := ⟨_, _, g_heard, k_heard, b_heard, ok_heard F_heard cl_Ear A1 LT D_whole D_changes⟩
  have D_state : Def l.prog w K mg base "_law_state" 1 p_state spState := ⟨_, _, g_state, k_state, b_state, ok_state F_state LT⟩
  exact ok_law F_law cl_Ear A1 LT D_cell D_pool D_rows D_begin D_made D_heard D_state D_pairs

theorem walk {l : PySem.W.OpenLaw} {q : Program} {loose : List Str} {XP : (Str → Option Value) → Heap → Prop} {YP : World → Heap → Prop} {d : DefRec} {K : Params → PySem.W.Frag} (hn : l.most = some 63) (hdf : d.params.defaults = [])
    (hY : ∀ (w : World) (h : Heap), YP w h → (K w.params).In h)
    (F : ∀ (w : World) (mg : Str → Option Value) (fa : Addr) (h : Heap), (K w.params).In h → h.Ns mainGlobals mg → mg d.name = some (.ref fa) →
      ∃ fd : FuncData, (∀ (s : Shared) (u : Value), BindsTo s fd ⟨[u], []⟩ [("_law_script", u)]) ∧ ∀ base : Heap, (K w.params).In base → base.Ns mainGlobals mg → FnOk l.prog w (K w.params) mg base CX0 7 fa fd ["_law_script"] (spLaw (K w.params))) :
    PySem.W.WalkO q loose XP YP l.row.toRowW d [] (fun f vs => PySem.call f vs) :=
  L2.walk_of (n := 63) (k := 7) (x := "_law_script") (CX := fun _ => CX0) (sp := fun w => spLaw (K w.params)) hn (by decide) hdf ⟨rfl, by decide, by decide⟩ hY F (fun _ _ a ns hl _ hS => ⟨a, ns, rfl, hS, hl, fun _ => rfl⟩) fun _ _ _ _ _ z => z
end KL

open PySem PySem.W PyProof.Rows
set_option maxRecDepth 100000 in
set_option maxHeartbeats 0 in
theorem PySem.Challenge.cw_leasewatch_k03_an_ear_hears_once_holds : PySem.Challenge.rw_leasewatch_k03_an_ear_hears_once.Holds := by
  w_on; o_law; k_head; (case hw => w_witness2)
  k_fill
  refine KL.walk (l := PySem.Challenge.rw_leasewatch_k03_an_ear_hears_once) rfl rfl (fun w h Y => PySem.W.kIn_of Y) ?F
  case F =>
    intro w mg fa h KX G hmg
    refine' KL.all_mk KX G hmg ?aC_Ear ?a_Ear_init ?i_Ear_init ?l_Ear_init ?d_Ear_init ?c_Ear_init ?k_Ear_init ?a_Ear_hear ?i_Ear_hear ?l_Ear_hear ?c_Ear_hear ?k_Ear_hear ?a_Ear_heard ?i_Ear_heard ?l_Ear_heard ?c_Ear_heard ?k_Ear_heard ?a_Ear_state ?i_Ear_state ?l_Ear_state ?c_Ear_state ?k_Ear_state ?a_Ear_u_take_in ?i_Ear_u_take_in ?l_Ear_u_take_in ?c_Ear_u_take_in ?k_Ear_u_take_in ?a_whole ?l_whole ?c_whole ?k_whole ?a_cell_at ?l_cell_at ?c_cell_at ?k_cell_at ?a_sign ?l_sign ?c_sign ?k_sign ?a_text ?l_text ?c_text ?k_text ?a_pool ?l_pool ?c_pool ?k_pool ?a_change ?l_change ?c_change ?k_change ?a_changes ?l_changes ?c_changes ?k_changes ?a_pairs ?l_pairs ?c_pairs ?k_pairs ?a_rows ?l_rows ?c_rows ?k_rows ?a_state ?l_state ?c_state ?k_state ?a_made ?l_made ?c_made ?k_made ?a_begin ?l_begin ?c_begin ?k_begin ?a_heard ?l_heard ?c_heard ?k_heard ?a_law ?l_law ?c_law ?k_law ?pg_Ear ?hd_Ear ?po_Ear ?sa_Ear ?mk_Ear ?kc_Ear ?n0_Ear ?n1_Ear ?n2_Ear ?z_bool ?z_int ?z_isinstance ?z_len ?z_list ?z_range ?z_sorted ?z_str ?z_tuple
    (case aC_Ear => k_is)
    (case a_Ear_init => k_is)
    (case i_Ear_init => k_is)
    (case l_Ear_init => k_is)
    (case d_Ear_init => k_is)
    (case c_Ear_init => k_is)
    (case k_Ear_init => k_is)
    (case a_Ear_hear => k_is)
    (case i_Ear_hear => k_is)
    (case l_Ear_hear => k_is)
    (case c_Ear_hear => k_is)
    (case k_Ear_hear => k_is)
    (case a_Ear_heard => k_is)
    (case i_Ear_heard => k_is)
    (case l_Ear_heard => k_is)
    (case c_Ear_heard => k_is)
    (case k_Ear_heard => k_is)
    (case a_Ear_state => k_is)
    (case i_Ear_state => k_is)
    (case l_Ear_state => k_is)
    (case c_Ear_state => k_is)
    (case k_Ear_state => k_is)
    (case a_Ear_u_take_in => k_is)
    (case i_Ear_u_take_in => k_is)
    (case l_Ear_u_take_in => k_is)
    (case c_Ear_u_take_in => k_is)
    (case k_Ear_u_take_in => k_is)
    (case a_whole => k_is)
    (case l_whole => k_is)
    (case c_whole => k_is)
    (case k_whole => k_is)
    (case a_cell_at => k_is)
    (case l_cell_at => k_is)
    (case c_cell_at => k_is)
    (case k_cell_at => k_is)
    (case a_sign => k_is)
    (case l_sign => k_is)
    (case c_sign => k_is)
    (case k_sign => k_is)
    (case a_text => k_is)
    (case l_text => k_is)
    (case c_text => k_is)
    (case k_text => k_is)
    (case a_pool => k_is)
    (case l_pool => k_is)
    (case c_pool => k_is)
    (case k_pool => k_is)
    (case a_change => k_is)
    (case l_change => k_is)
    (case c_change => k_is)
    (case k_change => k_is)
    (case a_changes => k_is)
    (case l_changes => k_is)
    (case c_changes => k_is)
    (case k_changes => k_is)
    (case a_pairs => k_is)
    (case l_pairs => k_is)
    (case c_pairs => k_is)
    (case k_pairs => k_is)
    (case a_rows => k_is)
    (case l_rows => k_is)
    (case c_rows => k_is)
    (case k_rows => k_is)
    (case a_state => k_is)
    (case l_state => k_is)
    (case c_state => k_is)
    (case k_state => k_is)
    (case a_made => k_is)
    (case l_made => k_is)
    (case c_made => k_is)
    (case k_made => k_is)
    (case a_begin => k_is)
    (case l_begin => k_is)
    (case c_begin => k_is)
    (case k_begin => k_is)
    (case a_heard => k_is)
    (case l_heard => k_is)
    (case c_heard => k_is)
    (case k_heard => k_is)
    (case a_law => k_is)
    (case l_law => k_is)
    (case c_law => k_is)
    (case k_law => k_is)
    (case pg_Ear => k_is)
    (case hd_Ear => k_is)
    (case po_Ear => k_is)
    (case sa_Ear => k_is)
    (case mk_Ear => k_is)
    (case kc_Ear => k_is)
    (case n0_Ear => k_is)
    (case n1_Ear => k_is)
    (case n2_Ear => k_is)
    (case z_bool => k_is)
    (case z_int => k_is)
    (case z_isinstance => k_is)
    (case z_len => k_is)
    (case z_list => k_is)
    (case z_range => k_is)
    (case z_sorted => k_is)
    (case z_str => k_is)
    (case z_tuple => k_is)
