import PyProof.Rows.All
import Wide.All
import OpenK.AllK
import Wide.FinOn
import HandS.ForMost
import HandS.ForExc
import HandS.More
import HandS.Walk
import HandS.FStr
import HandS.RaiseMore
import HandS.IsInst
import HandS.ExcIs
import HandS.HotCalls
import HandS.SortRule
import HandS.Codes
import PyProof.Rows.SortShellAny
import HandS.Defaults
import HandS.MakeKw
import HandS.MakeKwOnly
import HandS.Style
import HandS.DictTup
import HandS.SortKw
import KE.DataMinMax
import PySem.Challenge.RW_leasewatch_k08_whole_every_history
set_option Elab.async false
set_option linter.all false
set_option maxRecDepth 100000
set_option maxHeartbeats 8000000
/-! rules of our own: a def called within an except suite with the exception that is handled as an argument; a list walked there; a method that may raise, the wish by the slots -/
namespace LX
open PySem PySem.Spec PyProof.Rows L2 L2H
abbrev St := L2.St

structure FnP (P : Program) (w : World) (K : PySem.W.Frag) (mg : Str → Option Value) (base : Heap) (k : Nat) (f : Addr) (fd : FuncData) (ps : List Str) (sp : Addr × Obj → Sp) : Prop where
  len : ∀ p vs H Q E, sp p vs H Q E → vs.length = ps.length
  run : ∀ (A : Around) (outer : List Env) (s : Shared) (H : Hp) (args : Args) (us : List Value) (vs : List V) (Q : VK) (E : XK) (p : Addr × Obj), RoomH k A → PinOk outer H s p → (∃ vs, p.2.data = .fields vs) → Env0 P w K mg base A outer s H → BindsTo s fd args (ps.zip us) → Vals vs us → sp p vs H Q E →
    codeAny (model P w) A (.call (.ref f) args) (CR CX0 outer P w H s Q E) s
theorem fn_ofP {P : Program} {w : World} {K : PySem.W.Frag} {mg : Str → Option Value} {base : Heap} {k : Nat} {f : Addr} {name qual : Str} {params : Arguments} {body : List Stmt} {scope : Scope} {dV kV doc pm cdv ct oc : Value} {an od : Option Addr}
    {osl : Array (Option Value)} {N ps : List Str} {sp : Addr × Obj → Sp} (lk : K.lookup f = some ⟨oc, od, .func (PySem.W.fnOf name qual params body scope dV kV doc pm an cdv ct), osl⟩) (hcd : PySem.W.codeIn K cdv qual = true) (S : FnScope N ps scope)
    (len : ∀ p vs H Q E, sp p vs H Q E → vs.length = ps.length)
    (hbody : ∀ (A : Around) (outer : List Env) (s : Shared) (H : Hp) (vs : List V) (Q : VK) (E : XK) (p : Addr × Obj), RoomH k (A.deeper (envOfC qual scope s.heap.objs.size f cdv)) → (∃ vs, p.2.data = .fields vs) → sp p vs H Q E →
      ∃ t, PSs (cxH CX0 P w K mg base N qual scope f cdv A outer s H E p) body t ∧ t { nx := fun _ H' => Q .non H', rt := Q } (L2.start N vs) H) :
    FnP P w K mg base (k + 1) f (PySem.W.fnOf name qual params body scope dV kV doc pm an cdv ct) ps sp := by
  refine ⟨len, fun A outer s H args us vs Q E p hr hpin hf e0 hb r hsp => ?_⟩
  have hl := len _ _ _ _ _ hsp
  have KX : K.In s.heap := e0.mod.kin.keeps fun b o e => (e0.bs b o e).1
  have lim : s.heap.NoLimit := e0.mod.nolimit.keeps fun b o e => (e0.bs b o e).1
  have hkind : ∀ y ∈ ps.zip us, scope.names.lookup y.1 = some .local ∨ (scope.names.lookup y.1 = some .cell ∧ ((cellsFrom (s.heap.objs.size + 1) scope.names []).lookup y.1).isSome = true) := fun ⟨n, v⟩ hy => by
    rcases S.par n (List.of_mem_zip hy).1 with q | q
    · exact .inl q
    · exact .inr ⟨q, PySem.W.cellsFrom_some _ _ _ (.inl q)⟩
  refine codeAny_call_function hr.depth (KX _ _ lk) rfl S.co S.gen rfl (PySem.W.codeRec_of KX hcd) (hb _ _ _ _ ?_)
  refine wpAny_newFunctionEnv_cells S.kind hkind fun env he s1 x => ?_
  subst he
  refine ⟨lim.keeps x.toInCall.keep, codeAny_func ?_⟩
  obtain ⟨t, ht, hq⟩ := hbody A outer s H vs Q E p (hr.deeper _) hf hsp
  have I : Inv (cxH CX0 P w K mg base N qual scope f cdv A outer s H E p) [] (L2.start N vs) H s1 := inv_startH S hpin e0 hl r x
  refine wpAny_mono (ht.run [] s1 (L2.start N vs) H _ I hq) (fun fl s' hs => ?_) fun e s' hs => hs
  have fin : ∀ {σ' : St} {H' : Hp} {v : V} {u : Value}, Inv (cxH CX0 P w K mg base N qual scope f cdv A outer s H E p) [] σ' H' s' → RelV v u → Q v H' → CE outer P w H s Q u s' :=
    fun {σ' H' v u} J rv q => ⟨v, H', J.os, J.bare, J.base, J.hok, rv, q⟩
  cases fl with
  | ret u =>
    obtain ⟨v, σ', H', J, rv, q⟩ := hs
    exact fin J rv q
  | next =>
    obtain ⟨σ', H', J, q⟩ := hs
    exact fin (v := V.non) (u := Value.none) J rfl q
  | brk =>
    obtain ⟨_, _, _, q⟩ := hs
    exact False.elim q
  | cont =>
    obtain ⟨_, _, _, q⟩ := hs
    exact False.elim q
section
variable {P : Program} {w : World} {K : PySem.W.Frag} {mg : Str → Option Value} {base : Heap}
theorem okP {x qual : Str} {st : Stmt} {f : Addr} {fd : FuncData} {N ps : List Str} {k : Nat} {sp : Addr × Obj → Sp} (F : Fun K x qual st f fd) (S : FnScope N ps (defScope st)) (len : ∀ p vs H Q E, sp p vs H Q E → vs.length = ps.length)
    (hbody : ∀ (cdv : Value) (A : Around) (outer : List Env) (s : Shared) (H : Hp) (vs : List V) (Q : VK) (E : XK) (p : Addr × Obj), RoomH k (A.deeper (envOfC qual (defScope st) s.heap.objs.size f cdv)) → (∃ vs, p.2.data = .fields vs) → sp p vs H Q E →
      ∃ t, PSs (cxH CX0 P w K mg base N qual (defScope st) f cdv A outer s H E p) (defBody st) t ∧ t { nx := fun _ H' => Q .non H', rt := Q } (L2.start N vs) H) : FnP P w K mg base (k + 1) f fd ps sp := by
  obtain ⟨oc, od, kV, doc, pm, an, cdv, ct, osl, rfl, lk, hcd⟩ := F.ex
  exact fn_ofP lk hcd S len fun A outer s H vs Q E p hr hf hsp => hbody cdv A outer s H vs Q E p hr hf hsp
end
section
variable {X : Cx} {k : Nat} {f : Addr} {fd : FuncData} {ps : List Str} {sp : Addr × Obj → Sp} {x : Str} {q pos : Pos} {e : Expr} {es : List Expr} {t : TA}
theorem run_fnP {pins : List (Addr × Obj)} {σ : St} {H : Hp} {s : Shared} {Q : VK} {us : List Value} {vs : List V} {p : Addr × Obj} (F : FnP X.prog X.w X.K X.mg X.base k f fd ps sp) (hr : RoomH k X.A) (hp : p ∈ X.pn) (hf : ∃ vs, p.2.data = .fields vs) (hb : Binds X.K fd ps [])
    (I : Inv X pins σ H s) (r : Vals vs us) (h : sp p vs H Q E0) : wpAny (model X.prog X.w) X.A (call (.ref f) us) (EP X pins σ Q) X.xe s := by
  have hl : us.length = ps.length := by rw [← r.length]; exact F.len _ _ _ _ _ h
  have b := hb s us I.kIn (by rw [List.append_nil]; exact hl)
  rw [List.append_nil] at b
  have P1 := I.pin p (List.mem_append_left _ hp)
  have hpin : PinOk X.stack H s p := ⟨P1.1, P1.2.1, fun hm => (List.mem_cons.mp (I.stkSub p.1 hm)).elim P1.2.2.1 P1.2.2.2.1, P1.2.2.2.2⟩
  refine wpAny_call (codeAny_mono (F.run X.A X.stack s H ⟨us, []⟩ us vs Q E0 p hr hpin hf I.env0 b r h) fun r s' hq => ?_)
  cases r with
  | error e => exact False.elim hq
  | ok fl =>
    cases fl with
    | ret u => exact I.after hq
    | next => exact False.elim hq
    | brk => exact False.elim hq
    | cont => exact False.elim hq
def tCallP (sp : Sp) (t : TA) : TE := fun σ H Q => t σ H fun vs H1 => sp vs H1 Q E0
theorem pe_callP {p : Addr × Obj} (F : FnP X.prog X.w X.K X.mg X.base k f fd ps sp) (hr : RoomH k X.A) (hp : p ∈ X.pn) (hf : ∃ vs, p.2.data = .fields vs) (hg : Gl X x) (hm : X.mg x = some (.ref f)) (hk : PySem.W.keepIn X.K (.ref f) = true) (hb : Binds X.K fd ps [])
    (ha : PA X (e :: es) t) (hdb : (x == ("__debug__" : Str)) = false := by decide) (he : starEach (e :: es) X.env = (false, eval e X.env) :: starEach es X.env := by rfl) (hpl : (backTo pos (starEach es X.env)).any (·.1) = false := by rfl) :
    PE X (.Call (.Name x q) (e :: es) [] pos) (tCallP (sp p) t) := by
  refine ⟨fun pins s σ H Q I h => ?_⟩
  refine wpAny_Call_Name_kw (ld_glob I hg hm ?_ hdb)
  refine PySem.W.callWith_K (h₀ := X.base) I.ok.mod.kin hk (thn (ha.run pos pins s σ H _ I h) fun us s1 ⟨vs, H1, I1, r, q⟩ => ⟨I1.kIn, ?_⟩) he hpl
  exact run_fnP F hr hp hf hb I1 r q
end

/-! isinstance of the exception that is pinned -/
theorem call_isP {X : Cx} {a D : Addr} {oe : Obj} (C : ExcC X.K D) (hp : (a, oe) ∈ X.pn) (hz : Zc (.ref D) none oe) (hf : ∃ vs, oe.data = .fields vs) : CallR X (.builtin "isinstance") (rIsE X.K D a) := by
  intro pins s σ H xs us Q I r h
  obtain ⟨c, cv, b, rfl, hcv, e, q⟩ := h
  cases r with
  | cons rx rr =>
    cases rr with
    | cons rt rr =>
      cases rr
      cases rx
      have ec := hcv _ rt
      subst ec
      obtain ⟨hget, _⟩ := I.pin (a, oe) (List.mem_append.mpr (.inl hp))
      obtain ⟨vs, hv⟩ := hf
      have J : PySem.W.InstAt s.heap a oe D none := by
        obtain ⟨oc, od, oda, osl⟩ := oe
        obtain ⟨h1, h2⟩ := hz
        dsimp only at h1 h2 hv
        subst h1 h2 hv
        exact ⟨hget, rfl, rfl, trivial⟩
      exact PySem.W.kia_one (PySem.W.handS_kitx_exc C.hg C.hk C.hs C.hd C.ha C.hn C.ht C.hm) I.kIn J e (fun z => nomatch z) fun tk => ⟨.bl b, H, I.kept (t' := tk) fun _ _ z => z, rfl, q⟩

/-! a list walked within an except suite; the body leaves ahead of its end -/
def tForLP (K : PySem.W.Frag) (tl : TE) (g : TG) (tb : TS) : TS := fun D σ H => tl σ H fun x H1 => ∃ (a : Addr) (xs : List V), x = .ref a ∧ SqL K H1 a xs ∧ ∃ Pv : Nat → St → Hp → Prop, Pv 0 σ H1 ∧
  ∀ i σ H, Pv i σ H → SqL K H a xs ∧ ∃ y, xs[i]? = some y ∧ g y σ H fun σ2 H2 => tb { D with nx := Pv (i + 1), ct := Pv (i + 1), bk := D.nx } σ2 H2
theorem ps_forLP {X : Cx} {tg l : Expr} {tl : TE} {g : TG} {tb : TS} {body : List Stmt} {pos : Pos} (own : PassesOwn (model X.prog X.w) X.A X.env X.xe) (hl : PE X l tl) (hg : PG X tg g) (hb : PSs X body tb)
    (hs : ∀ x, foldedSetIterable l X.env x = pure x := by intro _; rfl) : PS X (.For tg l body [] pos) (tForLP X.K tl g tb) := by
  constructor
  intro pins s σ H D I h
  refine wpAny_For (thn (hl.run pins s σ H _ I h) ?_) hs
  rintro v s1 ⟨x, H1, I1, r1, a, xs, rfl, hq, Pv, p0, turn⟩
  obtain rfl : v = Value.ref a := r1
  obtain ⟨its, _, p, _⟩ := I1.list hq
  refine wpAny_pyIter_list p.isList ?_
  generalize hit : s1.heap.objs.size = it
  have fresh : FpOk X pins H1 it := I1.fpOk (Nat.le_of_eq hit) (I1.hok.fresh (Nat.le_of_eq hit))
  have begun : (s1.heap.push { cls := .type "list_iterator", data := .fields #[.ref a, rawInt 0] }).IsListIter it a 0 := by
    rw [← hit]
    exact ⟨_, Heap.get?_push_size _ rfl, rfl, rfl⟩
  have I2 : Inv X pins σ H1 { s1 with heap := s1.heap.push { cls := .type "list_iterator", data := .fields #[.ref a, rawInt 0] } } := I1.kept (t' := s1.toks) fun _ _ e => Heap.get?_push_of_some _ e
  refine codeAny_forLoop_any (fun n s' => ∃ i σ' H', n = xs.length - i ∧ Inv X pins σ' H' s' ∧ s'.heap.IsListIter it a i ∧ H' it = none ∧ Pv i σ' H') ?_ xs.length ⟨0, σ, H1, rfl, I2, begun, fresh.1, p0⟩
  rintro n s3 ⟨i, σ3, H3, rfl, I3, st, f0, pv⟩
  obtain ⟨_, f1, f2, f3, f4, f5⟩ := fresh
  obtain ⟨q3, y, hy, step⟩ := turn i σ3 H3 pv
  have hi : i < xs.length := (List.getElem?_eq_some_iff.mp hy).1
  obtain ⟨its3, rv3, p3, _⟩ := I3.list q3
  obtain ⟨u, hu, ru⟩ := rv3.get hy
  refine wpAny_passesOwn own (wpAny_pyNext_list_item st p3.isList (x := u) (by simpa using hu) fun h' st' sb => ?_)
  have I4 : Inv X pins σ3 H3 { s3 with heap := h' } := I3.turned (t' := s3.toks) (fun b o hb e => (sb.2 b hb).trans e) f0 f1 f3 f4 f5
  obtain ⟨o, eo, co, d_o⟩ := id st'
  refine wpAny_passesOwn own (go_of (s := { s3 with heap := h' }) eo co d_o (by decide) ?_)
  have pinned : Inv X (pins ++ [(it, o)]) σ3 H3 { s3 with heap := h' } := I4.pins_of fun q hq => by
    rcases List.mem_append.mp hq with hq | hq
    · exact I4.pin q (List.mem_append_right _ hq)
    · obtain rfl := List.mem_singleton.mp hq
      exact ⟨eo, f0, f1, f2, fun v z => by rw [d_o] at z; cases z⟩
  refine wpAny_passesOwn own (thn (hg.run _ _ σ3 H3 y u _ pinned ru step) ?_)
  rintro _ s6 ⟨σ6, H6, I6, q6⟩
  refine wpAny_passesOwn own (thn (hb.run _ s6 σ6 H6 _ I6 q6) ?_)
  intro f s7 q7
  have drop : ∀ {σ7 : St} {H7 : Hp}, Inv X (pins ++ [(it, o)]) σ7 H7 s7 → Inv X pins σ7 H7 s7 := fun J => J.pins_of fun q hq => J.pin q (List.mem_append_right _ (List.mem_append_left _ hq))
  have next : ∀ {σ7 : St} {H7 : Hp}, Inv X (pins ++ [(it, o)]) σ7 H7 s7 → Pv (i + 1) σ7 H7 → ∃ m, m < xs.length - i ∧ ∃ j σ' H', m = xs.length - j ∧ Inv X pins σ' H' s7 ∧ s7.heap.IsListIter it a j ∧ H' it = none ∧ Pv j σ' H' := fun {σ7 H7} J n7 => by
    have w := J.pin (it, o) (List.mem_append_right _ (List.mem_append_right _ (List.mem_singleton.mpr rfl)))
    exact ⟨xs.length - (i + 1), by omega, i + 1, σ7, H7, rfl, drop J, ⟨o, w.1, co, d_o⟩, w.2.1, n7⟩
  cases f with
  | next =>
    obtain ⟨σ7, H7, J, n7⟩ := q7
    exact next J n7
  | cont =>
    obtain ⟨σ7, H7, J, n7⟩ := q7
    exact next J n7
  | brk =>
    obtain ⟨σ7, H7, J, n7⟩ := q7
    exact ⟨σ7, H7, drop J, n7⟩
  | ret v =>
    obtain ⟨x7, σ7, H7, J, r7, n7⟩ := q7
    exact ⟨x7, σ7, H7, drop J, r7, n7⟩

/-! a method that may raise: the wish by the caller's slots -/
section
variable {X : Cx} {CX : CXT} {k : Nat} {f C : Addr} {fd : FuncData} {ps : List Str} {sp : Sp} {E : St → XK} {m : Str} {pos apos : Pos} {e o : Expr} {es : List Expr} {ta : TE} {t : TA}
theorem pe_methE {pl : Sem Bool} (he : PE X o ta) (c : Cls X.K C) (hm : Meth X.K C m f) (F : FnOk X.prog X.w X.K X.mg X.base CX k f fd ps sp) (hr : Room k X.A) (hb : Binds X.K fd ps []) (hx : ∀ σ, PassesAt CX X σ (E σ)) (ha : PA X (e :: es) t)
    (hst : starEach (e :: es) X.env = (false, eval e X.env) :: starEach es X.env := by rfl) (hpl : (backTo pos (starEach es X.env)).any (·.1) = false := by rfl)
    (ht : eval (.Call (.Attribute o m apos) (e :: es) [] pos) X.env = (do
      let ov ← eval o X.env
      standAt apos.atName
      let (f, first) ← holding [ov] (getMethod ov m pl)
      callWith pos f first (backTo pos (starEach (e :: es) X.env)) (backToKw pos (keywordEach [] X.env))) := by rfl) :
    PE X (.Call (.Attribute o m apos) (e :: es) [] pos) (tMethH C m sp E ta t) := by
  refine ⟨fun pins s σ H Q I h => ?_⟩
  refine PySem.W.methodCall_KW (pl := pl) (thn (he.run pins s σ H _ I h) fun u s1 ⟨x, H1, I1, rx, a, dx, fs, ex, ea, l, q⟩ => ?_) ht
  subst ex
  obtain rfl : u = Value.ref a := rx
  refine getmeth_ok I1 ea c hm l ?_
  refine PySem.W.callWith_K (first := [.ref a]) (h₀ := X.base) I.ok.mod.kin hm.kp (thn (ha.run pos pins s1 σ H1 _ I1 q) fun us s2 ⟨vs, H2, I2, r, q2⟩ => ⟨I2.kIn, ?_⟩) hst hpl
  exact run_fnS (us := .ref a :: us) (vs := .ref a :: vs) F hr hb (hx σ) I2 (.cons rfl r) q2
end
end LX

namespace KB
open PySem L2 L2H LX
/-! ### heaps: what stays -/
/-- all but the ones named stand as they stood; tuples always; nothing goes -/
structure Ch (H H' : Hp) (l : List Addr) : Prop where
  st : ∀ b o, H b = some o → (b ∉ l ∨ ∃ xs, o = .tup xs) → H' b = some o
  th : ∀ b o, H b = some o → ∃ u, H' b = some u
theorem Ch.refl (H : Hp) (l : List Addr) : Ch H H l := ⟨fun _ _ h _ => h, fun _ o h => ⟨o, h⟩⟩
theorem Ch.of {H H' : Hp} (s : Same H H') (l : List Addr) : Ch H H' l := ⟨fun _ _ h _ => s _ _ h, fun _ o h => ⟨o, s _ _ h⟩⟩
theorem Ch.trans {H H1 H2 : Hp} {l : List Addr} (a : Ch H H1 l) (b : Ch H1 H2 l) : Ch H H2 l := ⟨fun _ _ h n => b.st _ _ (a.st _ _ h n) n, fun _ _ h => let ⟨_, z⟩ := a.th _ _ h; b.th _ _ z⟩
theorem Ch.mono {H H1 : Hp} {l m : List Addr} (a : Ch H H1 l) (s : ∀ x ∈ l, x ∈ m) : Ch H H1 m := ⟨fun _ _ h n => a.st _ _ h (n.imp (fun z y => z (s _ y)) id), a.th⟩
theorem Ch.same {H H1 H2 : Hp} {l : List Addr} (a : Ch H H1 l) (s : Same H1 H2) : Ch H H2 l := a.trans (Ch.of s l)
theorem Ch.new {H H' : Hp} {l : List Addr} (h : Ch H H' l) {a : Addr} (o : HO) (n : H a = none) : Ch H (upd H' a o) l := ⟨fun b u e m => by
  rw [upd_ne (ne_of_none e n)]
  exact h.st b u e m, fun b u e => by
  rw [upd_ne (ne_of_none e n)]
  exact h.th b u e⟩
theorem Ch.mut {H H' : Hp} {l : List Addr} (h : Ch H H' l) {a : Addr} {o u : HO} (m : a ∈ l) (e : H a = some u) (n : ∀ xs, u ≠ .tup xs) : Ch H (upd H' a o) l := ⟨fun b v eb k => by
  have ne : b ≠ a := fun z => by
    subst z
    rw [e] at eb
    cases eb
    rcases k with k | ⟨xs, k⟩
    · exact k m
    · exact n xs k
  rw [upd_ne ne]
  exact h.st b v eb k, fun b v eb => by
  by_cases z : b = a
  · subst z
    exact ⟨o, upd_same⟩
  · rw [upd_ne z]
    exact h.th b v eb⟩
theorem Ch.tup {H H' : Hp} {l : List Addr} (h : Ch H H' l) : ∀ b xs, H b = some (.tup xs) → H' b = some (.tup xs) := fun b xs e => h.st b _ e (.inr ⟨xs, rfl⟩)
theorem Ch.at {H H' : Hp} {l : List Addr} (h : Ch H H' l) {b : Addr} {o : HO} (e : H b = some o) (n : b ∉ l) : H' b = some o := h.st b o e (.inl n)
theorem Ch.none {H H' : Hp} {l : List Addr} (h : Ch H H' l) : ∀ x, H' x = Option.none → H x = Option.none := fun x e => by
  cases q : H x with
  | none => rfl
  | some o =>
    obtain ⟨u, hu⟩ := h.th x o q
    rw [e] at hu
    cases hu
theorem same_new {H : Hp} {l : Addr} {o : HO} (h : H l = Option.none) : Same H (upd H l o) := fun b u e => by rw [upd_ne (ne_of_none e h)]; exact e
/-- where only new ones and such as were not there at the start were changed -/
theorem Ch.old {H0 H H' : Hp} {l : List Addr} (s : Same H0 H) (c : Ch H H' l) (f : ∀ b ∈ l, H0 b = Option.none) : Same H0 H' := fun b o e => c.st _ _ (s _ _ e) (.inl fun m => by
  have := f b m
  rw [e] at this
  cases this)
/-! ### places in lists -/
theorem at_map {α : Type} {f : α → V} {ns : List α} {z : Int} (h0 : 0 ≤ z) (h1 : z < ns.length) : ∃ t, t ∈ ns ∧ ns[z.toNat]? = some t ∧ atI (ns.map f) z = some (f t) := by
  obtain ⟨j, rfl⟩ := Int.eq_ofNat_of_zero_le h0
  have hl : j < ns.length := by omega
  exact ⟨ns[j], List.getElem_mem hl, List.getElem?_eq_getElem hl, atI_nat (by rw [List.getElem?_map, List.getElem?_eq_getElem hl]; rfl)⟩
theorem at_ints {ns : List Int} {z : Int} (h0 : 0 ≤ z) (h1 : z < ns.length) : ∃ t, t ∈ ns ∧ atI (ns.map V.int) z = some (V.int t) := by
  obtain ⟨t, a, _, b⟩ := at_map (f := V.int) h0 h1
  exact ⟨t, a, b⟩
theorem at_strs {ns : List Str} {z : Int} (h0 : 0 ≤ z) (h1 : z < ns.length) : ∃ t, t ∈ ns ∧ atI (ns.map V.str) z = some (V.str t) := by
  obtain ⟨t, a, _, b⟩ := at_map (f := V.str) h0 h1
  exact ⟨t, a, b⟩
/-! ### texts -/
abbrev tl (z : Str) : List Nat := z.cps.toList
/-- every sign is one; at most n of them -/
structure TOk (n : Nat) (z : Str) : Prop where
  ok : ∀ c ∈ tl z, c < 0x110000
  le : z.length ≤ n
theorem tl_len (z : Str) : (tl z).length = z.length := Array.length_toList
theorem TOk.mono {n m : Nat} {z : Str} (h : TOk n z) (l : n ≤ m) : TOk m z := ⟨h.ok, Nat.le_trans h.le l⟩
theorem TOk.str {n : Nat} {z : Str} (h : TOk n z) : PyData.strOk z = true := by
  unfold PyData.strOk
  rw [← Array.all_toList, List.all_eq_true]
  exact fun c hc => decide_eq_true (h.ok c hc)
theorem TOk.line {n : Nat} {z : Str} (h : TOk n z) (l : n ≤ 1000) : z.length ≤ sizeLine := Nat.le_trans h.le (Nat.le_trans l (by decide))
theorem TOk.app {n m : Nat} {x y : Str} (h : TOk n x) (k : TOk m y) : TOk (n + m) (x ++ y) := by
  have e : tl (x ++ y) = tl x ++ tl y := TL.tl_append x y
  refine ⟨fun c hc => ?_, ?_⟩
  · rw [e] at hc
    rcases List.mem_append.mp hc with hc | hc
    · exact h.ok c hc
    · exact k.ok c hc
  · rw [← tl_len, e, List.length_append, tl_len, tl_len]
    have := h.le
    have := k.le
    omega
theorem TOk.cut {n : Nat} {z : Str} (h : TOk n z) (lo hi : Option Int) : TOk n (cutS z lo hi) := by
  refine ⟨fun c hc => ?_, Nat.le_trans (cutS_length z lo hi) h.le⟩
  have e : tl (cutS z lo hi) = (tl z |>.drop (HT.sIx z.length 0 lo)).take (HT.sIx z.length z.length hi - HT.sIx z.length 0 lo) := by
    unfold cutS tl
    exact List.toList_toArray
  rw [e] at hc
  exact h.ok c (List.mem_of_mem_drop (List.mem_of_mem_take hc))
theorem TOk.nil : TOk 0 "" := by
  refine ⟨fun c hc => ?_, Nat.le_refl _⟩
  have e : tl ("" : Str) = [] := rfl
  rw [e] at hc
  cases hc
theorem TOk.one {c : Nat} (h : c < 0x110000) : TOk 1 (⟨#[c]⟩ : Str) := by
  refine ⟨fun d hd => ?_, Nat.le_refl _⟩
  have e : tl (⟨#[c]⟩ : Str) = [c] := rfl
  rw [e] at hd
  rw [List.mem_singleton.mp hd]
  exact h
theorem join_ok : ∀ {ys : List Str}, (∀ y ∈ ys, TOk 1 y) → TOk ys.length (Str.join "" ys)
  | [], _ => TOk.nil
  | [x], h => h x List.mem_cons_self
  | x :: z :: r, h => by
    have a := h x List.mem_cons_self
    have b := join_ok (ys := z :: r) fun y hy => h y (List.mem_cons_of_mem _ hy)
    have c := (a.app TOk.nil).app b
    exact c.mono (by simp only [List.length_cons]; omega)
theorem join_len : ∀ {ys : List Str}, (∀ y ∈ ys, TOk 1 y) → (ys.map (·.length)).sum + ys.length * ("" : Str).length ≤ ys.length
  | [], _ => Nat.le_refl _
  | x :: r, h => by
    have a := (h x List.mem_cons_self).le
    have b := join_len (ys := r) fun y hy => h y (List.mem_cons_of_mem _ hy)
    have e : ("" : Str).length = 0 := rfl
    rw [e, Nat.mul_zero, Nat.add_zero] at b ⊢
    rw [List.map_cons, List.sum_cons, List.length_cons]
    omega
/-! ### a change: a tuple of five -/
structure Row where
  n : Int
  t : Int
  w : Str
  k : Str
  v : Str
def Row.V (r : Row) : List V := [.int r.n, .int r.t, .str r.w, .str r.k, .str r.v]
def Row.D (r : Row) : PyData := .tuple [.int r.n, .int r.t, .str r.w, .str r.k, .str r.v]
structure Row.Ok (r : Row) : Prop where
  w : PyData.strOk r.w = true
  k : TOk 60 r.k
  v : TOk 60 r.v
abbrev RowsAt (H : Hp) (ts : List Addr) (rs : List Row) : Prop := Paired (fun (t : Addr) (r : Row) => H t = some (.tup r.V)) ts rs
theorem RowsAt.keep {H H' : Hp} {ts : List Addr} {rs : List Row} (m : RowsAt H ts rs) (k : ∀ b xs, H b = some (.tup xs) → H' b = some (.tup xs)) : RowsAt H' ts rs := Paired.mono (fun _ _ h => k _ _ h) m
theorem RowsAt.dp {K : PySem.W.Frag} {H : Hp} : ∀ {ts : List Addr} {rs : List Row}, RowsAt H ts rs → DpAll K H (ts.map V.ref) (rs.map Row.D)
  | _, _, .nil => .nil
  | _, _, .cons r m => .cons (.tup (.inl (.inl r)) (.cons (.int _) (.cons (.int _) (.cons (.str _) (.cons (.str _) (.cons (.str _) .nil)))))) (RowsAt.dp m)
theorem RowsAt.at {H : Hp} : ∀ {ts : List Addr} {rs : List Row} {i : Nat} {x : V}, RowsAt H ts rs → (ts.map V.ref)[i]? = some x → ∃ t r, x = V.ref t ∧ rs[i]? = some r ∧ H t = some (.tup r.V)
  | _, _, i, x, .nil, h => by simp at h
  | _, _, 0, x, .cons r m, h => by
    have e : x = V.ref _ := (Option.some.inj h).symm
    exact ⟨_, _, e, rfl, r⟩
  | _, _, i + 1, x, .cons r m, h => RowsAt.at (i := i) m h
theorem Row.shaped {r : Row} (h : r.Ok) : r.D.canLay0 = true := by
  show (true && (true && (PyData.strOk r.w && (PyData.strOk r.k && (PyData.strOk r.v && true))))) = true
  rw [h.w, h.k.str, h.v.str]
  rfl
theorem rows_lay : ∀ {rs : List Row}, (∀ r ∈ rs, r.Ok) → PyData.canLayAll0 (rs.map Row.D) = true
  | [], _ => rfl
  | r :: rs, h => by
    show (r.D.canLay0 && PyData.canLayAll0 (rs.map Row.D)) = true
    rw [Row.shaped (h r List.mem_cons_self), rows_lay fun x hx => h x (List.mem_cons_of_mem _ hx)]
    rfl
theorem rows_depth : ∀ rs : List Row, PyData.depthAll (rs.map Row.D) ≤ 2
  | [] => by simp [PyData.depthAll]
  | r :: rs => by
    have h := rows_depth rs
    simp only [List.map_cons, PyData.depthAll, Row.D, PyData.depth]
    omega
theorem rows_shaped {rs : List Row} (h : ∀ r ∈ rs, r.Ok) : SeqAt.shaped (.list (rs.map Row.D)) = true := by
  have d := rows_depth rs
  unfold SeqAt.shaped
  rw [Bool.and_eq_true]
  refine ⟨rows_lay h, decide_eq_true ?_⟩
  simp only [PyData.depth]
  omega
theorem rows_eqv {rs : List Row} (h : ∀ r ∈ rs, r.Ok) : PyData.eqv (.list (rs.map Row.D)) (.list (rs.map Row.D)) = true := PySem.SeqAt.eqv_refl _ (rows_lay h)
/-! ### pairs of texts -/
abbrev PairsAt (H : Hp) (ts : List Addr) (ps : List (Str × Str)) : Prop := Paired (fun (t : Addr) (p : Str × Str) => H t = some (.tup [.str p.1, .str p.2])) ts ps
def pairD (p : Str × Str) : PyData := .tuple [.str p.1, .str p.2]
def PairOk (p : Str × Str) : Prop := TOk 60 p.1 ∧ TOk 60 p.2
theorem PairsAt.keep {H H' : Hp} {ts : List Addr} {ps : List (Str × Str)} (m : PairsAt H ts ps) (k : ∀ b xs, H b = some (.tup xs) → H' b = some (.tup xs)) : PairsAt H' ts ps := Paired.mono (fun _ _ h => k _ _ h) m
theorem PairsAt.dp {K : PySem.W.Frag} {H : Hp} : ∀ {ts : List Addr} {ps : List (Str × Str)}, PairsAt H ts ps → DpAll K H (ts.map V.ref) (ps.map pairD)
  | _, _, .nil => .nil
  | _, _, .cons r m => .cons (.tup (.inl (.inl r)) (.cons (.str _) (.cons (.str _) .nil))) (PairsAt.dp m)
theorem PairsAt.at {H : Hp} : ∀ {ts : List Addr} {ps : List (Str × Str)} {i : Nat} {x : V}, PairsAt H ts ps → (ts.map V.ref)[i]? = some x → ∃ t a b, x = V.ref t ∧ H t = some (.tup [.str a, .str b])
  | _, _, i, x, .nil, h => by simp at h
  | _, _, 0, x, .cons r m, h => by
    have e : x = V.ref _ := (Option.some.inj h).symm
    exact ⟨_, _, _, e, r⟩
  | _, _, i + 1, x, .cons r m, h => PairsAt.at (i := i) m h
theorem pairs_lay : ∀ {ps : List (Str × Str)}, (∀ r ∈ ps, PairOk r) → PyData.canLayAll0 (ps.map pairD) = true
  | [], _ => rfl
  | p :: r, h => by
    show ((PyData.strOk p.1 && (PyData.strOk p.2 && true)) && PyData.canLayAll0 (r.map pairD)) = true
    rw [(h p List.mem_cons_self).1.str, (h p List.mem_cons_self).2.str, pairs_lay fun x hx => h x (List.mem_cons_of_mem _ hx)]
    rfl
theorem pairs_depth : ∀ ps : List (Str × Str), PyData.depthAll (ps.map pairD) ≤ 2
  | [] => by simp [PyData.depthAll]
  | p :: r => by
    have h := pairs_depth r
    simp only [List.map_cons, PyData.depthAll, pairD, PyData.depth]
    omega
theorem pairs_shaped {ps : List (Str × Str)} (h : ∀ r ∈ ps, PairOk r) : SeqAt.shaped (.list (ps.map pairD)) = true := by
  have d := pairs_depth ps
  unfold SeqAt.shaped
  rw [Bool.and_eq_true]
  refine ⟨pairs_lay h, decide_eq_true ?_⟩
  simp only [PyData.depth]
  omega
theorem pairs_eqv {ps : List (Str × Str)} (h : ∀ r ∈ ps, PairOk r) : PyData.eqv (.list (ps.map pairD)) (.list (ps.map pairD)) = true := PySem.SeqAt.eqv_refl _ (pairs_lay h)
end KB

namespace KL
open PySem L2 L2H LX KB
def top (i : Nat) : Stmt := PySem.Challenge.pw_leasewatch_k08_whole_every_history.main.body.getD i (.Pass ⟨0, 0, 0, 0⟩)
abbrev s_Leases_init : Stmt := inClass (top 10) 0
abbrev p_Leases_init : List Str := ["self"]
abbrev n_Leases_init : List Str := ["self"]
theorem sc_Leases_init : FnScope n_Leases_init p_Leases_init (defScope s_Leases_init) := ⟨rfl, rfl, rfl, by decide +kernel, rfl, by decide +kernel, by decide +kernel⟩
abbrev s_Leases_grant : Stmt := inClass (top 10) 1
abbrev p_Leases_grant : List Str := ["self", "now", "ticks"]
abbrev n_Leases_grant : List Str := ["self", "now", "ticks", "lease"]
theorem sc_Leases_grant : FnScope n_Leases_grant p_Leases_grant (defScope s_Leases_grant) := ⟨rfl, rfl, rfl, by decide +kernel, rfl, by decide +kernel, by decide +kernel⟩
abbrev s_Leases_renew : Stmt := inClass (top 10) 2
abbrev p_Leases_renew : List Str := ["self", "now", "lease"]
abbrev n_Leases_renew : List Str := ["self", "now", "lease"]
theorem sc_Leases_renew : FnScope n_Leases_renew p_Leases_renew (defScope s_Leases_renew) := ⟨rfl, rfl, rfl, by decide +kernel, rfl, by decide +kernel, by decide +kernel⟩
abbrev s_Leases_drop : Stmt := inClass (top 10) 3
abbrev p_Leases_drop : List Str := ["self", "lease"]
abbrev n_Leases_drop : List Str := ["self", "lease"]
theorem sc_Leases_drop : FnScope n_Leases_drop p_Leases_drop (defScope s_Leases_drop) := ⟨rfl, rfl, rfl, by decide +kernel, rfl, by decide +kernel, by decide +kernel⟩
abbrev s_Leases_due : Stmt := inClass (top 10) 4
abbrev p_Leases_due : List Str := ["self", "until"]
abbrev n_Leases_due : List Str := ["self", "until", "lease", "end"]
theorem sc_Leases_due : FnScope n_Leases_due p_Leases_due (defScope s_Leases_due) := ⟨rfl, rfl, rfl, by decide +kernel, rfl, by decide +kernel, by decide +kernel⟩
abbrev s_Leases_refuse_unknown : Stmt := inClass (top 10) 5
abbrev p_Leases_refuse_unknown : List Str := ["self", "lease"]
abbrev n_Leases_refuse_unknown : List Str := ["self", "lease"]
theorem sc_Leases_refuse_unknown : FnScope n_Leases_refuse_unknown p_Leases_refuse_unknown (defScope s_Leases_refuse_unknown) := ⟨rfl, rfl, rfl, by decide +kernel, rfl, by decide +kernel, by decide +kernel⟩
abbrev s_Log_init : Stmt := inClass (top 12) 0
abbrev p_Log_init : List Str := ["self"]
abbrev n_Log_init : List Str := ["self"]
theorem sc_Log_init : FnScope n_Log_init p_Log_init (defScope s_Log_init) := ⟨rfl, rfl, rfl, by decide +kernel, rfl, by decide +kernel, by decide +kernel⟩
abbrev s_Log_note : Stmt := inClass (top 12) 1
abbrev p_Log_note : List Str := ["self", "tick", "word", "key", "value"]
abbrev n_Log_note : List Str := ["self", "tick", "word", "key", "value", "number"]
theorem sc_Log_note : FnScope n_Log_note p_Log_note (defScope s_Log_note) := ⟨rfl, rfl, rfl, by decide +kernel, rfl, by decide +kernel, by decide +kernel⟩
abbrev s_Log_last : Stmt := inClass (top 12) 2
abbrev p_Log_last : List Str := ["self"]
abbrev n_Log_last : List Str := ["self"]
theorem sc_Log_last : FnScope n_Log_last p_Log_last (defScope s_Log_last) := ⟨rfl, rfl, rfl, by decide +kernel, rfl, by decide +kernel, by decide +kernel⟩
abbrev s_Log_first : Stmt := inClass (top 12) 3
abbrev p_Log_first : List Str := ["self"]
abbrev n_Log_first : List Str := ["self"]
theorem sc_Log_first : FnScope n_Log_first p_Log_first (defScope s_Log_first) := ⟨rfl, rfl, rfl, by decide +kernel, rfl, by decide +kernel, by decide +kernel⟩
abbrev s_Log_wanted : Stmt := inClass (top 12) 4
abbrev p_Log_wanted : List Str := ["self", "prefix", "behind", "most"]
abbrev n_Log_wanted : List Str := ["self", "prefix", "behind", "most", "told", "at", "change"]
theorem sc_Log_wanted : FnScope n_Log_wanted p_Log_wanted (defScope s_Log_wanted) := ⟨rfl, rfl, rfl, by decide +kernel, rfl, by decide +kernel, by decide +kernel⟩
abbrev s_Log_forget : Stmt := inClass (top 12) 5
abbrev p_Log_forget : List Str := ["self", "upto"]
abbrev n_Log_forget : List Str := ["self", "upto", "many"]
theorem sc_Log_forget : FnScope n_Log_forget p_Log_forget (defScope s_Log_forget) := ⟨rfl, rfl, rfl, by decide +kernel, rfl, by decide +kernel, by decide +kernel⟩
abbrev s_Watcher_init : Stmt := inClass (top 14) 0
abbrev p_Watcher_init : List Str := ["self", "prefix", "start"]
abbrev n_Watcher_init : List Str := ["self", "prefix", "start"]
theorem sc_Watcher_init : FnScope n_Watcher_init p_Watcher_init (defScope s_Watcher_init) := ⟨rfl, rfl, rfl, by decide +kernel, rfl, by decide +kernel, by decide +kernel⟩
abbrev s_Room_init : Stmt := inClass (top 15) 0
abbrev p_Room_init : List Str := ["self"]
abbrev n_Room_init : List Str := ["self"]
theorem sc_Room_init : FnScope n_Room_init p_Room_init (defScope s_Room_init) := ⟨rfl, rfl, rfl, by decide +kernel, rfl, by decide +kernel, by decide +kernel⟩
abbrev s_Room_grant : Stmt := inClass (top 15) 1
abbrev p_Room_grant : List Str := ["self", "ticks"]
abbrev n_Room_grant : List Str := ["self", "ticks"]
theorem sc_Room_grant : FnScope n_Room_grant p_Room_grant (defScope s_Room_grant) := ⟨rfl, rfl, rfl, by decide +kernel, rfl, by decide +kernel, by decide +kernel⟩
abbrev s_Room_renew : Stmt := inClass (top 15) 2
abbrev p_Room_renew : List Str := ["self", "lease"]
abbrev n_Room_renew : List Str := ["self", "lease"]
theorem sc_Room_renew : FnScope n_Room_renew p_Room_renew (defScope s_Room_renew) := ⟨rfl, rfl, rfl, by decide +kernel, rfl, by decide +kernel, by decide +kernel⟩
abbrev s_Room_drop : Stmt := inClass (top 15) 3
abbrev p_Room_drop : List Str := ["self", "lease"]
abbrev n_Room_drop : List Str := ["self", "lease"]
theorem sc_Room_drop : FnScope n_Room_drop p_Room_drop (defScope s_Room_drop) := ⟨rfl, rfl, rfl, by decide +kernel, rfl, by decide +kernel, by decide +kernel⟩
abbrev s_Room_wait : Stmt := inClass (top 15) 4
abbrev p_Room_wait : List Str := ["self", "ticks"]
abbrev n_Room_wait : List Str := ["self", "ticks", "ended", "end", "lease"]
theorem sc_Room_wait : FnScope n_Room_wait p_Room_wait (defScope s_Room_wait) := ⟨rfl, rfl, rfl, by decide +kernel, rfl, by decide +kernel, by decide +kernel⟩
abbrev s_Room_put : Stmt := inClass (top 15) 5
abbrev p_Room_put : List Str := ["self", "key", "value", "lease"]
abbrev n_Room_put : List Str := ["self", "key", "value", "lease"]
theorem sc_Room_put : FnScope n_Room_put p_Room_put (defScope s_Room_put) := ⟨rfl, rfl, rfl, by decide +kernel, rfl, by decide +kernel, by decide +kernel⟩
abbrev s_Room_cut : Stmt := inClass (top 15) 6
abbrev p_Room_cut : List Str := ["self", "key", "lease"]
abbrev n_Room_cut : List Str := ["self", "key", "lease"]
theorem sc_Room_cut : FnScope n_Room_cut p_Room_cut (defScope s_Room_cut) := ⟨rfl, rfl, rfl, by decide +kernel, rfl, by decide +kernel, by decide +kernel⟩
abbrev s_Room_value : Stmt := inClass (top 15) 7
abbrev p_Room_value : List Str := ["self", "key"]
abbrev n_Room_value : List Str := ["self", "key"]
theorem sc_Room_value : FnScope n_Room_value p_Room_value (defScope s_Room_value) := ⟨rfl, rfl, rfl, by decide +kernel, rfl, by decide +kernel, by decide +kernel⟩
abbrev s_Room_holder : Stmt := inClass (top 15) 8
abbrev p_Room_holder : List Str := ["self", "key"]
abbrev n_Room_holder : List Str := ["self", "key"]
theorem sc_Room_holder : FnScope n_Room_holder p_Room_holder (defScope s_Room_holder) := ⟨rfl, rfl, rfl, by decide +kernel, rfl, by decide +kernel, by decide +kernel⟩
abbrev s_Room_pairs : Stmt := inClass (top 15) 9
abbrev p_Room_pairs : List Str := ["self", "prefix"]
abbrev n_Room_pairs : List Str := ["self", "prefix", "key", "value"]
theorem sc_Room_pairs : FnScope n_Room_pairs p_Room_pairs (defScope s_Room_pairs) := ⟨rfl, rfl, rfl, by decide +kernel, rfl, by decide +kernel, by decide +kernel⟩
abbrev s_Room_last : Stmt := inClass (top 15) 10
abbrev p_Room_last : List Str := ["self"]
abbrev n_Room_last : List Str := ["self"]
theorem sc_Room_last : FnScope n_Room_last p_Room_last (defScope s_Room_last) := ⟨rfl, rfl, rfl, by decide +kernel, rfl, by decide +kernel, by decide +kernel⟩
abbrev s_Room_first : Stmt := inClass (top 15) 11
abbrev p_Room_first : List Str := ["self"]
abbrev n_Room_first : List Str := ["self"]
theorem sc_Room_first : FnScope n_Room_first p_Room_first (defScope s_Room_first) := ⟨rfl, rfl, rfl, by decide +kernel, rfl, by decide +kernel, by decide +kernel⟩
abbrev s_Room_watch : Stmt := inClass (top 15) 12
abbrev p_Room_watch : List Str := ["self", "prefix", "start"]
abbrev n_Room_watch : List Str := ["self", "prefix", "start"]
theorem sc_Room_watch : FnScope n_Room_watch p_Room_watch (defScope s_Room_watch) := ⟨rfl, rfl, rfl, by decide +kernel, rfl, by decide +kernel, by decide +kernel⟩
abbrev s_Room_pull : Stmt := inClass (top 15) 13
abbrev p_Room_pull : List Str := ["self", "watcher", "most"]
abbrev n_Room_pull : List Str := ["self", "watcher", "most", "watching", "row"]
theorem sc_Room_pull : FnScope n_Room_pull p_Room_pull (defScope s_Room_pull) := ⟨rfl, rfl, rfl, by decide +kernel, rfl, by decide +kernel, by decide +kernel⟩
abbrev s_Room_confirm : Stmt := inClass (top 15) 14
abbrev p_Room_confirm : List Str := ["self", "watcher"]
abbrev n_Room_confirm : List Str := ["self", "watcher", "watching"]
theorem sc_Room_confirm : FnScope n_Room_confirm p_Room_confirm (defScope s_Room_confirm) := ⟨rfl, rfl, rfl, by decide +kernel, rfl, by decide +kernel, by decide +kernel⟩
abbrev s_Room_broken : Stmt := inClass (top 15) 15
abbrev p_Room_broken : List Str := ["self", "watcher"]
abbrev n_Room_broken : List Str := ["self", "watcher", "watching"]
theorem sc_Room_broken : FnScope n_Room_broken p_Room_broken (defScope s_Room_broken) := ⟨rfl, rfl, rfl, by decide +kernel, rfl, by decide +kernel, by decide +kernel⟩
abbrev s_Room_leave : Stmt := inClass (top 15) 16
abbrev p_Room_leave : List Str := ["self", "watcher"]
abbrev n_Room_leave : List Str := ["self", "watcher"]
theorem sc_Room_leave : FnScope n_Room_leave p_Room_leave (defScope s_Room_leave) := ⟨rfl, rfl, rfl, by decide +kernel, rfl, by decide +kernel, by decide +kernel⟩
abbrev s_Room_trim : Stmt := inClass (top 15) 17
abbrev p_Room_trim : List Str := ["self"]
abbrev n_Room_trim : List Str := ["self", "upto", "watching"]
theorem sc_Room_trim : FnScope n_Room_trim p_Room_trim (defScope s_Room_trim) := ⟨rfl, rfl, rfl, by decide +kernel, rfl, by decide +kernel, by decide +kernel⟩
abbrev s_Room_u_end : Stmt := inClass (top 15) 18
abbrev p_Room_u_end : List Str := ["self", "lease", "tick"]
abbrev n_Room_u_end : List Str := ["self", "lease", "tick", "key", "held", "holder"]
theorem sc_Room_u_end : FnScope n_Room_u_end p_Room_u_end (defScope s_Room_u_end) := ⟨rfl, rfl, rfl, by decide +kernel, rfl, by decide +kernel, by decide +kernel⟩
abbrev s_Room_u_take_out : Stmt := inClass (top 15) 19
abbrev p_Room_u_take_out : List Str := ["self", "key", "tick"]
abbrev n_Room_u_take_out : List Str := ["self", "key", "tick"]
theorem sc_Room_u_take_out : FnScope n_Room_u_take_out p_Room_u_take_out (defScope s_Room_u_take_out) := ⟨rfl, rfl, rfl, by decide +kernel, rfl, by decide +kernel, by decide +kernel⟩
abbrev s_Room_u_refuse_lease : Stmt := inClass (top 15) 20
abbrev p_Room_u_refuse_lease : List Str := ["self", "lease"]
abbrev n_Room_u_refuse_lease : List Str := ["self", "lease"]
theorem sc_Room_u_refuse_lease : FnScope n_Room_u_refuse_lease p_Room_u_refuse_lease (defScope s_Room_u_refuse_lease) := ⟨rfl, rfl, rfl, by decide +kernel, rfl, by decide +kernel, by decide +kernel⟩
abbrev s_Room_u_refuse_held : Stmt := inClass (top 15) 21
abbrev p_Room_u_refuse_held : List Str := ["self", "key", "lease"]
abbrev n_Room_u_refuse_held : List Str := ["self", "key", "lease", "holder"]
theorem sc_Room_u_refuse_held : FnScope n_Room_u_refuse_held p_Room_u_refuse_held (defScope s_Room_u_refuse_held) := ⟨rfl, rfl, rfl, by decide +kernel, rfl, by decide +kernel, by decide +kernel⟩
abbrev s_Room_u_watching : Stmt := inClass (top 15) 22
abbrev p_Room_u_watching : List Str := ["self", "watcher"]
abbrev n_Room_u_watching : List Str := ["self", "watcher"]
theorem sc_Room_u_watching : FnScope n_Room_u_watching p_Room_u_watching (defScope s_Room_u_watching) := ⟨rfl, rfl, rfl, by decide +kernel, rfl, by decide +kernel, by decide +kernel⟩
abbrev s_Room_u_refuse_watcher : Stmt := inClass (top 15) 23
abbrev p_Room_u_refuse_watcher : List Str := ["self", "watcher"]
abbrev n_Room_u_refuse_watcher : List Str := ["self", "watcher"]
theorem sc_Room_u_refuse_watcher : FnScope n_Room_u_refuse_watcher p_Room_u_refuse_watcher (defScope s_Room_u_refuse_watcher) := ⟨rfl, rfl, rfl, by decide +kernel, rfl, by decide +kernel, by decide +kernel⟩
abbrev s_whole : Stmt := top 17
abbrev p_whole : List Str := ["_law_found"]
abbrev n_whole : List Str := ["_law_found"]
theorem sc_whole : FnScope n_whole p_whole (defScope s_whole) := ⟨rfl, rfl, rfl, by decide +kernel, rfl, by decide +kernel, by decide +kernel⟩
abbrev s_cell_at : Stmt := top 18
abbrev p_cell_at : List Str := ["_law_script", "_law_k"]
abbrev n_cell_at : List Str := ["_law_script", "_law_k"]
theorem sc_cell_at : FnScope n_cell_at p_cell_at (defScope s_cell_at) := ⟨rfl, rfl, rfl, by decide +kernel, rfl, by decide +kernel, by decide +kernel⟩
abbrev s_sign : Stmt := top 19
abbrev p_sign : List Str := ["_law_cell"]
abbrev n_sign : List Str := ["_law_cell", "_law_some"]
theorem sc_sign : FnScope n_sign p_sign (defScope s_sign) := ⟨rfl, rfl, rfl, by decide +kernel, rfl, by decide +kernel, by decide +kernel⟩
abbrev s_text : Stmt := top 20
abbrev p_text : List Str := ["_law_cell", "_law_size"]
abbrev n_text : List Str := ["_law_cell", "_law_size", "_law_k"]
theorem sc_text : FnScope n_text p_text (defScope s_text) := ⟨rfl, rfl, rfl, by decide +kernel, rfl, by decide +kernel, by decide +kernel⟩
abbrev s_pool : Stmt := top 21
abbrev p_pool : List Str := ["_law_cell", "_law_other"]
abbrev n_pool : List Str := ["_law_cell", "_law_other", "_law_first", "_law_one", "_law_two", "_law_at"]
theorem sc_pool : FnScope n_pool p_pool (defScope s_pool) := ⟨rfl, rfl, rfl, by decide +kernel, rfl, by decide +kernel, by decide +kernel⟩
abbrev s_prefix : Stmt := top 22
abbrev p_prefix : List Str := ["_law_pool_here", "_law_cell"]
abbrev n_prefix : List Str := ["_law_pool_here", "_law_cell"]
theorem sc_prefix : FnScope n_prefix p_prefix (defScope s_prefix) := ⟨rfl, rfl, rfl, by decide +kernel, rfl, by decide +kernel, by decide +kernel⟩
abbrev s_new : Stmt := top 23
abbrev p_new : List Str := []
abbrev n_new : List Str := []
theorem sc_new : FnScope n_new p_new (defScope s_new) := ⟨rfl, rfl, rfl, by decide +kernel, rfl, by decide +kernel, by decide +kernel⟩
abbrev s_note : Stmt := top 24
abbrev p_note : List Str := ["_law_m", "_law_tick", "_law_word", "_law_key_here", "_law_value"]
abbrev n_note : List Str := ["_law_m", "_law_tick", "_law_word", "_law_key_here", "_law_value"]
theorem sc_note : FnScope n_note p_note (defScope s_note) := ⟨rfl, rfl, rfl, by decide +kernel, rfl, by decide +kernel, by decide +kernel⟩
abbrev s_over : Stmt := top 25
abbrev p_over : List Str := ["_law_m", "_law_hand", "_law_tick"]
abbrev n_over : List Str := ["_law_m", "_law_hand", "_law_tick", "_law_key_here", "_law_one"]
theorem sc_over : FnScope n_over p_over (defScope s_over) := ⟨rfl, rfl, rfl, by decide +kernel, rfl, by decide +kernel, by decide +kernel⟩
abbrev s_go : Stmt := top 26
abbrev p_go : List Str := ["_law_m", "_law_ticks_here"]
abbrev n_go : List Str := ["_law_m", "_law_ticks_here", "_law_until", "_law_end", "_law_hand", "_law_one"]
theorem sc_go : FnScope n_go p_go (defScope s_go) := ⟨rfl, rfl, rfl, by decide +kernel, rfl, by decide +kernel, by decide +kernel⟩
abbrev s_due_of_key : Stmt := top 27
abbrev p_due_of_key : List Str := ["_law_m", "_law_deed_here"]
abbrev n_due_of_key : List Str := ["_law_m", "_law_deed_here", "_law_key_here", "_law_hand"]
theorem sc_due_of_key : FnScope n_due_of_key p_due_of_key (defScope s_due_of_key) := ⟨rfl, rfl, rfl, by decide +kernel, rfl, by decide +kernel, by decide +kernel⟩
abbrev s_due : Stmt := top 28
abbrev p_due : List Str := ["_law_m", "_law_deed_here"]
abbrev n_due : List Str := ["_law_m", "_law_deed_here"]
theorem sc_due : FnScope n_due p_due (defScope s_due) := ⟨rfl, rfl, rfl, by decide +kernel, rfl, by decide +kernel, by decide +kernel⟩
abbrev s_only : Stmt := top 29
abbrev p_only : List Str := ["_law_error", "_law_word"]
abbrev n_only : List Str := ["_law_error", "_law_word", "_law_words"]
theorem sc_only : FnScope n_only p_only (defScope s_only) := ⟨rfl, rfl, rfl, by decide +kernel, rfl, by decide +kernel, by decide +kernel⟩
abbrev s_call : Stmt := top 30
abbrev p_call : List Str := ["_law_room", "_law_deed_here"]
abbrev n_call : List Str := ["_law_room", "_law_deed_here"]
theorem sc_call : FnScope n_call p_call (defScope s_call) := ⟨rfl, rfl, rfl, by decide +kernel, rfl, by decide +kernel, by decide +kernel⟩
abbrev s_done : Stmt := top 31
abbrev p_done : List Str := ["_law_room", "_law_deed_here"]
abbrev n_done : List Str := ["_law_room", "_law_deed_here", "_law_error", "_law_word"]
theorem sc_done : FnScope n_done p_done (defScope s_done) := ⟨rfl, rfl, rfl, by decide +kernel, rfl, by decide +kernel, by decide +kernel⟩
abbrev s_alike : Stmt := top 32
abbrev p_alike : List Str := ["_law_found", "_law_due_here"]
abbrev n_alike : List Str := ["_law_found", "_law_due_here"]
theorem sc_alike : FnScope n_alike p_alike (defScope s_alike) := ⟨rfl, rfl, rfl, by decide +kernel, rfl, by decide +kernel, by decide +kernel⟩
abbrev s_ticks : Stmt := top 33
abbrev p_ticks : List Str := ["_law_cell", "_law_more"]
abbrev n_ticks : List Str := ["_law_cell", "_law_more"]
theorem sc_ticks : FnScope n_ticks p_ticks (defScope s_ticks) := ⟨rfl, rfl, rfl, by decide +kernel, rfl, by decide +kernel, by decide +kernel⟩
abbrev s_deed : Stmt := top 34
abbrev p_deed : List Str := ["_law_m", "_law_pool_here", "_law_kind", "_law_cell", "_law_more"]
abbrev n_deed : List Str := ["_law_m", "_law_pool_here", "_law_kind", "_law_cell", "_law_more", "_law_hand", "_law_key_here"]
theorem sc_deed : FnScope n_deed p_deed (defScope s_deed) := ⟨rfl, rfl, rfl, by decide +kernel, rfl, by decide +kernel, by decide +kernel⟩
abbrev s_change : Stmt := top 35
abbrev p_change : List Str := ["_law_found"]
abbrev n_change : List Str := ["_law_found"]
theorem sc_change : FnScope n_change p_change (defScope s_change) := ⟨rfl, rfl, rfl, by decide +kernel, rfl, by decide +kernel, by decide +kernel⟩
abbrev s_changes : Stmt := top 36
abbrev p_changes : List Str := ["_law_found", "_law_due_here"]
abbrev n_changes : List Str := ["_law_found", "_law_due_here", "_law_one", "_law_good"]
theorem sc_changes : FnScope n_changes p_changes (defScope s_changes) := ⟨rfl, rfl, rfl, by decide +kernel, rfl, by decide +kernel, by decide +kernel⟩
abbrev s_pairs : Stmt := top 37
abbrev p_pairs : List Str := ["_law_found", "_law_due_here"]
abbrev n_pairs : List Str := ["_law_found", "_law_due_here", "_law_one", "_law_good"]
theorem sc_pairs : FnScope n_pairs p_pairs (defScope s_pairs) := ⟨rfl, rfl, rfl, by decide +kernel, rfl, by decide +kernel, by decide +kernel⟩
abbrev s_watch : Stmt := top 38
abbrev p_watch : List Str := ["_law_room", "_law_ws", "_law_first", "_law_last", "_law_prefix_here", "_law_start"]
abbrev n_watch : List Str := ["_law_room", "_law_ws", "_law_first", "_law_last", "_law_prefix_here", "_law_start", "_law_found", "_law_error"]
theorem sc_watch : FnScope n_watch p_watch (defScope s_watch) := ⟨rfl, rfl, rfl, by decide +kernel, rfl, by decide +kernel, by decide +kernel⟩
abbrev s_pulled : Stmt := top 39
abbrev p_pulled : List Str := ["_law_room", "_law_ws", "_law_rows", "_law_number", "_law_most"]
abbrev n_pulled : List Str := ["_law_room", "_law_ws", "_law_rows", "_law_number", "_law_most", "_law_one", "_law_due_here", "_law_found", "_law_row"]
theorem sc_pulled : FnScope n_pulled p_pulled (defScope s_pulled) := ⟨rfl, rfl, rfl, by decide +kernel, rfl, by decide +kernel, by decide +kernel⟩
abbrev s_trimmed : Stmt := top 40
abbrev p_trimmed : List Str := ["_law_room", "_law_ws", "_law_rows"]
abbrev n_trimmed : List Str := ["_law_room", "_law_ws", "_law_rows", "_law_upto", "_law_number", "_law_due_here", "_law_found", "_law_first"]
theorem sc_trimmed : FnScope n_trimmed p_trimmed (defScope s_trimmed) := ⟨rfl, rfl, rfl, by decide +kernel, rfl, by decide +kernel, by decide +kernel⟩
abbrev s_stranger : Stmt := top 41
abbrev p_stranger : List Str := ["_law_room", "_law_number", "_law_kind"]
abbrev n_stranger : List Str := ["_law_room", "_law_number", "_law_kind", "_law_error"]
theorem sc_stranger : FnScope n_stranger p_stranger (defScope s_stranger) := ⟨rfl, rfl, rfl, by decide +kernel, rfl, by decide +kernel, by decide +kernel⟩
abbrev s_watching : Stmt := top 42
abbrev p_watching : List Str := ["_law_room", "_law_ws", "_law_rows", "_law_kind", "_law_cell"]
abbrev n_watching : List Str := ["_law_room", "_law_ws", "_law_rows", "_law_kind", "_law_cell", "_law_number", "_law_one"]
theorem sc_watching : FnScope n_watching p_watching (defScope s_watching) := ⟨rfl, rfl, rfl, by decide +kernel, rfl, by decide +kernel, by decide +kernel⟩
abbrev s_key : Stmt := top 43
abbrev p_key : List Str := ["_law_cell", "_law_k"]
abbrev n_key : List Str := ["_law_cell", "_law_k", "_law_rest", "_law_at"]
theorem sc_key : FnScope n_key p_key (defScope s_key) := ⟨rfl, rfl, rfl, by decide +kernel, rfl, by decide +kernel, by decide +kernel⟩
abbrev s_crowd : Stmt := top 44
abbrev p_crowd : List Str := ["_law_room", "_law_m", "_law_cell"]
abbrev n_crowd : List Str := ["_law_room", "_law_m", "_law_cell", "_law_hand", "_law_deeds", "_law_k", "_law_deed_here"]
theorem sc_crowd : FnScope n_crowd p_crowd (defScope s_crowd) := ⟨rfl, rfl, rfl, by decide +kernel, rfl, by decide +kernel, by decide +kernel⟩
abbrev s_values : Stmt := top 45
abbrev p_values : List Str := ["_law_room", "_law_m"]
abbrev n_values : List Str := ["_law_room", "_law_m", "_law_row", "_law_value"]
theorem sc_values : FnScope n_values p_values (defScope s_values) := ⟨rfl, rfl, rfl, by decide +kernel, rfl, by decide +kernel, by decide +kernel⟩
abbrev s_stands : Stmt := top 46
abbrev p_stands : List Str := ["_law_room", "_law_m", "_law_ws"]
abbrev n_stands : List Str := ["_law_room", "_law_m", "_law_ws", "_law_key_here"]
theorem sc_stands : FnScope n_stands p_stands (defScope s_stands) := ⟨rfl, rfl, rfl, by decide +kernel, rfl, by decide +kernel, by decide +kernel⟩
abbrev s_step : Stmt := top 47
abbrev p_step : List Str := ["_law_room", "_law_m", "_law_ws", "_law_pool_here", "_law_cells"]
abbrev n_step : List Str := ["_law_room", "_law_m", "_law_ws", "_law_pool_here", "_law_cells", "_law_deed_here", "_law_first", "_law_last", "_law_start"]
theorem sc_step : FnScope n_step p_step (defScope s_step) := ⟨rfl, rfl, rfl, by decide +kernel, rfl, by decide +kernel, by decide +kernel⟩
abbrev s_law : Stmt := top 48
abbrev p_law : List Str := ["_law_script"]
abbrev n_law : List Str := ["_law_script", "_law_other", "_law_apart", "_law_room", "_law_m", "_law_ws", "_law_pool_here", "_law_k", "_law_number"]
theorem sc_law : FnScope n_law p_law (defScope s_law) := ⟨rfl, rfl, rfl, by decide +kernel, rfl, by decide +kernel, by decide +kernel⟩
abbrev hsL : List Str := ["grant", "renew", "drop", "wait", "put", "cut", "value", "holder", "pairs", "last", "first", "watch", "pull", "confirm", "broken", "leave", "trim"]
end KL

namespace KB
open PySem L2 L2H LX
/-! ### logs by themselves, as plain lists -/
/-- does a key begin with a prefix -/
def isPre (p k : Str) : Bool := decide (cutS k none (some (p.length : Int)) = p)
def wantedM (rs : List Row) (g : Nat) (p : Str) (b most : Int) : List Row := ((rs.drop g).filter fun r => decide (r.n > b) && isPre p r.k).take most.toNat
/-- what is forgotten when all up to u is -/
def goneM (len g : Nat) (u : Int) : Nat := max g (min u.toNat len)
theorem goneM_ge (len g : Nat) (u : Int) : g ≤ goneM len g u := Nat.le_max_left _ _
theorem goneM_le {len g : Nat} (u : Int) (h : g ≤ len) : goneM len g u ≤ len := Nat.max_le.mpr ⟨h, Nat.min_le_right _ _⟩
/-- numbered from 1 on -/
def Num (rs : List Row) : Prop := ∀ (i : Nat) (r : Row), rs[i]? = some r → r.n = (i : Int) + 1
theorem Num.nil : Num [] := fun i r h => by simp at h
theorem Num.snoc {rs : List Row} (h : Num rs) {r : Row} (e : r.n = (rs.length : Int) + 1) : Num (rs ++ [r]) := fun i x hx => by
  by_cases c : i < rs.length
  · rw [List.getElem?_append_left c] at hx
    exact h i x hx
  · rw [List.getElem?_append_right (by omega)] at hx
    have z : i - rs.length = 0 := by
      cases q : i - rs.length with
      | zero => rfl
      | succ n => rw [q] at hx; simp at hx
    rw [z] at hx
    cases hx
    rw [e]
    omega
theorem isPre_nil (k : Str) : isPre "" k = true := by
  unfold isPre
  refine decide_eq_true ?_
  refine TL.ext_tl ?_
  have e : TL.tl (cutS k none (some ((("" : Str).length : Nat) : Int))) = ((tl k).drop 0).take (HT.sIx k.length k.length (some (0 : Int)) - 0) := by
    show (cutS k none (some (0 : Int))).cps.toList = _
    unfold cutS
    exact List.toList_toArray
  rw [e]
  have z : HT.sIx k.length k.length (some (0 : Int)) = 0 := by
    have q := HT.sIx_nat k.length k.length 0
    rw [Nat.zero_min] at q
    exact q
  rw [z]
  rfl
theorem wantedM_all {rs : List Row} (h : Num rs) (g : Nat) {most : Int} (hm : (rs.length : Int) ≤ most) : wantedM rs g "" 0 most = rs.drop g := by
  unfold wantedM
  have e : (rs.drop g).filter (fun r => decide (r.n > 0) && isPre "" r.k) = rs.drop g := by
    refine List.filter_eq_self.mpr fun r hr => ?_
    obtain ⟨i, hi⟩ := List.mem_iff_getElem?.mp (List.mem_of_mem_drop hr)
    have := h i r hi
    rw [isPre_nil, Bool.and_true]
    exact decide_eq_true (by omega)
  rw [e]
  refine List.take_of_length_le ?_
  rw [List.length_drop]
  omega
theorem wantedM_ok {rs : List Row} (h : ∀ r ∈ rs, r.Ok) (g : Nat) (p : Str) (b m : Int) : ∀ r ∈ wantedM rs g p b m, r.Ok := fun r hr =>
  h r (List.mem_of_mem_drop (List.mem_filter.mp (List.mem_of_mem_take hr)).1)
theorem RowsAt.drop {H : Hp} : ∀ {ts : List Addr} {rs : List Row} (n : Nat), RowsAt H ts rs → RowsAt H (ts.drop n) (rs.drop n)
  | _, _, 0, m => m
  | _, _, n + 1, .nil => .nil
  | _, _, n + 1, .cons r m => RowsAt.drop n m
theorem RowsAt.take {H : Hp} : ∀ {ts : List Addr} {rs : List Row} (n : Nat), RowsAt H ts rs → RowsAt H (ts.take n) (rs.take n)
  | _, _, 0, m => .nil
  | _, _, n + 1, .nil => .nil
  | _, _, n + 1, .cons r m => .cons r (RowsAt.take n m)
theorem RowsAt.last {H : Hp} {ts : List Addr} {rs : List Row} (m : RowsAt H ts rs) (h : 0 < rs.length) : ∃ t r, atI (ts.map V.ref) (-1) = some (V.ref t) ∧ H t = some (.tup r.V) ∧ rs[rs.length - 1]? = some r := by
  have hl := Paired.length m
  rcases List.eq_nil_or_concat ts with e | ⟨l, b, e⟩
  · subst e
    simp only [List.length_nil] at hl
    omega
  · have ha : atI (ts.map V.ref) (-1) = some (V.ref b) := by
      have q := atI_last (l.map V.ref) (V.ref b)
      rw [e]
      simpa using q
    have hx : (ts.map V.ref)[rs.length - 1]? = some (V.ref b) := by
      have e2 : rs.length - 1 = l.length := by
        rw [← hl, e]
        simp
      rw [e2, e]
      simp
    obtain ⟨t, r, et, er, ht⟩ := RowsAt.at m hx
    cases et
    exact ⟨b, r, ha, ht, er⟩
theorem cutV_from (xs : List V) {g : Nat} (h : g ≤ xs.length) : cutV xs (some (g : Int)) none = xs.drop g := by
  unfold cutV
  rw [HT.sIx_none, HT.sIx_nat, Nat.min_eq_left h]
  refine List.take_of_length_le ?_
  rw [List.length_drop]
  exact Nat.le_refl _
theorem cutV_upto (xs : List V) {m : Int} (h : 0 ≤ m) : cutV xs none (some m) = xs.take m.toNat := by
  obtain ⟨j, rfl⟩ := Int.eq_ofNat_of_zero_le h
  unfold cutV
  rw [HT.sIx_none]
  have e : HT.sIx xs.length xs.length (some ((j : Nat) : Int)) = min j xs.length := HT.sIx_nat _ _ _
  show (xs.drop 0).take (HT.sIx xs.length xs.length (some ((j : Nat) : Int)) - 0) = _
  rw [e, List.drop_zero, Nat.sub_zero, Int.toNat_natCast]
  by_cases c : j ≤ xs.length
  · rw [Nat.min_eq_left c]
  · rw [Nat.min_eq_right (by omega), List.take_length, List.take_of_length_le (by omega)]
/-! ### what stands by a log, whatever it is made of -/
/-- F' holds what F held and new ones -/
def Grow (F F' : List Addr) (H : Hp) : Prop := ∀ a ∈ F', a ∈ F ∨ H a = none
theorem Grow.refl (F : List Addr) (H : Hp) : Grow F F H := fun _ h => .inl h
theorem Grow.apart {F F' S : List Addr} {H : Hp} (g : Grow F F' H) (d : ∀ a ∈ F, a ∉ S) (s : ∀ a ∈ S, ∃ o, H a = some o) : ∀ a ∈ F', a ∉ S := fun a ha m => by
  rcases g a ha with h | h
  · exact d a h m
  · obtain ⟨o, e⟩ := s a m
    rw [h] at e
    cases e
theorem Grow.apart2 {F F' S : List Addr} {H : Hp} (g : Grow F F' H) (d : ∀ a ∈ S, a ∉ F) (s : ∀ a ∈ S, ∃ o, H a = some o) : ∀ a ∈ S, a ∉ F' := fun a ha m => by
  rcases g a m with h | h
  · exact d a ha h
  · obtain ⟨o, e⟩ := s a ha
    rw [h] at e
    cases e
theorem Grow.trans {F F1 F2 : List Addr} {H H1 : Hp} (a : Grow F F1 H) (b : Grow F1 F2 H1) (k : ∀ x, H1 x = none → H x = none) : Grow F F2 H := fun x hx => by
  rcases b x hx with h | h
  · exact a x h
  · exact .inr (k x h)
theorem Ch.seq {F F1 : List Addr} {H H1 H2 : Hp} (a : Ch H H1 F) (g : Grow F F1 H) (b : Ch H1 H2 F1) : Ch H H2 F := by
  refine ⟨fun x o e n => b.st x o (a.st x o e n) (n.imp (fun z y => ?_) id), fun x o e => let ⟨_, z⟩ := a.th x o e; b.th _ _ z⟩
  rcases g x y with h | h
  · exact z h
  · rw [e] at h
    cases h
def spLogInit (C : Addr) (Lg : List Addr → Hp → Addr → List Row → Nat → Prop) : Sp := fun vs H Q _ => ∃ (p dx : Addr), vs = [.ref p] ∧ H p = some (.ins C dx []) ∧
  ∀ F H', Lg F H' p [] 0 → (∀ a ∈ F, a = p ∨ H a = none) → Ch H H' [p] → Q .non H'
def spLogNote (Lg : List Addr → Hp → Addr → List Row → Nat → Prop) : Sp := fun vs H Q _ => ∃ (F : List Addr) (p : Addr) (t : Int) (w k v : Str) (rs : List Row) (g : Nat), vs = [.ref p, .int t, .str w, .str k, .str v] ∧ Lg F H p rs g ∧ rs.length ≤ 100000 ∧ (Row.mk 0 t w k v).Ok ∧
  ∀ F' H', Lg F' H' p (rs ++ [⟨(rs.length : Int) + 1, t, w, k, v⟩]) g → Grow F F' H → Ch H H' F → Q (.int ((rs.length : Int) + 1)) H'
def spLogLast (Lg : List Addr → Hp → Addr → List Row → Nat → Prop) : Sp := fun vs H Q _ => ∃ (F : List Addr) (p : Addr) (rs : List Row) (g : Nat), vs = [.ref p] ∧ Lg F H p rs g ∧
  ∀ F' H', Lg F' H' p rs g → Grow F F' H → Ch H H' F → Q (.int rs.length) H'
def spLogFirst (Lg : List Addr → Hp → Addr → List Row → Nat → Prop) : Sp := fun vs H Q _ => ∃ (F : List Addr) (p : Addr) (rs : List Row) (g : Nat), vs = [.ref p] ∧ Lg F H p rs g ∧
  ∀ F' H', Lg F' H' p rs g → Grow F F' H → Ch H H' F → Q (.int ((g : Int) + 1)) H'
def spLogWanted (Lg : List Addr → Hp → Addr → List Row → Nat → Prop) : Sp := fun vs H Q _ => ∃ (F : List Addr) (p : Addr) (z : Str) (b m : Int) (rs : List Row) (g : Nat), vs = [.ref p, .str z, .int b, .int m] ∧ Lg F H p rs g ∧ TOk 60 z ∧ 0 ≤ m ∧ b ≤ 100000 ∧ rs.length ≤ 900 ∧
  ∀ F' q ts H', Lg F' H' p rs g → Grow F F' H → Ch H H' F → H q = none → q ∉ F' → H' q = some (.lst (ts.map V.ref)) → RowsAt H' ts (wantedM rs g z b m) → Q (.ref q) H'
def spLogForget (Lg : List Addr → Hp → Addr → List Row → Nat → Prop) : Sp := fun vs H Q _ => ∃ (F : List Addr) (p : Addr) (u : Int) (rs : List Row) (g : Nat), vs = [.ref p, .int u] ∧ Lg F H p rs g ∧ rs.length ≤ 900 ∧
  ∀ F' H', Lg F' H' p rs (goneM rs.length g u) → Grow F F' H → Ch H H' F → Q (.int ((goneM rs.length g u : Int) - g)) H'
/-- a method as its callers see it -/
structure MDef (P : Program) (w : World) (K : PySem.W.Frag) (mg : Str → Option Value) (base : Heap) (C : Addr) (m : Str) (CX : CXT) (k : Nat) (sp : Sp) : Prop where
  ex : ∃ f fd ps, Meth K C m f ∧ Binds K fd ps [] ∧ FnOk P w K mg base CX k f fd ps sp
structure LogApi (P : Program) (w : World) (K : PySem.W.Frag) (mg : Str → Option Value) (base : Heap) (C : Addr) (Lg : List Addr → Hp → Addr → List Row → Nat → Prop) : Prop where
  frame : ∀ {F H H' p rs g l}, Lg F H p rs g → Ch H H' l → (∀ a ∈ F, a ∉ l) → Lg F H' p rs g
  own : ∀ {F H p rs g}, Lg F H p rs g → ∀ a ∈ F, ∃ o, H a = some o
  inst : ∀ {F H p rs g}, Lg F H p rs g → p ∈ F ∧ ∃ dx fs, H p = some (.ins C dx fs) ∧ ∀ m ∈ ([("note" : Str), "last", "first", "wanted", "forget"] : List Str), fs.lookup m = none
  le : ∀ {F H p rs g}, Lg F H p rs g → g ≤ rs.length
  make : ∃ f fd ps, Mk K C f ∧ Binds K fd ps [] ∧ FnOk P w K mg base CX0 2 f fd ps (spLogInit C Lg)
  note : MDef P w K mg base C "note" CX0 2 (spLogNote Lg)
  last : MDef P w K mg base C "last" CX0 2 (spLogLast Lg)
  first : MDef P w K mg base C "first" CX0 2 (spLogFirst Lg)
  wanted : MDef P w K mg base C "wanted" CX0 3 (spLogWanted Lg)
  forget : MDef P w K mg base C "forget" CX0 3 (spLogForget Lg)
end KB

namespace KB
open PySem L2 L2H LX
/-! ### an object's fields, by place -/
def pos (k : Str) : List Str → Option Nat
  | [] => none
  | x :: r => if x = k then some 0 else (pos k r).map (· + 1)
theorem zf_no {k : Str} : ∀ {ns : List Str} {vs : List V}, pos k ns = none → (ns.zip vs).lookup k = none
  | [], _, _ => rfl
  | x :: r, [], _ => rfl
  | x :: r, v :: vs, h => by
    unfold pos at h
    by_cases e : x = k
    · rw [if_pos e] at h; cases h
    · rw [if_neg e] at h
      have h2 : pos k r = none := by
        cases q : pos k r with
        | none => rfl
        | some i => rw [q] at h; cases h
      rw [List.zip_cons_cons, List.lookup_cons, show (k == x) = false from beq_eq_false_iff_ne.mpr fun z => e z.symm]
      exact zf_no h2
theorem zf_get {k : Str} : ∀ {ns : List Str} {vs : List V} {i : Nat} {v : V}, pos k ns = some i → vs[i]? = some v → (ns.zip vs).lookup k = some v
  | [], _, i, v, h, _ => by cases h
  | x :: r, [], i, v, _, h => by simp at h
  | x :: r, u :: vs, i, v, h, hv => by
    unfold pos at h
    by_cases e : x = k
    · rw [if_pos e] at h
      cases h
      rw [List.zip_cons_cons, List.lookup_cons, show (k == x) = true from beq_iff_eq.mpr e.symm]
      exact hv
    · rw [if_neg e] at h
      cases q : pos k r with
      | none => rw [q] at h; cases h
      | some j =>
        rw [q] at h
        cases h
        rw [List.zip_cons_cons, List.lookup_cons, show (k == x) = false from beq_eq_false_iff_ne.mpr fun z => e z.symm]
        exact zf_get q hv
theorem zf_put {k : Str} {y : V} : ∀ {ns : List Str} {vs : List V} {i : Nat}, pos k ns = some i → ns.length = vs.length → putF k y (ns.zip vs) = ns.zip (vs.set i y)
  | [], _, i, h, _ => by cases h
  | x :: r, [], i, _, h => by cases h
  | x :: r, u :: vs, i, h, hl => by
    unfold pos at h
    rw [List.zip_cons_cons]
    show (if x = k then (x, y) :: r.zip vs else (x, u) :: putF k y (r.zip vs)) = _
    by_cases e : x = k
    · rw [if_pos e] at h ⊢
      cases h
      rfl
    · rw [if_neg e] at h ⊢
      cases q : pos k r with
      | none => rw [q] at h; cases h
      | some j =>
        rw [q] at h
        cases h
        rw [zf_put q (Nat.succ.inj hl)]
        rfl
theorem zf_new {k : Str} {y : V} : ∀ {ns : List Str} {vs : List V}, pos k ns = none → ns.length = vs.length → putF k y (ns.zip vs) = (ns ++ [k]).zip (vs ++ [y])
  | [], [], h, _ => rfl
  | [], _ :: _, _, h => by cases h
  | x :: r, [], _, h => by cases h
  | x :: r, u :: vs, h, hl => by
    unfold pos at h
    rw [List.zip_cons_cons]
    show (if x = k then (x, y) :: r.zip vs else (x, u) :: putF k y (r.zip vs)) = _
    by_cases e : x = k
    · rw [if_pos e] at h; cases h
    · rw [if_neg e] at h ⊢
      have h2 : pos k r = none := by
        cases q : pos k r with
        | none => rfl
        | some i => rw [q] at h; cases h
      rw [zf_new h2 (Nat.succ.inj hl)]
      rfl
/-! ### does a text begin with another -/
theorem starts_isPre (k p : Str) : Txt.startswith k p = isPre p k := by
  have hk : (tl k).length = k.length := Array.length_toList
  have hp : (tl p).length = p.length := Array.length_toList
  have e1 : Txt.startswith k p = (decide (p.length ≤ k.length) && ((tl k).take p.length == tl p)) := by
    unfold Txt.startswith
    rw [PySem.StrLaws.subAt_eq, Nat.zero_add, List.drop_zero]
  have e2 : tl (cutS k none (some (p.length : Int))) = (tl k).take (min p.length k.length) := by
    show ((k.cps.toList.drop (HT.sIx k.length 0 none)).take (HT.sIx k.length k.length (some (p.length : Int)) - HT.sIx k.length 0 none)).toArray.toList = _
    rw [List.toList_toArray, HT.sIx_none, HT.sIx_nat, List.drop_zero, Nat.sub_zero]
  rw [e1]
  unfold isPre
  by_cases c : p.length ≤ k.length
  · rw [decide_eq_true c, Bool.true_and]
    rw [Nat.min_eq_left c] at e2
    by_cases d : (tl k).take p.length = tl p
    · rw [beq_iff_eq.mpr d]
      refine (decide_eq_true ?_).symm
      exact TL.ext_tl (e2.trans d)
    · rw [beq_eq_false_iff_ne.mpr d]
      refine (decide_eq_false fun z => d ?_).symm
      rw [← e2, z]
  · rw [decide_eq_false c, Bool.false_and]
    refine (decide_eq_false fun z => c ?_).symm
    have q := congrArg (fun s : Str => (tl s).length) z
    rw [e2, List.length_take, hp, hk] at q
    omega
theorem smallS {n : Nat} (h : n ≤ 200000) : n < sizeLine := Nat.lt_of_le_of_lt h (by decide)
end KB

namespace KL
open PySem L2 L2H LX KB
/-! ### the program's log -/
abbrev nsLog : List Str := ["_forgotten", "_kept"]
structure LogT (K : PySem.W.Frag) (C : Addr) : Prop where
  cl : Cls K C
  nF : NoAttr K C "_forgotten"
  nK : NoAttr K C "_kept"
structure LgAt (C : Addr) (H : Hp) (p q : Addr) (ts : List Addr) (rs : List Row) (g : Nat) : Prop where
  ob : ∃ dx, H p = some (.ins C dx (nsLog.zip [.int g, .ref q]))
  kp : H q = some (.lst (ts.map V.ref))
  at_ : RowsAt H ts (rs.drop g)
  le : g ≤ rs.length
  num : Num rs
def LgP (C : Addr) : List Addr → Hp → Addr → List Row → Nat → Prop := fun F H p rs g => ∃ q ts, F = [p, q] ∧ LgAt C H p q ts rs g
theorem LgAt.pq {C : Addr} {H : Hp} {p q : Addr} {ts : List Addr} {rs : List Row} {g : Nat} (L : LgAt C H p q ts rs g) : p ≠ q := by
  obtain ⟨dx, h⟩ := L.ob
  exact ne_of h L.kp (by intro z; cases z)
theorem LgAt.len {C : Addr} {H : Hp} {p q : Addr} {ts : List Addr} {rs : List Row} {g : Nat} (L : LgAt C H p q ts rs g) : ts.length = rs.length - g := by
  rw [Paired.length L.at_, List.length_drop]
theorem LgP.frame {C : Addr} {F : List Addr} {H H' : Hp} {p : Addr} {rs : List Row} {g : Nat} {l : List Addr} (L : LgP C F H p rs g) (c : Ch H H' l) (d : ∀ a ∈ F, a ∉ l) : LgP C F H' p rs g := by
  obtain ⟨q, ts, rfl, L⟩ := L
  obtain ⟨dx, h⟩ := L.ob
  exact ⟨q, ts, rfl, ⟨dx, c.at h (d p (by simp))⟩, c.at L.kp (d q (by simp)), L.at_.keep c.tup, L.le, L.num⟩
theorem LgP.own {C : Addr} {F : List Addr} {H : Hp} {p : Addr} {rs : List Row} {g : Nat} (L : LgP C F H p rs g) : ∀ a ∈ F, ∃ o, H a = some o := by
  obtain ⟨q, ts, rfl, L⟩ := L
  obtain ⟨dx, h⟩ := L.ob
  intro a ha
  simp only [List.mem_cons, List.not_mem_nil, or_false] at ha
  rcases ha with rfl | rfl
  · exact ⟨_, h⟩
  · exact ⟨_, L.kp⟩
theorem LgP.inst {C : Addr} {F : List Addr} {H : Hp} {p : Addr} {rs : List Row} {g : Nat} (L : LgP C F H p rs g) : p ∈ F ∧ ∃ dx fs, H p = some (.ins C dx fs) ∧ ∀ m ∈ ([("note" : Str), "last", "first", "wanted", "forget"] : List Str), fs.lookup m = none := by
  obtain ⟨q, ts, rfl, L⟩ := L
  obtain ⟨dx, h⟩ := L.ob
  refine ⟨by simp, dx, _, h, fun m hm => ?_⟩
  simp only [List.mem_cons, List.not_mem_nil, or_false] at hm
  rcases hm with rfl | rfl | rfl | rfl | rfl <;> exact zf_no (by decide +kernel)
theorem LgP.le {C : Addr} {F : List Addr} {H : Hp} {p : Addr} {rs : List Row} {g : Nat} (L : LgP C F H p rs g) : g ≤ rs.length := by
  obtain ⟨q, ts, rfl, L⟩ := L
  exact L.le
/-- last and first read only -/
def spLast0 (C : Addr) : Sp := fun vs H Q _ => ∃ (F : List Addr) (p : Addr) (rs : List Row) (g : Nat), vs = [.ref p] ∧ LgP C F H p rs g ∧ Q (.int rs.length) H
def spFirst0 (C : Addr) : Sp := fun vs H Q _ => ∃ (F : List Addr) (p : Addr) (rs : List Row) (g : Nat), vs = [.ref p] ∧ LgP C F H p rs g ∧ Q (.int ((g : Int) + 1)) H
section
variable {P : Program} {w : World} {K : PySem.W.Frag} {mg : Str → Option Value} {base : Heap}
theorem ok_Log_init {f C : Addr} {fd : FuncData} (F : Fun K "__init__" "Log.__init__" s_Log_init f fd) (T : LogT K C) : FnOk P w K mg base CX0 1 f fd p_Log_init (spLogInit C (LgP C)) := by
  refine F.ok sc_Log_init (fun vs H Q E h => ?_) (fun cdv A outer s H vs Q E hr h => ?_)
  · obtain ⟨p, dx, rfl, _⟩ := h
    rfl
  · obtain ⟨p, dx, rfl, hp, k⟩ := h
    refine ⟨_, pss_cons (ps_fld (pv 0) pe_int rfl) (pss_one (ps_fld (pv 0) (pe_lst pa_nil) rfl)), ?_⟩
    refine ⟨_, rfl, p, C, dx, [], rfl, hp, T.cl, T.nF, (by show 0 < 1000; decide), ?_⟩
    refine ⟨(by show 0 ≤ sizeLine; decide), fun q hq => ?_⟩
    have npq : p ≠ q := ne_of_none upd_same hq
    refine ⟨_, rfl, p, C, dx, _, rfl, (by rw [upd_ne npq]; exact upd_same), T.cl, T.nK, (by show 1 < 1000; decide), ?_⟩
    have q0 : H q = none := by rw [upd_ne npq.symm] at hq; exact hq
    refine k [p, q] _ ⟨q, [], rfl, ⟨dx, upd_same⟩, ?_, .nil, Nat.le_refl _, Num.nil⟩ (fun a ha => ?_) ⟨fun b o e n => ?_, fun b o e => ?_⟩
    · rw [upd_ne npq.symm]; exact upd_same
    · simp only [List.mem_cons, List.not_mem_nil, or_false] at ha
      rcases ha with rfl | rfl
      · exact .inl rfl
      · exact .inr q0
    · have nb : b ≠ p := fun z => by
        subst z
        rcases n with n | ⟨xs, n⟩
        · exact n (by simp)
        · rw [hp] at e; cases e; cases n
      rw [upd_ne nb, upd_ne (ne_of_none e q0), upd_ne nb]
      exact e
    · by_cases z : b = p
      · subst z; exact ⟨_, upd_same⟩
      · rw [upd_ne z, upd_ne (ne_of_none e q0), upd_ne z]; exact ⟨o, e⟩
theorem ok_Log_last {f C : Addr} {fd : FuncData} (F : Fun K "last" "Log.last" s_Log_last f fd) (T : LogT K C) (ml : mg "len" = none) : FnOk P w K mg base CX0 1 f fd p_Log_last (spLast0 C) := by
  refine F.ok sc_Log_last (fun vs H Q E h => ?_) (fun cdv A outer s H vs Q E hr h => ?_)
  · obtain ⟨Fs, p, rs, g, rfl, _⟩ := h
    rfl
  · obtain ⟨Fs, p, rs, g, rfl, ⟨q, ts, rfl, L⟩, k⟩ := h
    obtain ⟨dx, hp⟩ := L.ob
    refine ⟨_, pss_one (ps_ret (pe_op op_add (pe_fld (pv 0) rfl) (pe_callB call_len_seq (by rfl) ml PySem.boot_len (pa_cons (pe_fld (pv 0) rfl) pa_nil)))), ?_⟩
    refine ⟨_, rfl, p, C, dx, _, _, rfl, hp, T.cl, T.nF, zf_get (i := 0) (by decide +kernel) rfl, _, rfl, p, C, dx, _, _, rfl, hp, T.cl, T.nK, zf_get (i := 1) (by decide +kernel) rfl, q, _, rfl, .inl (SqL.of L.kp), _, _, rfl, rfl, ?_⟩
    have e : (g : Int) + ((ts.map V.ref).length : Int) = (rs.length : Int) := by
      rw [List.length_map, L.len]
      have := L.le
      omega
    show Q (.int ((g : Int) + ((ts.map V.ref).length : Int))) H
    rw [e]
    exact k
theorem ok_Log_first {f C : Addr} {fd : FuncData} (F : Fun K "first" "Log.first" s_Log_first f fd) (T : LogT K C) : FnOk P w K mg base CX0 1 f fd p_Log_first (spFirst0 C) := by
  refine F.ok sc_Log_first (fun vs H Q E h => ?_) (fun cdv A outer s H vs Q E hr h => ?_)
  · obtain ⟨Fs, p, rs, g, rfl, _⟩ := h
    rfl
  · obtain ⟨Fs, p, rs, g, rfl, ⟨q, ts, rfl, L⟩, k⟩ := h
    obtain ⟨dx, hp⟩ := L.ob
    refine ⟨_, pss_one (ps_ret (pe_op op_add (pe_fld (pv 0) rfl) pe_int)), ?_⟩
    exact ⟨_, rfl, p, C, dx, _, _, rfl, hp, T.cl, T.nF, zf_get (i := 0) (by decide +kernel) rfl, _, _, rfl, rfl, k⟩
theorem ok_Log_note {f fL C : Addr} {fd fdL : FuncData} {psL : List Str} (F : Fun K "note" "Log.note" s_Log_note f fd) (T : LogT K C) (mL : Meth K C "last" fL) (bL : Binds K fdL psL []) (GL : FnOk P w K mg base CX0 1 fL fdL psL (spLast0 C)) :
    FnOk P w K mg base CX0 2 f fd p_Log_note (spLogNote (LgP C)) := by
  refine F.ok sc_Log_note (fun vs H Q E h => ?_) (fun cdv A outer s H vs Q E hr h => ?_)
  · obtain ⟨Fs, p, t, wd, ky, v, rs, g, rfl, _⟩ := h
    rfl
  · obtain ⟨Fs, p, t, wd, ky, v, rs, g, rfl, LP, hl, ok, k⟩ := h
    obtain ⟨q, ts, rfl, L⟩ := id LP
    obtain ⟨dx, hp⟩ := L.ob
    refine ⟨_, pss_cons (ps_set (i := 5) sc_Log_note.nd rfl (Or.inl rfl) (pe_op op_add (pe_meth0 (pv 0) T.cl mL GL hr bL .nil pass0) pe_int))
      (pss_cons (ps_expr (pe_bm PySem.F.plainAttrs_list PySem.F.slot_list_append PySem.F.type_list_append mt_append (pe_fld (pv 0) rfl) (pa_cons (pe_tup (pa_cons (pv 5) (pa_cons (pv 1) (pa_cons (pv 2) (pa_cons (pv 3) (pa_cons (pv 4) pa_nil)))))) pa_nil)))
      (pss_one (ps_ret (pv 5)))), ?_⟩
    refine ⟨_, rfl, p, dx, _, rfl, hp, zf_no (by decide +kernel), _, p, rs, g, rfl, LP, _, _, rfl, rfl, ?_⟩
    refine ⟨_, rfl, p, C, dx, _, _, rfl, hp, T.cl, T.nK, zf_get (i := 1) (by decide +kernel) rfl, .inl ⟨rfl, _, .inl (.inl L.kp)⟩, _, rfl, _, rfl, _, rfl, _, rfl, _, rfl, (by show 5 ≤ sizeLine; decide), fun x hx => ?_⟩
    have nxq : q ≠ x := ne_of_none L.kp hx
    have nxp : p ≠ x := ne_of_none hp hx
    have hl2 : (ts.map V.ref).length < sizeLine := by
      rw [List.length_map, L.len]
      exact smallS (by omega)
    refine ⟨q, ts.map V.ref, .ref x, rfl, rfl, by rw [upd_ne nxq]; exact L.kp, hl2, ?_⟩
    refine ⟨_, rfl, ?_⟩
    have c1 : Ch H (upd (upd H x (.tup [.int ((rs.length : Int) + 1), .int t, .str wd, .str ky, .str v])) q (.lst (ts.map V.ref ++ [.ref x]))) [p, q] :=
      ((Ch.refl H [p, q]).new _ hx).mut (by simp) L.kp (fun xs e => by cases e)
    refine k [p, q] _ ⟨q, ts ++ [x], rfl, ⟨dx, ?_⟩, ?_, ?_, ?_, ?_⟩ (Grow.refl _ _) c1
    · rw [upd_ne L.pq, upd_ne nxp]; exact hp
    · rw [upd_same, List.map_append]; rfl
    · rw [List.drop_append_of_le_length L.le]
      refine Paired.snoc (L.at_.keep c1.tup) ?_
      show upd _ q _ x = _
      rw [upd_ne nxq.symm]
      exact upd_same
    · rw [List.length_append]
      exact Nat.le_trans L.le (Nat.le_add_right _ _)
    · exact L.num.snoc rfl
end
end KL

/-! sorted of texts, any number of them; the order of texts; tables of texts -/
namespace LX
open PySem PySem.Spec PyProof.Rows L2 L2H
section
variable {X : Cx}
def rSortedSL (K : PySem.W.Frag) : List V → Hp → VK → Prop := fun vs H Q => ∃ (a : Addr) (xs : List Str), vs = [V.ref a] ∧ SqL K H a (xs.map V.str) ∧
  ∀ (ys : List Str) (p : Addr), ys.Perm xs → sortedS ys = true → H p = none → Q (.ref p) (upd H p (.lst (ys.map V.str)))
theorem cr_sortedSL : CallR X (.builtin "sorted") (rSortedSL X.K) := by
  intro pins s σ H vs us Q I r h
  obtain ⟨a, xs, rfl, hs, q⟩ := h
  obtain ⟨its, rv, hl, hz⟩ := I.list hs
  rw [Vals.ref1 r]
  have hlen0 := rv.length
  refine PyProof.Rows.sorted_strsAny hl.isList rv.strs (by rw [← hlen0]; exact hz) fun out ys h1 h2 h3 => ?_
  obtain ⟨ep, he'⟩ := PyProof.Rows.sortedAll_at s.heap its out
  have hlen : (ys.map V.str).length ≤ sizeLine := by
    rw [List.length_map] at hz ⊢
    rw [h2.length_eq]
    exact hz
  exact ⟨.ref _, upd H (s.heap.objs.size + 1) (.lst (ys.map V.str)), I.laid (t' := s.toks) (fun _ _ => PyProof.Rows.sortedAll_old) (Nat.le_succ _) ⟨hlen, out.toList, ep, vals_of_strs h1, he'⟩, rfl, q ys _ h2 h3 (I.hok.fresh (Nat.le_succ _))⟩
def rSortedDL : List V → Hp → VK → Prop := fun xs H Q => ∃ (a : Addr) (kvs : List (Key × V)) (ks : List Str), xs = [.ref a] ∧ Rd H a (.dK kvs) ∧ kvs.map (·.1) = ks.map Sum.inr ∧
    ∀ ys p, ys.Perm ks → sortedS ys = true → H p = none → Q (.ref p) (upd H p (.lst (ys.map V.str)))
theorem cr_sortedDL (hcalm : X.calm = true) : CallR X (.builtin "sorted") rSortedDL := by
  intro pins s σ H xs us Q I r q
  obtain ⟨a, kvs, ks, ex, hd, hks, q⟩ := q
  subst ex
  obtain ⟨u, eu, rx⟩ := vals1 r
  subst eu
  cases rx
  obtain ⟨z, lo, vs, rel, dd⟩ := dk_rd I.hok hd
  obtain ⟨ep, hat⟩ := dd.dictAt
  have hkeys : vs.map (·.1) = ks.map Sum.inr := rel.keys.symm.trans hks
  have hl : vs.length = ks.length := by
    have e := congrArg List.length hkeys
    rw [List.length_map, List.length_map] at e
    exact e
  have hkl : kvs.length = vs.length := by
    have e := congrArg List.length rel.keys
    rw [List.length_map, List.length_map] at e
    exact e
  have h16 : vs.length ≤ sizeLine := by rw [← hkl]; exact z
  refine Calls.call_function_entry PyProof.Rows.kind_sorted PyProof.Rows.plain_sorted PyProof.Rows.entry_sorted (PyProof.Rows.args_sorted1 _) ?_
  unfold Builtin.«sorted»
  refine wpAny_bind (m := checkCount "sorted" 1 1 _) (wpAny_pure ?_)
  refine wpAny_bind (PySem.W.kdu_collect (A := X.A.in1) (PySem.W.kdl_dict (knd := mixKind X.prog X.w) (kvs := vs) (ep := ep) lo) (I.ok.hd hcalm) hat h16 fun h' tk acc hk hacc => ?_)
  have hal : acc.toList.length = ks.length := by rw [Array.length_toList, hacc.1, hl]
  have hS : StrsAre acc.toList ks := strs_at hal fun j v e => by
    obtain ⟨k, x, e1, e2⟩ := hacc.2 j v (by rw [← Array.getElem?_toList]; exact e)
    have e3 : (vs.map (·.1))[j]? = some k := by rw [List.getElem?_map, e1]; all_goals rfl
    rw [hkeys, List.getElem?_map] at e3
    cases e4 : ks[j]? with
    | none => rw [e4] at e3; cases e3
    | some y =>
      rw [e4] at e3
      have e5 : Sum.inr y = k := Option.some.inj e3
      subst e5
      obtain ⟨t, ev⟩ := Value.isStrOf_shape (x := y) (v := v) e2
      exact ⟨y, t, rfl, ev⟩
  have I1 : Inv X pins σ H { s with heap := h', toks := tk } := I.kept hk
  refine wpAny_bind (wpAny_newList ?_ (by rw [hal, ← hl]; exact h16))
  have hoL : (h'.push (seqObj "list" acc.toList.toArray 0)).get? h'.objs.size = some (seqObj "list" acc.toList.toArray 0) := Heap.get?_push_size _ rfl
  show wpAny _ _ _ _ _ { s with heap := h'.push (seqObj "list" acc.toList.toArray 0), toks := tk }
  refine wpAny_bind (wpAny_holding (wpAny_call_entry PyProof.Rows.slot_list_sort ⟨_, hoL, rfl⟩ PyProof.Rows.entry_list_sort
    (list_sort_treeKAny strKind_oneLt (s := { s with heap := h'.push (seqObj "list" acc.toList.toArray 0), toks := tk }) hoL hS.keysOf (fun v₁ v₂ rest e => keyKind_strs (by rw [← e]; exact hS)) (by rw [hal, ← hl]; exact h16) fun st' hp hs => ⟨_, rfl, ?_⟩)
    (PyProof.Rows.args_list_sort _)))
  obtain ⟨ys, g1, g2, g3⟩ := sorted_out_str hS hp hs
  obtain ⟨e', he'⟩ := PyProof.Rows.sortedHeap_at (vs := acc.toList) (out := (arrOf st').map (·.2)) hoL
  have hlen : (ys.map V.str).length ≤ sizeLine := by
    rw [List.length_map, g2.length_eq, ← hl]
    exact h16
  refine wpAny_pure ⟨_, rfl, .ref h'.objs.size, upd H h'.objs.size (.lst (ys.map V.str)), I1.laid (t' := tk) (fun b u e => ?_) (Nat.le_refl _)
    (show ObjOk X.prog X.w _ _ _ (.lst (ys.map V.str)) from ⟨hlen, ((arrOf st').map (·.2)).toList, e', vals_of_strs g1, by rw [Array.toArray_toList]; exact he'⟩), rfl, q ys _ g2 g3 (I1.hok.fresh (Nat.le_refl _))⟩
  have hb : b < h'.objs.size := Heap.lt_size e
  rw [PyProof.Rows.sortedHeap_old (Nat.ne_of_lt hb) (by rw [size_push']; exact Nat.lt_succ_of_lt hb)]
  exact Heap.get?_push_of_some _ e
end
end LX
namespace KB
open PySem L2 L2H LX
/-! ### the order of texts -/
abbrev ltS (x y : Str) : Prop := tl x < tl y
abbrev leS (x y : Str) : Prop := PySem.Spec.ltCps y.cps.toList x.cps.toList = false
theorem leS_iff {x y : Str} : leS x y ↔ ¬ tl y < tl x := by
  unfold leS
  rw [PyProof.Rows.ltCps_eq, decide_eq_false_iff_not]
theorem leS_refl (x : Str) : leS x x := leS_iff.mpr (List.lt_irrefl _)
theorem leS_trans {x y z : Str} (a : leS x y) (b : leS y z) : leS x z := by
  rw [leS_iff] at a b ⊢
  exact List.not_lt.mpr (List.le_trans (List.not_lt.mp a) (List.not_lt.mp b))
theorem leS_antisymm {x y : Str} (a : leS x y) (b : leS y x) : x = y := by
  rw [leS_iff] at a b
  exact TL.ext_tl (List.le_antisymm (List.not_lt.mp a) (List.not_lt.mp b))
theorem rising_pw : ∀ (p : Str) (l : List Str), PyProof.Rows.risingS p l = true → (p :: l).Pairwise leS
  | p, [], _ => List.pairwise_singleton _ _
  | p, x :: r, h => by
    unfold PyProof.Rows.risingS at h
    rw [Bool.and_eq_true, Bool.not_eq_true'] at h
    have q := rising_pw x r h.2
    refine List.pairwise_cons.mpr ⟨fun y hy => ?_, q⟩
    rcases List.mem_cons.mp hy with e | hy
    · rw [e]; exact h.1
    · exact leS_trans h.1 ((List.pairwise_cons.mp q).1 y hy)
theorem sortedS_pw {l : List Str} (h : PyProof.Rows.sortedS l = true) : l.Pairwise leS := by
  cases l with
  | nil => exact .nil
  | cons x r => exact rising_pw x r h
theorem pw_uniq : ∀ {l m : List Str}, l.Pairwise leS → m.Pairwise leS → l.Perm m → l = m
  | [], m, _, _, h => (List.Perm.eq_nil h.symm).symm
  | x :: l, [], _, _, h => absurd h.length_eq (by simp)
  | x :: l, y :: m, a, b, h => by
    have h1 : leS y x := by
      rcases List.mem_cons.mp (h.mem_iff.mp (List.mem_cons_self (a := x) (l := l))) with e | hx
      · rw [e]; exact leS_refl y
      · exact (List.pairwise_cons.mp b).1 x hx
    have h2 : leS x y := by
      rcases List.mem_cons.mp (h.mem_iff.mpr (List.mem_cons_self (a := y) (l := m))) with e | hx
      · rw [e]; exact leS_refl x
      · exact (List.pairwise_cons.mp a).1 y hx
    have e := leS_antisymm h2 h1
    subst e
    rw [pw_uniq (List.pairwise_cons.mp a).2 (List.pairwise_cons.mp b).2 h.cons_inv]
theorem sortedS_uniq {l m : List Str} (a : PyProof.Rows.sortedS l = true) (b : PyProof.Rows.sortedS m = true) (h : l.Perm m) : l = m := pw_uniq (sortedS_pw a) (sortedS_pw b) h
/-! ### tables of texts -/
abbrev KVs := List (Str × Str)
def getP (d : KVs) (k : Str) : Option Str := (d.find? fun p => decide (p.1 = k)).map (·.2)
def putP (d : KVs) (k v : Str) : KVs := if (d.any fun p => decide (p.1 = k)) = true then d.map (fun p => if p.1 = k then (p.1, v) else p) else d ++ [(k, v)]
def dropP (d : KVs) (k : Str) : KVs := d.filter fun p => decide (p.1 ≠ k)
def dV (d : KVs) : List (Key × V) := d.map fun p => ((Sum.inr p.1 : Key), V.str p.2)
theorem inrD (a b : Str) : decide ((Sum.inr a : Key) = Sum.inr b) = decide (a = b) := by
  by_cases e : a = b
  · rw [decide_eq_true e, decide_eq_true (congrArg Sum.inr e)]
  · rw [decide_eq_false e, decide_eq_false fun z => e (Sum.inr.inj z)]
theorem valV_dV (d : KVs) (k : Str) : valV (dV d) (Sum.inr k) = (getP d k).map V.str := by
  induction d with
  | nil => rfl
  | cons p r ih =>
    by_cases e : p.1 = k
    · show valV ((Sum.inr p.1, V.str p.2) :: dV r) (Sum.inr k) = _
      rw [valV_pos (by exact congrArg Sum.inr e)]
      unfold getP
      rw [List.find?_cons_of_pos (by exact decide_eq_true e)]
      rfl
    · show valV ((Sum.inr p.1, V.str p.2) :: dV r) (Sum.inr k) = _
      rw [valV_neg (by exact fun z => e (Sum.inr.inj z)), ih]
      unfold getP
      rw [List.find?_cons_of_neg (by rw [decide_eq_false e]; decide)]
theorem any_dV (d : KVs) (k : Str) : ((dV d).any fun kv => decide (kv.1 = Sum.inr k)) = d.any fun p => decide (p.1 = k) := by
  unfold dV
  rw [List.any_map]
  congr 1
  funext p
  exact inrD p.1 k
theorem putK_dV (d : KVs) (k v : Str) : putK (dV d) (Sum.inr k) (.str v) = dV (putP d k v) := by
  unfold putK putP
  rw [any_dV]
  by_cases e : (d.any fun p => decide (p.1 = k)) = true
  · rw [if_pos e, if_pos e]
    unfold dV
    rw [List.map_map, List.map_map]
    refine List.map_congr_left fun p _ => ?_
    show (if (Sum.inr p.1 : Key) = Sum.inr k then _ else _) = _
    by_cases z : p.1 = k
    · rw [if_pos (congrArg Sum.inr z)]
      simp only [Function.comp_apply, if_pos z]
    · rw [if_neg fun y => z (Sum.inr.inj y)]
      simp only [Function.comp_apply, if_neg z]
  · rw [if_neg e, if_neg e]
    unfold dV
    rw [List.map_append]
    rfl
theorem dropK_dV (d : KVs) (k : Str) : dropK (dV d) (Sum.inr k) = dV (dropP d k) := by
  unfold dropK dropP dV
  rw [List.filter_map]
  congr 1
  refine List.filter_congr fun p _ => ?_
  show decide ((Sum.inr p.1 : Key) ≠ Sum.inr k) = decide (p.1 ≠ k)
  refine decide_eq_decide.mpr (not_congr ⟨fun y => Sum.inr.inj y, fun y => congrArg Sum.inr y⟩)
theorem keys_dV (d : KVs) : (dV d).map (·.1) = (d.map (·.1)).map Sum.inr := by
  unfold dV
  rw [List.map_map, List.map_map]
  rfl
theorem getP_any (d : KVs) (k : Str) : (d.any fun p => decide (p.1 = k)) = (getP d k).isSome := by
  induction d with
  | nil => rfl
  | cons p r ih =>
    rw [List.any_cons]
    unfold getP
    by_cases e : p.1 = k
    · rw [List.find?_cons_of_pos (by exact decide_eq_true e), decide_eq_true e]; rfl
    · rw [List.find?_cons_of_neg (by rw [decide_eq_false e]; decide), decide_eq_false e, Bool.false_or, ih]; rfl
theorem getP_none {d : KVs} {k : Str} : getP d k = none ↔ k ∉ d.map (·.1) := by
  rw [← Option.not_isSome_iff_eq_none, ← getP_any, List.any_eq_true]
  constructor
  · intro h m
    obtain ⟨p, hp, e⟩ := List.mem_map.mp m
    exact h ⟨p, hp, decide_eq_true e⟩
  · rintro h ⟨p, hp, e⟩
    exact h (List.mem_map.mpr ⟨p, hp, of_decide_eq_true e⟩)
theorem getP_mem {d : KVs} {k v : Str} (h : getP d k = some v) : (k, v) ∈ d := by
  unfold getP at h
  cases e : d.find? (fun p => decide (p.1 = k)) with
  | none => rw [e] at h; cases h
  | some p =>
    rw [e] at h
    have h1 : p.2 = v := Option.some.inj h
    have h2 : p.1 = k := of_decide_eq_true (List.find?_some (p := fun p : Str × Str => decide (p.1 = k)) e)
    have h3 := List.mem_of_find?_eq_some e
    rw [← h1, ← h2]
    exact h3
theorem getP_of {d : KVs} (n : (d.map (·.1)).Nodup) {p : Str × Str} (h : p ∈ d) : getP d p.1 = some p.2 := by
  induction d with
  | nil => cases h
  | cons q r ih =>
    rw [List.map_cons, List.nodup_cons] at n
    unfold getP
    rcases List.mem_cons.mp h with e | h
    · subst e
      rw [List.find?_cons_of_pos (by exact decide_eq_true rfl)]; rfl
    · have ne : ¬ q.1 = p.1 := fun z => n.1 (z ▸ List.mem_map.mpr ⟨p, h, rfl⟩)
      rw [List.find?_cons_of_neg (by rw [decide_eq_false ne]; decide)]
      exact ih n.2 h
theorem keys_putP_old {d : KVs} {k v : Str} (h : (d.any fun p => decide (p.1 = k)) = true) : (putP d k v).map (·.1) = d.map (·.1) := by
  unfold putP
  rw [if_pos h, List.map_map]
  refine List.map_congr_left fun p _ => ?_
  by_cases z : p.1 = k
  · simp only [Function.comp_apply, if_pos z]
  · simp only [Function.comp_apply, if_neg z]
theorem putP_nodup {d : KVs} {k v : Str} (n : (d.map (·.1)).Nodup) : ((putP d k v).map (·.1)).Nodup := by
  by_cases h : (d.any fun p => decide (p.1 = k)) = true
  · rw [keys_putP_old h]; exact n
  · unfold putP
    rw [if_neg h, List.map_append, List.map_cons, List.map_nil]
    have nk : k ∉ d.map (·.1) := by
      rw [← getP_none, ← Option.not_isSome_iff_eq_none, ← getP_any]
      exact h
    refine List.nodup_append.mpr ⟨n, List.nodup_cons.mpr ⟨fun z => (nomatch z), List.nodup_nil⟩, fun a ha b hb z => nk ?_⟩
    have z2 : a = k := z.trans (List.mem_singleton.mp hb)
    rw [← z2]
    exact ha
theorem putP_len (d : KVs) (k v : Str) : (putP d k v).length ≤ d.length + 1 := by
  unfold putP
  split
  · rw [List.length_map]; exact Nat.le_succ _
  · rw [List.length_append]; exact Nat.le_refl _
theorem dropP_len (d : KVs) (k : Str) : (dropP d k).length ≤ d.length := List.length_filter_le _ _
theorem dropP_nodup {d : KVs} {k : Str} (n : (d.map (·.1)).Nodup) : ((dropP d k).map (·.1)).Nodup := n.sublist (List.Sublist.map _ List.filter_sublist)
theorem getP_putP (d : KVs) (k v j : Str) : getP (putP d k v) j = if k = j then some v else getP d j := by
  unfold putP
  by_cases h : (d.any fun p => decide (p.1 = k)) = true
  · rw [if_pos h]
    induction d with
    | nil => cases h
    | cons p r ih =>
      rw [List.map_cons]
      unfold getP
      by_cases z : p.1 = k
      · rw [if_pos z]
        by_cases e : k = j
        · rw [if_pos e, List.find?_cons_of_pos (by exact decide_eq_true (z.trans e))]; rfl
        · have e' : ¬ p.1 = j := fun y => e (z.symm.trans y)
          rw [if_neg e, List.find?_cons_of_neg (by rw [decide_eq_false e']; decide), List.find?_cons_of_neg (by rw [decide_eq_false e']; decide)]
          by_cases h' : (r.any fun p => decide (p.1 = k)) = true
          · have := ih h'
            rw [if_neg e] at this
            exact this
          · have : r.map (fun p => if p.1 = k then (p.1, v) else p) = r := by
              refine (List.map_congr_left fun q hq => ?_).trans (List.map_id r)
              rw [if_neg fun y => h' (List.any_eq_true.mpr ⟨q, hq, decide_eq_true y⟩)]
              rfl
            rw [this]
      · rw [if_neg z]
        have h' : (r.any fun p => decide (p.1 = k)) = true := by
          rw [List.any_cons, decide_eq_false z, Bool.false_or] at h
          exact h
        by_cases e : p.1 = j
        · rw [List.find?_cons_of_pos (by exact decide_eq_true e), List.find?_cons_of_pos (by exact decide_eq_true e), if_neg fun y => z (e.trans y.symm)]
        · rw [List.find?_cons_of_neg (by rw [decide_eq_false e]; decide), List.find?_cons_of_neg (by rw [decide_eq_false e]; decide)]
          exact ih h'
  · rw [if_neg h]
    induction d with
    | nil =>
      show getP [(k, v)] j = _
      unfold getP
      by_cases e : k = j
      · rw [if_pos e, List.find?_cons_of_pos (by exact decide_eq_true e)]; rfl
      · rw [if_neg e, List.find?_cons_of_neg (by rw [decide_eq_false e]; decide)]
    | cons p r ih =>
      have h2 := h
      rw [List.any_cons, Bool.or_eq_true, not_or] at h2
      have z : ¬ p.1 = k := fun y => h2.1 (decide_eq_true y)
      rw [List.cons_append]
      unfold getP
      by_cases e : p.1 = j
      · rw [List.find?_cons_of_pos (by exact decide_eq_true e), List.find?_cons_of_pos (by exact decide_eq_true e), if_neg fun y => z (e.trans y.symm)]
      · rw [List.find?_cons_of_neg (by rw [decide_eq_false e]; decide), List.find?_cons_of_neg (by rw [decide_eq_false e]; decide)]
        exact ih h2.2
theorem getP_dropP (d : KVs) (k j : Str) : getP (dropP d k) j = if k = j then none else getP d j := by
  induction d with
  | nil => split <;> rfl
  | cons p r ih =>
    unfold dropP at ih ⊢
    by_cases z : p.1 = k
    · rw [List.filter_cons_of_neg (by simp [z]), ih]
      by_cases e : k = j
      · rw [if_pos e, if_pos e]
      · rw [if_neg e, if_neg e]
        unfold getP
        rw [List.find?_cons_of_neg (by rw [decide_eq_false fun y => e (z.symm.trans y)]; decide)]
    · rw [List.filter_cons_of_pos (by simp [z])]
      unfold getP at ih ⊢
      by_cases e : p.1 = j
      · rw [List.find?_cons_of_pos (by exact decide_eq_true e), List.find?_cons_of_pos (by exact decide_eq_true e), if_neg fun y => z (e.trans y.symm)]
      · rw [List.find?_cons_of_neg (by rw [decide_eq_false e]; decide), List.find?_cons_of_neg (by rw [decide_eq_false e]; decide)]
        exact ih
/-- just what f tells, in the keys' order -/
structure Told (f : Str → Option Str) (ps : KVs) : Prop where
  srt : PyProof.Rows.sortedS (ps.map (·.1)) = true
  nd : (ps.map (·.1)).Nodup
  get : ∀ k, getP ps k = f k
theorem Told.uniq {f : Str → Option Str} {ps qs : KVs} (a : Told f ps) (b : Told f qs) : ps = qs := by
  have pe : (ps.map (·.1)).Perm (qs.map (·.1)) := by
    refine (List.perm_ext_iff_of_nodup a.nd b.nd).mpr fun k => ?_
    have h1 := getP_none (d := ps) (k := k)
    have h2 := getP_none (d := qs) (k := k)
    rw [a.get] at h1
    rw [b.get] at h2
    exact Decidable.not_iff_not.mp (h1.symm.trans h2)
  have ke := sortedS_uniq a.srt b.srt pe
  have self : ∀ {xs : KVs}, Told f xs → xs = (xs.map (·.1)).map fun k => (k, (f k).getD "") := fun {xs} t => by
    rw [List.map_map]
    refine (List.map_id xs).symm.trans (List.map_congr_left fun p hp => ?_)
    have g := getP_of t.nd hp
    rw [t.get] at g
    show p = (p.1, (f p.1).getD "")
    rw [g]
    rfl
  rw [self a, self b, ke]
/-- sorted keys of a table, each with what it holds -/
theorem told_of {d : KVs} (n : (d.map (·.1)).Nodup) {ys : List Str} (p : ys.Perm (d.map (·.1))) (s : PyProof.Rows.sortedS ys = true) : Told (getP d) (ys.map fun k => (k, (getP d k).getD "")) := by
  have e : (ys.map fun k => (k, (getP d k).getD "")).map (·.1) = ys := by
    rw [List.map_map]
    exact (List.map_congr_left fun _ _ => rfl).trans (List.map_id ys)
  have nd := p.nodup_iff.mpr n
  refine ⟨by rw [e]; exact s, by rw [e]; exact nd, fun k => ?_⟩
  by_cases h : k ∈ ys
  · have := getP_of (d := ys.map fun k => (k, (getP d k).getD "")) (by rw [e]; exact nd) (List.mem_map.mpr ⟨k, h, rfl⟩)
    rw [this]
    cases g : getP d k with
    | some v => rfl
    | none => exact absurd (p.mem_iff.mp h) (getP_none.mp g)
  · rw [getP_none.mpr (by rw [e]; exact h), getP_none.mpr fun z => h (p.mem_iff.mpr z)]
end KB

namespace KB
open PySem L2 L2H LX
/-! ### ears by themselves, as plain lists -/
structure GoodR (r : Row) : Prop where
  ok : r.Ok
  wd : r.w = "put" ∨ r.w = "cut"
/-- the number of the last that was taken in -/
def lastN (b : Int) (tk : List Row) : Int := match tk.getLast? with
  | some r => r.n
  | none => b - 1
def takeM (b : Int) (tk : List Row) : List Row → List Row
  | [] => tk
  | r :: rs => takeM b (if r.n > lastN b tk then tk ++ [r] else tk) rs
def stepM (f : Str → Option Str) (r : Row) : Str → Option Str := fun k => if r.k = k then (if r.w = "put" then some r.v else none) else f k
def holdM (gv : KVs) (tk : List Row) : Str → Option Str := tk.foldl stepM (getP gv)
theorem lastN_snoc (b : Int) (tk : List Row) (r : Row) : lastN b (tk ++ [r]) = r.n := by
  unfold lastN
  rw [List.getLast?_concat]
theorem takeM_len (b : Int) : ∀ (rs tk : List Row), (takeM b tk rs).length ≤ tk.length + rs.length
  | [], tk => Nat.le_refl _
  | r :: rs, tk => by
    unfold takeM
    refine Nat.le_trans (takeM_len b rs _) ?_
    split
    · rw [List.length_append, List.length_cons, List.length_cons, List.length_nil]; omega
    · rw [List.length_cons]; omega
theorem takeM_good {b : Int} : ∀ {rs tk : List Row}, (∀ r ∈ tk, GoodR r) → (∀ r ∈ rs, GoodR r) → ∀ r ∈ takeM b tk rs, GoodR r
  | [], tk, h, _ => h
  | r :: rs, tk, h, g => by
    unfold takeM
    refine takeM_good (rs := rs) ?_ (fun x hx => g x (List.mem_cons_of_mem _ hx))
    split
    · intro x hx
      rcases List.mem_append.mp hx with hx | hx
      · exact h x hx
      · rw [List.mem_singleton.mp hx]; exact g r List.mem_cons_self
    · exact h
theorem takeM_app (b : Int) : ∀ (rs tk ss : List Row), takeM b tk (rs ++ ss) = takeM b (takeM b tk rs) ss
  | [], tk, ss => rfl
  | r :: rs, tk, ss => by
    rw [List.cons_append]
    show takeM b _ (rs ++ ss) = takeM b (takeM b _ rs) ss
    exact takeM_app b rs _ ss
def PairOkF (f : Str → Option Str) : Prop := ∀ k v, f k = some v → TOk 60 k ∧ TOk 60 v
theorem holdF {gv : KVs} (h : ∀ p ∈ gv, PairOk p) : PairOkF (getP gv) := fun k v e => h (k, v) (getP_mem e)
theorem stepF {f : Str → Option Str} {r : Row} (h : PairOkF f) (g : r.Ok) : PairOkF (stepM f r) := fun k v e => by
  unfold stepM at e
  by_cases c : r.k = k
  · rw [if_pos c] at e
    by_cases d : r.w = "put"
    · rw [if_pos d] at e
      cases e
      exact ⟨c ▸ g.k, g.v⟩
    · rw [if_neg d] at e
      cases e
  · rw [if_neg c] at e
    exact h k v e
theorem foldF {f : Str → Option Str} : ∀ {tk : List Row}, PairOkF f → (∀ r ∈ tk, GoodR r) → PairOkF (tk.foldl stepM f)
  | [], h, _ => h
  | r :: tk, h, g => foldF (tk := tk) (stepF h (g r List.mem_cons_self).ok) fun x hx => g x (List.mem_cons_of_mem _ hx)
theorem Told.ok {f : Str → Option Str} {ps : KVs} (h : PairOkF f) (t : Told f ps) : ∀ p ∈ ps, PairOk p := fun p hp => by
  have := getP_of t.nd hp
  rw [t.get] at this
  exact h _ _ this
/-! ### what stands by an ear, whatever it is made of -/
abbrev ErT := List Addr → Hp → Addr → Int → KVs → List Row → Prop
def spEarInit (K : PySem.W.Frag) (C : Addr) (Er : ErT) : Sp := fun vs H Q _ => ∃ (p dx : Addr) (b : Int) (gv : KVs) (pv : V), vs = [.ref p, .int b, pv] ∧ H p = some (.ins C dx []) ∧ 1 ≤ b ∧ (gv.map (·.1)).Nodup ∧ (∀ x ∈ gv, PairOk x) ∧ gv.length ≤ 200 ∧
  ((pv = .non ∧ gv = []) ∨ ∃ q ts, pv = .ref q ∧ (SqL K H q (ts.map V.ref) ∨ SqT K H q (ts.map V.ref)) ∧ PairsAt H ts gv) ∧
  ∀ F H', Er F H' p b gv [] → (∀ a ∈ F, a = p ∨ H a = none) → Ch H H' [p] → Q .non H'
def spEarHear (Er : ErT) : Sp := fun vs H Q _ => ∃ (F : List Addr) (p q : Addr) (b : Int) (gv : KVs) (tk rs : List Row) (ts : List Addr), vs = [.ref p, .ref q] ∧ Er F H p b gv tk ∧ H q = some (.lst (ts.map V.ref)) ∧ q ∉ F ∧ RowsAt H ts rs ∧ (∀ r ∈ rs, GoodR r) ∧
  gv.length + tk.length + rs.length ≤ 990 ∧ ∀ F' H', Er F' H' p b gv (takeM b tk rs) → Grow F F' H → Ch H H' F → Q (.int (lastN b (takeM b tk rs))) H'
def spEarHeard (Er : ErT) : Sp := fun vs H Q _ => ∃ (F : List Addr) (p : Addr) (b : Int) (gv : KVs) (tk : List Row), vs = [.ref p] ∧ Er F H p b gv tk ∧
  ∀ F' q ts H', Er F' H' p b gv tk → Grow F F' H → Ch H H' F → H q = none → q ∉ F' → H' q = some (.lst (ts.map V.ref)) → RowsAt H' ts tk → Q (.ref q) H'
def spEarState (Er : ErT) : Sp := fun vs H Q _ => ∃ (F : List Addr) (p : Addr) (b : Int) (gv : KVs) (tk : List Row), vs = [.ref p] ∧ Er F H p b gv tk ∧ gv.length + tk.length ≤ 990 ∧ (∀ r ∈ tk, GoodR r) ∧
  ∀ F' q ts ps H', Er F' H' p b gv tk → Grow F F' H → Ch H H' F → H q = none → q ∉ F' → H' q = some (.lst (ts.map V.ref)) → PairsAt H' ts ps → Told (holdM gv tk) ps → Q (.ref q) H'
structure EarApi (P : Program) (w : World) (K : PySem.W.Frag) (mg : Str → Option Value) (base : Heap) (C : Addr) (Er : ErT) (hs : List Str) : Prop where
  frame : ∀ {F H H' p b gv tk l}, Er F H p b gv tk → Ch H H' l → (∀ a ∈ F, a ∉ l) → Er F H' p b gv tk
  own : ∀ {F H p b gv tk}, Er F H p b gv tk → ∀ a ∈ F, ∃ o, H a = some o
  inst : ∀ {F H p b gv tk}, Er F H p b gv tk → p ∈ F ∧ ∃ dx fs, H p = some (.ins C dx fs) ∧ ∀ m ∈ ([("hear" : Str), "heard", "state"] : List Str), fs.lookup m = none
  make : ∃ f fd ps, Mk K C f ∧ FnOk P w K mg base CX0 4 f fd ps (spEarInit K C Er) ∧ Binds K fd ps [] ∧ (∃ ds, Vals [.non] ds ∧ Binds K fd ps ds) ∧ (∃ ds, Vals [.int 1, .non] ds ∧ Binds K fd ps ds) ∧
    ∃ g, KBn K fd ps 1 ["pairs", "start"] g fun vs zs => vs ++ zs.reverse
  hear : MDef P w K mg base C "hear" CX0 4 (spEarHear Er)
  heard : MDef P w K mg base C "heard" CX0 4 (spEarHeard Er)
  state : ("state" : Str) ∈ hs → MDef P w K mg base C "state" CX0 4 (spEarState Er)
end KB

namespace KB
open PySem L2 L2H LX
/-! ### tables of any kind, beside the dicts that hold them -/
section
variable {α β : Type} [DecidableEq α]
def getA (d : List (α × β)) (k : α) : Option β := (d.find? fun p => decide (p.1 = k)).map (·.2)
def putA (d : List (α × β)) (k : α) (v : β) : List (α × β) := if (d.any fun p => decide (p.1 = k)) = true then d.map (fun p => if p.1 = k then (p.1, v) else p) else d ++ [(k, v)]
def dropA (d : List (α × β)) (k : α) : List (α × β) := d.filter fun p => decide (p.1 ≠ k)
theorem getA_nil (k : α) : getA ([] : List (α × β)) k = none := rfl
theorem getA_pos {p : α × β} {r : List (α × β)} {k : α} (e : p.1 = k) : getA (p :: r) k = some p.2 := by
  unfold getA
  rw [List.find?_cons_of_pos (by exact decide_eq_true e)]; rfl
theorem getA_neg {p : α × β} {r : List (α × β)} {k : α} (e : ¬ p.1 = k) : getA (p :: r) k = getA r k := by
  unfold getA
  rw [List.find?_cons_of_neg (by rw [decide_eq_false e]; decide)]
theorem getA_any (d : List (α × β)) (k : α) : (d.any fun p => decide (p.1 = k)) = (getA d k).isSome := by
  induction d with
  | nil => rfl
  | cons p r ih =>
    rw [List.any_cons]
    by_cases e : p.1 = k
    · rw [getA_pos e, decide_eq_true e]; rfl
    · rw [getA_neg e, decide_eq_false e, Bool.false_or, ih]
theorem getA_none {d : List (α × β)} {k : α} : getA d k = none ↔ k ∉ d.map (·.1) := by
  rw [← Option.not_isSome_iff_eq_none, ← getA_any, List.any_eq_true]
  constructor
  · intro h m
    obtain ⟨p, hp, e⟩ := List.mem_map.mp m
    exact h ⟨p, hp, decide_eq_true e⟩
  · rintro h ⟨p, hp, e⟩
    exact h (List.mem_map.mpr ⟨p, hp, of_decide_eq_true e⟩)
theorem getA_mem {d : List (α × β)} {k : α} {v : β} (h : getA d k = some v) : (k, v) ∈ d := by
  induction d with
  | nil => cases h
  | cons p r ih =>
    by_cases e : p.1 = k
    · rw [getA_pos e] at h
      have : p.2 = v := Option.some.inj h
      rw [← this, ← e]
      exact List.mem_cons_self
    · rw [getA_neg e] at h
      exact List.mem_cons_of_mem _ (ih h)
theorem getA_of {d : List (α × β)} (n : (d.map (·.1)).Nodup) {p : α × β} (h : p ∈ d) : getA d p.1 = some p.2 := by
  induction d with
  | nil => cases h
  | cons q r ih =>
    rw [List.map_cons, List.nodup_cons] at n
    rcases List.mem_cons.mp h with e | h
    · subst e
      exact getA_pos rfl
    · rw [getA_neg fun z => n.1 (z ▸ List.mem_map.mpr ⟨p, h, rfl⟩)]
      exact ih n.2 h
theorem putA_new {d : List (α × β)} {k : α} {v : β} (h : getA d k = none) : putA d k v = d ++ [(k, v)] := by
  unfold putA
  rw [getA_any, h, if_neg (fun z => by cases z)]
theorem keys_putA_old {d : List (α × β)} {k : α} {v : β} (h : (d.any fun p => decide (p.1 = k)) = true) : (putA d k v).map (·.1) = d.map (·.1) := by
  unfold putA
  rw [if_pos h, List.map_map]
  refine List.map_congr_left fun p _ => ?_
  by_cases z : p.1 = k
  · simp only [Function.comp_apply, if_pos z]
  · simp only [Function.comp_apply, if_neg z]
theorem putA_nodup {d : List (α × β)} {k : α} {v : β} (n : (d.map (·.1)).Nodup) : ((putA d k v).map (·.1)).Nodup := by
  cases h : getA d k with
  | some x => rw [keys_putA_old (by rw [getA_any, h]; rfl)]; exact n
  | none =>
    rw [putA_new h, List.map_append, List.map_cons, List.map_nil]
    refine List.nodup_append.mpr ⟨n, List.nodup_cons.mpr ⟨fun z => (nomatch z), List.nodup_nil⟩, fun a ha b hb z => getA_none.mp h ?_⟩
    have z2 : a = k := z.trans (List.mem_singleton.mp hb)
    rw [← z2]
    exact ha
theorem putA_len (d : List (α × β)) (k : α) (v : β) : (putA d k v).length ≤ d.length + 1 := by
  unfold putA
  split
  · rw [List.length_map]; exact Nat.le_succ _
  · rw [List.length_append]; exact Nat.le_refl _
theorem dropA_len (d : List (α × β)) (k : α) : (dropA d k).length ≤ d.length := List.length_filter_le _ _
theorem dropA_nodup {d : List (α × β)} {k : α} (n : (d.map (·.1)).Nodup) : ((dropA d k).map (·.1)).Nodup := n.sublist (List.Sublist.map _ List.filter_sublist)
theorem getA_mapneg {d : List (α × β)} {k j : α} {v : β} (e : ¬ k = j) : getA (d.map fun p => if p.1 = k then (p.1, v) else p) j = getA d j := by
  induction d with
  | nil => rfl
  | cons p r ih =>
    rw [List.map_cons]
    by_cases z : p.1 = k
    · rw [if_pos z, getA_neg (p := (p.1, v)) (fun y => e (z.symm.trans y)), getA_neg (p := p) (fun y => e (z.symm.trans y)), ih]
    · rw [if_neg z]
      by_cases y : p.1 = j
      · rw [getA_pos y, getA_pos y]
      · rw [getA_neg y, getA_neg y, ih]
theorem getA_mappos {d : List (α × β)} {k : α} {v : β} (h : (getA d k).isSome = true) : getA (d.map fun p => if p.1 = k then (p.1, v) else p) k = some v := by
  induction d with
  | nil => cases h
  | cons p r ih =>
    rw [List.map_cons]
    by_cases z : p.1 = k
    · rw [if_pos z]; exact getA_pos z
    · rw [if_neg z, getA_neg z]
      rw [getA_neg z] at h
      exact ih h
theorem getA_app {d : List (α × β)} {k j : α} {v : β} (h : getA d k = none) : getA (d ++ [(k, v)]) j = if k = j then some v else getA d j := by
  induction d with
  | nil =>
    show getA [(k, v)] j = _
    by_cases e : k = j
    · rw [if_pos e]; exact getA_pos e
    · rw [if_neg e]; exact getA_neg e
  | cons p r ih =>
    have z : ¬ p.1 = k := fun y => by rw [getA_pos y] at h; cases h
    rw [getA_neg z] at h
    rw [List.cons_append]
    by_cases e : p.1 = j
    · rw [getA_pos e, getA_pos e, if_neg fun y => z (e.trans y.symm)]
    · rw [getA_neg e, getA_neg e, ih h]
theorem getA_putA (d : List (α × β)) (k j : α) (v : β) : getA (putA d k v) j = if k = j then some v else getA d j := by
  cases h : getA d k with
  | none => rw [putA_new h, getA_app h]
  | some x =>
    have e : (d.any fun p => decide (p.1 = k)) = true := by rw [getA_any, h]; rfl
    unfold putA
    rw [if_pos e]
    by_cases z : k = j
    · rw [if_pos z, ← z]
      exact getA_mappos (by rw [h]; rfl)
    · rw [if_neg z]
      exact getA_mapneg z
theorem getA_dropA (d : List (α × β)) (k j : α) : getA (dropA d k) j = if k = j then none else getA d j := by
  induction d with
  | nil => split <;> rfl
  | cons p r ih =>
    unfold dropA at ih ⊢
    by_cases z : p.1 = k
    · rw [List.filter_cons_of_neg (by simp [z]), ih]
      by_cases e : k = j
      · rw [if_pos e, if_pos e]
      · rw [if_neg e, if_neg e, getA_neg fun y => e (z.symm.trans y)]
    · rw [List.filter_cons_of_pos (by simp [z])]
      by_cases e : p.1 = j
      · rw [getA_pos e, getA_pos e, if_neg fun y => z (e.trans y.symm)]
      · rw [getA_neg e, getA_neg e, ih]
/-- a dict's pairs beside a table's -/
abbrev DRel (inj : α → Key) (R : β → V → Prop) (d : List (α × β)) (kvs : List (Key × V)) : Prop := Paired (fun (p : α × β) (q : Key × V) => q.1 = inj p.1 ∧ R p.2 q.2) d kvs
theorem DRel.mono {inj : α → Key} {R R' : β → V → Prop} {d : List (α × β)} {kvs : List (Key × V)} (h : DRel inj R d kvs) (s : ∀ b v, R b v → R' b v) : DRel inj R' d kvs := Paired.mono (fun _ _ q => ⟨q.1, s _ _ q.2⟩) h
theorem DRel.get {inj : α → Key} (hi : ∀ a b, inj a = inj b → a = b) {R : β → V → Prop} : ∀ {d : List (α × β)} {kvs : List (Key × V)}, DRel inj R d kvs → ∀ k, (getA d k = none ∧ valV kvs (inj k) = none) ∨ ∃ b v, getA d k = some b ∧ valV kvs (inj k) = some v ∧ R b v
  | _, _, .nil, k => .inl ⟨rfl, rfl⟩
  | p :: r, q :: s, .cons h m, k => by
    by_cases e : p.1 = k
    · exact .inr ⟨p.2, q.2, getA_pos e, valV_pos (h.1.trans (congrArg inj e)), h.2⟩
    · rw [getA_neg e, valV_neg (fun z => e (hi _ _ (h.1.symm.trans z)))]
      exact DRel.get hi m k
theorem DRel.some_ {inj : α → Key} (hi : ∀ a b, inj a = inj b → a = b) {R : β → V → Prop} {d : List (α × β)} {kvs : List (Key × V)} (h : DRel inj R d kvs) {k : α} {b : β} (e : getA d k = some b) : ∃ v, valV kvs (inj k) = some v ∧ R b v := by
  rcases h.get hi k with ⟨z, _⟩ | ⟨b', v, e1, e2, e3⟩
  · rw [e] at z; cases z
  · rw [e] at e1
    cases e1
    exact ⟨v, e2, e3⟩
theorem DRel.none_ {inj : α → Key} (hi : ∀ a b, inj a = inj b → a = b) {R : β → V → Prop} {d : List (α × β)} {kvs : List (Key × V)} (h : DRel inj R d kvs) {k : α} (e : getA d k = none) : valV kvs (inj k) = none := by
  rcases h.get hi k with ⟨_, z⟩ | ⟨b', v, e1, e2, e3⟩
  · exact z
  · rw [e] at e1; cases e1
theorem DRel.isSome {inj : α → Key} (hi : ∀ a b, inj a = inj b → a = b) {R : β → V → Prop} {d : List (α × β)} {kvs : List (Key × V)} (h : DRel inj R d kvs) (k : α) : (valV kvs (inj k)).isSome = (getA d k).isSome := by
  rcases h.get hi k with ⟨z1, z2⟩ | ⟨b', v, e1, e2, e3⟩
  · rw [z1, z2]; rfl
  · rw [e1, e2]; rfl
theorem DRel.put {inj : α → Key} (hi : ∀ a b, inj a = inj b → a = b) {R : β → V → Prop} {d : List (α × β)} {kvs : List (Key × V)} (h : DRel inj R d kvs) {k : α} {b : β} {v : V} (r : R b v) : DRel inj R (putA d k b) (putK kvs (inj k) v) := by
  have any_ : (kvs.any fun kv => decide (kv.1 = inj k)) = d.any fun p => decide (p.1 = k) := by
    rw [valV_any, getA_any]
    exact h.isSome hi k
  unfold putA putK
  rw [any_]
  by_cases e : (d.any fun p => decide (p.1 = k)) = true
  · rw [if_pos e, if_pos e]
    clear e any_
    induction h with
    | nil => exact .nil
    | cons x m ih =>
      rename_i p q l1 l2
      refine .cons ?_ ih
      show (if q.1 = inj k then (q.1, v) else q).1 = inj (if p.1 = k then (p.1, b) else p).1 ∧ R (if p.1 = k then (p.1, b) else p).2 (if q.1 = inj k then (q.1, v) else q).2
      by_cases z : p.1 = k
      · rw [if_pos z, if_pos (x.1.trans (congrArg inj z))]
        exact ⟨x.1, r⟩
      · rw [if_neg z, if_neg fun y => z (hi _ _ (x.1.symm.trans y))]
        exact x
  · rw [if_neg e, if_neg e]
    exact Paired.snoc h ⟨rfl, r⟩
theorem DRel.drop {inj : α → Key} (hi : ∀ a b, inj a = inj b → a = b) {R : β → V → Prop} {d : List (α × β)} {kvs : List (Key × V)} (h : DRel inj R d kvs) (k : α) : DRel inj R (dropA d k) (dropK kvs (inj k)) := by
  unfold dropA dropK
  induction h with
  | nil => exact .nil
  | cons x m ih =>
    rename_i p q l1 l2
    by_cases z : p.1 = k
    · rw [List.filter_cons_of_neg (by simp [z]), List.filter_cons_of_neg (by simp [x.1, z])]
      exact ih
    · have z2 : ¬ q.1 = inj k := fun y => z (hi _ _ (x.1.symm.trans y))
      rw [List.filter_cons_of_pos (by simp [z]), List.filter_cons_of_pos (by simp [z2])]
      exact .cons x ih
theorem DRel.keys {inj : α → Key} {R : β → V → Prop} {d : List (α × β)} {kvs : List (Key × V)} (h : DRel inj R d kvs) : kvs.map (·.1) = (d.map (·.1)).map inj := by
  induction h with
  | nil => rfl
  | cons x m ih => rw [List.map_cons, List.map_cons, List.map_cons, ih, x.1]
theorem DRel.len {inj : α → Key} {R : β → V → Prop} {d : List (α × β)} {kvs : List (Key × V)} (h : DRel inj R d kvs) : kvs.length = d.length := (Paired.length h).symm
end
theorem inl_inj (a b : Int) (h : (Sum.inl a : Key) = Sum.inl b) : a = b := Sum.inl.inj h
theorem inr_inj (a b : Str) (h : (Sum.inr a : Key) = Sum.inr b) : a = b := Sum.inr.inj h
end KB

namespace KA1
open PySem L2 L2H LX KB
/-! ### pairs of ints: the mathematics -/
abbrev Al := List (Int × Int)
def kv (l : Al) : List (Key × V) := l.map fun p => (Sum.inl p.1, V.int p.2)
def aget : Al → Int → Option Int
  | [], _ => none
  | p :: r, k => if p.1 = k then some p.2 else aget r k
def aput (l : Al) (k v : Int) : Al :=
  if (l.any fun p => decide (p.1 = k)) = true then l.map (fun p => if p.1 = k then (p.1, v) else p) else l ++ [(k, v)]
def adrop (l : Al) (k : Int) : Al := l.filter fun p => decide (p.1 ≠ k)
def NDup (l : Al) : Prop := (l.map (·.1)).Nodup
theorem kv_len (l : Al) : (kv l).length = l.length := List.length_map _
theorem inl_iff {a b : Int} : ((Sum.inl a : Key) = Sum.inl b) ↔ a = b := ⟨fun h => Sum.inl.inj h, fun h => by rw [h]⟩
theorem valV_kv (k : Int) : ∀ l : Al, valV (kv l) (Sum.inl k) = (aget l k).map V.int
  | [] => rfl
  | p :: r => by
    show valV ((Sum.inl p.1, V.int p.2) :: kv r) (Sum.inl k) = _
    by_cases h : p.1 = k
    · rw [valV_pos (p := ((Sum.inl p.1 : Key), V.int p.2)) (show (Sum.inl p.1 : Key) = Sum.inl k by rw [h])]
      simp [aget, h]
    · rw [valV_neg (p := ((Sum.inl p.1 : Key), V.int p.2)) (fun e => h (inl_iff.mp e)), valV_kv k r]
      simp [aget, h]
theorem any_kv (k : Int) (l : Al) : ((kv l).any fun q => decide (q.1 = (Sum.inl k : Key))) = l.any fun p => decide (p.1 = k) := by
  unfold kv
  rw [List.any_map]
  congr 1
  funext p
  show decide ((Sum.inl p.1 : Key) = Sum.inl k) = decide (p.1 = k)
  by_cases h : p.1 = k
  · rw [decide_eq_true h, decide_eq_true (inl_iff.mpr h)]
  · rw [decide_eq_false h, decide_eq_false fun e => h (inl_iff.mp e)]
theorem put_kv (l : Al) (k v : Int) : putK (kv l) (Sum.inl k : Key) (V.int v) = kv (aput l k v) := by
  unfold putK aput
  rw [any_kv]
  by_cases h : (l.any fun p => decide (p.1 = k)) = true
  · rw [if_pos h, if_pos h]
    unfold kv
    rw [List.map_map, List.map_map]
    congr 1
    funext p
    show (if (Sum.inl p.1 : Key) = Sum.inl k then ((Sum.inl p.1 : Key), V.int v) else (Sum.inl p.1, V.int p.2)) = ((Sum.inl (if p.1 = k then (p.1, v) else p).1 : Key), V.int (if p.1 = k then (p.1, v) else p).2)
    by_cases e : p.1 = k
    · rw [if_pos (inl_iff.mpr e), if_pos e]
    · rw [if_neg (fun z => e (inl_iff.mp z)), if_neg e]
  · rw [if_neg h, if_neg h]
    unfold kv
    rw [List.map_append]; rfl
theorem drop_kv (l : Al) (k : Int) : dropK (kv l) (Sum.inl k : Key) = kv (adrop l k) := by
  unfold dropK adrop kv
  rw [List.filter_map]
  congr 1
  congr 1
  funext p
  show decide ((Sum.inl p.1 : Key) ≠ Sum.inl k) = decide (p.1 ≠ k)
  exact decide_eq_decide.mpr (not_congr inl_iff)
theorem mapint_inj {a b : Option Int} (h : a.map V.int = b.map V.int) : a = b := by
  cases a <;> cases b <;> simp_all
theorem aget_put (l : Al) (k v j : Int) : aget (aput l k v) j = if j = k then some v else aget l j := by
  have h : (aget (aput l k v) j).map V.int = (if j = k then some v else aget l j).map V.int := by
    rw [← valV_kv, ← put_kv, valV_put]
    by_cases e : j = k
    · rw [if_pos (inl_iff.mpr e), if_pos e]; rfl
    · rw [if_neg (fun z => e (inl_iff.mp z)), if_neg e, valV_kv]
  exact mapint_inj h
theorem aget_any (k : Int) : ∀ l : Al, (l.any fun p => decide (p.1 = k)) = (aget l k).isSome
  | [] => rfl
  | p :: r => by
    rw [List.any_cons, aget_any k r]
    by_cases h : p.1 = k
    · simp [aget, h]
    · simp [aget, h]
theorem len_put (l : Al) (k v : Int) : (aput l k v).length ≤ l.length + 1 := by
  unfold aput
  split
  · rw [List.length_map]; omega
  · rw [List.length_append]; simp
theorem len_drop (l : Al) (k : Int) : (adrop l k).length ≤ l.length := List.length_filter_le _ _
theorem aget_mem {k v : Int} : ∀ {l : Al}, aget l k = some v → (k, v) ∈ l
  | [], h => by cases h
  | p :: r, h => by
    unfold aget at h
    by_cases e : p.1 = k
    · rw [if_pos e] at h
      cases h
      exact List.mem_cons.mpr (.inl (by rw [← e]))
    · rw [if_neg e] at h
      exact List.mem_cons.mpr (.inr (aget_mem h))
theorem aget_of {k v : Int} : ∀ {l : Al}, NDup l → (k, v) ∈ l → aget l k = some v
  | [], _, h => by cases h
  | p :: r, nd, h => by
    obtain ⟨h1, h2⟩ := List.nodup_cons.mp (show (p.1 :: r.map (·.1)).Nodup from nd)
    unfold aget
    rcases List.mem_cons.mp h with e | e
    · rw [← e]; simp
    · have ne : ¬ p.1 = k := fun z => h1 (List.mem_map.mpr ⟨(k, v), e, z.symm⟩)
      rw [if_neg ne]
      exact aget_of h2 e
theorem nd_adrop {l : Al} (k : Int) (h : NDup l) : NDup (adrop l k) := h.sublist (List.filter_sublist.map _)
theorem nd_aput {l : Al} (k v : Int) (h : NDup l) : NDup (aput l k v) := by
  unfold aput
  by_cases e : (l.any fun p => decide (p.1 = k)) = true
  · rw [if_pos e]
    unfold NDup
    rw [List.map_map]
    have q : ((fun x : Int × Int => x.1) ∘ fun p : Int × Int => if p.1 = k then (p.1, v) else p) = fun p => p.1 := by
      funext p
      show (if p.1 = k then (p.1, v) else p).1 = p.1
      split <;> rfl
    rw [q]
    exact h
  · rw [if_neg e]
    unfold NDup
    rw [List.map_append]
    refine L2.nd_snoc h fun m => e ?_
    obtain ⟨p, hp, ep⟩ := List.mem_map.mp m
    exact List.any_eq_true.mpr ⟨p, hp, decide_eq_true ep⟩
theorem aget_drop {l : Al} {k j v : Int} (nd : NDup l) (h : aget (adrop l k) j = some v) : aget l j = some v ∧ j ≠ k := by
  have m := List.mem_filter.mp (aget_mem h)
  exact ⟨aget_of nd m.1, of_decide_eq_true m.2⟩
theorem aget_drop_ne {l : Al} {k j v : Int} (nd : NDup l) (h : aget l j = some v) (ne : j ≠ k) : aget (adrop l k) j = some v :=
  aget_of (nd_adrop k nd) (List.mem_filter.mpr ⟨aget_mem h, decide_eq_true ne⟩)
/-- which end up to a tick -/
def dueL (E : Al) (u : Int) : Al := (E.filter fun p => decide (p.2 ≤ u)).map fun p => (p.2, p.1)
/-- the order of pairs -/
def Asc (l : Al) : Prop := l.Pairwise fun x y => SrtO.lexB y x = false
theorem asc_uniq : ∀ {p q : Al}, Asc p → Asc q → p.Perm q → p = q
  | [], q, _, _, h => (List.nil_perm.mp h).symm
  | a :: p, q, hp, hq, h => by
    cases q with
    | nil => exact absurd h.length_eq (by simp)
    | cons b q =>
      obtain ⟨p1, p2⟩ := List.pairwise_cons.mp hp
      obtain ⟨q1, q2⟩ := List.pairwise_cons.mp hq
      have ab : a = b := by
        have ma : a ∈ b :: q := h.mem_iff.mp List.mem_cons_self
        have mb : b ∈ a :: p := h.mem_iff.mpr List.mem_cons_self
        rcases List.mem_cons.mp ma with e | ma
        · exact e
        rcases List.mem_cons.mp mb with e | mb
        · exact e.symm
        have x1 := SrtO.lexB_no.mp (p1 b mb)
        have x2 := SrtO.lexB_no.mp (q1 a ma)
        obtain ⟨a1, a2⟩ := a
        obtain ⟨b1, b2⟩ := b
        dsimp only at x1 x2
        have e1 : a1 = b1 := by omega
        have e2 : a2 = b2 := by omega
        rw [e1, e2]
      subst ab
      rw [asc_uniq p2 q2 (List.perm_cons a |>.mp h)]

end KA1

namespace KL
open PySem L2 L2H LX KB KA1
/-! ### a lot of leases -/
theorem k_tg : ¬ (("_ticks" : Str) = "_given") := by decide +kernel
theorem k_eg : ¬ (("_ends" : Str) = "_given") := by decide +kernel
theorem k_et : ¬ (("_ends" : Str) = "_ticks") := by decide +kernel
def flds (n : Int) (dt de : Addr) : List (Str × V) := putF "_ends" (.ref de) (putF "_ticks" (.ref dt) (putF "_given" (.int n) []))
theorem flds_eq (n : Int) (dt de : Addr) : flds n dt de = [(("_given" : Str), V.int n), ("_ticks", V.ref dt), ("_ends", V.ref de)] := by
  have h1 : ¬ (("_given" : Str) = "_ticks") := fun e => k_tg e.symm
  have h2 : ¬ (("_given" : Str) = "_ends") := fun e => k_eg e.symm
  have h3 : ¬ (("_ticks" : Str) = "_ends") := fun e => k_et e.symm
  unfold flds
  simp only [putF, if_neg h1, if_neg h2, if_neg h3]
theorem flds_n (n : Int) (dt de : Addr) : (flds n dt de).lookup ("_given" : Str) = some (.int n) := by
  unfold flds
  rw [lookup_putF, if_neg (fun e => k_eg e.symm), lookup_putF, if_neg (fun e => k_tg e.symm), lookup_putF, if_pos rfl]
theorem flds_t (n : Int) (dt de : Addr) : (flds n dt de).lookup ("_ticks" : Str) = some (.ref dt) := by
  unfold flds
  rw [lookup_putF, if_neg (fun e => k_et e.symm), lookup_putF, if_pos rfl]
theorem flds_e (n : Int) (dt de : Addr) : (flds n dt de).lookup ("_ends" : Str) = some (.ref de) := by
  unfold flds
  rw [lookup_putF, if_pos rfl]
theorem flds_no (n : Int) (dt de : Addr) {m : Str} (h1 : ¬ m = "_given") (h2 : ¬ m = "_ticks") (h3 : ¬ m = "_ends") : (flds n dt de).lookup m = none := by
  unfold flds
  rw [lookup_putF, if_neg h3, lookup_putF, if_neg h2, lookup_putF, if_neg h1]
  all_goals rfl
theorem flds_put (n y : Int) (dt de : Addr) : putF "_given" (.int y) (flds n dt de) = flds y dt de := by
  rw [flds_eq, flds_eq]
  simp only [putF, if_pos]
structure LotAt (C : Addr) (H : Hp) (p dt de : Addr) (n : Int) (T E : Al) : Prop where
  ob : ∃ dx, H p = some (.ins C dx (flds n dt de))
  tk : H dt = some (.dK (kv T))
  en : H de = some (.dK (kv E))
  ne : dt ≠ de
/-- what the walk asks of the class -/
structure LeaT (K : PySem.W.Frag) (mg : Str → Option Value) (C : Addr) : Prop where
  cl : Cls K C
  nG : NoAttr K C "_given"
  nT : NoAttr K C "_ticks"
  nE : NoAttr K C "_ends"
  mgC : mg "Leases" = some (.ref C)
/-- an own error class, made with a text -/
structure ErrT (K : PySem.W.Frag) (mg : Str → Option Value) (x : Str) (B : Addr) : Prop where
  g : mg x = some (.ref B)
  x : PySem.W.excIn K B [.type "ValueError", .type "Exception", .type "BaseException", .type "object"] "ValueError.__new__" = true
  k : PySem.W.keepIn K (.ref B) = true
  b : PySem.W.subIn K (.ref B) (.type "BaseException") = some true
  t : PySem.W.typeIn K (.ref B) = some (.type "type")
/-! ### the promises -/
def spLeInit (C : Addr) : Sp := fun vs H Q _ => ∃ (p dx : Addr), vs = [.ref p] ∧ H p = some (.ins C dx []) ∧
  ∀ (dt de : Addr) (H' : Hp), H dt = none → H de = none → LotAt C H' p dt de 0 [] [] → Ch H H' [p] → Q .non H'
def spLeRefuse (C NL : Addr) : Sp := fun vs H Q E => ∃ (p dt de : Addr) (n k : Int) (T En : Al), vs = [.ref p, .int k] ∧ LotAt C H p dt de n T En ∧
  (aget En k = none → E (.ref NL) none H) ∧ ((aget En k).isSome = true → Q .non H)
def spLeGrant (C BT : Addr) : Sp := fun vs H Q E => ∃ (p dt de : Addr) (n now t : Int) (T En : Al), vs = [.ref p, .int now, .int t] ∧ LotAt C H p dt de n T En ∧ T.length ≤ 900 ∧ En.length ≤ 900 ∧
  (t < 1 ∨ 1000000 < t → E (.ref BT) none H) ∧
  (1 ≤ t → t ≤ 1000000 → ∀ H', LotAt C H' p dt de (n + 1) (aput T (n + 1) t) (aput En (n + 1) (now + t)) → Ch H H' [p, dt, de] → Q (.int (n + 1)) H')
def spLeRenew (C NL : Addr) : Sp := fun vs H Q E => ∃ (p dt de : Addr) (n now k : Int) (T En : Al), vs = [.ref p, .int now, .int k] ∧ LotAt C H p dt de n T En ∧ En.length ≤ 900 ∧
  (aget En k = none → E (.ref NL) none H) ∧
  ((aget En k).isSome = true → ∃ t, aget T k = some t ∧ ∀ H', LotAt C H' p dt de n T (aput En k (now + t)) → Ch H H' [p, dt, de] → Q .non H')
def spLeDrop (C NL : Addr) : Sp := fun vs H Q E => ∃ (p dt de : Addr) (n k : Int) (T En : Al), vs = [.ref p, .int k] ∧ LotAt C H p dt de n T En ∧
  (aget En k = none → E (.ref NL) none H) ∧
  ((aget En k).isSome = true → (aget T k).isSome = true ∧ ∀ H', LotAt C H' p dt de n (adrop T k) (adrop En k) → Ch H H' [p, dt, de] → Q .non H')
/-- a list's items: tuples of two ints -/
abbrev Tups (H : Hp) (ts : List Addr) (ps : Al) : Prop := Paired (fun (t : Addr) (p : Int × Int) => H t = some (.tup [.int p.1, .int p.2])) ts ps
def spLeDue (C : Addr) : Sp := fun vs H Q _ => ∃ (p dt de : Addr) (n u : Int) (T En : Al), vs = [.ref p, .int u] ∧ LotAt C H p dt de n T En ∧ En.length ≤ 900 ∧
  ∀ (q : Addr) (ts : List Addr) (ps : Al) (H' : Hp), H q = none → H' q = some (.lst (ts.map V.ref)) → Tups H' ts ps → Asc ps → ps.Perm (dueL En u) → Same H H' → Q (.ref q) H'
section
variable {P : Program} {w : World} {K : PySem.W.Frag} {mg : Str → Option Value} {base : Heap}
theorem ok_Leases_init {f C : Addr} {fd : FuncData} (F : Fun K "__init__" "Leases.__init__" s_Leases_init f fd) (T : LeaT K mg C) : FnOk P w K mg base CX0 1 f fd ["self"] (spLeInit C) := by
  refine F.ok sc_Leases_init (fun vs H Q E h => ?_) (fun cdv A outer s H vs Q E hr h => ?_)
  · obtain ⟨p, dx, rfl, _⟩ := h
    rfl
  · obtain ⟨p, dx, rfl, hp, k⟩ := h
    refine ⟨_, pss_cons (ps_fld (pv 0) pe_int rfl) (pss_cons (ps_fld (pv 0) pe_dnewK rfl) (pss_one (ps_fld (pv 0) pe_dnewK rfl))), ?_⟩
    refine ⟨_, rfl, p, C, dx, [], rfl, hp, T.cl, T.nG, (by show 0 < 1000; decide), ?_⟩
    intro dt hdt
    have npt : p ≠ dt := ne_of_none upd_same hdt
    refine ⟨_, rfl, p, C, dx, _, rfl, (by rw [upd_ne npt]; exact upd_same), T.cl, T.nT, (by show 1 < 1000; decide), ?_⟩
    intro de hde
    have npe : p ≠ de := ne_of_none upd_same hde
    have nte : dt ≠ de := ne_of_none (by rw [upd_ne npt.symm]; exact upd_same) hde
    refine ⟨_, rfl, p, C, dx, _, rfl, (by rw [upd_ne npe]; exact upd_same), T.cl, T.nE, (by show 2 < 1000; decide), ?_⟩
    have d0 : H dt = none := by rw [upd_ne npt.symm] at hdt; exact hdt
    have e0 : H de = none := by rw [upd_ne npe.symm, upd_ne nte.symm, upd_ne npe.symm] at hde; exact hde
    refine k dt de _ d0 e0 ⟨⟨dx, upd_same⟩, ?_, ?_, nte⟩ ((((((Ch.refl H [p]).mut (by simp) hp (fun _ z => by cases z)).new _ d0).mut (by simp) hp (fun _ z => by cases z)).new _ e0).mut (by simp) hp (fun _ z => by cases z))
    · rw [upd_ne npt.symm, upd_ne nte, upd_ne npt.symm]; exact upd_same
    · rw [upd_ne npe.symm]; exact upd_same
theorem ok_Leases_refuse {f C NL : Addr} {fd : FuncData} (F : Fun K "refuse_unknown" "Leases.refuse_unknown" s_Leases_refuse_unknown f fd) (T : LeaT K mg C) (N : ErrT K mg "NoLease" NL) : FnOk P w K mg base (L2.CX P w) 1 f fd ["self", "lease"] (spLeRefuse C NL) := by
  refine F.okX sc_Leases_refuse_unknown (fun vs H Q E h => ?_) (fun cdv A outer s H vs Q E hr h => ?_)
  · obtain ⟨p, dt, de, n, k, T, En, rfl, _⟩ := h
    rfl
  · obtain ⟨p, dt, de, n, k, T1, En, rfl, L, h1, h2⟩ := h
    have hu := hu_of hr
    obtain ⟨⟨dx, hp⟩, ht, he, _⟩ := id L
    refine ⟨_, pss_one (ps_if (pt_cmp (pc_dnotin hu (pv 1) (pe_fld (pv 0) rfl)))
      (pss_one (ps_raise rfl (takes_of rfl rfl rfl rfl) (pmk_own PySem.F.excBase_ValueError N.x N.g N.k (raises_own N.b N.t) rfl))) pss_nil), ?_⟩
    refine ⟨_, rfl, _, rfl, p, C, dx, _, _, rfl, hp, T.cl, T.nE, flds_e _ _ _, de, _, rfl, DGet.k (k := Sum.inl k) he, _, rfl, ?_⟩
    rw [valV_kv]
    cases e : aget En k with
    | none =>
      refine iteT ?_
      exact h1 e
    | some v =>
      refine iteF ?_
      exact h2 (by rw [e]; rfl)
end
theorem small900 {l : Al} (h : l.length ≤ 900) : (kv l).length < sizeLine := by
  rw [kv_len]
  exact small1000 (by omega)

end KL

namespace KB
open PySem L2 L2H LX
/-! ### rooms by themselves, as plain tables -/
/-- a watcher: what it wants, up to where it has had all, up to where it was told all -/
structure Wt where
  pre : Str
  had : Int
  told : Int
structure Rm where
  now : Int
  given : Nat
  span : Int → Option Int
  ends : Int → Option Int
  held : Str → Option (Str × Int)
  rows : List Row
  gone : Nat
  met : Nat
  wat : Int → Option Wt
def Rm.init : Rm := ⟨0, 0, fun _ => none, fun _ => none, fun _ => none, [], 0, 0, fun _ => none⟩
def setF {α β : Type} [DecidableEq α] (f : α → Option β) (k : α) (v : Option β) : α → Option β := fun j => if k = j then v else f j
inductive Deed
  | grant (t : Int)
  | renew (h : Int)
  | drop (h : Int)
  | wait (t : Int)
  | put (k v : Str) (h : Int)
  | cut (k : Str) (h : Int)
def Deed.V : Deed → List V
  | .grant t => [.str "grant", .int t]
  | .renew h => [.str "renew", .int h]
  | .drop h => [.str "drop", .int h]
  | .wait t => [.str "wait", .int t]
  | .put k v h => [.str "put", .str k, .str v, .int h]
  | .cut k h => [.str "cut", .str k, .int h]
inductive Kd
  | ticks
  | lease
  | key
  | held
inductive Ans
  | num (n : Int)
  | non
  | bad (w : Kd)
def Kd.s : Kd → Str
  | .ticks => "BadTicks"
  | .lease => "NoLease"
  | .key => "NoKey"
  | .held => "Held"
def Ans.V : Ans → V
  | .num n => .int n
  | .non => .non
  | .bad w => .str w.s
def noteM (s : Rm) (t : Int) (w k v : Str) : Rm := { s with rows := s.rows ++ [⟨(s.rows.length : Int) + 1, t, w, k, v⟩] }
def cutM (t : Int) (s : Rm) (k : Str) : Rm := noteM { s with held := setF s.held k none } t "cut" k ""
def cutAll (s : Rm) (t : Int) (ks : List Str) : Rm := ks.foldl (cutM t) s
/-- the keys that a lease holds, in their order -/
structure HandKeys (held : Str → Option (Str × Int)) (h : Int) (ks : List Str) : Prop where
  srt : PyProof.Rows.sortedS ks = true
  nd : ks.Nodup
  mem : ∀ k, k ∈ ks ↔ ∃ v, held k = some (v, h)
theorem HandKeys.uniq {held : Str → Option (Str × Int)} {h : Int} {ks js : List Str} (a : HandKeys held h ks) (b : HandKeys held h js) : ks = js :=
  sortedS_uniq a.srt b.srt ((List.perm_ext_iff_of_nodup a.nd b.nd).mpr fun k => (a.mem k).trans (b.mem k).symm)
/-- a lease ends -/
def OverR (s : Rm) (h t : Int) (s' : Rm) : Prop := ∃ ks, HandKeys s.held h ks ∧ s' = cutAll { s with ends := setF s.ends h none } t ks
theorem OverR.uniq {s a b : Rm} {h t : Int} (x : OverR s h t a) (y : OverR s h t b) : a = b := by
  obtain ⟨ks, k1, rfl⟩ := x
  obtain ⟨js, j1, rfl⟩ := y
  rw [k1.uniq j1]
def OversR : List (Int × Int) → Rm → Rm → Prop
  | [], s, s' => s' = s
  | e :: r, s, s' => ∃ s1, OverR s e.2 e.1 s1 ∧ OversR r s1 s'
theorem OversR.uniq : ∀ {es : List (Int × Int)} {s a b : Rm}, OversR es s a → OversR es s b → a = b
  | [], s, a, b, x, y => by
    have x : a = s := x
    have y : b = s := y
    rw [x, y]
  | e :: r, s, a, b, ⟨s1, x1, x2⟩, ⟨s2, y1, y2⟩ => by
    have z := x1.uniq y1
    subst z
    exact OversR.uniq x2 y2
/-- earlier ends first, of the same end the lesser number first -/
abbrev AscE (l : List (Int × Int)) : Prop := l.Pairwise fun x y => SrtO.lexB y x = false
theorem ascE_uniq : ∀ {p q : List (Int × Int)}, AscE p → AscE q → p.Perm q → p = q
  | [], q, _, _, h => (List.Perm.eq_nil h.symm).symm
  | a :: p, [], _, _, h => absurd h.length_eq (by simp)
  | a :: p, b :: q, hp, hq, h => by
    have h1 : SrtO.lexB a b = false := by
      rcases List.mem_cons.mp (h.mem_iff.mp (List.mem_cons_self (a := a) (l := p))) with e | m
      · rw [e]; exact SrtO.lexB_no.mpr (by omega)
      · exact (List.pairwise_cons.mp hq).1 a m
    have h2 : SrtO.lexB b a = false := by
      rcases List.mem_cons.mp (h.mem_iff.mpr (List.mem_cons_self (a := b) (l := q))) with e | m
      · rw [e]; exact SrtO.lexB_no.mpr (by omega)
      · exact (List.pairwise_cons.mp hp).1 b m
    have e : a = b := by
      have x1 := SrtO.lexB_no.mp h1
      have x2 := SrtO.lexB_no.mp h2
      exact Prod.ext (by omega) (by omega)
    subst e
    rw [ascE_uniq (List.pairwise_cons.mp hp).2 (List.pairwise_cons.mp hq).2 h.cons_inv]
/-- the leases whose end is not later than u -/
structure EndsTo (ends : Int → Option Int) (u : Int) (es : List (Int × Int)) : Prop where
  asc : AscE es
  nd : es.Nodup
  mem : ∀ e, e ∈ es ↔ ends e.2 = some e.1 ∧ e.1 ≤ u
theorem EndsTo.uniq {ends : Int → Option Int} {u : Int} {es fs : List (Int × Int)} (a : EndsTo ends u es) (b : EndsTo ends u fs) : es = fs :=
  ascE_uniq a.asc b.asc ((List.perm_ext_iff_of_nodup a.nd b.nd).mpr fun e => (a.mem e).trans (b.mem e).symm)
def GoR (s : Rm) (t : Int) (s' : Rm) : Prop := ∃ es s1, EndsTo s.ends (s.now + t) es ∧ OversR es s s1 ∧ s' = { s1 with now := s.now + t }
theorem GoR.uniq {s a b : Rm} {t : Int} (x : GoR s t a) (y : GoR s t b) : a = b := by
  obtain ⟨es, s1, x1, x2, rfl⟩ := x
  obtain ⟨fs, s2, y1, y2, rfl⟩ := y
  have e := x1.uniq y1
  subst e
  rw [x2.uniq y2]
def badT (lo t : Int) : Prop := t < lo ∨ 1000000 < t
/-- does a refusal of point 8 come of a put or a cut: of the lease, of the key, of the holder -/
def noLease (s : Rm) (h : Int) : Prop := h ≠ 0 ∧ s.ends h = none
def heldBy (s : Rm) (k : Str) (h : Int) : Prop := ∃ v j, s.held k = some (v, j) ∧ j ≠ 0 ∧ j ≠ h
def grantM (s : Rm) (t : Int) : Rm := { s with given := s.given + 1, span := setF s.span ((s.given : Int) + 1) (some t), ends := setF s.ends ((s.given : Int) + 1) (some (s.now + t)) }
def putM (s : Rm) (k v : Str) (h : Int) : Rm := noteM { s with held := setF s.held k (some (v, h)) } s.now "put" k v
/-- what a deed comes to -/
def DoR (s : Rm) : Deed → Ans → Rm → Prop
  | .grant t, a, s' => (badT 1 t ∧ a = .bad .ticks ∧ s' = s) ∨ (¬ badT 1 t ∧ a = .num ((s.given : Int) + 1) ∧ s' = grantM s t)
  | .wait t, a, s' => (badT 0 t ∧ a = .bad .ticks ∧ s' = s) ∨ (¬ badT 0 t ∧ a = .non ∧ GoR s t s')
  | .renew h, a, s' => (s.ends h = none ∧ a = .bad .lease ∧ s' = s) ∨ (s.ends h ≠ none ∧ a = .non ∧ ∃ t, s.span h = some t ∧ s' = { s with ends := setF s.ends h (some (s.now + t)) })
  | .drop h, a, s' => (s.ends h = none ∧ a = .bad .lease ∧ s' = s) ∨ (s.ends h ≠ none ∧ a = .non ∧ OverR s h s.now s')
  | .put k v h, a, s' => (noLease s h ∧ a = .bad .lease ∧ s' = s) ∨ (¬ noLease s h ∧ heldBy s k h ∧ a = .bad .held ∧ s' = s) ∨ (¬ noLease s h ∧ ¬ heldBy s k h ∧ a = .num ((s.rows.length : Int) + 1) ∧ s' = putM s k v h)
  | .cut k h, a, s' => (noLease s h ∧ a = .bad .lease ∧ s' = s) ∨ (¬ noLease s h ∧ s.held k = none ∧ a = .bad .key ∧ s' = s) ∨ (¬ noLease s h ∧ heldBy s k h ∧ a = .bad .held ∧ s' = s) ∨
    (¬ noLease s h ∧ s.held k ≠ none ∧ ¬ heldBy s k h ∧ a = .num ((s.rows.length : Int) + 1) ∧ s' = cutM s.now s k)
theorem DoR.uniq {s : Rm} {d : Deed} {a b : Ans} {x y : Rm} (p : DoR s d a x) (q : DoR s d b y) : a = b ∧ x = y := by
  cases d with
  | grant t =>
    rcases p with ⟨p1, rfl, rfl⟩ | ⟨p1, rfl, rfl⟩ <;> rcases q with ⟨q1, rfl, rfl⟩ | ⟨q1, rfl, rfl⟩
    · exact ⟨rfl, rfl⟩
    · exact absurd p1 q1
    · exact absurd q1 p1
    · exact ⟨rfl, rfl⟩
  | wait t =>
    rcases p with ⟨p1, rfl, rfl⟩ | ⟨p1, rfl, p2⟩ <;> rcases q with ⟨q1, rfl, rfl⟩ | ⟨q1, rfl, q2⟩
    · exact ⟨rfl, rfl⟩
    · exact absurd p1 q1
    · exact absurd q1 p1
    · exact ⟨rfl, p2.uniq q2⟩
  | renew h =>
    rcases p with ⟨p1, rfl, rfl⟩ | ⟨p1, rfl, t, p2, rfl⟩ <;> rcases q with ⟨q1, rfl, rfl⟩ | ⟨q1, rfl, u, q2, rfl⟩
    · exact ⟨rfl, rfl⟩
    · exact absurd p1 q1
    · exact absurd q1 p1
    · rw [p2] at q2
      cases q2
      exact ⟨rfl, rfl⟩
  | drop h =>
    rcases p with ⟨p1, rfl, rfl⟩ | ⟨p1, rfl, p2⟩ <;> rcases q with ⟨q1, rfl, rfl⟩ | ⟨q1, rfl, q2⟩
    · exact ⟨rfl, rfl⟩
    · exact absurd p1 q1
    · exact absurd q1 p1
    · exact ⟨rfl, p2.uniq q2⟩
  | put k v h =>
    rcases p with ⟨p1, rfl, rfl⟩ | ⟨p1, p2, rfl, rfl⟩ | ⟨p1, p2, rfl, rfl⟩ <;> rcases q with ⟨q1, rfl, rfl⟩ | ⟨q1, q2, rfl, rfl⟩ | ⟨q1, q2, rfl, rfl⟩
    · exact ⟨rfl, rfl⟩
    · exact absurd p1 q1
    · exact absurd p1 q1
    · exact absurd q1 p1
    · exact ⟨rfl, rfl⟩
    · exact absurd p2 q2
    · exact absurd q1 p1
    · exact absurd q2 p2
    · exact ⟨rfl, rfl⟩
  | cut k h =>
    have hb : ∀ {s : Rm}, heldBy s k h → s.held k ≠ none := fun {s} ⟨v, j, e, _⟩ z => by rw [e] at z; cases z
    rcases p with ⟨p1, rfl, rfl⟩ | ⟨p1, p2, rfl, rfl⟩ | ⟨p1, p2, rfl, rfl⟩ | ⟨p1, p2, p3, rfl, rfl⟩ <;> rcases q with ⟨q1, rfl, rfl⟩ | ⟨q1, q2, rfl, rfl⟩ | ⟨q1, q2, rfl, rfl⟩ | ⟨q1, q2, q3, rfl, rfl⟩
    · exact ⟨rfl, rfl⟩
    · exact absurd p1 q1
    · exact absurd p1 q1
    · exact absurd p1 q1
    · exact absurd q1 p1
    · exact ⟨rfl, rfl⟩
    · exact absurd p2 (hb q2)
    · exact absurd p2 q2
    · exact absurd q1 p1
    · exact absurd q2 (hb p2)
    · exact ⟨rfl, rfl⟩
    · exact absurd p2 q3
    · exact absurd q1 p1
    · exact absurd q2 p2
    · exact absurd q2 p3
    · exact ⟨rfl, rfl⟩
/-! watchers -/
def dueW (s : Rm) (w : Wt) (most : Int) : List Row := wantedM s.rows s.gone w.pre w.told most
/-- up to where it was told, behind such a pull -/
def toldW (s : Rm) (w : Wt) (most : Int) : Int := if ((dueW s w most).length : Int) < most then s.rows.length else lastN (w.told + 1) (dueW s w most)
def pullM (s : Rm) (n : Int) (w : Wt) (most : Int) : Rm := { s with wat := setF s.wat n (some { w with told := toldW s w most }) }
/-- up to where all was had, by every watcher that is there -/
structure TrimTo (s : Rm) (u : Int) : Prop where
  le : ∀ n w, s.wat n = some w → u ≤ w.had
  at_ : (∃ n w, s.wat n = some w ∧ w.had = u) ∨ ((∀ n, s.wat n = none) ∧ u = s.rows.length)
theorem TrimTo.uniq {s : Rm} {u v : Int} (a : TrimTo s u) (b : TrimTo s v) : u = v := by
  rcases a.at_ with ⟨n, w, h1, h2⟩ | ⟨h1, h2⟩ <;> rcases b.at_ with ⟨n', w', h3, h4⟩ | ⟨h3, h4⟩
  · have := b.le n w h1
    have := a.le n' w' h3
    omega
  · rw [h3 n] at h1; cases h1
  · rw [h1 n'] at h3; cases h3
  · rw [h2, h4]
/-! ### what stands by a room, whatever it is made of -/
abbrev RsT := List Addr → Hp → Addr → Rm → Prop
structure Kinds where
  LE : Addr
  BT : Addr
  NL : Addr
  NK : Addr
  HE : Addr
  NS : Addr
  NW : Addr
def Kinds.at_ (k : Kinds) : Kd → Addr
  | .ticks => k.BT
  | .lease => k.NL
  | .key => k.NK
  | .held => k.HE
/-- what a deed's answer comes to -/
def Out (kk : Kinds) (Q : VK) (E : XK) (H : Hp) : Ans → Prop
  | .num n => Q (.int n) H
  | .non => Q .non H
  | .bad w => E (.ref (kk.at_ w)) none H
/-- a room that is not too large for its lists -/
structure Fits (s : Rm) : Prop where
  rows : s.rows.length ≤ 900
  given : s.given ≤ 900
  met : s.met ≤ 900
def spRInit (C : Addr) (Rs : RsT) : Sp := fun vs H Q _ => ∃ (p dx : Addr), vs = [.ref p] ∧ H p = some (.ins C dx []) ∧ ∀ F H', Rs F H' p .init → (∀ a ∈ F, a = p ∨ H a = none) → Ch H H' [p] → Q .non H'
/-- a method that does a deed: how its arguments stand -/
def spRDo (kk : Kinds) (Rs : RsT) (args : Deed → List V → Prop) : Sp := fun vs H Q E => ∃ (F : List Addr) (p : Addr) (s : Rm) (d : Deed) (xs : List V), vs = .ref p :: xs ∧ args d xs ∧ Rs F H p s ∧ Fits s ∧
  ∀ a s' F' H', DoR s d a s' → Rs F' H' p s' → Grow F F' H → Ch H H' F → Out kk Q E H' a
def argG : Deed → List V → Prop := fun d xs => ∃ t, d = .grant t ∧ xs = [.int t]
def argW : Deed → List V → Prop := fun d xs => ∃ t, d = .wait t ∧ xs = [.int t]
def argR : Deed → List V → Prop := fun d xs => ∃ h, d = .renew h ∧ xs = [.int h]
def argD : Deed → List V → Prop := fun d xs => ∃ h, d = .drop h ∧ xs = [.int h]
def argP : Deed → List V → Prop := fun d xs => ∃ k v h, d = .put k v h ∧ xs = [.str k, .str v, .int h] ∧ TOk 60 k ∧ TOk 60 v
def argC : Deed → List V → Prop := fun d xs => ∃ k h, d = .cut k h ∧ xs = [.str k, .int h] ∧ TOk 60 k
def spRValue (Rs : RsT) : Sp := fun vs H Q _ => ∃ (F : List Addr) (p : Addr) (k : Str) (s : Rm), vs = [.ref p, .str k] ∧ Rs F H p s ∧ TOk 60 k ∧ ∀ F' H', Rs F' H' p s → Grow F F' H → Ch H H' F → Q (match s.held k with | some (v, _) => .str v | none => .non) H'
def spRHolder (Rs : RsT) : Sp := fun vs H Q _ => ∃ (F : List Addr) (p : Addr) (k : Str) (s : Rm), vs = [.ref p, .str k] ∧ Rs F H p s ∧ TOk 60 k ∧ ∀ F' H', Rs F' H' p s → Grow F F' H → Ch H H' F → Q (.int (match s.held k with | some (_, h) => h | none => 0)) H'
/-- the keys that begin with a prefix, with their values -/
def byPre (s : Rm) (z : Str) : Str → Option Str := fun k => if isPre z k = true then (s.held k).map (·.1) else none
def spRPairs (Rs : RsT) : Sp := fun vs H Q _ => ∃ (F : List Addr) (p : Addr) (z : Str) (s : Rm), vs = [.ref p, .str z] ∧ Rs F H p s ∧ TOk 60 z ∧ Fits s ∧
  ∀ F' q ts ps H', Rs F' H' p s → Grow F F' H → Ch H H' F → H q = none → q ∉ F' → H' q = some (.lst (ts.map V.ref)) → PairsAt H' ts ps → Told (byPre s z) ps → Q (.ref q) H'
def spRLast (Rs : RsT) : Sp := fun vs H Q _ => ∃ (F : List Addr) (p : Addr) (s : Rm), vs = [.ref p] ∧ Rs F H p s ∧ ∀ F' H', Rs F' H' p s → Grow F F' H → Ch H H' F → Q (.int s.rows.length) H'
def spRFirst (Rs : RsT) : Sp := fun vs H Q _ => ∃ (F : List Addr) (p : Addr) (s : Rm), vs = [.ref p] ∧ Rs F H p s ∧ ∀ F' H', Rs F' H' p s → Grow F F' H → Ch H H' F → Q (.int ((s.gone : Int) + 1)) H'
def spRWatch (kk : Kinds) (Rs : RsT) : Sp := fun vs H Q E => ∃ (F : List Addr) (p : Addr) (z : Str) (st : Int) (s : Rm), vs = [.ref p, .str z, .int st] ∧ Rs F H p s ∧ TOk 60 z ∧ Fits s ∧
  (st < (s.gone : Int) + 1 ∨ (s.rows.length : Int) + 1 < st → ∀ F' H', Rs F' H' p s → Grow F F' H → Ch H H' F → E (.ref kk.NS) none H') ∧
  ((s.gone : Int) + 1 ≤ st → st ≤ (s.rows.length : Int) + 1 → ∀ F' H', Rs F' H' p { s with met := s.met + 1, wat := setF s.wat ((s.met : Int) + 1) (some ⟨z, st - 1, st - 1⟩) } → Grow F F' H → Ch H H' F → Q (.int ((s.met : Int) + 1)) H')
/-- a method that names a watcher: refused where it isn't there -/
def spRWat (kk : Kinds) (Rs : RsT) (xs : List V → Prop) (then_ : List V → List Addr → Hp → Addr → Rm → Int → Wt → VK → Prop) : Sp := fun vs H Q E => ∃ (F : List Addr) (p : Addr) (n : Int) (ys : List V) (s : Rm), vs = .ref p :: .int n :: ys ∧ xs ys ∧ Rs F H p s ∧ Fits s ∧
  (s.wat n = none → ∀ F' H', Rs F' H' p s → Grow F F' H → Ch H H' F → E (.ref kk.NW) none H') ∧ ∀ w, s.wat n = some w → then_ ys F H p s n w Q
def thenPull (Rs : RsT) : List V → List Addr → Hp → Addr → Rm → Int → Wt → VK → Prop := fun ys F H p s n w Q => ∃ m : Int, ys = [.int m] ∧ 0 ≤ m ∧
  ∀ F' q ts H', Rs F' H' p (pullM s n w m) → Grow F F' H → Ch H H' F → H q = none → q ∉ F' → H' q = some (.lst (ts.map V.ref)) → RowsAt H' ts (dueW s w m) → Q (.ref q) H'
def thenSet (Rs : RsT) (f : Wt → Option Wt) : List V → List Addr → Hp → Addr → Rm → Int → Wt → VK → Prop := fun _ F H p s n w Q =>
  ∀ F' H', Rs F' H' p { s with wat := setF s.wat n (f w) } → Grow F F' H → Ch H H' F → Q .non H'
def spRTrim (Rs : RsT) : Sp := fun vs H Q _ => ∃ (F : List Addr) (p : Addr) (s : Rm), vs = [.ref p] ∧ Rs F H p s ∧ Fits s ∧
  ∀ u F' H', TrimTo s u → Rs F' H' p { s with gone := goneM s.rows.length s.gone u } → Grow F F' H → Ch H H' F → Q (.int ((goneM s.rows.length s.gone u : Int) - s.gone)) H'
def roomMs : List Str := ["grant", "renew", "drop", "wait", "put", "cut", "value", "holder", "pairs", "last", "first", "watch", "pull", "confirm", "broken", "leave", "trim"]
structure RoomApi (P : Program) (w : World) (K : PySem.W.Frag) (mg : Str → Option Value) (base : Heap) (C : Addr) (kk : Kinds) (Rs : RsT) (hs : List Str) : Prop where
  frame : ∀ {F H H' p s l}, Rs F H p s → Ch H H' l → (∀ a ∈ F, a ∉ l) → Rs F H' p s
  own : ∀ {F H p s}, Rs F H p s → ∀ a ∈ F, ∃ o, H a = some o
  inst : ∀ {F H p s}, Rs F H p s → p ∈ F ∧ ∃ dx fs, H p = some (.ins C dx fs) ∧ fs.lookup ("now" : Str) = some (.int s.now) ∧ ∀ m ∈ roomMs, fs.lookup m = none
  make : ∃ f fd ps, Mk K C f ∧ Binds K fd ps [] ∧ FnOk P w K mg base CX0 4 f fd ps (spRInit C Rs)
  grant : ("grant" : Str) ∈ hs → MDef P w K mg base C "grant" (L2.CX P w) 8 (spRDo kk Rs argG)
  renew : ("renew" : Str) ∈ hs → MDef P w K mg base C "renew" (L2.CX P w) 8 (spRDo kk Rs argR)
  drop : ("drop" : Str) ∈ hs → MDef P w K mg base C "drop" (L2.CX P w) 8 (spRDo kk Rs argD)
  wait : ("wait" : Str) ∈ hs → MDef P w K mg base C "wait" (L2.CX P w) 8 (spRDo kk Rs argW)
  put : ("put" : Str) ∈ hs → ∃ f fd ps, Meth K C "put" f ∧ Binds K fd ps [] ∧ (∃ ds, Vals [.int 0] ds ∧ Binds K fd ps ds) ∧ (∃ g, KBn K fd ps 3 ["lease"] g fun vs zs => vs ++ zs) ∧ FnOk P w K mg base (L2.CX P w) 8 f fd ps (spRDo kk Rs argP)
  cut : ("cut" : Str) ∈ hs → ∃ f fd ps, Meth K C "cut" f ∧ Binds K fd ps [] ∧ (∃ ds, Vals [.int 0] ds ∧ Binds K fd ps ds) ∧ (∃ g, KBn K fd ps 2 ["lease"] g fun vs zs => vs ++ zs) ∧ FnOk P w K mg base (L2.CX P w) 8 f fd ps (spRDo kk Rs argC)
  value : ("value" : Str) ∈ hs → MDef P w K mg base C "value" CX0 8 (spRValue Rs)
  holder : ("holder" : Str) ∈ hs → MDef P w K mg base C "holder" CX0 8 (spRHolder Rs)
  pairs : ("pairs" : Str) ∈ hs → MDef P w K mg base C "pairs" CX0 8 (spRPairs Rs)
  last : ("last" : Str) ∈ hs → MDef P w K mg base C "last" CX0 8 (spRLast Rs)
  first : ("first" : Str) ∈ hs → MDef P w K mg base C "first" CX0 8 (spRFirst Rs)
  watch : ("watch" : Str) ∈ hs → MDef P w K mg base C "watch" (L2.CX P w) 8 (spRWatch kk Rs)
  pull : ("pull" : Str) ∈ hs → MDef P w K mg base C "pull" (L2.CX P w) 8 (spRWat kk Rs (fun ys => ∃ m : Int, ys = [.int m]) (thenPull Rs))
  confirm : ("confirm" : Str) ∈ hs → MDef P w K mg base C "confirm" (L2.CX P w) 8 (spRWat kk Rs (fun ys => ys = []) (thenSet Rs fun w => some { w with had := w.told }))
  broken : ("broken" : Str) ∈ hs → MDef P w K mg base C "broken" (L2.CX P w) 8 (spRWat kk Rs (fun ys => ys = []) (thenSet Rs fun w => some { w with told := w.had }))
  leave : ("leave" : Str) ∈ hs → MDef P w K mg base C "leave" (L2.CX P w) 8 (spRWat kk Rs (fun ys => ys = []) (thenSet Rs fun _ => none))
  trim : ("trim" : Str) ∈ hs → MDef P w K mg base C "trim" CX0 8 (spRTrim Rs)
end KB

namespace KL
open PySem L2 L2H LX KB KA1
/-! ### the program's room: what stands by it -/
abbrev nsRoom : List Str := ["now", "_leases", "_log", "_values", "_holders", "_entered", "_watchers"]
abbrev nsWat : List Str := ["prefix", "told", "had"]
structure Cs where
  C : Addr
  CL : Addr
  CG : Addr
  CW : Addr
structure Rc where
  pl : Addr
  dt : Addr
  de : Addr
  pg : Addr
  Fg : List Addr
  dv : Addr
  dh : Addr
  dw : Addr
  T : Al
  E : Al
  HV : List (Str × (Str × Int))
  vk : List (Key × V)
  hk : List (Key × V)
  WS : List (Int × (Addr × Wt))
  wk : List (Key × V)
def Rc.o (R : Rc) (p : Addr) : List Addr := p :: R.pl :: R.dt :: R.de :: R.dv :: R.dh :: R.dw :: R.WS.map (·.2.1)
def Rc.F (R : Rc) (p : Addr) : List Addr := R.o p ++ R.Fg
abbrev rFl (s : Rm) (R : Rc) : List (Str × V) := nsRoom.zip [.int s.now, .ref R.pl, .ref R.pg, .ref R.dv, .ref R.dh, .int s.met, .ref R.dw]
abbrev wFl (w : Wt) : List (Str × V) := nsWat.zip [.str w.pre, .int w.told, .int w.had]
abbrev isV1 (b : Str × Int) (v : V) : Prop := v = .str b.1
abbrev isV2 (b : Str × Int) (v : V) : Prop := v = .int b.2
abbrev isW (b : Addr × Wt) (v : V) : Prop := v = .ref b.1
structure RcAt (c : Cs) (H : Hp) (p : Addr) (R : Rc) (s : Rm) : Prop where
  ob : ∃ dx, H p = some (.ins c.C dx (rFl s R))
  lt : LotAt c.CL H R.pl R.dt R.de s.given R.T R.E
  lg : LgP c.CG R.Fg H R.pg s.rows s.gone
  va : H R.dv = some (.dK R.vk)
  ho : H R.dh = some (.dK R.hk)
  wa : H R.dw = some (.dK R.wk)
  wo : ∀ x ∈ R.WS, ∃ dx, H x.2.1 = some (.ins c.CW dx (wFl x.2.2))
  rv : DRel Sum.inr isV1 R.HV R.vk
  rh : DRel Sum.inr isV2 R.HV R.hk
  rw_ : DRel Sum.inl isW R.WS R.wk
  nd : (R.o p).Nodup
  dj : ∀ a ∈ R.Fg, a ∉ R.o p
  fe : s.ends = getA R.E
  fs : ∀ h e, getA R.E h = some e → ∃ t, getA R.T h = some t ∧ s.span h = some t
  fh : s.held = getA R.HV
  fw : s.wat = fun n => (getA R.WS n).map (·.2)
  nE : (R.E.map (·.1)).Nodup
  nH : (R.HV.map (·.1)).Nodup
  nW : (R.WS.map (·.1)).Nodup
  kW : ∀ x ∈ R.WS, x.1 ≤ s.met
  kH : ∀ x ∈ R.HV, TOk 60 x.1
  wP : ∀ x ∈ R.WS, TOk 60 x.2.2.pre
structure RcSz (R : Rc) (s : Rm) : Prop where
  t : R.T.length ≤ s.given
  e : R.E.length ≤ s.given
  h : R.HV.length ≤ s.rows.length
  w : R.WS.length ≤ s.met
  wt : ∀ x ∈ R.WS, x.2.2.told ≤ s.rows.length ∧ x.2.2.had ≤ s.rows.length
def RsP (c : Cs) : RsT := fun F H p s => ∃ R, F = Rc.F R p ∧ RcAt c H p R s ∧ RcSz R s
theorem aget_eq (k : Int) : ∀ l : Al, aget l k = getA l k
  | [] => rfl
  | q :: r => by
    by_cases e : q.1 = k
    · rw [getA_pos e]; simp [aget, e]
    · rw [getA_neg e, ← aget_eq k r]; simp [aget, e]
theorem LotAt.ch {C : Addr} {H H' : Hp} {p dt de : Addr} {n : Int} {T E : Al} {l : List Addr} (L : LotAt C H p dt de n T E) (c : Ch H H' l) (h1 : p ∉ l) (h2 : dt ∉ l) (h3 : de ∉ l) : LotAt C H' p dt de n T E :=
  ⟨let ⟨dx, h⟩ := L.ob; ⟨dx, c.at h h1⟩, c.at L.tk h2, c.at L.en h3, L.ne⟩
section
variable {c : Cs} {H H' : Hp} {p : Addr} {R : Rc} {s : Rm} {l : List Addr}
theorem RcAt.ch (A : RcAt c H p R s) (k : Ch H H' l) (d : ∀ a ∈ R.F p, a ∉ l) : RcAt c H' p R s := by
  have o : ∀ {a}, a ∈ R.o p → a ∉ l := fun {a} h => d a (List.mem_append_left _ h)
  obtain ⟨dx, h⟩ := A.ob
  exact ⟨⟨dx, k.at h (o (by simp [Rc.o]))⟩, A.lt.ch k (o (by simp [Rc.o])) (o (by simp [Rc.o])) (o (by simp [Rc.o])), A.lg.frame k (fun a ha => d a (List.mem_append_right _ ha)), k.at A.va (o (by simp [Rc.o])), k.at A.ho (o (by simp [Rc.o])), k.at A.wa (o (by simp [Rc.o])),
    fun x hx => (let ⟨dy, h⟩ := A.wo x hx; ⟨dy, k.at h (o (by unfold Rc.o; simp only [List.mem_cons]; right; right; right; right; right; right; right; exact List.mem_map.mpr ⟨x, hx, rfl⟩))⟩), A.rv, A.rh, A.rw_, A.nd, A.dj, A.fe, A.fs, A.fh, A.fw, A.nE, A.nH, A.nW, A.kW, A.kH, A.wP⟩
theorem RcAt.own (A : RcAt c H p R s) : ∀ a ∈ R.F p, ∃ o, H a = some o := by
  intro a ha
  rcases List.mem_append.mp ha with h | h
  · unfold Rc.o at h
    simp only [List.mem_cons] at h
    rcases h with rfl | rfl | rfl | rfl | rfl | rfl | rfl | h
    · obtain ⟨dx, h⟩ := A.ob; exact ⟨_, h⟩
    · obtain ⟨dx, h⟩ := A.lt.ob; exact ⟨_, h⟩
    · exact ⟨_, A.lt.tk⟩
    · exact ⟨_, A.lt.en⟩
    · exact ⟨_, A.va⟩
    · exact ⟨_, A.ho⟩
    · exact ⟨_, A.wa⟩
    · obtain ⟨x, hx, rfl⟩ := List.mem_map.mp h
      obtain ⟨dy, h⟩ := A.wo x hx
      exact ⟨_, h⟩
  · exact A.lg.own a h
theorem RsP.frame {F : List Addr} (A : RsP c F H p s) (k : Ch H H' l) (d : ∀ a ∈ F, a ∉ l) : RsP c F H' p s := by
  obtain ⟨R, rfl, A, z⟩ := A
  exact ⟨R, rfl, A.ch k d, z⟩
theorem RsP.own {F : List Addr} (A : RsP c F H p s) : ∀ a ∈ F, ∃ o, H a = some o := by
  obtain ⟨R, rfl, A, z⟩ := A
  exact A.own
theorem RsP.inst {F : List Addr} (A : RsP c F H p s) : p ∈ F ∧ ∃ dx fs, H p = some (.ins c.C dx fs) ∧ fs.lookup ("now" : Str) = some (.int s.now) ∧ ∀ m ∈ roomMs, fs.lookup m = none := by
  obtain ⟨R, rfl, A, z⟩ := A
  obtain ⟨dx, h⟩ := A.ob
  refine ⟨List.mem_append_left _ (by simp [Rc.o]), dx, _, h, zf_get (i := 0) (by decide +kernel) rfl, fun m hm => ?_⟩
  have q : ∀ m ∈ roomMs, pos m nsRoom = none := by decide +kernel
  exact zf_no (q m hm)
/-- no two of the seven places are one -/
theorem RcAt.ne7 (A : RcAt c H p R s) : (p ≠ R.pl ∧ p ≠ R.dt ∧ p ≠ R.de ∧ p ≠ R.dv ∧ p ≠ R.dh ∧ p ≠ R.dw) ∧ (R.pl ≠ R.dt ∧ R.pl ≠ R.de ∧ R.pl ≠ R.dv ∧ R.pl ≠ R.dh ∧ R.pl ≠ R.dw) ∧ (R.dt ≠ R.de ∧ R.dt ≠ R.dv ∧ R.dt ≠ R.dh ∧ R.dt ≠ R.dw) ∧
    (R.de ≠ R.dv ∧ R.de ≠ R.dh ∧ R.de ≠ R.dw) ∧ (R.dv ≠ R.dh ∧ R.dv ≠ R.dw) ∧ R.dh ≠ R.dw := by
  have n := A.nd
  unfold Rc.o at n
  simp only [List.nodup_cons, List.mem_cons, not_or] at n
  obtain ⟨⟨a1, a2, a3, a4, a5, a6, _⟩, ⟨b1, b2, b3, b4, b5, _⟩, ⟨c1, c2, c3, c4, _⟩, ⟨d1, d2, d3, _⟩, ⟨e1, e2, _⟩, ⟨f1, _⟩, _⟩ := n
  exact ⟨⟨a1, a2, a3, a4, a5, a6⟩, ⟨b1, b2, b3, b4, b5⟩, ⟨c1, c2, c3, c4⟩, ⟨d1, d2, d3⟩, ⟨e1, e2⟩, f1⟩
theorem RcAt.neW (A : RcAt c H p R s) {x : Int × (Addr × Wt)} (hx : x ∈ R.WS) : x.2.1 ≠ p ∧ x.2.1 ≠ R.pl ∧ x.2.1 ≠ R.dt ∧ x.2.1 ≠ R.de ∧ x.2.1 ≠ R.dv ∧ x.2.1 ≠ R.dh ∧ x.2.1 ≠ R.dw := by
  have n := A.nd
  have m : x.2.1 ∈ R.WS.map (·.2.1) := List.mem_map.mpr ⟨x, hx, rfl⟩
  unfold Rc.o at n
  simp only [List.nodup_cons, List.mem_cons, not_or] at n
  obtain ⟨⟨_, _, _, _, _, _, a⟩, ⟨_, _, _, _, _, b⟩, ⟨_, _, _, _, c⟩, ⟨_, _, _, d⟩, ⟨_, _, e⟩, ⟨_, f⟩, g, _⟩ := n
  exact ⟨fun z => a (z ▸ m), fun z => b (z ▸ m), fun z => c (z ▸ m), fun z => d (z ▸ m), fun z => e (z ▸ m), fun z => f (z ▸ m), fun z => g (z ▸ m)⟩
theorem RcAt.wIn (A : RcAt c H p R s) {x : Int × (Addr × Wt)} (hx : x ∈ R.WS) : x.2.1 ∈ R.o p := by
  unfold Rc.o
  simp only [List.mem_cons]
  right; right; right; right; right; right; right
  exact List.mem_map.mpr ⟨x, hx, rfl⟩
/-- the log goes on -/
theorem RcAt.log (A : RcAt c H p R s) {F' : List Addr} {rs' : List Row} {g' : Nat} (L : LgP c.CG F' H' R.pg rs' g') (g : Grow R.Fg F' H) (k : Ch H H' R.Fg) : RcAt c H' p { R with Fg := F' } { s with rows := rs', gone := g' } := by
  have o : ∀ {a}, a ∈ R.o p → a ∉ R.Fg := fun {a} h z => A.dj a z h
  obtain ⟨dx, h⟩ := A.ob
  have ex : ∀ a ∈ R.o p, ∃ u, H a = some u := fun a ha => A.own a (List.mem_append_left _ ha)
  exact ⟨⟨dx, k.at h (o (by simp [Rc.o]))⟩, A.lt.ch k (o (by simp [Rc.o])) (o (by simp [Rc.o])) (o (by simp [Rc.o])), L, k.at A.va (o (by simp [Rc.o])), k.at A.ho (o (by simp [Rc.o])), k.at A.wa (o (by simp [Rc.o])),
    fun x hx => (let ⟨dy, h⟩ := A.wo x hx; ⟨dy, k.at h (o (A.wIn hx))⟩), A.rv, A.rh, A.rw_, A.nd, g.apart A.dj ex, A.fe, A.fs, A.fh, A.fw, A.nE, A.nH, A.nW, A.kW, A.kH, A.wP⟩
/-- the leases go on -/
theorem RcAt.lot (A : RcAt c H p R s) {n : Nat} {T E : Al} {sp : Int → Option Int} (L : LotAt c.CL H' R.pl R.dt R.de n T E) (k : Ch H H' [R.pl, R.dt, R.de]) (nE : (E.map (·.1)).Nodup) (fs : ∀ h e, getA E h = some e → ∃ t, getA T h = some t ∧ sp h = some t) :
    RcAt c H' p { R with T := T, E := E } { s with given := n, span := sp, ends := getA E } := by
  obtain ⟨⟨a1, a2, a3, a4, a5, a6⟩, ⟨b1, b2, b3, b4, b5⟩, ⟨c1, c2, c3, c4⟩, ⟨d1, d2, d3⟩, ⟨e1, e2⟩, f1⟩ := A.ne7
  have o3 : ∀ {a}, a ≠ R.pl → a ≠ R.dt → a ≠ R.de → a ∉ [R.pl, R.dt, R.de] := fun h1 h2 h3 z => by
    simp only [List.mem_cons, List.not_mem_nil, or_false] at z
    rcases z with z | z | z
    · exact h1 z
    · exact h2 z
    · exact h3 z
  obtain ⟨dx, h⟩ := A.ob
  refine ⟨⟨dx, k.at h (o3 a1 a2 a3)⟩, L, A.lg.frame k (fun a ha => o3 ?_ ?_ ?_), k.at A.va (o3 b3.symm c2.symm d1.symm), k.at A.ho (o3 b4.symm c3.symm d2.symm), k.at A.wa (o3 b5.symm c4.symm d3.symm),
    fun x hx => (let ⟨dy, h⟩ := A.wo x hx; let q := A.neW hx; ⟨dy, k.at h (o3 q.2.1 q.2.2.1 q.2.2.2.1)⟩), A.rv, A.rh, A.rw_, A.nd, A.dj, rfl, fs, A.fh, A.fw, nE, A.nH, A.nW, A.kW, A.kH, A.wP⟩
  all_goals (intro z; exact A.dj a ha (by rw [z]; simp [Rc.o]))
/-- keys go, come or change -/
theorem RcAt.keys (A : RcAt c H p R s) {HV : List (Str × (Str × Int))} {vk hk : List (Key × V)} (k : Ch H H' [R.dv, R.dh]) (h1 : H' R.dv = some (.dK vk)) (h2 : H' R.dh = some (.dK hk)) (rv : DRel Sum.inr isV1 HV vk) (rh : DRel Sum.inr isV2 HV hk)
    (nH : (HV.map (·.1)).Nodup) (kH : ∀ x ∈ HV, TOk 60 x.1) : RcAt c H' p { R with HV := HV, vk := vk, hk := hk } { s with held := getA HV } := by
  obtain ⟨⟨a1, a2, a3, a4, a5, a6⟩, ⟨b1, b2, b3, b4, b5⟩, ⟨c1, c2, c3, c4⟩, ⟨d1, d2, d3⟩, ⟨e1, e2⟩, f1⟩ := A.ne7
  have o2 : ∀ {a}, a ≠ R.dv → a ≠ R.dh → a ∉ [R.dv, R.dh] := fun h1 h2 z => by
    simp only [List.mem_cons, List.not_mem_nil, or_false] at z
    rcases z with z | z
    · exact h1 z
    · exact h2 z
  obtain ⟨dx, h⟩ := A.ob
  refine ⟨⟨dx, k.at h (o2 a4 a5)⟩, A.lt.ch k (o2 b3 b4) (o2 c2 c3) (o2 d1 d2), A.lg.frame k (fun a ha => o2 ?_ ?_), h1, h2, k.at A.wa (o2 e2.symm f1.symm),
    fun x hx => (let ⟨dy, h⟩ := A.wo x hx; let q := A.neW hx; ⟨dy, k.at h (o2 q.2.2.2.2.1 q.2.2.2.2.2.1)⟩), rv, rh, A.rw_, A.nd, A.dj, A.fe, A.fs, rfl, A.fw, A.nE, nH, A.nW, A.kW, kH, A.wP⟩
  all_goals (intro z; exact A.dj a ha (by rw [z]; simp [Rc.o]))
/-- the tick goes on -/
theorem RcAt.tick (A : RcAt c H p R s) {dx : Addr} {n : Int} (k : Ch H H' [p]) (h1 : H' p = some (.ins c.C dx (rFl { s with now := n } R))) : RcAt c H' p R { s with now := n } := by
  obtain ⟨⟨a1, a2, a3, a4, a5, a6⟩, ⟨b1, b2, b3, b4, b5⟩, ⟨c1, c2, c3, c4⟩, ⟨d1, d2, d3⟩, ⟨e1, e2⟩, f1⟩ := A.ne7
  have o1 : ∀ {a}, a ≠ p → a ∉ [p] := fun h1 z => h1 (List.mem_singleton.mp z)
  refine ⟨⟨dx, h1⟩, A.lt.ch k (o1 a1.symm) (o1 a2.symm) (o1 a3.symm), A.lg.frame k (fun a ha => o1 ?_), k.at A.va (o1 a4.symm), k.at A.ho (o1 a5.symm), k.at A.wa (o1 a6.symm),
    fun x hx => (let ⟨dy, h⟩ := A.wo x hx; ⟨dy, k.at h (o1 (A.neW hx).1)⟩), A.rv, A.rh, A.rw_, A.nd, A.dj, A.fe, A.fs, A.fh, A.fw, A.nE, A.nH, A.nW, A.kW, A.kH, A.wP⟩
  intro z
  exact A.dj a ha (by rw [z]; simp [Rc.o])
end
/-- what is asked of the class -/
structure RomT (K : PySem.W.Frag) (C : Addr) : Prop where
  cl : Cls K C
  n0 : NoAttr K C "now"
  n1 : NoAttr K C "_leases"
  n2 : NoAttr K C "_log"
  n3 : NoAttr K C "_values"
  n4 : NoAttr K C "_holders"
  n5 : NoAttr K C "_entered"
  n6 : NoAttr K C "_watchers"
end KL

namespace KL
open PySem L2 L2H LX KB KA1
/-! ### the program's room: a new one -/
theorem made_same {C : Addr} {H H' : Hp} {x dx : Addr} (nx : H x = none) (ndx : H dx = none) (c : Ch (upd (upd H dx (.own x)) x (.ins C dx [])) H' [x]) : Same H H' ∧ Same H (upd (upd H dx (.own x)) x (.ins C dx [])) := by
  have s0 : Same H (upd (upd H dx (.own x)) x (.ins C dx [])) := fun b o e => by
    rw [upd_ne (ne_of_none e nx), upd_ne (ne_of_none e ndx)]; exact e
  exact ⟨fun b o e => c.at (s0 _ _ e) fun z => ne_of_none e nx (List.mem_singleton.mp z), s0⟩
theorem ex_ne {H : Hp} {a b : Addr} (x : ∃ o, H a = some o) (n : H b = none) : a ≠ b := fun z => by
  obtain ⟨o, e⟩ := x
  rw [z, n] at e
  cases e
section
variable {P : Program} {w : World} {K : PySem.W.Frag} {mg : Str → Option Value} {base : Heap} {c : Cs}
theorem ok_Room_init {f fL fG : Addr} {fd fdL fdG : FuncData} {psL psG : List Str} (F : Fun K "__init__" "Room.__init__" s_Room_init f fd) (T : RomT K c.C) (gL : mg "Leases" = some (.ref c.CL)) (gG : mg "Log" = some (.ref c.CG))
    (ML : Mk K c.CL fL) (bL : Binds K fdL psL []) (GL : FnOk P w K mg base CX0 1 fL fdL psL (spLeInit c.CL)) (MG : Mk K c.CG fG) (bG : Binds K fdG psG []) (GG : FnOk P w K mg base CX0 1 fG fdG psG (spLogInit c.CG (LgP c.CG))) :
    FnOk P w K mg base CX0 3 f fd p_Room_init (spRInit c.C (RsP c)) := by
  refine F.ok sc_Room_init (fun vs H Q E h => ?_) (fun cdv A outer s H vs Q E hr h => ?_)
  · obtain ⟨p, dx, rfl, _⟩ := h
    rfl
  · obtain ⟨p, dx, rfl, hp, k⟩ := h
    refine ⟨_, pss_cons (ps_fld (pv 0) pe_int rfl) (pss_cons (ps_fld (pv 0) (pe_make0 ML GL hr rfl gL bL .nil pass0) rfl) (pss_cons (ps_fld (pv 0) (pe_make0 MG GG hr rfl gG bG .nil pass0) rfl)
      (pss_cons (ps_fld (pv 0) pe_dnewK rfl) (pss_cons (ps_fld (pv 0) pe_dnewK rfl) (pss_cons (ps_fld (pv 0) pe_int rfl) (pss_one (ps_fld (pv 0) pe_dnewK rfl))))))), ?_⟩
    have nt : ∀ fs : List (Str × V), ∀ xs, HO.ins c.C dx fs ≠ .tup xs := fun fs xs z => by cases z
    refine ⟨_, rfl, p, c.C, dx, [], rfl, hp, T.cl, T.n0, (by show 0 < 1000; decide), ?_⟩
    have c0 : Ch H (upd H p (.ins c.C dx (putF "now" (.int 0) []))) [p] := (Ch.refl H [p]).mut (by simp) hp (nt _)
    have h0 : upd H p (.ins c.C dx (putF "now" (.int 0) [])) p = some (.ins c.C dx (putF "now" (.int 0) [])) := upd_same
    generalize upd H p (.ins c.C dx (putF "now" (.int 0) [])) = H0 at c0 h0 ⊢
    intro pl dl nl ndl nel
    refine ⟨pl, dl, rfl, upd_same, fun dt de H1 nt1 ne1 L1 c1 => ⟨rfl, ?_⟩⟩
    obtain ⟨s1, sb⟩ := made_same nl ndl c1
    have hp1 := s1 _ _ h0
    have npl : p ≠ pl := ne_of_none h0 nl
    have npt : p ≠ dt := ne_of_none (sb _ _ h0) nt1
    have npe : p ≠ de := ne_of_none (sb _ _ h0) ne1
    have nlt : pl ≠ dt := ne_of_none upd_same nt1
    have nle : pl ≠ de := ne_of_none upd_same ne1
    have nte := L1.ne
    have fl : H0 dt = none := sb.free nt1
    have fe : H0 de = none := sb.free ne1
    clear c1 nt1 ne1 sb
    -- the leases stand
    refine ⟨_, rfl, p, c.C, dx, _, rfl, hp1, T.cl, T.n1, (by show 1 < 1000; decide), ?_⟩
    have o1 : ∀ {a : Addr}, p ≠ a → a ∉ [p] := fun h z => h (List.mem_singleton.mp z).symm
    have c2 : Ch H1 (upd H1 p (.ins c.C dx (putF "_leases" (.ref pl) (putF "now" (.int 0) [])))) [p] := (Ch.refl _ _).mut (by simp) hp1 (nt _)
    have L2 := L1.ch c2 (o1 npl) (o1 npt) (o1 npe)
    have h2 : upd H1 p (.ins c.C dx (putF "_leases" (.ref pl) (putF "now" (.int 0) []))) p = some (.ins c.C dx (putF "_leases" (.ref pl) (putF "now" (.int 0) []))) := upd_same
    have t2 : Ch H0 (upd H1 p (.ins c.C dx (putF "_leases" (.ref pl) (putF "now" (.int 0) [])))) [p] := (Ch.of s1 _).trans c2
    generalize upd H1 p (.ins c.C dx (putF "_leases" (.ref pl) (putF "now" (.int 0) []))) = H2 at L2 h2 t2 ⊢
    clear c2 hp1 L1 s1
    intro pg dg ng ndg neg
    refine ⟨pg, dg, rfl, upd_same, fun Fg H3 G3 fg c3 => ⟨rfl, ?_⟩⟩
    obtain ⟨s3, sb⟩ := made_same ng ndg c3
    have h3 := s3 _ _ h2
    have L3 := L2.ch (Ch.of s3 []) (fun z => nomatch z) (fun z => nomatch z) (fun z => nomatch z)
    have fg2 : ∀ a ∈ Fg, H2 a = none := fun a ha => by
      rcases fg a ha with rfl | q
      · exact ng
      · exact sb.free q
    clear c3 sb fg
    have notG : ∀ {a : Addr}, (∃ o, H2 a = some o) → a ∉ Fg := fun {a} x m => ex_ne x (fg2 a m) rfl
    obtain ⟨dl2, hl2⟩ := L2.ob
    have gp : p ∉ Fg := notG ⟨_, h2⟩
    have gl : pl ∉ Fg := notG ⟨_, hl2⟩
    have gt : dt ∉ Fg := notG ⟨_, L2.tk⟩
    have ge : de ∉ Fg := notG ⟨_, L2.en⟩
    have fg0 : ∀ a ∈ Fg, H0 a = none := fun a ha => t2.none a (fg2 a ha)
    clear notG fg2
    have t3 : Ch H0 H3 [p] := t2.same s3
    refine ⟨_, rfl, p, c.C, dx, _, rfl, h3, T.cl, T.n2, (by show 2 < 1000; decide), ?_⟩
    have c4 : Ch H3 (upd H3 p (.ins c.C dx (putF "_log" (.ref pg) (putF "_leases" (.ref pl) (putF "now" (.int 0) []))))) [p] := (Ch.refl _ _).mut (by simp) h3 (nt _)
    have L4 := L3.ch c4 (o1 npl) (o1 npt) (o1 npe)
    have og : ∀ a ∈ Fg, a ∉ [p] := fun a ha z => gp (by rw [← List.mem_singleton.mp z]; exact ha)
    have G4 := G3.frame c4 og
    have h4 : upd H3 p (.ins c.C dx (putF "_log" (.ref pg) (putF "_leases" (.ref pl) (putF "now" (.int 0) [])))) p = some (.ins c.C dx (putF "_log" (.ref pg) (putF "_leases" (.ref pl) (putF "now" (.int 0) [])))) := upd_same
    have t4 := t3.trans c4
    generalize upd H3 p (.ins c.C dx (putF "_log" (.ref pg) (putF "_leases" (.ref pl) (putF "now" (.int 0) [])))) = H4 at L4 G4 h4 t4 ⊢
    clear c4 L3 G3 h3 t3 s3 L2 h2 t2 hl2
    -- the keys' tables
    intro dv hdv
    obtain ⟨dl4, hl4⟩ := L4.ob
    have nv : p ≠ dv ∧ pl ≠ dv ∧ dt ≠ dv ∧ de ≠ dv := ⟨ne_of_none h4 hdv, ne_of_none hl4 hdv, ne_of_none L4.tk hdv, ne_of_none L4.en hdv⟩
    have gv : dv ∉ Fg := fun m => ex_ne (G4.own dv m) hdv rfl
    have f4 : H0 dv = none := t4.none dv hdv
    have s5 := same_new (o := .dK []) hdv
    have h5 := s5 _ _ h4
    have v5 : upd H4 dv (.dK []) dv = some (.dK []) := upd_same
    have L5 := L4.ch (Ch.of s5 []) (fun z => nomatch z) (fun z => nomatch z) (fun z => nomatch z)
    have G5 := G4.frame (Ch.of s5 []) (fun _ _ z => nomatch z)
    have t5 := t4.same s5
    generalize upd H4 dv (.dK []) = H5 at h5 v5 L5 G5 t5 ⊢
    clear s5 h4 L4 G4 t4 hl4 hdv
    refine ⟨_, rfl, p, c.C, dx, _, rfl, h5, T.cl, T.n3, (by show 3 < 1000; decide), ?_⟩
    have c6 : Ch H5 (upd H5 p (.ins c.C dx (putF "_values" (.ref dv) (putF "_log" (.ref pg) (putF "_leases" (.ref pl) (putF "now" (.int 0) [])))))) [p] := (Ch.refl _ _).mut (by simp) h5 (nt _)
    have L6 := L5.ch c6 (o1 npl) (o1 npt) (o1 npe)
    have G6 := G5.frame c6 og
    have v6 := c6.at v5 (o1 nv.1)
    have h6 : upd H5 p (.ins c.C dx (putF "_values" (.ref dv) (putF "_log" (.ref pg) (putF "_leases" (.ref pl) (putF "now" (.int 0) []))))) p = some (.ins c.C dx (putF "_values" (.ref dv) (putF "_log" (.ref pg) (putF "_leases" (.ref pl) (putF "now" (.int 0) []))))) := upd_same
    have t6 := t5.trans c6
    generalize upd H5 p (.ins c.C dx (putF "_values" (.ref dv) (putF "_log" (.ref pg) (putF "_leases" (.ref pl) (putF "now" (.int 0) []))))) = H6 at h6 v6 L6 G6 t6 ⊢
    clear c6 h5 v5 L5 G5 t5
    intro dh hdh
    obtain ⟨dl6, hl6⟩ := L6.ob
    have nh : p ≠ dh ∧ pl ≠ dh ∧ dt ≠ dh ∧ de ≠ dh ∧ dv ≠ dh := ⟨ne_of_none h6 hdh, ne_of_none hl6 hdh, ne_of_none L6.tk hdh, ne_of_none L6.en hdh, ne_of_none v6 hdh⟩
    have gh : dh ∉ Fg := fun m => ex_ne (G6.own dh m) hdh rfl
    have f6 : H0 dh = none := t6.none dh hdh
    have s7 := same_new (o := .dK []) hdh
    have h7 := s7 _ _ h6
    have v7 := s7 _ _ v6
    have k7 : upd H6 dh (.dK []) dh = some (.dK []) := upd_same
    have L7 := L6.ch (Ch.of s7 []) (fun z => nomatch z) (fun z => nomatch z) (fun z => nomatch z)
    have G7 := G6.frame (Ch.of s7 []) (fun _ _ z => nomatch z)
    have t7 := t6.same s7
    generalize upd H6 dh (.dK []) = H7 at h7 v7 k7 L7 G7 t7 ⊢
    clear s7 h6 v6 L6 G6 t6 hl6 hdh
    refine ⟨_, rfl, p, c.C, dx, _, rfl, h7, T.cl, T.n4, (by show 4 < 1000; decide), ?_⟩
    refine ⟨_, rfl, p, c.C, dx, _, rfl, upd_same, T.cl, T.n5, (by show 5 < 1000; decide), ?_⟩
    have c8 : Ch H7 (upd (upd H7 p (.ins c.C dx (putF "_holders" (.ref dh) (putF "_values" (.ref dv) (putF "_log" (.ref pg) (putF "_leases" (.ref pl) (putF "now" (.int 0) []))))))) p (.ins c.C dx (putF "_entered" (.int 0) (putF "_holders" (.ref dh) (putF "_values" (.ref dv) (putF "_log" (.ref pg) (putF "_leases" (.ref pl) (putF "now" (.int 0) [])))))))) [p] := ((Ch.refl _ _).mut (by simp) h7 (nt _)).mut (by simp) h7 (nt _)
    have L8 := L7.ch c8 (o1 npl) (o1 npt) (o1 npe)
    have G8 := G7.frame c8 og
    have v8 := c8.at v7 (o1 nv.1)
    have k8 := c8.at k7 (o1 nh.1)
    have h8 : (upd (upd H7 p (.ins c.C dx (putF "_holders" (.ref dh) (putF "_values" (.ref dv) (putF "_log" (.ref pg) (putF "_leases" (.ref pl) (putF "now" (.int 0) []))))))) p (.ins c.C dx (putF "_entered" (.int 0) (putF "_holders" (.ref dh) (putF "_values" (.ref dv) (putF "_log" (.ref pg) (putF "_leases" (.ref pl) (putF "now" (.int 0) [])))))))) p = some (.ins c.C dx (putF "_entered" (.int 0) (putF "_holders" (.ref dh) (putF "_values" (.ref dv) (putF "_log" (.ref pg) (putF "_leases" (.ref pl) (putF "now" (.int 0) []))))))) := upd_same
    have t8 := t7.trans c8
    generalize upd (upd H7 p (.ins c.C dx (putF "_holders" (.ref dh) (putF "_values" (.ref dv) (putF "_log" (.ref pg) (putF "_leases" (.ref pl) (putF "now" (.int 0) []))))))) p (.ins c.C dx (putF "_entered" (.int 0) (putF "_holders" (.ref dh) (putF "_values" (.ref dv) (putF "_log" (.ref pg) (putF "_leases" (.ref pl) (putF "now" (.int 0) []))))))) = H8 at h8 v8 k8 L8 G8 t8 ⊢
    clear c8 h7 v7 k7 L7 G7 t7
    intro dw hdw
    obtain ⟨dl8, hl8⟩ := L8.ob
    have nw : p ≠ dw ∧ pl ≠ dw ∧ dt ≠ dw ∧ de ≠ dw ∧ dv ≠ dw ∧ dh ≠ dw := ⟨ne_of_none h8 hdw, ne_of_none hl8 hdw, ne_of_none L8.tk hdw, ne_of_none L8.en hdw, ne_of_none v8 hdw, ne_of_none k8 hdw⟩
    have gw : dw ∉ Fg := fun m => ex_ne (G8.own dw m) hdw rfl
    have f8 : H0 dw = none := t8.none dw hdw
    have s9 := same_new (o := .dK []) hdw
    have h9 := s9 _ _ h8
    have v9 := s9 _ _ v8
    have k9 := s9 _ _ k8
    have w9 : upd H8 dw (.dK []) dw = some (.dK []) := upd_same
    have L9 := L8.ch (Ch.of s9 []) (fun z => nomatch z) (fun z => nomatch z) (fun z => nomatch z)
    have G9 := G8.frame (Ch.of s9 []) (fun _ _ z => nomatch z)
    have t9 := t8.same s9
    generalize upd H8 dw (.dK []) = H9 at h9 v9 k9 w9 L9 G9 t9 ⊢
    clear s9 h8 v8 k8 L8 G8 t8 hl8 hdw
    refine ⟨_, rfl, p, c.C, dx, _, rfl, h9, T.cl, T.n6, (by show 6 < 1000; decide), ?_⟩
    let R : Rc := ⟨pl, dt, de, pg, Fg, dv, dh, dw, [], [], [], [], [], [], []⟩
    have ef : putF "_watchers" (V.ref dw) (putF "_entered" (.int 0) (putF "_holders" (.ref dh) (putF "_values" (.ref dv) (putF "_log" (.ref pg) (putF "_leases" (.ref pl) (putF "now" (.int 0) [])))))) = rFl .init R := rfl
    rw [ef]
    have ca : Ch H9 (upd H9 p (.ins c.C dx (rFl .init R))) [p] := (Ch.refl _ _).mut (by simp) h9 (nt _)
    have nd : (R.o p).Nodup := by
      show [p, pl, dt, de, dv, dh, dw].Nodup
      simp only [List.nodup_cons, List.mem_cons, List.not_mem_nil, or_false, not_or, List.nodup_nil, not_false_eq_true, and_true]
      exact ⟨⟨npl, npt, npe, nv.1, nh.1, nw.1⟩, ⟨nlt, nle, nv.2.1, nh.2.1, nw.2.1⟩, ⟨nte, nv.2.2.1, nh.2.2.1, nw.2.2.1⟩, ⟨nv.2.2.2, nh.2.2.2.1, nw.2.2.2.1⟩, ⟨nh.2.2.2.2, nw.2.2.2.2.1⟩, nw.2.2.2.2.2⟩
    have A : RcAt c (upd H9 p (.ins c.C dx (rFl .init R))) p R .init := ⟨⟨dx, upd_same⟩, L9.ch ca (o1 npl) (o1 npt) (o1 npe), G9.frame ca og, ca.at v9 (o1 nv.1), ca.at k9 (o1 nh.1), ca.at w9 (o1 nw.1), (fun _ z => nomatch z), .nil, .nil, .nil, nd, fun a ha z => by
        change a ∈ [p, pl, dt, de, dv, dh, dw] at z
        simp only [List.mem_cons, List.not_mem_nil, or_false] at z
        rcases z with rfl | rfl | rfl | rfl | rfl | rfl | rfl
        · exact gp ha
        · exact gl ha
        · exact gt ha
        · exact ge ha
        · exact gv ha
        · exact gh ha
        · exact gw ha, rfl, (fun _ _ z => nomatch z), rfl, rfl, .nil, .nil, .nil, (fun _ z => nomatch z), (fun _ z => nomatch z), (fun _ z => nomatch z)⟩
    refine k _ _ ⟨R, rfl, A, ⟨Nat.le_refl _, Nat.le_refl _, Nat.le_refl _, Nat.le_refl _, (fun _ z => nomatch z)⟩⟩ (fun a ha => ?_) ((c0.trans t9).trans ca)
    rcases List.mem_append.mp ha with h | h
    · change a ∈ [p, pl, dt, de, dv, dh, dw] at h
      simp only [List.mem_cons, List.not_mem_nil, or_false] at h
      rcases h with rfl | rfl | rfl | rfl | rfl | rfl | rfl
      · exact .inl rfl
      · exact .inr (c0.none _ nl)
      · exact .inr (c0.none _ fl)
      · exact .inr (c0.none _ fe)
      · exact .inr (c0.none _ f4)
      · exact .inr (c0.none _ f6)
      · exact .inr (c0.none _ f8)
    · exact .inr (c0.none _ (fg0 a h))
end
end KL

/-! sorted of pairs of texts, any number of them; sorted of a dict's items -/
namespace PT
open PySem PySem.Spec PyProof.Rows L2 L2H
/-- pairs of texts, by their first, then by their second -/
def lexS (p q : Str × Str) : Bool := if p.1 = q.1 then decide (p.2.cps.toList < q.2.cps.toList) else decide (p.1.cps.toList < q.1.cps.toList)
theorem lexS_iff {p q : Str × Str} : lexS p q = true ↔ p.1.cps.toList < q.1.cps.toList ∨ (p.1 = q.1 ∧ p.2.cps.toList < q.2.cps.toList) := by
  unfold lexS
  by_cases e : p.1 = q.1
  · rw [if_pos e, decide_eq_true_eq, e]
    exact ⟨fun h => .inr ⟨rfl, h⟩, fun h => h.elim (fun z => absurd z (List.lt_irrefl _)) fun z => z.2⟩
  · rw [if_neg e, decide_eq_true_eq]
    exact ⟨.inl, fun h => h.elim id fun z => absurd z.1 e⟩
theorem ltL_trans {a b c : List Nat} (h : a < b) (k : b < c) : a < c := List.lt_trans h k
theorem ltL_as {a b : List Nat} (h : a < b) : ¬ b < a := fun k => List.lt_irrefl _ (List.lt_trans h k)
theorem tri {a b : Str} (h : ¬ a.cps.toList < b.cps.toList) (k : ¬ b.cps.toList < a.cps.toList) : a = b := TL.ext_tl (List.le_antisymm (List.not_lt.mp k) (List.not_lt.mp h))
theorem swo_lexS {α : Type} (k : α → Str × Str) : SrtO.Swo fun u v => lexS (k u) (k v) := by
  refine ⟨fun x y h => ?_, fun x y z h1 h2 => ?_⟩
  · refine Bool.eq_false_iff.mpr fun g => ?_
    rcases lexS_iff.mp h with a | ⟨a1, a2⟩ <;> rcases lexS_iff.mp g with b | ⟨b1, b2⟩
    · exact ltL_as a b
    · rw [b1] at a; exact List.lt_irrefl _ a
    · rw [a1] at b; exact List.lt_irrefl _ b
    · exact ltL_as a2 b2
  · refine Bool.eq_false_iff.mpr fun g => ?_
    have n1 : ¬ lexS (k y) (k x) = true := by rw [h1]; decide
    have n2 : ¬ lexS (k z) (k y) = true := by rw [h2]; decide
    rw [lexS_iff, not_or, not_and] at n1 n2
    have q1 := List.not_lt.mp n1.1
    have q2 := List.not_lt.mp n2.1
    rcases lexS_iff.mp g with a | ⟨a1, a2⟩
    · exact List.not_lt.mpr (List.le_trans q1 q2) a
    · have q3 := n2.1
      rw [a1] at q3
      have e : (k x).1 = (k y).1 := tri q3 n1.1
      have r1 := n1.2 e.symm
      have r2 := n2.2 (a1.trans e)
      exact List.not_lt.mpr (List.le_trans (List.not_lt.mp r1) (List.not_lt.mp r2)) a2
section
variable {prog : Program} {w : World} {A : Around} {E : Value → Shared → Prop} {s : Shared}
/-- v is a tuple of two texts in the heap -/
def Two (h : Heap) (v : Value) (p : Str × Str) : Prop := ∃ b o c1 c2 n, v = .ref b ∧ h.get? b = some o ∧ o.cls = .type "tuple" ∧ o.data = .seq #[.str p.1 c1, .str p.2 c2] n
theorem Two.keeps {g g' : Heap} {v : Value} {p : Str × Str} (x : Two g v p) (k : ∀ b o, g.get? b = some o → o.cls = .type "tuple" → g'.get? b = some o) : Two g' v p := by
  obtain ⟨b, o, c1, c2, n, e, h1, h2, h3⟩ := x
  exact ⟨b, o, c1, c2, n, e, k _ _ h1 h2, h2, h3⟩
theorem two_cmp {vs : List Value} {k : Value → Str × Str} (hk : ∀ v ∈ vs, Two s.heap v (k v)) : SrtO.Cmp prog w A s (tuples' true) (fun p => p.1 ∈ vs) (SrtO.lt2 fun v u => lexS (k v) (k u)) := by
  intro p q m1 m2
  have g1 := hk _ m1
  have g2 := hk _ m2
  show wpAny (model prog w) A (keyLt' (tuples' true) p.1 q.1) (fun r z => z = s ∧ r = lexS (k p.1) (k q.1)) (fun _ _ => False) s
  generalize k p.1 = x at g1 ⊢
  generalize k q.1 = y at g2 ⊢
  obtain ⟨x1, x2⟩ := x
  obtain ⟨y1, y2⟩ := y
  obtain ⟨b, o, c1, c2, n, e1, i1, i2, i3⟩ := g1
  obtain ⟨d, u, d1, d2, m, e2, j1, j2, j3⟩ := g2
  rw [e1, e2]
  refine PySem.W.kat_lt i1 i3 j1 j3 ?_
  show PySem.W.KatLex prog w A true (decide (2 < 2)) _ [(.str x1 c1, .str y1 d1), (.str x2 c2, .str y2 d2)] 0 s
  refine PySem.W.kat_cons (SeqAt.EqAt.str_str x1 c1 y1 d1 prog w _ _ ?_)
  refine PySem.W.kat_go (fun a1 => ?_) fun a1 => ?_
  · have ex : x1 = y1 := by simpa using a1
    refine PySem.W.kat_yes (PySem.W.kat_cons (SeqAt.EqAt.str_str x2 c2 y2 d2 prog w _ _ ?_))
    refine PySem.W.kat_go (fun a2 => ?_) fun a2 => ?_
    · have ey : x2 = y2 := by simpa using a2
      have ef : lexS (x1, x2) (y1, y2) = false := by
        unfold lexS
        rw [if_pos ex]
        refine decide_eq_false ?_
        rw [ey]
        exact List.lt_irrefl _
      exact PySem.W.kat_yes (PySem.W.kat_nil ⟨rfl, ef.symm⟩)
    · have ef : lexS (x1, x2) (y1, y2) = decide (x2.cps.toList < y2.cps.toList) := by
        unfold lexS
        rw [if_pos ex]
      refine PySem.W.kat_no (PySem.W.kat_one _ _ (PyProof.Rows.lt_str ?_))
      exact (show s = s ∧ decide (x2.cps.toList < y2.cps.toList) = lexS (x1, x2) (y1, y2) from ⟨rfl, ef.symm⟩)
  · have ex : ¬ x1 = y1 := by simpa using a1
    have ef : lexS (x1, x2) (y1, y2) = decide (x1.cps.toList < y1.cps.toList) := by
      unfold lexS
      rw [if_neg ex]
    exact PySem.W.kat_no (oneLt_str ⟨rfl, ef.symm⟩)
theorem two_firsts {g : Heap} {k : Value → Str × Str} : ∀ {vs : List Value}, (∀ v ∈ vs, Two g v (k v)) → ∃ fs : List Value, PySem.W.KatTups g vs fs ∧ fs.length = vs.length ∧ ∀ f ∈ fs, ∃ x c, f = Value.str x c
  | [], _ => ⟨[], PySem.W.KatTups.nil, rfl, fun _ z => nomatch z⟩
  | v :: vs, h => by
    obtain ⟨fs, a1, a2, a3⟩ := two_firsts (vs := vs) fun x hx => h x (List.mem_cons_of_mem _ hx)
    obtain ⟨b, o, c1, c2, n, e, i1, i2, i3⟩ := h v List.mem_cons_self
    subst e
    refine ⟨.str (k (.ref b)).1 c1 :: fs, PySem.W.KatTups.cons i1 i2 i3 rfl a1, by rw [List.length_cons, List.length_cons, a2], fun f hf => ?_⟩
    rcases List.mem_cons.mp hf with rfl | hf
    · exact ⟨_, _, rfl⟩
    · exact a3 f hf
theorem two_sortable {a : Addr} {vs : List Value} {k : Value → Str × Str} (h0 : 0 < vs.length) (hk : ∀ v ∈ vs, Two s.heap v (k v)) (ha : ∀ o, s.heap.get? a = some o → o.cls ≠ .type "tuple") : SrtO.SortableO prog w A s a vs fun v u => lexS (k v) (k u) := by
  intro g keep
  have hg : ∀ v ∈ vs, Two g v (k v) := fun v hv => (hk v hv).keeps fun b o e c => keep b o (fun z => ha o (z ▸ e) c) e
  obtain ⟨fs, a1, a2, a3⟩ := two_firsts hg
  refine ⟨tuples' true, fun Q F hq => ?_, two_cmp hg⟩
  refine PySem.W.kat_kind (T := .type "str") a1 (by omega) (fun f hf => ?_) (by rfl) ?_
  · obtain ⟨x, c, rfl⟩ := a3 f hf
    exact PySem.W.Looks.now
  · have e : (Value.type "str" != Value.type "tuple") = true := by decide +kernel
    rw [e]
    exact hq
end
end PT
namespace LX
open PySem PySem.Spec PyProof.Rows L2 L2H
section
variable {X : Cx}
/-- sorted(xs), xs a list of pairs of texts -/
def rSortTT (K : PySem.W.Frag) : List V → Hp → VK → Prop := fun vs H Q => ∃ (a : Addr) (xs : List V) (k : V → Str × Str), vs = [V.ref a] ∧ SqL K H a xs ∧ (∀ x ∈ xs, ∃ t, x = V.ref t ∧ H t = some (.tup [.str (k x).1, .str (k x).2])) ∧
  ∀ ys p, ys.Perm xs → ys.Pairwise (fun x y => PT.lexS (k y) (k x) = false) → H p = none → Q (.ref p) (upd H p (.lst ys))
theorem cr_sortTT : CallR X (.builtin "sorted") (rSortTT X.K) := by
  intro pins s σ H vs us Q I r h
  obtain ⟨a, xs, k, rfl, hs, hx, q⟩ := h
  obtain ⟨its, rv, hl, hz⟩ := I.list hs
  obtain ⟨u, rfl, ru⟩ := vals1 r
  obtain rfl : u = Value.ref a := ru
  obtain ⟨e1, e2⟩ := refs_back rv fun x m => let ⟨t, e, _⟩ := hx x m; ⟨t, e⟩
  have two : ∀ v ∈ its, PT.Two s.heap v (k (backV v)) := fun v hv => by
    obtain ⟨t, rfl⟩ := e2 v hv
    have hm : V.ref t ∈ xs := by rw [e1]; exact List.mem_map.mpr ⟨_, hv, rfl⟩
    obtain ⟨t', e, ht⟩ := hx _ hm
    cases e
    obtain ⟨_, its2, r2, o, ho, hc, n, hd⟩ := I.hok _ _ ht
    obtain ⟨u1, u2, rfl, ri, rj⟩ := vals2 r2
    obtain ⟨t1, rfl⟩ := ri
    obtain ⟨t2, rfl⟩ := rj
    exact ⟨t, o, t1, t2, n, rfl, ho, hc, hd⟩
  refine SrtO.sorted_ord (PT.swo_lexS fun v => k (backV v)) hl.isList (by rw [← rv.length]; exact hz) (fun h2 h₁ b hb kk => ?_) fun out hso hst => ?_
  · refine PT.two_sortable (s := { s with heap := h₁ }) (k := fun v => k (backV v)) (by omega) (fun v hv => (two v hv).keeps fun c o e _ => (kk c o e).2) fun o e => ?_
    have z : some o = some (seqObj "list" its.toArray 0) := e.symm.trans hb
    cases z
    intro c
    exact absurd (Value.type.inj c) (by decide)
  · have h3 : ∀ u ∈ out, ∃ b, u = Value.ref b := fun u hu => e2 u (hst.perm.mem_iff.mp hu)
    obtain ⟨n, hn⟩ := sortedAll_at s.heap its out.toArray
    have hp : (out.map backV).Perm xs := by
      rw [e1]
      exact hst.perm.map backV
    refine ⟨.ref (s.heap.objs.size + 1), upd H (s.heap.objs.size + 1) (.lst (out.map backV)), I.laid (t' := s.toks) (fun b o e => sortedAll_old e) (Nat.le_succ _) ⟨?_, out, n, vals_back h3, hn⟩, rfl, q _ _ hp (List.pairwise_map.mpr hso) (I.hok.fresh (Nat.le_succ _))⟩
    rw [hp.length_eq]
    exact hz
end
end LX

/-! sorted(d.items()) of a dict of texts -/
namespace PT
open PySem PySem.Spec PyProof.Rows L2 L2H KB
theorem ent_of {P : Program} {w : World} : ∀ {ps : KVs} {vs : List (Key × Value)} {es : List DictEntry} {j : Nat} {p : Str × Str}, KV (dV ps) vs → PySem.Pairs (mixKind P w) es vs → ps[j]? = some p →
    ∃ e c1 c2, es[j]? = some e ∧ e.key = Value.str p.1 c1 ∧ e.val = Value.str p.2 c2
  | [], _, _, j, p, _, _, h => by simp at h
  | q :: ps, _, _, 0, p, .cons r m, .cons h1 h2 h3, h => by
    have e : q = p := Option.some.inj h
    subst e
    obtain ⟨r1, r2⟩ := r
    obtain ⟨c2, ev⟩ := (show ∃ c, _ = Value.str q.2 c from r2)
    have h1' := h1
    rw [← r1] at h1'
    obtain ⟨c1, ek⟩ := Value.isStrOf_shape (x := q.1) h1'
    exact ⟨_, c1, c2, rfl, ek, h2.trans ev⟩
  | q :: ps, _, _, j + 1, p, .cons r m, .cons h1 h2 h3, h => ent_of (j := j) m h3 (by simpa using h)
end PT
namespace LX
open PySem PySem.Spec PyProof.Rows L2 L2H KB
section
variable {X : Cx}
def rItemsK : V → List V → Hp → VK → Prop := fun x xs H Q => ∃ (a : Addr) (kvs : List (Key × V)), x = .ref a ∧ xs = [] ∧ H a = some (.dK kvs) ∧ ∀ p, H p = none → Q (.ref p) (upd H p (DX.itemsO p a))
theorem mt_itemsK : MtR X "dict.items" rItemsK := by
  intro pins s σ H x xs v us Q I rx rxs h
  obtain ⟨a, kvs, rfl, rfl, ha, q⟩ := h
  cases rx
  cases rxs
  obtain ⟨_, nsys, vs, rel, o, es, ep, g1, g2, g3, _⟩ := dk_of I.hok ha
  refine DT.callItems (es := es) (ep := ep) nsys ⟨o, g1, g2, g3⟩ ?_
  exact ⟨.ref s.heap.objs.size, upd H s.heap.objs.size (DX.itemsO s.heap.objs.size a), I.laid (t' := s.toks) (fun b u e => Heap.get?_push_of_some _ e) (Nat.le_refl _) (DX.itemsO_ok (Heap.get?_push_size _ rfl)), rfl, q _ (I.hok.fresh (Nat.le_refl _))⟩
/-- the view at p of the dict at a, whose keys and values are texts -/
def rSortItK : List V → Hp → VK → Prop := fun vs H Q => ∃ (p a : Addr) (ps : KVs), vs = [.ref p] ∧ H p = some (DX.itemsO p a) ∧ H a = some (.dK (dV ps)) ∧
  ∀ H' l ts qs, Same H H' → H l = none → H' l = some (.lst (ts.map V.ref)) → PairsAt H' ts qs → qs.Perm ps → qs.Pairwise (fun x y => PT.lexS y x = false) → Q (.ref l) H'
theorem cr_sortItK (hc : X.calm = true) : CallR X (.builtin "sorted") rSortItK := by
  intro pins s σ H xs us Q I r h
  obtain ⟨p, a, ps, rfl, hp, ha, q⟩ := h
  obtain rfl := Vals.ref1 r
  have view : s.heap.IsItemsView p a := (show ObjOk X.prog X.w H s.heap p (DX.itemsO p a) from I.hok p _ hp).1
  obtain ⟨z, nsys, vs, rel, o, es, ep, g1, g2, g3, _, g5, _⟩ := dk_of I.hok ha
  have l0 : (dV ps).length = ps.length := List.length_map _
  have l1 : ps.length = vs.length := l0.symm.trans (Paired.length rel)
  have l2 : es.size = vs.length := by rw [← Array.length_toList]; exact g5.length
  refine DT.sortedI (es := es) (ep := ep) (I.ok.hd hc) view ⟨o, g1, g2, g3⟩ (by rw [l2, ← l1, ← l0]; exact z) fun h' tk as hk hlt hl hG => ?_
  have lak : as.length = ps.length := by omega
  have nd : as.Nodup := List.Pairwise.imp (fun h => Nat.ne_of_lt h) hG.rise
  have zk : ((as.zip ps).map (·.1)) = as := List.map_fst_zip (Nat.le_of_eq lak)
  have ndz : ((as.zip ps).map (·.1)).Nodup := by rw [zk]; exact nd
  -- what each of them is
  let k : Value → Str × Str := fun v => match v with
    | .ref b => (getA (as.zip ps) b).getD ("", "")
    | _ => ("", "")
  have kAt : ∀ {j : Nat} {b : Addr}, as[j]? = some b → ∃ pr, ps[j]? = some pr ∧ k (.ref b) = pr := fun {j b} hj => by
    have hlt : j < ps.length := by rw [← lak]; exact (List.getElem?_eq_some_iff.mp hj).1
    refine ⟨ps[j], List.getElem?_eq_getElem hlt, ?_⟩
    have m : (b, ps[j]) ∈ as.zip ps := List.mem_iff_getElem?.mpr ⟨j, List.getElem?_zip_eq_some.mpr ⟨hj, List.getElem?_eq_getElem hlt⟩⟩
    show (getA (as.zip ps) b).getD ("", "") = ps[j]
    rw [getA_of ndz m]
    rfl
  have two : ∀ {j : Nat} {b : Addr}, as[j]? = some b → PT.Two h' (.ref b) (k (.ref b)) := fun {j b} hj => by
    obtain ⟨pr, e1, e2⟩ := kAt hj
    obtain ⟨en, e3, e4⟩ := hG.pairs j b hj
    obtain ⟨en', c1, c2, e5, e6, e7⟩ := PT.ent_of rel g5 e1
    rw [Array.getElem?_toList, e3] at e5
    cases e5
    rw [e6, e7] at e4
    rw [e2]
    exact ⟨b, _, c1, c2, 0, rfl, e4, rfl, rfl⟩
  have twoM : ∀ v ∈ as.map Value.ref, PT.Two h' v (k v) := fun v hv => by
    obtain ⟨b, hb, rfl⟩ := List.mem_map.mp hv
    obtain ⟨j, hj⟩ := List.mem_iff_getElem?.mp hb
    exact two hj
  have hob : (h'.push { cls := .type "list", data := .seq (as.map Value.ref).toArray }).get? h'.objs.size = some (seqObj "list" (as.map Value.ref).toArray 0) := Heap.get?_push_size _ rfl
  have ne0 : ∀ b u, h'.get? b = some u → b ≠ h'.objs.size := fun b u e => Nat.ne_of_lt (Heap.lt_size e)
  have ka : ∀ b u, h'.get? b = some u → (h'.push { cls := .type "list", data := .seq (as.map Value.ref).toArray }).get? b = some u := fun b u e => Heap.get?_push_of_some _ e
  generalize h'.push { cls := .type "list", data := .seq (as.map Value.ref).toArray } = h2 at hob ka ⊢
  have lz : (as.map Value.ref).length ≤ sizeLine := by
    rw [List.length_map, lak, ← l0]
    exact z
  refine wpAny_call_entry PyProof.Rows.slot_list_sort ⟨_, hob, rfl⟩ PyProof.Rows.entry_list_sort (SrtO.list_sort_ord (s := { s with heap := h2, toks := tk }) (PT.swo_lexS k) hob lz (fun hh2 => ?_) fun out hso hst => ⟨_, rfl, ?_⟩) (PyProof.Rows.args_list_sort _)
  · refine PT.two_sortable (s := { s with heap := h2, toks := tk }) (k := k) (by omega) (fun v hv => (twoM v hv).keeps fun b u e _ => ka b u e) fun u e => ?_
    have z2 : some u = some (seqObj "list" (as.map Value.ref).toArray 0) := e.symm.trans hob
    cases z2
    intro c
    exact absurd (Value.type.inj c) (by decide)
  · show EP X pins σ Q (.ref h'.objs.size) { s with heap := sortedHeap h2 h'.objs.size (as.map Value.ref) out.toArray, toks := tk }
    -- the list's items, in their new order
    have back : out = (out.map backV).map (fun v => match v with | .ref b => Value.ref b | _ => Value.none) := by
      rw [List.map_map]
      refine (List.map_id out).symm.trans (List.map_congr_left fun v hv => ?_)
      obtain ⟨b, _, rfl⟩ := List.mem_map.mp (hst.perm.mem_iff.mp hv)
      rfl
    obtain ⟨bs, hbs⟩ : ∃ bs : List Addr, out = bs.map Value.ref := by
      refine ⟨out.map fun v => match v with | .ref b => b | _ => 0, ?_⟩
      rw [List.map_map]
      refine (List.map_id out).symm.trans (List.map_congr_left fun v hv => ?_)
      obtain ⟨b, _, rfl⟩ := List.mem_map.mp (hst.perm.mem_iff.mp hv)
      rfl
    have pbs : bs.Perm as := by
      have e := (hst.perm.map fun v => match v with | .ref b => b | _ => (0 : Addr))
      rw [hbs, List.map_map, List.map_map] at e
      have e1 : ∀ l : List Addr, l.map ((fun v : Value => match v with | .ref b => b | _ => (0 : Addr)) ∘ Value.ref) = l := fun l => (List.map_congr_left fun _ _ => rfl).trans (List.map_id l)
      rw [e1, e1] at e
      exact e
    have kF : ∀ b u, h'.get? b = some u → (sortedHeap h2 h'.objs.size (as.map Value.ref) out.toArray).get? b = some u := fun b u e => (PyProof.Rows.sortedHeap_old (ne0 _ _ e) (Heap.lt_size (ka _ _ e))).trans (ka _ _ e)
    have kS : ∀ b u, s.heap.get? b = some u → (sortedHeap h2 h'.objs.size (as.map Value.ref) out.toArray).get? b = some u := fun b u e => kF b u (hk b u e)
    obtain ⟨eF, heF⟩ := PyProof.Rows.sortedHeap_at (vs := as.map Value.ref) (out := out.toArray) hob
    generalize sortedHeap h2 h'.objs.size (as.map Value.ref) out.toArray = hF at kF kS heF ⊢
    have I1 : Inv X pins σ H { s with heap := hF, toks := tk } := I.kept (t' := tk) kS
    have hn0 : H h'.objs.size = none := I.hok.fresh (Nat.le_of_lt hlt)
    have hlen : (bs.map V.ref).length ≤ sizeLine := by
      rw [List.length_map, pbs.length_eq, ← List.length_map (f := Value.ref)]
      exact lz
    have rv : Vals (bs.map V.ref) out := by
      rw [hbs]
      exact vals_maps (fun b : Addr => V.ref b) (fun b => Value.ref b) bs fun _ _ => rfl
    have I2 : Inv X pins σ (upd H h'.objs.size (.lst (bs.map V.ref))) { s with heap := hF, toks := tk } :=
      I1.take (h' := hF) (t' := tk) (fun b ob _ e => e) (I.fpOk (Nat.le_of_lt hlt) hn0) ⟨hlen, out, eF, rv, heF⟩
    obtain ⟨H2, I3, g, qt⟩ := DX.takeT (P := fun b ws => ws = [.str (k (.ref b)).1, .str (k (.ref b)).2]) I as _ I2 nd fun b hb => by
      obtain ⟨j, hj⟩ := List.mem_iff_getElem?.mp hb
      have hbl : s.heap.objs.size ≤ b := Nat.le_of_lt (hG.above b hb)
      obtain ⟨b', ob, c1, c2, n, eb, t1, t2, t3⟩ := two hj
      cases eb
      refine ⟨hbl, ?_, _, rfl, fun H3 => ⟨(by show 2 ≤ sizeLine; decide), [Value.str (k (.ref b)).1 c1, Value.str (k (.ref b)).2 c2], .cons ⟨_, rfl⟩ (.cons ⟨_, rfl⟩ .nil), ⟨ob, kF _ _ t1, t2, n, t3⟩⟩⟩
      rw [upd_ne (ne0 _ _ t1)]
      exact I.hok.fresh hbl
    have gr : Same H H2 := fun b u e => g b u (by rw [upd_ne (ne_of_none e hn0)]; exact e)
    have pk : (bs.map fun b => k (.ref b)).Perm ps := by
      have e := pbs.map fun b => k (.ref b)
      have e2 : as.map (fun b => k (.ref b)) = ps := by
        refine List.ext_getElem? fun j => ?_
        rw [List.getElem?_map]
        cases ej : as[j]? with
        | none =>
          have : ps.length ≤ j := by rw [← lak]; exact List.getElem?_eq_none_iff.mp ej
          rw [List.getElem?_eq_none this]
          rfl
        | some b =>
          obtain ⟨pr, e3, e4⟩ := kAt ej
          rw [e3, ← e4]
          rfl
      rw [e2] at e
      exact e
    have so : (bs.map fun b => k (.ref b)).Pairwise (fun x y => PT.lexS y x = false) := by
      rw [hbs] at hso
      exact List.pairwise_map.mpr (List.pairwise_map.mp hso)
    refine ⟨.ref h'.objs.size, H2, I3, rfl, q H2 h'.objs.size bs _ gr hn0 (g _ _ upd_same) ?_ pk so⟩
    have all : ∀ l : List Addr, (∀ b ∈ l, b ∈ as) → PairsAt H2 l (l.map fun b => k (.ref b)) := fun l => by
      induction l with
      | nil => exact fun _ => .nil
      | cons b l ih =>
        intro hl
        refine .cons ?_ (ih fun c hc => hl c (List.mem_cons_of_mem _ hc))
        obtain ⟨ws, rfl, hH⟩ := qt b (hl b List.mem_cons_self)
        exact hH
    exact all bs fun b hb => pbs.mem_iff.mp hb
end
end LX
namespace KB
open PySem L2 L2H LX
/-! ### sorted pairs of unlike keys -/
theorem lexS_le {x y : Str × Str} (h : PT.lexS y x = false) : leS x.1 y.1 := by
  rw [leS_iff]
  intro z
  have := PT.lexS_iff (p := y) (q := x) |>.mpr (.inl z)
  rw [this] at h
  cases h
theorem sortedS_of : ∀ {l : List Str}, l.Pairwise leS → PyProof.Rows.sortedS l = true
  | [], _ => rfl
  | x :: l, h => by
    show PyProof.Rows.risingS x l = true
    have go : ∀ (p : Str) (r : List Str), (p :: r).Pairwise leS → PyProof.Rows.risingS p r = true := fun p r => by
      induction r generalizing p with
      | nil => exact fun _ => rfl
      | cons y r ih =>
        intro h
        have h1 := (List.pairwise_cons.mp h).1 y List.mem_cons_self
        have h2 := ih y (List.pairwise_cons.mp h).2
        unfold PyProof.Rows.risingS
        rw [Bool.and_eq_true, Bool.not_eq_true']
        exact ⟨h1, h2⟩
    exact go x l h
theorem told_perm {d qs : KVs} (n : (d.map (·.1)).Nodup) (p : qs.Perm d) (s : qs.Pairwise fun x y => PT.lexS y x = false) : Told (getP d) qs := by
  have nq : (qs.map (·.1)).Nodup := (p.map (·.1)).nodup_iff.mpr n
  refine ⟨sortedS_of (List.pairwise_map.mpr (s.imp fun h => lexS_le h)), nq, fun k => ?_⟩
  cases e : getP d k with
  | none =>
    refine getP_none.mpr fun z => getP_none.mp e ((p.map (·.1)).mem_iff.mp z)
  | some v =>
    have m := p.mem_iff.mpr (getP_mem e)
    exact getP_of nq m
end KB

namespace KL
open PySem L2 L2H LX KB KA1
/-! ### the program's room: what is read of it -/
def heldV (s : Rm) (k : Str) : V := match s.held k with
  | some (v, _) => .str v
  | none => .non
def heldH (s : Rm) (k : Str) : Int := match s.held k with
  | some (_, h) => h
  | none => 0
def spValue0 (c : Cs) : Sp := fun vs H Q _ => ∃ (p : Addr) (k : Str) (R : Rc) (s : Rm), vs = [.ref p, .str k] ∧ RcAt c H p R s ∧ Q (heldV s k) H
def spHolder0 (c : Cs) : Sp := fun vs H Q _ => ∃ (p : Addr) (k : Str) (R : Rc) (s : Rm), vs = [.ref p, .str k] ∧ RcAt c H p R s ∧ Q (.int (heldH s k)) H
def spRLast0 (c : Cs) : Sp := fun vs H Q _ => ∃ (p : Addr) (R : Rc) (s : Rm), vs = [.ref p] ∧ RcAt c H p R s ∧ Q (.int s.rows.length) H
def spRFirst0 (c : Cs) : Sp := fun vs H Q _ => ∃ (p : Addr) (R : Rc) (s : Rm), vs = [.ref p] ∧ RcAt c H p R s ∧ Q (.int ((s.gone : Int) + 1)) H
theorem RcAt.gV {c : Cs} {H : Hp} {p : Addr} {R : Rc} {s : Rm} (A : RcAt c H p R s) (k : Str) : ∃ o : Option V, DGet H R.dv (.str k) o ∧ o.getD .non = heldV s k ∧ o.isSome = (s.held k).isSome := by
  refine ⟨_, DGet.k (k := Sum.inr k) A.va, ?_⟩
  unfold heldV
  rw [A.fh]
  rcases A.rv.get inr_inj k with ⟨e1, e2⟩ | ⟨b, v, e1, e2, e3⟩
  · rw [e1, e2]; exact ⟨rfl, rfl⟩
  · rw [e1, e2, e3]; exact ⟨rfl, rfl⟩
theorem RcAt.gH {c : Cs} {H : Hp} {p : Addr} {R : Rc} {s : Rm} (A : RcAt c H p R s) (k : Str) : ∃ o : Option V, DGet H R.dh (.str k) o ∧ o.getD (.int 0) = .int (heldH s k) := by
  refine ⟨_, DGet.k (k := Sum.inr k) A.ho, ?_⟩
  unfold heldH
  rw [A.fh]
  rcases A.rh.get inr_inj k with ⟨e1, e2⟩ | ⟨b, v, e1, e2, e3⟩
  · rw [e1, e2]; rfl
  · rw [e1, e2, e3]; rfl
/-- the pairs of a table whose keys begin with z -/
def preL (z : Str) (l : List (Str × (Str × Int))) : KVs := (l.filter fun x => isPre z x.1).map fun x => (x.1, x.2.1)
theorem preL_snoc {z : Str} {l : List (Str × (Str × Int))} {i : Nat} {x : Str × (Str × Int)} (h : l[i]? = some x) : preL z (l.take (i + 1)) = preL z (l.take i) ++ (if isPre z x.1 = true then [(x.1, x.2.1)] else []) := by
  have e : l.take (i + 1) = l.take i ++ [x] := by
    rw [List.take_add_one, h]; rfl
  rw [e]
  unfold preL
  rw [List.filter_append, List.map_append]
  congr 1
  by_cases c : isPre z x.1 = true
  · simp [c]
  · simp [c]
theorem preL_len (z : Str) (l : List (Str × (Str × Int))) : (preL z l).length ≤ l.length := by
  unfold preL
  rw [List.length_map]
  exact List.length_filter_le _ _
theorem preL_nodup {z : Str} {l : List (Str × (Str × Int))} (n : (l.map (·.1)).Nodup) : ((preL z l).map (·.1)).Nodup := by
  unfold preL
  rw [List.map_map]
  exact n.sublist (List.filter_sublist.map _)
theorem preL_get (z k : Str) : ∀ l : List (Str × (Str × Int)), getP (preL z l) k = if isPre z k = true then (getA l k).map (·.1) else none
  | [] => by
    split <;> rfl
  | x :: l => by
    have ih := preL_get z k l
    unfold preL at ih ⊢
    by_cases c : isPre z x.1 = true
    · rw [List.filter_cons_of_pos (by exact c), List.map_cons]
      by_cases e : x.1 = k
      · rw [getA_pos e]
        rw [e] at c
        rw [if_pos c]
        unfold getP
        rw [List.find?_cons_of_pos (by exact decide_eq_true e)]
        rfl
      · rw [getA_neg e, ← ih]
        unfold getP
        rw [List.find?_cons_of_neg (by rw [decide_eq_false e]; decide)]
    · rw [List.filter_cons_of_neg (by exact c), ih]
      by_cases e : x.1 = k
      · rw [e] at c
        rw [if_neg c, if_neg c]
      · rw [getA_neg e]
def kOfS (H : Hp) (x : V) : Str × Str := match x with
  | .ref t => (match H t with
    | some (.tup [.str a, .str b]) => (a, b)
    | _ => ("", ""))
  | _ => ("", "")
theorem kOfS_at {H : Hp} {t : Addr} {p : Str × Str} (h : H t = some (.tup [.str p.1, .str p.2])) : kOfS H (.ref t) = p := by
  unfold kOfS
  simp only [h]
theorem tt_prem {H : Hp} : ∀ {ts : List Addr} {qs : KVs}, PairsAt H ts qs → ∀ x ∈ ts.map V.ref, ∃ t, x = V.ref t ∧ H t = some (.tup [.str (kOfS H x).1, .str (kOfS H x).2])
  | _, _, .nil, x, h => by cases h
  | _, _, .cons (a := t) (b := p) r m, x, h => by
    rcases List.mem_cons.mp h with e | h
    · subst e
      exact ⟨t, rfl, by rw [kOfS_at r]; exact r⟩
    · exact tt_prem m x h
theorem tt_keys {H : Hp} : ∀ {ts : List Addr} {qs : KVs}, PairsAt H ts qs → (ts.map V.ref).map (kOfS H) = qs
  | _, _, .nil => rfl
  | _, _, .cons r m => by
    rw [List.map_cons, List.map_cons, kOfS_at r, tt_keys m]
theorem tt_back {H : Hp} : ∀ {ys : List V}, (∀ x ∈ ys, ∃ t, x = V.ref t ∧ H t = some (.tup [.str (kOfS H x).1, .str (kOfS H x).2])) → ∃ ts, ys = ts.map V.ref ∧ PairsAt H ts (ys.map (kOfS H))
  | [], _ => ⟨[], rfl, .nil⟩
  | y :: r, h => by
    obtain ⟨t, e, ht⟩ := h y List.mem_cons_self
    obtain ⟨ts, e2, m⟩ := tt_back (ys := r) fun x hx => h x (List.mem_cons_of_mem _ hx)
    exact ⟨t :: ts, by rw [List.map_cons, ← e, ← e2], .cons ht m⟩
theorem DRel.atL {α β : Type} {inj : α → Key} {R : β → V → Prop} : ∀ {d : List (α × β)} {kvs : List (Key × V)} {i : Nat} {x : α × β}, DRel inj R d kvs → d[i]? = some x → ∃ v, kvs[i]? = some (inj x.1, v) ∧ R x.2 v
  | _, _, i, x, .nil, h => by simp at h
  | _, _, 0, x, .cons (b := q) r m, h => by
    have e := Option.some.inj h
    subst e
    refine ⟨q.2, ?_, r.2⟩
    rw [← r.1]
    rfl
  | _, _, i + 1, x, .cons r m, h => DRel.atL (i := i) m h
section
variable {P : Program} {w : World} {K : PySem.W.Frag} {mg : Str → Option Value} {base : Heap} {c : Cs}
theorem ok_Room_value {f : Addr} {fd : FuncData} (F : Fun K "value" "Room.value" s_Room_value f fd) (T : RomT K c.C) : FnOk P w K mg base CX0 1 f fd p_Room_value (spValue0 c) := by
  refine F.ok sc_Room_value (fun vs H Q E h => ?_) (fun cdv A outer s H vs Q E hr h => ?_)
  · obtain ⟨p, k, R, s, rfl, _⟩ := h
    rfl
  · obtain ⟨p, ky, R, r, rfl, A1, k⟩ := h
    have hu := hu_of hr
    obtain ⟨dx, hp⟩ := A1.ob
    obtain ⟨o, g1, g2, _⟩ := A1.gV ky
    refine ⟨_, pss_one (ps_ret (pe_dget1 hu (pe_fld (pv 0) rfl) (pv 1) ⟨by rfl, by rfl, by rfl, by rfl⟩)), ?_⟩
    refine ⟨_, rfl, p, c.C, dx, _, _, rfl, hp, T.cl, T.n3, zf_get (i := 3) (by decide +kernel) rfl, R.dv, rfl, .inl ⟨_, .inl A1.va⟩, _, rfl, o, g1, ?_⟩
    rw [g2]
    exact k
theorem ok_Room_holder {f : Addr} {fd : FuncData} (F : Fun K "holder" "Room.holder" s_Room_holder f fd) (T : RomT K c.C) : FnOk P w K mg base CX0 1 f fd p_Room_holder (spHolder0 c) := by
  refine F.ok sc_Room_holder (fun vs H Q E h => ?_) (fun cdv A outer s H vs Q E hr h => ?_)
  · obtain ⟨p, k, R, s, rfl, _⟩ := h
    rfl
  · obtain ⟨p, ky, R, r, rfl, A1, k⟩ := h
    have hu := hu_of hr
    obtain ⟨dx, hp⟩ := A1.ob
    obtain ⟨o, g1, g2⟩ := A1.gH ky
    refine ⟨_, pss_one (ps_ret (pe_dget2 hu (pe_fld (pv 0) rfl) (pv 1) pe_int ⟨by rfl, by rfl, by rfl, by rfl⟩)), ?_⟩
    refine ⟨_, rfl, p, c.C, dx, _, _, rfl, hp, T.cl, T.n4, zf_get (i := 4) (by decide +kernel) rfl, R.dh, rfl, .inl ⟨_, .inl A1.ho⟩, _, rfl, o, g1, ?_⟩
    rw [g2]
    exact k
theorem ok_Room_last {f fL : Addr} {fd fdL : FuncData} {psL : List Str} (F : Fun K "last" "Room.last" s_Room_last f fd) (T : RomT K c.C) (TG : LogT K c.CG) (mL : Meth K c.CG "last" fL) (bL : Binds K fdL psL []) (GL : FnOk P w K mg base CX0 1 fL fdL psL (spLast0 c.CG)) :
    FnOk P w K mg base CX0 2 f fd p_Room_last (spRLast0 c) := by
  refine F.ok sc_Room_last (fun vs H Q E h => ?_) (fun cdv A outer s H vs Q E hr h => ?_)
  · obtain ⟨p, R, s, rfl, _⟩ := h
    rfl
  · obtain ⟨p, R, r, rfl, A1, k⟩ := h
    obtain ⟨dx, hp⟩ := A1.ob
    obtain ⟨_, dy, fs, hg, hm⟩ := A1.lg.inst
    refine ⟨_, pss_one (ps_ret (pe_meth0 (pe_fld (pv 0) rfl) TG.cl mL GL hr bL .nil pass0)), ?_⟩
    exact ⟨_, rfl, p, c.C, dx, _, _, rfl, hp, T.cl, T.n2, zf_get (i := 2) (by decide +kernel) rfl, R.pg, dy, fs, rfl, hg, hm _ (by simp), R.Fg, R.pg, r.rows, r.gone, rfl, A1.lg, k⟩
theorem ok_Room_first {f fL : Addr} {fd fdL : FuncData} {psL : List Str} (F : Fun K "first" "Room.first" s_Room_first f fd) (T : RomT K c.C) (TG : LogT K c.CG) (mL : Meth K c.CG "first" fL) (bL : Binds K fdL psL []) (GL : FnOk P w K mg base CX0 1 fL fdL psL (spFirst0 c.CG)) :
    FnOk P w K mg base CX0 2 f fd p_Room_first (spRFirst0 c) := by
  refine F.ok sc_Room_first (fun vs H Q E h => ?_) (fun cdv A outer s H vs Q E hr h => ?_)
  · obtain ⟨p, R, s, rfl, _⟩ := h
    rfl
  · obtain ⟨p, R, r, rfl, A1, k⟩ := h
    obtain ⟨dx, hp⟩ := A1.ob
    obtain ⟨_, dy, fs, hg, hm⟩ := A1.lg.inst
    refine ⟨_, pss_one (ps_ret (pe_meth0 (pe_fld (pv 0) rfl) TG.cl mL GL hr bL .nil pass0)), ?_⟩
    exact ⟨_, rfl, p, c.C, dx, _, _, rfl, hp, T.cl, T.n2, zf_get (i := 2) (by decide +kernel) rfl, R.pg, dy, fs, rfl, hg, hm _ (by simp), R.Fg, R.pg, r.rows, r.gone, rfl, A1.lg, k⟩
theorem api_value {k : Nat} {f : Addr} {fd : FuncData} {ps : List Str} (G : FnOk P w K mg base CX0 k f fd ps (spValue0 c)) : FnOk P w K mg base CX0 k f fd ps (spRValue (RsP c)) :=
  G.imp fun vs H Q E ⟨F, p, ky, s, e, ⟨R, eF, A, Z⟩, o, q⟩ => ⟨p, ky, R, s, e, A, q F H ⟨R, eF, A, Z⟩ (Grow.refl _ _) (Ch.refl _ _)⟩
theorem api_holder {k : Nat} {f : Addr} {fd : FuncData} {ps : List Str} (G : FnOk P w K mg base CX0 k f fd ps (spHolder0 c)) : FnOk P w K mg base CX0 k f fd ps (spRHolder (RsP c)) :=
  G.imp fun vs H Q E ⟨F, p, ky, s, e, ⟨R, eF, A, Z⟩, o, q⟩ => ⟨p, ky, R, s, e, A, q F H ⟨R, eF, A, Z⟩ (Grow.refl _ _) (Ch.refl _ _)⟩
theorem api_last {k : Nat} {f : Addr} {fd : FuncData} {ps : List Str} (G : FnOk P w K mg base CX0 k f fd ps (spRLast0 c)) : FnOk P w K mg base CX0 k f fd ps (spRLast (RsP c)) :=
  G.imp fun vs H Q E ⟨F, p, s, e, ⟨R, eF, A, Z⟩, q⟩ => ⟨p, R, s, e, A, q F H ⟨R, eF, A, Z⟩ (Grow.refl _ _) (Ch.refl _ _)⟩
theorem api_first {k : Nat} {f : Addr} {fd : FuncData} {ps : List Str} (G : FnOk P w K mg base CX0 k f fd ps (spRFirst0 c)) : FnOk P w K mg base CX0 k f fd ps (spRFirst (RsP c)) :=
  G.imp fun vs H Q E ⟨F, p, s, e, ⟨R, eF, A, Z⟩, q⟩ => ⟨p, R, s, e, A, q F H ⟨R, eF, A, Z⟩ (Grow.refl _ _) (Ch.refl _ _)⟩
end
end KL

namespace KL
open PySem L2 L2H LX KB KA1
/-! ### the program's room: a key goes -/
theorem setA_drop {α β : Type} [DecidableEq α] (d : List (α × β)) (k : α) : getA (dropA d k) = setF (getA d) k none := by
  funext j
  rw [getA_dropA]
  rfl
theorem setA_put {α β : Type} [DecidableEq α] (d : List (α × β)) (k : α) (v : β) : getA (putA d k v) = setF (getA d) k (some v) := by
  funext j
  rw [getA_putA]
  rfl
theorem dropA_less {α β : Type} [DecidableEq α] {d : List (α × β)} {k : α} (h : getA d k ≠ none) : (dropA d k).length + 1 ≤ d.length := by
  cases e : getA d k with
  | none => exact absurd e h
  | some v =>
    exact List.length_filter_lt_length_iff_exists (p := fun p : α × β => decide (p.1 ≠ k)) (l := d) |>.mpr ⟨(k, v), getA_mem e, by simp⟩
theorem all_snoc (s : Rm) (t : Int) (ks : List Str) (k : Str) : cutAll s t (ks ++ [k]) = cutM t (cutAll s t ks) k := by
  unfold cutAll
  rw [List.foldl_append]
  rfl
theorem all_held : ∀ (ks : List Str) (s : Rm) (t : Int) (k : Str), k ∉ ks → (cutAll s t ks).held k = s.held k
  | [], s, t, k, _ => rfl
  | j :: ks, s, t, k, h => by
    rw [List.mem_cons, not_or] at h
    show (cutAll (cutM t s j) t ks).held k = _
    rw [all_held ks _ t k h.2]
    show setF s.held j none k = _
    unfold setF
    rw [if_neg fun z => h.1 z.symm]
theorem all_ends : ∀ (ks : List Str) (s : Rm) (t : Int), (cutAll s t ks).ends = s.ends
  | [], s, t => rfl
  | j :: ks, s, t => all_ends ks (cutM t s j) t
theorem all_now : ∀ (ks : List Str) (s : Rm) (t n : Int), cutAll { s with now := n } t ks = { cutAll s t ks with now := n }
  | [], s, t, n => rfl
  | j :: ks, s, t, n => all_now ks (cutM t s j) t n
/-- what a way through the room leaves of the parts' sizes -/
structure Sub (R R' : Rc) (s s' : Rm) : Prop where
  t : R'.T.length ≤ R.T.length
  e : R'.E.length ≤ R.E.length
  h : R'.HV.length ≤ R.HV.length
  w : R'.WS = R.WS
  hr : R'.HV.length + s'.rows.length ≤ R.HV.length + s.rows.length
  r : s.rows.length ≤ s'.rows.length
  g : s'.given = s.given
  m : s'.met = s.met
theorem Sub.refl (R : Rc) (s : Rm) : Sub R R s s := ⟨Nat.le_refl _, Nat.le_refl _, Nat.le_refl _, rfl, Nat.le_refl _, Nat.le_refl _, rfl, rfl⟩
theorem Sub.trans {R R1 R2 : Rc} {s s1 s2 : Rm} (a : Sub R R1 s s1) (b : Sub R1 R2 s1 s2) : Sub R R2 s s2 :=
  ⟨Nat.le_trans b.t a.t, Nat.le_trans b.e a.e, Nat.le_trans b.h a.h, b.w.trans a.w, Nat.le_trans b.hr a.hr, Nat.le_trans a.r b.r, b.g.trans a.g, b.m.trans a.m⟩
theorem Sub.sz {R R' : Rc} {s s' : Rm} (a : Sub R R' s s') (z : RcSz R s) : RcSz R' s' :=
  ⟨by rw [a.g]; exact Nat.le_trans a.t z.t, by rw [a.g]; exact Nat.le_trans a.e z.e, Nat.le_trans a.h (Nat.le_trans z.h a.r), by rw [a.m, a.w]; exact z.w, fun x hx => by have q := z.wt x (a.w ▸ hx); have r := a.r; omega⟩
/-- from one room to the next -/
structure Way (c : Cs) (p : Addr) (H : Hp) (R : Rc) (s : Rm) (H' : Hp) (R' : Rc) (s' : Rm) : Prop where
  at_ : RcAt c H' p R' s'
  sub : Sub R R' s s'
  gr : Grow (R.F p) (R'.F p) H
  ch : Ch H H' (R.F p)
theorem Way.refl {c : Cs} {p : Addr} {H : Hp} {R : Rc} {s : Rm} (A : RcAt c H p R s) : Way c p H R s H R s := ⟨A, Sub.refl _ _, Grow.refl _ _, Ch.refl _ _⟩
theorem Way.trans {c : Cs} {p : Addr} {H H1 H2 : Hp} {R R1 R2 : Rc} {s s1 s2 : Rm} (a : Way c p H R s H1 R1 s1) (b : Way c p H1 R1 s1 H2 R2 s2) : Way c p H R s H2 R2 s2 :=
  ⟨b.at_, a.sub.trans b.sub, a.gr.trans b.gr a.ch.none, a.ch.seq a.gr b.ch⟩
theorem rcF_log {R : Rc} {p : Addr} {F' : List Addr} {H : Hp} (g : Grow R.Fg F' H) : Grow (R.F p) (Rc.F { R with Fg := F' } p) H := fun a ha => by
  rcases List.mem_append.mp ha with h | h
  · exact .inl (List.mem_append_left _ h)
  · rcases g a h with q | q
    · exact .inl (List.mem_append_right _ q)
    · exact .inr q
def spTakeOut (c : Cs) : Sp := fun vs H Q _ => ∃ (p : Addr) (k : Str) (t : Int) (R : Rc) (s : Rm), vs = [.ref p, .str k, .int t] ∧ RcAt c H p R s ∧ s.held k ≠ none ∧ s.rows.length ≤ 100000 ∧
  ∀ R' H', Way c p H R s H' R' (cutM t s k) → Q (.int ((s.rows.length : Int) + 1)) H'
def spRefL (c : Cs) (kk : Kinds) : Sp := fun vs H Q E => ∃ (p : Addr) (h : Int) (R : Rc) (s : Rm), vs = [.ref p, .int h] ∧ RcAt c H p R s ∧ (noLease s h → E (.ref kk.NL) none H) ∧ (¬ noLease s h → Q .non H)
def spRefH (c : Cs) (kk : Kinds) : Sp := fun vs H Q E => ∃ (p : Addr) (k : Str) (h : Int) (R : Rc) (s : Rm), vs = [.ref p, .str k, .int h] ∧ RcAt c H p R s ∧ (heldBy s k h → E (.ref kk.HE) none H) ∧ (¬ heldBy s k h → Q .non H)
theorem RcAt.inK {c : Cs} {H : Hp} {p : Addr} {R : Rc} {s : Rm} (A : RcAt c H p R s) {k : Str} (h : s.held k ≠ none) : TOk 60 k := by
  rw [A.fh] at h
  cases e : getA R.HV k with
  | none => exact absurd e h
  | some v => exact A.kH _ (getA_mem e)
section
variable {P : Program} {w : World} {K : PySem.W.Frag} {mg : Str → Option Value} {base : Heap} {c : Cs} {kk : Kinds}
theorem ok_Room_take_out {f fN : Addr} {fd fdN : FuncData} {psN : List Str} (F : Fun K "_take_out" "Room._take_out" s_Room_u_take_out f fd) (T : RomT K c.C) (TG : LogT K c.CG) (mN : Meth K c.CG "note" fN) (bN : Binds K fdN psN []) (GN : FnOk P w K mg base CX0 2 fN fdN psN (spLogNote (LgP c.CG))) :
    FnOk P w K mg base CX0 3 f fd p_Room_u_take_out (spTakeOut c) := by
  refine F.ok sc_Room_u_take_out (fun vs H Q E h => ?_) (fun cdv A outer s H vs Q E hr h => ?_)
  · obtain ⟨p, k, t, R, s, rfl, _⟩ := h
    rfl
  · obtain ⟨p, ky, t, R, r, rfl, A1, hk, hl, k⟩ := h
    obtain ⟨dx, hp⟩ := A1.ob
    obtain ⟨⟨a1, a2, a3, a4, a5, a6⟩, ⟨b1, b2, b3, b4, b5⟩, ⟨c1, c2, c3, c4⟩, ⟨d1, d2, d3⟩, ⟨e1, e2⟩, f1⟩ := A1.ne7
    refine ⟨_, pss_cons (ps_ddel (pe_fld (pv 0) rfl) (pv 1)) (pss_cons (ps_ddel (pe_fld (pv 0) rfl) (pv 1))
      (pss_one (ps_ret (pe_meth (E := E0) (pe_fld (pv 0) rfl) TG.cl mN GN hr bN .nil pass0 (pa_cons (pv 2) (pa_cons pe_str (pa_cons (pv 1) (pa_cons pe_str pa_nil)))))))), ?_⟩
    have hs : (getA R.HV ky).isSome = true := by
      rw [← A1.fh]
      cases e : r.held ky with
      | none => exact absurd e hk
      | some v => rfl
    refine ⟨_, rfl, p, c.C, dx, _, _, rfl, hp, T.cl, T.n3, zf_get (i := 3) (by decide +kernel) rfl, _, rfl, R.dv, _, Sum.inr ky, rfl, A1.va, rfl, by rw [A1.rv.isSome inr_inj]; exact hs, ?_⟩
    have hp1 : upd H R.dv (.dK (dropK R.vk (Sum.inr ky))) p = some (.ins c.C dx (rFl r R)) := by rw [upd_ne a4]; exact hp
    have hh1 : upd H R.dv (.dK (dropK R.vk (Sum.inr ky))) R.dh = some (.dK R.hk) := by rw [upd_ne e1.symm]; exact A1.ho
    refine ⟨_, rfl, p, c.C, dx, _, _, rfl, hp1, T.cl, T.n4, zf_get (i := 4) (by decide +kernel) rfl, _, rfl, R.dh, _, Sum.inr ky, rfl, hh1, rfl, by rw [A1.rh.isSome inr_inj]; exact hs, ?_⟩
    have ck : Ch H (upd (upd H R.dv (.dK (dropK R.vk (Sum.inr ky)))) R.dh (.dK (dropK R.hk (Sum.inr ky)))) [R.dv, R.dh] := ((Ch.refl _ _).mut (by simp) A1.va (fun _ z => by cases z)).mut (by simp) A1.ho (fun _ z => by cases z)
    have A2 : RcAt c (upd (upd H R.dv (.dK (dropK R.vk (Sum.inr ky)))) R.dh (.dK (dropK R.hk (Sum.inr ky)))) p { R with HV := dropA R.HV ky, vk := dropK R.vk (Sum.inr ky), hk := dropK R.hk (Sum.inr ky) } { r with held := getA (dropA R.HV ky) } :=
      A1.keys ck (by rw [upd_ne e1]; exact upd_same) upd_same (A1.rv.drop inr_inj ky) (A1.rh.drop inr_inj ky) (dropA_nodup A1.nH) (fun x hx => A1.kH x (List.mem_filter.mp hx).1)
    have eh : getA (dropA R.HV ky) = setF r.held ky none := by rw [setA_drop, A1.fh]
    rw [eh] at A2
    have hp2 := A2.ob
    generalize upd (upd H R.dv (.dK (dropK R.vk (Sum.inr ky)))) R.dh (.dK (dropK R.hk (Sum.inr ky))) = H2 at ck A2 hp2 ⊢
    obtain ⟨dx2, hp2⟩ := hp2
    obtain ⟨_, dy, fs, hg, hm⟩ := A2.lg.inst
    refine ⟨_, rfl, p, c.C, dx2, _, _, rfl, hp2, T.cl, T.n2, zf_get (i := 2) (by decide +kernel) rfl, R.pg, dy, fs, rfl, hg, hm _ (by simp), _, rfl, _, rfl, R.Fg, R.pg, t, "cut", ky, "", r.rows, r.gone, rfl, A2.lg, hl, ⟨by show PyData.strOk ("cut" : Str) = true; decide +kernel, A1.inK hk, TOk.nil.mono (by decide)⟩, fun F' H3 L3 g3 c3 => ?_⟩
    have A3 := A2.log L3 g3 c3
    have less := dropA_less (d := R.HV) (k := ky) (by rw [← A1.fh]; exact hk)
    have cko : Ch H H2 (R.F p) := ck.mono fun x hx => by
      simp only [List.mem_cons, List.not_mem_nil, or_false] at hx
      rcases hx with rfl | rfl <;> exact List.mem_append_left _ (by simp [Rc.o])
    refine k _ H3 ⟨A3, ⟨Nat.le_refl _, Nat.le_refl _, dropA_len _ _, rfl, ?_, ?_, rfl, rfl⟩, ?_, cko.trans (c3.mono fun x hx => List.mem_append_right _ hx)⟩
    · show (dropA R.HV ky).length + (r.rows ++ [_]).length ≤ _
      rw [List.length_append]
      simp only [List.length_cons, List.length_nil]
      omega
    · show r.rows.length ≤ (r.rows ++ [_]).length
      rw [List.length_append]
      exact Nat.le_add_right _ _
    · intro a ha
      rcases List.mem_append.mp ha with h | h
      · exact .inl (List.mem_append_left _ h)
      · rcases g3 a h with q | q
        · exact .inl (List.mem_append_right _ q)
        · exact .inr (ck.none a q)
theorem ok_Room_refuse_lease {f fU : Addr} {fd fdU : FuncData} {psU : List Str} (F : Fun K "_refuse_lease" "Room._refuse_lease" s_Room_u_refuse_lease f fd) (T : RomT K c.C) (TL : LeaT K mg c.CL) (mU : Meth K c.CL "refuse_unknown" fU) (bU : Binds K fdU psU []) (GU : FnOk P w K mg base (L2.CX P w) 1 fU fdU psU (spLeRefuse c.CL kk.NL)) :
    FnOk P w K mg base (L2.CX P w) 2 f fd p_Room_u_refuse_lease (spRefL c kk) := by
  refine F.okX sc_Room_u_refuse_lease (fun vs H Q E h => ?_) (fun cdv A outer s H vs Q E hr h => ?_)
  · obtain ⟨p, h, R, s, rfl, _⟩ := h
    rfl
  · obtain ⟨p, h, R, r, rfl, A1, k1, k2⟩ := h
    obtain ⟨dx, hp⟩ := A1.ob
    obtain ⟨dy, hl⟩ := A1.lt.ob
    refine ⟨_, pss_one (ps_if (pt_cmpR op_ne (pv 1) pe_int (nomark _)) (pss_one (ps_expr (pe_meth (E := E) (pe_fld (pv 0) rfl) TL.cl mU GU hr bU .nil (passes_call (takes_of rfl rfl rfl rfl) (fun _ _ _ _ h => h)) (pa_cons (pv 1) pa_nil)))) pss_nil), ?_⟩
    refine ⟨_, rfl, rfl, _, rfl, ?_⟩
    have ee : ∀ h, aget R.E h = r.ends h := fun h => by rw [aget_eq, A1.fe]
    by_cases c0 : h = 0
    · have nn : ¬ noLease r h := fun z => z.1 c0
      rw [decide_eq_true (congrArg V.int c0)]
      exact iteF (k2 nn)
    rw [decide_eq_false fun z => c0 (V.int.inj z)]
    refine iteT ⟨_, rfl, p, c.C, dx, _, _, rfl, hp, T.cl, T.n1, zf_get (i := 1) (by decide +kernel) rfl, R.pl, dy, _, rfl, hl, flds_no _ _ _ (by decide +kernel) (by decide +kernel) (by decide +kernel), _, rfl, R.pl, R.dt, R.de, _, h, R.T, R.E, rfl, A1.lt, fun z => ?_, fun z => ?_⟩
    · rw [ee] at z
      exact k1 ⟨c0, z⟩
    · rw [ee] at z
      refine k2 fun q => ?_
      rw [q.2] at z
      cases z
theorem ok_Room_refuse_held {f fH : Addr} {fd fdH : FuncData} {psH : List Str} (F : Fun K "_refuse_held" "Room._refuse_held" s_Room_u_refuse_held f fd) (T : RomT K c.C) (N : ErrT K mg "Held" kk.HE) (mH : Meth K c.C "holder" fH) (bH : Binds K fdH psH []) (GH : FnOk P w K mg base CX0 1 fH fdH psH (spHolder0 c)) :
    FnOk P w K mg base (L2.CX P w) 2 f fd p_Room_u_refuse_held (spRefH c kk) := by
  refine F.okX sc_Room_u_refuse_held (fun vs H Q E h => ?_) (fun cdv A outer s H vs Q E hr h => ?_)
  · obtain ⟨p, ky, h, R, s, rfl, _⟩ := h
    rfl
  · obtain ⟨p, ky, h, R, r, rfl, A1, k1, k2⟩ := h
    obtain ⟨dx, hp⟩ := A1.ob
    refine ⟨_, pss_cons (ps_set (i := 3) sc_Room_u_refuse_held.nd rfl (Or.inl rfl) (pe_meth (E := E0) (pv 0) T.cl mH GH hr bH .nil pass0 (pa_cons (pv 1) pa_nil)))
      (pss_one (ps_if (PW.pt (pw_and (pt_cmpR op_ne (pv 3) pe_int (nomark _)) (pw_and1 (pt_cmpR op_ne (pv 3) (pv 2) (nomark _))))) (pss_one (ps_raise rfl (takes_of rfl rfl rfl rfl) (pmk_own PySem.F.excBase_ValueError N.x N.g N.k (raises_own N.b N.t) rfl))) pss_nil)), ?_⟩
    refine ⟨_, rfl, p, dx, _, rfl, hp, zf_no (by decide +kernel), _, rfl, p, ky, R, r, rfl, A1, ?_⟩
    have hb : heldBy r ky h ↔ heldH r ky ≠ 0 ∧ heldH r ky ≠ h := by
      unfold heldBy heldH
      cases e : r.held ky with
      | none => simp
      | some v =>
        obtain ⟨v1, v2⟩ := v
        constructor
        · rintro ⟨a, j, e1, e2, e3⟩
          cases e1
          exact ⟨e2, e3⟩
        · rintro ⟨e2, e3⟩
          exact ⟨v1, v2, rfl, e2, e3⟩
    generalize heldH r ky = j at hb ⊢
    refine ⟨_, rfl, rfl, _, rfl, ?_⟩
    by_cases c1 : j = 0
    · rw [decide_eq_true (congrArg V.int c1)]
      exact iteF (iteF (k2 fun z => (hb.mp z).1 c1))
    rw [decide_eq_false fun z => c1 (V.int.inj z)]
    refine iteT ⟨_, rfl, _, rfl, rfl, _, rfl, ?_⟩
    by_cases c2 : j = h
    · rw [decide_eq_true (congrArg V.int c2)]
      exact iteF (k2 fun z => (hb.mp z).2 c2)
    rw [decide_eq_false fun z => c2 (V.int.inj z)]
    exact iteT (k1 (hb.mpr ⟨c1, c2⟩))
end
end KL

namespace KL
open PySem L2 L2H LX KB KA1
/-! ### the program's room: a put -/
section
variable {P : Program} {w : World} {K : PySem.W.Frag} {mg : Str → Option Value} {base : Heap} {c : Cs} {kk : Kinds}
theorem ok_Room_put {f f1 f2 fN : Addr} {fd fd1 fd2 fdN : FuncData} {ps1 ps2 psN : List Str} (F : FunD K "put" "Room.put" (defArgs s_Room_put) (defBody s_Room_put) (defScope s_Room_put) [.int 0] [] f fd) (T : RomT K c.C) (TG : LogT K c.CG)
    (m1 : Meth K c.C "_refuse_lease" f1) (b1 : Binds K fd1 ps1 []) (G1 : FnOk P w K mg base (L2.CX P w) 2 f1 fd1 ps1 (spRefL c kk)) (m2 : Meth K c.C "_refuse_held" f2) (b2 : Binds K fd2 ps2 []) (G2 : FnOk P w K mg base (L2.CX P w) 2 f2 fd2 ps2 (spRefH c kk))
    (mN : Meth K c.CG "note" fN) (bN : Binds K fdN psN []) (GN : FnOk P w K mg base CX0 2 fN fdN psN (spLogNote (LgP c.CG))) : FnOk P w K mg base (L2.CX P w) 3 f fd p_Room_put (spRDo kk (RsP c) argP) := by
  refine F.ok sc_Room_put (fun vs H Q E h => ?_) (fun cdv A outer s H vs Q E hr h => ?_)
  · obtain ⟨Fo, p, s, d, xs, rfl, ⟨ky, v, h, rfl, rfl, _⟩, _⟩ := h
    rfl
  · obtain ⟨Fo, p, r, d, xs, rfl, ⟨ky, v, h, rfl, rfl, ok, ov⟩, ⟨R, rfl, A1, Z⟩, fit, k⟩ := h
    obtain ⟨dx, hp⟩ := A1.ob
    have hu := hu_of hr
    refine ⟨_, pss_cons (ps_expr (pe_meth (E := E) (pv 0) T.cl m1 G1 hr b1 .nil (passes_call (takes_of rfl rfl rfl rfl) (fun _ _ _ _ h => h)) (pa_cons (pv 3) pa_nil)))
      (pss_cons (ps_expr (pe_meth (E := E) (pv 0) T.cl m2 G2 hr b2 .nil (passes_call (takes_of rfl rfl rfl rfl) (fun _ _ _ _ h => h)) (pa_cons (pv 1) (pa_cons (pv 3) pa_nil))))
      (PSs.nox (pss_cons (ps_dput hu (pe_fld (pv 0) rfl) (pv 1) (pv 2) rfl)
      (pss_cons (ps_dput hu (pe_fld (pv 0) rfl) (pv 1) (pv 3) rfl)
      (pss_one (ps_ret (pe_meth (E := E0) (pe_fld (pv 0) rfl) TG.cl mN GN hr bN .nil pass0 (pa_cons (pe_fld (pv 0) rfl) (pa_cons pe_str (pa_cons (pv 1) (pa_cons (pv 2) pa_nil))))))))))), ?_⟩
    have fr := fit.rows
    have zh := Z.h
    refine ⟨_, rfl, p, dx, _, rfl, hp, zf_no (by decide +kernel), _, rfl, p, h, R, r, rfl, A1, fun n1 => ?_, fun n1 => ?_⟩
    · exact k (.bad .lease) r _ H (.inl ⟨n1, rfl, rfl⟩) ⟨R, rfl, A1, Z⟩ (Grow.refl _ _) (Ch.refl _ _)
    refine ⟨_, rfl, p, dx, _, rfl, hp, zf_no (by decide +kernel), _, rfl, _, rfl, p, ky, h, R, r, rfl, A1, fun n2 => ?_, fun n2 => ?_⟩
    · exact k (.bad .held) r _ H (.inr (.inl ⟨n1, n2, rfl, rfl⟩)) ⟨R, rfl, A1, Z⟩ (Grow.refl _ _) (Ch.refl _ _)
    obtain ⟨⟨a1, a2, a3, a4, a5, a6⟩, ⟨b1, b2, b3, b4, b5⟩, ⟨c1, c2, c3, c4⟩, ⟨d1, d2, d3⟩, ⟨e1, e2⟩, f1⟩ := A1.ne7
    have lv : R.vk.length < sizeLine := by
      have q := A1.rv.len
      exact smallS (by omega)
    have lh : R.hk.length < sizeLine := by
      have q := A1.rh.len
      exact smallS (by omega)
    refine ⟨_, rfl, _, rfl, p, c.C, dx, _, _, rfl, hp, T.cl, T.n3, zf_get (i := 3) (by decide +kernel) rfl, _, rfl, R.dv, _, rfl, DPut.k (k := Sum.inr ky) A1.va lv, ?_⟩
    have hp1 : upd H R.dv (.dK (putK R.vk (Sum.inr ky) (.str v))) p = some (.ins c.C dx (rFl r R)) := by rw [upd_ne a4]; exact hp
    have hh1 : upd H R.dv (.dK (putK R.vk (Sum.inr ky) (.str v))) R.dh = some (.dK R.hk) := by rw [upd_ne e1.symm]; exact A1.ho
    refine ⟨_, rfl, _, rfl, p, c.C, dx, _, _, rfl, hp1, T.cl, T.n4, zf_get (i := 4) (by decide +kernel) rfl, _, rfl, R.dh, _, rfl, DPut.k (k := Sum.inr ky) hh1 lh, ?_⟩
    have ck : Ch H (upd (upd H R.dv (.dK (putK R.vk (Sum.inr ky) (.str v)))) R.dh (.dK (putK R.hk (Sum.inr ky) (.int h)))) [R.dv, R.dh] := ((Ch.refl _ _).mut (by simp) A1.va (fun _ z => by cases z)).mut (by simp) A1.ho (fun _ z => by cases z)
    have kH : ∀ x ∈ putA R.HV ky (v, h), TOk 60 x.1 := fun x hx => by
      unfold putA at hx
      split at hx
      · obtain ⟨y, hy, rfl⟩ := List.mem_map.mp hx
        by_cases e : y.1 = ky
        · rw [if_pos e]; exact A1.kH y hy
        · rw [if_neg e]; exact A1.kH y hy
      · rcases List.mem_append.mp hx with hx | hx
        · exact A1.kH x hx
        · rw [List.mem_singleton.mp hx]; exact ok
    have A2 : RcAt c (upd (upd H R.dv (.dK (putK R.vk (Sum.inr ky) (.str v)))) R.dh (.dK (putK R.hk (Sum.inr ky) (.int h)))) p { R with HV := putA R.HV ky (v, h), vk := putK R.vk (Sum.inr ky) (.str v), hk := putK R.hk (Sum.inr ky) (.int h) } { r with held := getA (putA R.HV ky (v, h)) } :=
      A1.keys ck (by rw [upd_ne e1]; exact upd_same) upd_same (A1.rv.put inr_inj (b := (v, h)) rfl) (A1.rh.put inr_inj (b := (v, h)) rfl) (putA_nodup A1.nH) kH
    have eh : getA (putA R.HV ky (v, h)) = setF r.held ky (some (v, h)) := by rw [setA_put, A1.fh]
    rw [eh] at A2
    have hp2 := A2.ob
    dsimp only
    generalize upd (upd H R.dv (.dK (putK R.vk (Sum.inr ky) (.str v)))) R.dh (.dK (putK R.hk (Sum.inr ky) (.int h))) = H2 at ck A2 hp2 ⊢
    obtain ⟨dx2, hp2⟩ := hp2
    obtain ⟨_, dy, fs, hg, hm⟩ := A2.lg.inst
    refine ⟨_, rfl, p, c.C, dx2, _, _, rfl, hp2, T.cl, T.n2, zf_get (i := 2) (by decide +kernel) rfl, R.pg, dy, fs, rfl, hg, hm _ (by simp), _, rfl, p, c.C, dx2, _, _, rfl, hp2, T.cl, T.n0, zf_get (i := 0) (by decide +kernel) rfl, _, rfl, _, rfl,
      R.Fg, R.pg, r.now, "put", ky, v, r.rows, r.gone, rfl, A2.lg, by omega, ⟨by show PyData.strOk ("put" : Str) = true; decide +kernel, ok, ov⟩, fun F' H3 L3 g3 c3 => ?_⟩
    have A3 := A2.log L3 g3 c3
    have cko : Ch H H2 (R.F p) := ck.mono fun x hx => by
      simp only [List.mem_cons, List.not_mem_nil, or_false] at hx
      rcases hx with rfl | rfl <;> exact List.mem_append_left _ (by simp [Rc.o])
    refine k (.num ((r.rows.length : Int) + 1)) (putM r ky v h) _ H3 (.inr (.inr ⟨n1, n2, rfl, rfl⟩)) ⟨_, rfl, A3, ⟨Z.t, Z.e, ?_, Z.w, fun x hx => ?_⟩⟩ ?_ (cko.trans (c3.mono fun x hx => List.mem_append_right _ hx))
    · show (putA R.HV ky (v, h)).length ≤ (r.rows ++ [_]).length
      rw [List.length_append]
      exact Nat.le_trans (putA_len _ _ _) (Nat.succ_le_succ Z.h)
    · have q := Z.wt x hx
      show _ ≤ (((r.rows ++ [_]).length : Nat) : Int) ∧ _ ≤ (((r.rows ++ [_]).length : Nat) : Int)
      rw [List.length_append]
      simp only [List.length_cons, List.length_nil]
      omega
    · intro a ha
      rcases List.mem_append.mp ha with h | h
      · exact .inl (List.mem_append_left _ h)
      · rcases g3 a h with q | q
        · exact .inl (List.mem_append_right _ q)
        · exact .inr (ck.none a q)
end
end KL

namespace KL
open PySem L2 L2H LX KB KA1
/-! ### the program's room: a cut -/
section
variable {P : Program} {w : World} {K : PySem.W.Frag} {mg : Str → Option Value} {base : Heap} {c : Cs} {kk : Kinds}
theorem ok_Room_cut {f f1 f2 fT : Addr} {fd fd1 fd2 fdT : FuncData} {ps1 ps2 psT : List Str} (F : FunD K "cut" "Room.cut" (defArgs s_Room_cut) (defBody s_Room_cut) (defScope s_Room_cut) [.int 0] [] f fd) (T : RomT K c.C) (N : ErrT K mg "NoKey" kk.NK)
    (m1 : Meth K c.C "_refuse_lease" f1) (b1 : Binds K fd1 ps1 []) (G1 : FnOk P w K mg base (L2.CX P w) 2 f1 fd1 ps1 (spRefL c kk)) (m2 : Meth K c.C "_refuse_held" f2) (b2 : Binds K fd2 ps2 []) (G2 : FnOk P w K mg base (L2.CX P w) 2 f2 fd2 ps2 (spRefH c kk))
    (mT : Meth K c.C "_take_out" fT) (bT : Binds K fdT psT []) (GT : FnOk P w K mg base CX0 3 fT fdT psT (spTakeOut c)) : FnOk P w K mg base (L2.CX P w) 4 f fd p_Room_cut (spRDo kk (RsP c) argC) := by
  refine F.ok sc_Room_cut (fun vs H Q E h => ?_) (fun cdv A outer s H vs Q E hr h => ?_)
  · obtain ⟨Fo, p, s, d, xs, rfl, ⟨ky, h, rfl, rfl, _⟩, _⟩ := h
    rfl
  · obtain ⟨Fo, p, r, d, xs, rfl, ⟨ky, h, rfl, rfl, ok⟩, ⟨R, rfl, A1, Z⟩, fit, k⟩ := h
    obtain ⟨dx, hp⟩ := A1.ob
    have hu := hu_of hr
    have hr2 : Room 2 _ := hr.mono (by decide)
    refine ⟨_, pss_cons (ps_expr (pe_meth (E := E) (pv 0) T.cl m1 G1 hr2 b1 .nil (passes_call (takes_of rfl rfl rfl rfl) (fun _ _ _ _ h => h)) (pa_cons (pv 2) pa_nil)))
      (pss_cons (ps_if (pt_cmp (pc_dnotin hu (pv 1) (pe_fld (pv 0) rfl))) (pss_one (ps_raise rfl (takes_of rfl rfl rfl rfl) (pmk_own PySem.F.excBase_ValueError N.x N.g N.k (raises_own N.b N.t) rfl))) pss_nil)
      (pss_cons (ps_expr (pe_meth (E := E) (pv 0) T.cl m2 G2 hr2 b2 .nil (passes_call (takes_of rfl rfl rfl rfl) (fun _ _ _ _ h => h)) (pa_cons (pv 1) (pa_cons (pv 2) pa_nil))))
      (PSs.nox (pss_one (ps_ret (pe_meth (E := E0) (pv 0) T.cl mT GT hr bT .nil pass0 (pa_cons (pv 1) (pa_cons (pe_fld (pv 0) rfl) pa_nil)))))))), ?_⟩
    have fr := fit.rows
    refine ⟨_, rfl, p, dx, _, rfl, hp, zf_no (by decide +kernel), _, rfl, p, h, R, r, rfl, A1, fun n1 => ?_, fun n1 => ?_⟩
    · exact k (.bad .lease) r _ H (.inl ⟨n1, rfl, rfl⟩) ⟨R, rfl, A1, Z⟩ (Grow.refl _ _) (Ch.refl _ _)
    refine ⟨_, rfl, _, rfl, p, c.C, dx, _, _, rfl, hp, T.cl, T.n3, zf_get (i := 3) (by decide +kernel) rfl, R.dv, _, rfl, DGet.k (k := Sum.inr ky) A1.va, _, rfl, ?_⟩
    have ev := A1.rv.isSome inr_inj ky
    rw [← A1.fh] at ev
    cases e : valV R.vk (Sum.inr ky) with
    | none =>
      rw [e] at ev
      have en : r.held ky = none := by
        cases g : r.held ky with
        | none => rfl
        | some x => rw [g] at ev; cases ev
      refine iteT ?_
      exact k (.bad .key) r _ H (.inr (.inl ⟨n1, en, rfl, rfl⟩)) ⟨R, rfl, A1, Z⟩ (Grow.refl _ _) (Ch.refl _ _)
    | some x =>
      rw [e] at ev
      have en : r.held ky ≠ none := fun g => by rw [g] at ev; cases ev
      refine iteF ?_
      refine ⟨_, rfl, p, dx, _, rfl, hp, zf_no (by decide +kernel), _, rfl, _, rfl, p, ky, h, R, r, rfl, A1, fun n2 => ?_, fun n2 => ?_⟩
      · exact k (.bad .held) r _ H (.inr (.inr (.inl ⟨n1, n2, rfl, rfl⟩))) ⟨R, rfl, A1, Z⟩ (Grow.refl _ _) (Ch.refl _ _)
      refine ⟨_, rfl, p, dx, _, rfl, hp, zf_no (by decide +kernel), _, rfl, _, rfl, p, c.C, dx, _, _, rfl, hp, T.cl, T.n0, zf_get (i := 0) (by decide +kernel) rfl, p, ky, r.now, R, r, rfl, A1, en, by omega, fun R' H' W => ?_⟩
      exact k (.num ((r.rows.length : Int) + 1)) (cutM r.now r ky) _ H' (.inr (.inr (.inr ⟨n1, en, n2, rfl, rfl⟩))) ⟨R', rfl, W.at_, W.sub.sz Z⟩ W.gr W.ch
end
end KL

namespace KL
open PySem L2 L2H LX KB KA1
section
variable {P : Program} {w : World} {K : PySem.W.Frag} {mg : Str → Option Value} {base : Heap}
theorem ok_Leases_grant {f C BT : Addr} {fd : FuncData} {tm : Tok} (F : Fun K "grant" "Leases.grant" s_Leases_grant f fd) (T : LeaT K mg C) (N : ErrT K mg "BadTicks" BT) (mM : mg "MOST_TICKS" = some (.int 1000000 tm)) : FnOk P w K mg base (L2.CX P w) 1 f fd ["self", "now", "ticks"] (spLeGrant C BT) := by
  refine F.okX sc_Leases_grant (fun vs H Q E h => ?_) (fun cdv A outer s H vs Q E hr h => ?_)
  · obtain ⟨p, dt, de, n, now, t, T, En, rfl, _⟩ := h
    rfl
  · obtain ⟨p, dt, de, n, now, t, T1, En, rfl, L, l1, l2, h1, h2⟩ := h
    have hu := hu_of hr
    obtain ⟨⟨dx, hp⟩, ht, he, nte⟩ := id L
    have npt : p ≠ dt := ne_of hp ht (by intro z; cases z)
    have npe : p ≠ de := ne_of hp he (by intro z; cases z)
    refine ⟨_, pss_cons (ps_if (PW.pt (pw_or (pt_cmpR op_lt (pv 2) pe_int (nomark _)) (pw_or1 (pt_cmpR op_gt (pv 2) (pe_glob (v := V.int 1000000) rfl mM ⟨_, rfl⟩) (nomark _)))))
        (pss_one (ps_raise rfl (takes_of rfl rfl rfl rfl) (SkE.pmk_own1 PySem.F.excBase_ValueError N.x N.g N.k (raises_own N.b N.t) rfl
          (pe_joined (.cons pe_str (.cons (pe_fmt (pe_glob (v := V.int 1000000) rfl mM ⟨_, rfl⟩)) (.cons pe_str .nil))))))) pss_nil)
      (pss_cons (ps_fldaug (pv 0) pe_int in_add)
      (pss_cons (ps_set (i := 3) sc_Leases_grant.nd rfl (Or.inl rfl) (pe_fld (pv 0) rfl))
      (pss_cons (ps_dput hu (pe_fld (pv 0) rfl) (pv 3) (pv 2) rfl)
      (pss_cons (ps_dput hu (pe_fld (pv 0) rfl) (pv 3) (pe_op op_add (pv 1) (pv 2)) rfl)
      (pss_one (ps_ret (pv 3))))))), ?_⟩
    have bad : (t < 1 ∨ 1000000 < t) → tJs [tC (V.str "a lease is given for 1 to "), tFmt (tC (V.int 1000000)), tC (V.str " ticks")] Str.empty (L2.start ["self", "now", "ticks", "lease"] [V.ref p, V.int now, V.int t]) H fun out H1 => E (.ref BT) none H1 := fun hb => by
      refine ⟨_, rfl, (by decide +kernel), .inr ⟨1000000, rfl, (by decide +kernel), _, rfl, (by decide +kernel), _, rfl, (by decide +kernel), h1 hb⟩⟩
    refine ⟨_, rfl, _, _, rfl, rfl, _, rfl, ?_⟩
    by_cases c1 : t < 1
    · rw [decide_eq_true c1]
      refine iteT (iteT ?_)
      exact bad (.inl c1)
    rw [decide_eq_false c1]
    refine iteF ?_
    refine ⟨_, rfl, _, _, rfl, rfl, _, rfl, ?_⟩
    by_cases c2 : t > 1000000
    · rw [decide_eq_true c2]
      refine iteT ?_
      exact bad (.inr c2)
    rw [decide_eq_false c2]
    refine iteF ?_
    refine ⟨_, rfl, p, C, dx, _, _, rfl, hp, T.cl, T.nG, flds_n _ _ _, _, _, rfl, rfl, dx, _, hp, (by rw [flds_eq]; show 3 < 1000; decide), ?_⟩
    rw [flds_put]
    have hp1 : upd H p (.ins C dx (flds (n + 1) dt de)) p = some (.ins C dx (flds (n + 1) dt de)) := upd_same
    have ht1 : upd H p (.ins C dx (flds (n + 1) dt de)) dt = some (.dK (kv T1)) := by rw [upd_ne npt.symm]; exact ht
    have he1 : upd H p (.ins C dx (flds (n + 1) dt de)) de = some (.dK (kv En)) := by rw [upd_ne npe.symm]; exact he
    refine ⟨_, rfl, p, C, dx, _, _, rfl, hp1, T.cl, T.nG, flds_n _ _ _, ?_⟩
    refine ⟨_, rfl, _, rfl, p, C, dx, _, _, rfl, hp1, T.cl, T.nT, flds_t _ _ _, _, rfl, dt, _, rfl, DPut.k (k := Sum.inl (n + 1)) ht1 (small900 l1), ?_⟩
    rw [put_kv]
    have hp2 : ∀ o, upd (upd H p (.ins C dx (flds (n + 1) dt de))) dt o p = some (.ins C dx (flds (n + 1) dt de)) := fun o => by rw [upd_ne npt]; exact hp1
    have he2 : ∀ o, upd (upd H p (.ins C dx (flds (n + 1) dt de))) dt o de = some (.dK (kv En)) := fun o => by rw [upd_ne nte.symm]; exact he1
    refine ⟨_, rfl, _, rfl, _, _, rfl, rfl, _, rfl, p, C, dx, _, _, rfl, hp2 _, T.cl, T.nE, flds_e _ _ _, _, rfl, de, _, rfl, DPut.k (k := Sum.inl (n + 1)) (he2 _) (small900 l2), ?_⟩
    rw [put_kv]
    refine ⟨_, rfl, ?_⟩
    refine h2 (by omega) (by omega) _ ⟨⟨dx, ?_⟩, ?_, upd_same, nte⟩ ((((Ch.refl _ _).mut (by simp) hp (fun _ z => by cases z)).mut (by simp) ht (fun _ z => by cases z)).mut (by simp) he (fun _ z => by cases z))
    · rw [upd_ne npe]; exact hp2 _
    · rw [upd_ne nte]; exact upd_same
end
end KL

namespace KL
open PySem L2 L2H LX KB KA1
section
variable {P : Program} {w : World} {K : PySem.W.Frag} {mg : Str → Option Value} {base : Heap}
theorem nR : ¬ (("refuse_unknown" : Str) = "_given") ∧ ¬ (("refuse_unknown" : Str) = "_ticks") ∧ ¬ (("refuse_unknown" : Str) = "_ends") := by decide +kernel
theorem ok_Leases_renew {f fR C NL : Addr} {fd fdR : FuncData} (F : Fun K "renew" "Leases.renew" s_Leases_renew f fd) (T : LeaT K mg C) (N : ErrT K mg "NoLease" NL)
    (FR : Fun K "refuse_unknown" "Leases.refuse_unknown" s_Leases_refuse_unknown fR fdR) (bR : Binds K fdR ["self", "lease"] []) (mR : Meth K C "refuse_unknown" fR) :
    FnOk P w K mg base (L2.CX P w) 2 f fd ["self", "now", "lease"] (spLeRenew C NL) := by
  have GR : FnOk P w K mg base (L2.CX P w) 1 fR fdR ["self", "lease"] (spLeRefuse C NL) := ok_Leases_refuse FR T N
  refine F.okX sc_Leases_renew (fun vs H Q E h => ?_) (fun cdv A outer s H vs Q E hr h => ?_)
  · obtain ⟨p, dt, de, n, now, k, T, En, rfl, _⟩ := h
    rfl
  · obtain ⟨p, dt, de, n, now, k, T1, En, rfl, L, l1, h1, h2⟩ := h
    have hu := hu_of hr
    obtain ⟨⟨dx, hp⟩, ht, he, nte⟩ := id L
    have npt : p ≠ dt := ne_of hp ht (by intro z; cases z)
    have npe : p ≠ de := ne_of hp he (by intro z; cases z)
    refine ⟨_, pss_cons (ps_expr (pe_meth (E := E) (pv 0) T.cl mR GR hr bR .nil (passes_call (takes_of rfl rfl rfl rfl) (fun _ _ _ _ h => h)) (pa_cons (pv 2) pa_nil)))
      (pss_one (ps_dput hu (pe_fld (pv 0) rfl) (pv 2) (pe_op op_add (pv 1) (pe_dget hu (pe_fld (pv 0) rfl) (pv 2) (fun _ _ => rfl))) rfl)), ?_⟩
    refine ⟨_, rfl, p, dx, _, rfl, hp, flds_no _ _ _ nR.1 nR.2.1 nR.2.2, _, rfl, p, dt, de, n, k, T1, En, rfl, L, h1, fun hs => ?_⟩
    obtain ⟨t, et, q⟩ := h2 hs
    refine ⟨_, rfl, _, rfl, p, C, dx, _, _, rfl, hp, T.cl, T.nT, flds_t _ _ _, _, rfl, dt, V.int t, rfl, ?_, _, _, rfl, rfl, ?_⟩
    · have g := DGet.k (k := Sum.inl k) ht
      rw [valV_kv, et] at g
      exact g
    refine ⟨_, rfl, p, C, dx, _, _, rfl, hp, T.cl, T.nE, flds_e _ _ _, _, rfl, de, _, rfl, DPut.k (k := Sum.inl k) he (small900 l1), ?_⟩
    rw [put_kv]
    refine q _ ⟨⟨dx, ?_⟩, ?_, upd_same, nte⟩ ((Ch.refl _ _).mut (by simp) he (fun _ z => by cases z))
    · rw [upd_ne npe]; exact hp
    · rw [upd_ne nte]; exact ht
theorem ok_Leases_drop {f fR C NL : Addr} {fd fdR : FuncData} (F : Fun K "drop" "Leases.drop" s_Leases_drop f fd) (T : LeaT K mg C) (N : ErrT K mg "NoLease" NL)
    (FR : Fun K "refuse_unknown" "Leases.refuse_unknown" s_Leases_refuse_unknown fR fdR) (bR : Binds K fdR ["self", "lease"] []) (mR : Meth K C "refuse_unknown" fR) :
    FnOk P w K mg base (L2.CX P w) 2 f fd ["self", "lease"] (spLeDrop C NL) := by
  have GR : FnOk P w K mg base (L2.CX P w) 1 fR fdR ["self", "lease"] (spLeRefuse C NL) := ok_Leases_refuse FR T N
  refine F.okX sc_Leases_drop (fun vs H Q E h => ?_) (fun cdv A outer s H vs Q E hr h => ?_)
  · obtain ⟨p, dt, de, n, k, T, En, rfl, _⟩ := h
    rfl
  · obtain ⟨p, dt, de, n, k, T1, En, rfl, L, h1, h2⟩ := h
    have hu := hu_of hr
    obtain ⟨⟨dx, hp⟩, ht, he, nte⟩ := id L
    have npt : p ≠ dt := ne_of hp ht (by intro z; cases z)
    have npe : p ≠ de := ne_of hp he (by intro z; cases z)
    refine ⟨_, pss_cons (ps_expr (pe_meth (E := E) (pv 0) T.cl mR GR hr bR .nil (passes_call (takes_of rfl rfl rfl rfl) (fun _ _ _ _ h => h)) (pa_cons (pv 1) pa_nil)))
      (pss_cons (ps_ddel (pe_fld (pv 0) rfl) (pv 1)) (pss_one (ps_ddel (pe_fld (pv 0) rfl) (pv 1)))), ?_⟩
    refine ⟨_, rfl, p, dx, _, rfl, hp, flds_no _ _ _ nR.1 nR.2.1 nR.2.2, _, rfl, p, dt, de, n, k, T1, En, rfl, L, h1, fun hs => ?_⟩
    obtain ⟨et, q⟩ := h2 hs
    refine ⟨_, rfl, p, C, dx, _, _, rfl, hp, T.cl, T.nT, flds_t _ _ _, _, rfl, dt, _, Sum.inl k, rfl, ht, rfl, (by rw [valV_kv, Option.isSome_map]; exact et), ?_⟩
    rw [drop_kv]
    have hp2 : ∀ o, upd H dt o p = some (.ins C dx (flds n dt de)) := fun o => by rw [upd_ne npt]; exact hp
    refine ⟨_, rfl, p, C, dx, _, _, rfl, hp2 _, T.cl, T.nE, flds_e _ _ _, _, rfl, de, _, Sum.inl k, rfl, (by rw [upd_ne nte.symm]; exact he), rfl, (by rw [valV_kv, Option.isSome_map]; exact hs), ?_⟩
    rw [drop_kv]
    refine q _ ⟨⟨dx, ?_⟩, ?_, upd_same, nte⟩ (((Ch.refl _ _).mut (by simp) ht (fun _ z => by cases z)).mut (by simp) he (fun _ z => by cases z))
    · rw [upd_ne npe]; exact hp2 _
    · rw [upd_ne nte]; exact upd_same
end
end KL

namespace KL
open PySem L2 L2H LX KB KA1
/-! ### lists of pairs that are sorted -/
def leOf (H : Hp) (x : V) : Int × Int := match x with
  | .ref t => (match H t with
    | some (.tup [.int a, .int b]) => (a, b)
    | _ => (0, 0))
  | _ => (0, 0)
theorem leOf_at {H : Hp} {t : Addr} {p : Int × Int} (h : H t = some (.tup [.int p.1, .int p.2])) : leOf H (.ref t) = p := by
  unfold leOf
  simp only [h]
theorem lePrem {H : Hp} : ∀ {ts : List Addr} {qs : Al}, Tups H ts qs → ∀ x ∈ ts.map V.ref, ∃ t, x = V.ref t ∧ H t = some (.tup [.int (leOf H x).1, .int (leOf H x).2])
  | _, _, .nil, x, h => by cases h
  | _, _, .cons (a := t) (b := p) r m, x, h => by
    rcases List.mem_cons.mp h with e | h
    · subst e
      exact ⟨t, rfl, by rw [leOf_at r]; exact r⟩
    · exact lePrem m x h
theorem leKeys {H : Hp} : ∀ {ts : List Addr} {qs : Al}, Tups H ts qs → (ts.map V.ref).map (leOf H) = qs
  | _, _, .nil => rfl
  | _, _, .cons r m => by
    rw [List.map_cons, List.map_cons, leOf_at r, leKeys m]
theorem leBack {H : Hp} : ∀ {ys : List V}, (∀ x ∈ ys, ∃ t, x = V.ref t ∧ H t = some (.tup [.int (leOf H x).1, .int (leOf H x).2])) → ∃ ts, ys = ts.map V.ref ∧ Tups H ts (ys.map (leOf H))
  | [], _ => ⟨[], rfl, .nil⟩
  | y :: r, h => by
    obtain ⟨t, e, ht⟩ := h y List.mem_cons_self
    obtain ⟨ts, e2, m⟩ := leBack (ys := r) fun x hx => h x (List.mem_cons_of_mem _ hx)
    exact ⟨t :: ts, by rw [List.map_cons, ← e, ← e2], .cons ht m⟩
theorem leOut {H : Hp} {ts : List Addr} {qs : Al} {ys : List V} (m : Tups H ts qs) (hs : SrtO.Srtd (ltP (leOf H)) ys) (hp : ys.Perm (ts.map V.ref)) :
    ∃ ts' ps, ys = ts'.map V.ref ∧ Tups H ts' ps ∧ Asc ps ∧ ps.Perm qs := by
  obtain ⟨ts', e, m'⟩ := leBack (H := H) (ys := ys) fun x hx => lePrem m x (hp.mem_iff.mp hx)
  refine ⟨ts', _, e, m', ?_, ?_⟩
  · exact List.pairwise_map.mpr hs
  · have q := hp.map (leOf H)
    rw [leKeys m] at q
    exact q
theorem Tups.keep {H H' : Hp} {ts : List Addr} {ps : Al} (m : Tups H ts ps) (k : ∀ b xs, H b = some (.tup xs) → H' b = some (.tup xs)) : Tups H' ts ps := Paired.mono (fun _ _ h => k _ _ h) m
theorem dueL_snoc {E : Al} {u : Int} {i : Nat} {p : Int × Int} (h : E[i]? = some p) : dueL (E.take (i + 1)) u = dueL (E.take i) u ++ (if p.2 ≤ u then [(p.2, p.1)] else []) := by
  have e : E.take (i + 1) = E.take i ++ [p] := by
    rw [List.take_add_one, h]; rfl
  rw [e]
  unfold dueL
  rw [List.filter_append, List.map_append]
  congr 1
  by_cases c : p.2 ≤ u
  · simp [c]
  · simp [c]
theorem dueL_len (E : Al) (u : Int) : (dueL E u).length ≤ E.length := by
  unfold dueL
  rw [List.length_map]
  exact List.length_filter_le _ _
theorem kv_at {E : Al} {i : Nat} {p : Int × Int} (h : E[i]? = some p) : (kv E)[i]? = some (Sum.inl p.1, V.int p.2) := by
  unfold kv
  rw [List.getElem?_map, h]; rfl
section
variable {P : Program} {w : World} {K : PySem.W.Frag} {mg : Str → Option Value} {base : Heap}
theorem ok_Leases_due {f C : Addr} {fd : FuncData} (F : Fun K "due" "Leases.due" s_Leases_due f fd) (T : LeaT K mg C) (ms : mg "sorted" = none) : FnOk P w K mg base CX0 1 f fd ["self", "until"] (spLeDue C) := by
  refine F.ok sc_Leases_due (fun vs H Q E h => ?_) (fun cdv A outer s H vs Q E hr h => ?_)
  · obtain ⟨p, dt, de, n, u, T, En, rfl, _⟩ := h
    rfl
  · obtain ⟨p, dt, de, n, u, T1, En, rfl, L, l1, k⟩ := h
    obtain ⟨⟨dx, hp⟩, ht, he, nte⟩ := id L
    have npe : p ≠ de := ne_of hp he (by intro z; cases z)
    refine ⟨_, pss_one (ps_ret (pe_callB cr_sortedPO (by rfl) ms (by decide +kernel) (pa_cons (pe_lock
      (pe_lc (own := [("lease", 2), ("end", 3)]) (g := gTup K 2 (gCons (gName 2) (gCons (gName 3) gNil))) rfl sc_Leases_due.nd (pi_items (pe_fld (pv 0) rfl)) (blkOk_by (own := [("lease", 2), ("end", 3)]) (N := ["self", "until", "lease", "end"]) (sc := defScope s_Leases_due) (by decide +kernel))
        (fun _ _ _ _ _ => pg_tup (n := 2) rfl (pgs_cons (pg_name (i := 2) sc_Leases_due.nd rfl (Or.inl rfl) (Or.inr rfl)) (pgs_cons (pg_name (i := 3) sc_Leases_due.nd rfl (Or.inl rfl) (Or.inr rfl)) pgs_nil)))
        (fun _ _ _ _ _ => pts_one (pt_cmpR op_le (pv 3) (pv 1) (nomark _)))
        (fun _ _ _ _ _ => pe_tup (pa_cons (pv 3) (pa_cons (pv 2) pa_nil))))) pa_nil))), ?_⟩
    refine ⟨de, _, he, trivial, fun od => ?_⟩
    have hpL : upd H de (.frz od (.dK (kv En))) p = some (.ins C dx (flds n dt de)) := by rw [upd_ne npe]; exact hp
    refine ⟨_, rfl, p, C, dx, _, _, rfl, hpL, T.cl, T.nE, flds_e _ _ _, de, od, _, rfl, upd_same, fun D hD => ?_⟩
    refine lc_it walk_items (fun i H' => ∃ ts, Same (upd H de (.frz od (.dK (kv En)))) H' ∧ H' D = some (.lst (ts.map V.ref)) ∧ Tups H' ts (dueL (En.take i) u)) ?_ ?_ ?_ ?_
    · refine ⟨[], fun b o e => ?_, upd_same, ?_⟩
      · rw [upd_ne (ne_of_none e hD)]; exact e
      · exact .nil
    · rintro i H' _ ⟨ts, hs, _⟩
      exact hs _ _ upd_same
    · rintro i x H1 H' hi ⟨ts, hs, hl, m⟩ ⟨Tt, a, b, rfl, hn, rfl, ea, eb⟩
      have hi' : i < En.length := by rw [kv_len] at hi; exact hi
      obtain ⟨q, hq⟩ : ∃ q, En[i]? = some q := ⟨En[i], by simp [hi']⟩
      have ea : (kv En)[i]?.map (fun kv => kV kv.1) = some a := ea
      have eb : (kv En)[i]?.map Prod.snd = some b := eb
      rw [kv_at hq] at ea eb
      cases ea
      cases eb
      have hDT : D ≠ Tt := ne_of_none hl hn
      refine ⟨Tt, _, rfl, .inl (.inl upd_same), rfl, _, _, rfl, _, _, rfl, rfl, rfl, ?_⟩
      refine ⟨_, rfl, _, rfl, _, _, rfl, rfl, _, rfl, ?_⟩
      have hsT : Same H1 (upd H1 Tt (.tup [kV (Sum.inl q.1, V.int q.2).1, V.int q.2])) := fun b o e => by
        rw [upd_ne (ne_of_none e hn)]; exact e
      by_cases c : q.2 ≤ u
      · rw [decide_eq_true c]
        refine iteT ?_
        refine ⟨_, rfl, _, rfl, (by show 2 ≤ sizeLine; decide), fun z hz => ?_⟩
        have hz1 : H1 z = none := hsT.free hz
        have hDz : D ≠ z := ne_of_none hl hz1
        refine ⟨ts.map V.ref, ?_, ?_, ts ++ [z], fun b o e => ?_, ?_, ?_⟩
        · rw [upd_ne hDz]
          exact hsT _ _ hl
        · have := Paired.length m
          have l2 := dueL_len (En.take i) u
          have l3 := List.length_take_le i En
          rw [List.length_map]
          exact small1000 (by omega)
        · rw [upd_ne (ne_of_none e hD), upd_ne (ne_of_none (hs b o e) hz1)]
          exact hsT _ _ (hs b o e)
        · rw [upd_same, List.map_append]; rfl
        · rw [dueL_snoc hq, if_pos c]
          refine Paired.snoc (Tups.keep m fun b xs e => ?_) ?_
          · have nb : b ≠ D := ne_of e hl (by intro z; cases z)
            rw [upd_ne nb, upd_ne (ne_of_none e hz1)]
            exact hsT _ _ e
          · rw [upd_ne hDz.symm]; exact upd_same
      · rw [decide_eq_false c]
        refine iteF ⟨ts, fun b o e => hsT _ _ (hs b o e), hsT _ _ hl, ?_⟩
        rw [dueL_snoc hq, if_neg c, List.append_nil]
        exact Tups.keep m fun b xs e => hsT _ _ e
    · rintro H' ⟨ts, hs, hl, m⟩
      have hde : H' de = some (.frz od (.dK (kv En))) := hs _ _ upd_same
      rw [kv_len, List.take_length] at m
      have hDe : D ≠ de := ne_of hl hde (by intro z; cases z)
      have m2 : Tups (upd H' de (.dK (kv En))) ts (dueL En u) := Tups.keep m fun b xs e => by
        rw [upd_ne (ne_of e hde (by intro z; cases z))]; exact e
      refine ⟨hde, D, ts.map V.ref, leOf (upd H' de (.dK (kv En))), rfl, .inl (.inl (by rw [upd_ne hDe]; exact hl)), lePrem m2, fun ys q h1 h2 hq => ?_⟩
      obtain ⟨ts', ps, rfl, m3, asc, pm⟩ := leOut m2 h1 h2.perm
      have sm : Same H (upd H' de (.dK (kv En))) := fun b o e => by
        by_cases hb : b = de
        · subst hb
          rw [he] at e
          cases e
          exact upd_same
        · rw [upd_ne hb]
          exact hs b o (by rw [upd_ne hb]; exact e)
      refine k q ts' ps _ (sm.free hq) upd_same (Tups.keep m3 fun b xs e => ?_) asc pm fun b o e => ?_
      · rw [upd_ne (ne_of_none e hq)]; exact e
      · rw [upd_ne (ne_of_none (sm b o e) hq)]; exact sm b o e
end
end KL

namespace KL
open PySem L2 L2H LX KB KA1
/-! ### the program's room: a lease ends -/
def spEnd (c : Cs) (kk : Kinds) : Sp := fun vs H Q E => ∃ (p : Addr) (h t : Int) (R : Rc) (s : Rm), vs = [.ref p, .int h, .int t] ∧ RcAt c H p R s ∧ (s.ends h = none → E (.ref kk.NL) none H) ∧
  (s.ends h ≠ none → s.rows.length + R.HV.length ≤ 100000 ∧ ∀ R' H' s', OverR s h t s' → Way c p H R s H' R' s' → Q .non H')
/-- the keys that are held by h, as they stand in a table -/
def handL (h : Int) (l : List (Str × (Str × Int))) : List Str := (l.filter fun x => decide (x.2.2 = h)).map (·.1)
theorem handL_snoc {h : Int} {l : List (Str × (Str × Int))} {i : Nat} {x : Str × (Str × Int)} (e : l[i]? = some x) : handL h (l.take (i + 1)) = handL h (l.take i) ++ (if x.2.2 = h then [x.1] else []) := by
  have e1 : l.take (i + 1) = l.take i ++ [x] := by
    rw [List.take_add_one, e]; rfl
  rw [e1]
  unfold handL
  rw [List.filter_append, List.map_append]
  congr 1
  by_cases c : x.2.2 = h
  · simp [c]
  · simp [c]
theorem handL_len (h : Int) (l : List (Str × (Str × Int))) : (handL h l).length ≤ l.length := by
  unfold handL
  rw [List.length_map]
  exact List.length_filter_le _ _
theorem handL_keys {h : Int} {l : List (Str × (Str × Int))} (n : (l.map (·.1)).Nodup) {ks : List Str} (p : ks.Perm (handL h l)) (s : PyProof.Rows.sortedS ks = true) : HandKeys (getA l) h ks := by
  have nd : (handL h l).Nodup := by
    unfold handL
    exact n.sublist (List.filter_sublist.map _)
  refine ⟨s, p.nodup_iff.mpr nd, fun k => p.mem_iff.trans ?_⟩
  unfold handL
  rw [List.mem_map]
  constructor
  · rintro ⟨x, hx, rfl⟩
    obtain ⟨h1, h2⟩ := List.mem_filter.mp hx
    refine ⟨x.2.1, ?_⟩
    rw [getA_of n h1]
    have e := of_decide_eq_true h2
    rw [← e]
  · rintro ⟨v, hv⟩
    exact ⟨(k, (v, h)), List.mem_filter.mpr ⟨getA_mem hv, decide_eq_true rfl⟩, rfl⟩
section
variable {P : Program} {w : World} {K : PySem.W.Frag} {mg : Str → Option Value} {base : Heap} {c : Cs} {kk : Kinds}
theorem ok_Room_end {f fD fT : Addr} {fd fdD fdT : FuncData} {psD psT : List Str} (F : Fun K "_end" "Room._end" s_Room_u_end f fd) (T : RomT K c.C) (TL : LeaT K mg c.CL) (ms : mg "sorted" = none)
    (mD : Meth K c.CL "drop" fD) (bD : Binds K fdD psD []) (GD : FnOk P w K mg base (L2.CX P w) 2 fD fdD psD (spLeDrop c.CL kk.NL)) (mT : Meth K c.C "_take_out" fT) (bT : Binds K fdT psT []) (GT : FnOk P w K mg base CX0 3 fT fdT psT (spTakeOut c)) :
    FnOk P w K mg base (L2.CX P w) 4 f fd p_Room_u_end (spEnd c kk) := by
  refine F.okX sc_Room_u_end (fun vs H Q E h => ?_) (fun cdv A outer s H vs Q E hr h => ?_)
  · obtain ⟨p, h, t, R, s, rfl, _⟩ := h
    rfl
  · obtain ⟨p, h, t, R, r, rfl, A1, k1, k2⟩ := h
    obtain ⟨dx, hp⟩ := A1.ob
    obtain ⟨dy, hl⟩ := A1.lt.ob
    have hr2 : Room 2 _ := hr.mono (by decide)
    refine ⟨_, pss_cons (ps_expr (pe_meth (E := E) (pe_fld (pv 0) rfl) TL.cl mD GD hr2 bD .nil (passes_call (takes_of rfl rfl rfl rfl) (fun _ _ _ _ h => h)) (pa_cons (pv 1) pa_nil)))
      (PSs.nox (pss_cons (ps_set (i := 4) sc_Room_u_end.nd rfl (Or.inl rfl) (pe_callB cr_sortedSL (by rfl) ms (by decide +kernel) (pa_cons (pe_lock
        (pe_lc (own := [("key", 3), ("holder", 5)]) (g := gTup K 2 (gCons (gName 3) (gCons (gName 5) gNil))) rfl sc_Room_u_end.nd (pi_items (pe_fld (pv 0) rfl)) (blkOk_by (own := [("key", 3), ("holder", 5)]) (N := n_Room_u_end) (sc := defScope s_Room_u_end) (by decide +kernel))
          (fun _ _ _ _ _ => pg_tup (n := 2) rfl (pgs_cons (pg_name (i := 3) sc_Room_u_end.nd rfl (Or.inl rfl) (Or.inr rfl)) (pgs_cons (pg_name (i := 5) sc_Room_u_end.nd rfl (Or.inl rfl) (Or.inr rfl)) pgs_nil)))
          (fun _ _ _ _ _ => pts_one (pt_cmpR op_eq (pv 5) (pv 1) (nomark _)))
          (fun _ _ _ _ _ => pv 3))) pa_nil)))
      (pss_one (ps_for PassesOwn.never rfl (pi_list (pv 4)) (pg_name (i := 3) sc_Room_u_end.nd rfl (Or.inl rfl))
        (pss_one (ps_expr (pe_meth (E := E0) (pv 0) T.cl mT GT (hr.mono (by decide)) bT .nil pass0 (pa_cons (pv 3) (pa_cons (pv 2) pa_nil))))))))), ?_⟩
    have ee : ∀ h, aget R.E h = r.ends h := fun h => by rw [aget_eq, A1.fe]
    refine ⟨_, rfl, p, c.C, dx, _, _, rfl, hp, T.cl, T.n1, zf_get (i := 1) (by decide +kernel) rfl, R.pl, dy, _, rfl, hl, flds_no _ _ _ (by decide +kernel) (by decide +kernel) (by decide +kernel), _, rfl, R.pl, R.dt, R.de, _, h, R.T, R.E, rfl, A1.lt, fun z => ?_, fun z => ?_⟩
    · rw [ee] at z
      exact k1 z
    · rw [ee] at z
      have ne : r.ends h ≠ none := fun q => by rw [q] at z; cases z
      obtain ⟨hlen, k3⟩ := k2 ne
      obtain ⟨e0, he0⟩ : ∃ e0, getA R.E h = some e0 := by
        rw [A1.fe] at ne
        exact Option.ne_none_iff_exists'.mp ne
      obtain ⟨t0, ht0, _⟩ := A1.fs h e0 he0
      refine ⟨by rw [aget_eq, ht0]; rfl, fun H1 L1 c1 => ?_⟩
      have e1 : getA (adrop R.E h) = setF r.ends h none := by
        show getA (dropA R.E h) = _
        rw [setA_drop, A1.fe]
      have fs1 : ∀ j e, getA (adrop R.E h) j = some e → ∃ t, getA (adrop R.T h) j = some t ∧ r.span j = some t := fun j e he => by
        change getA (dropA R.E h) j = some e at he
        rw [getA_dropA] at he
        by_cases cj : h = j
        · rw [if_pos cj] at he; cases he
        · rw [if_neg cj] at he
          obtain ⟨t1, x1, x2⟩ := A1.fs j e he
          refine ⟨t1, ?_, x2⟩
          show getA (dropA R.T h) j = _
          rw [getA_dropA, if_neg cj]
          exact x1
      have A2 := A1.lot (n := r.given) (T := adrop R.T h) (E := adrop R.E h) (sp := r.span) L1 c1 (A1.nE.sublist (List.filter_sublist.map _)) fs1
      rw [e1] at A2
      have W2 : Way c p H R r H1 { R with T := adrop R.T h, E := adrop R.E h } { r with ends := setF r.ends h none } :=
        ⟨A2, ⟨List.length_filter_le _ _, List.length_filter_le _ _, Nat.le_refl _, rfl, Nat.le_refl _, Nat.le_refl _, rfl, rfl⟩, Grow.refl _ _, c1.mono fun x hx => by
          simp only [List.mem_cons, List.not_mem_nil, or_false] at hx
          rcases hx with rfl | rfl | rfl <;> exact List.mem_append_left _ (by simp [Rc.o])⟩
      clear A2 L1 fs1 c1
      have hlen2 : ({ r with ends := setF r.ends h none } : Rm).rows.length + (Rc.HV { R with T := adrop R.T h, E := adrop R.E h }).length ≤ 100000 := hlen
      have k4 : ∀ ks R' H' s', HandKeys r.held h ks → s' = cutAll { r with ends := setF r.ends h none } t ks → Way c p H1 { R with T := adrop R.T h, E := adrop R.E h } { r with ends := setF r.ends h none } H' R' s' → Q .non H' :=
        fun ks R' H' s' hk es W => k3 R' H' s' ⟨ks, hk, es⟩ (W2.trans W)
      have A2 := W2.at_
      have hheld : r.held = ({ r with ends := setF r.ends h none } : Rm).held := rfl
      rw [hheld] at k4
      clear hheld k3 k2 k1 hlen ne z ee he0 ht0 e1 W2 A1 hp hl
      generalize ({ R with T := adrop R.T h, E := adrop R.E h } : Rc) = R2 at A2 k4 hlen2
      generalize ({ r with ends := setF r.ends h none } : Rm) = r2 at A2 k4 hlen2
      obtain ⟨dx2, hp⟩ := A2.ob
      have nph : p ≠ R2.dh := A2.ne7.1.2.2.2.2.1
      have lv : R2.hk.length = R2.HV.length := A2.rh.len
      refine ⟨R2.dh, _, A2.ho, trivial, fun od => ?_⟩
      have hpL : upd H1 R2.dh (.frz od (.dK R2.hk)) p = some (.ins c.C dx2 (rFl r2 R2)) := by rw [upd_ne nph]; exact hp
      refine ⟨_, rfl, p, c.C, dx2, _, _, rfl, hpL, T.cl, T.n4, zf_get (i := 4) (by decide +kernel) rfl, R2.dh, od, _, rfl, upd_same, fun D hD => ?_⟩
      refine lc_it walk_items (fun i H' => Same (upd H1 R2.dh (.frz od (.dK R2.hk))) H' ∧ H' D = some (.lst ((handL h (R2.HV.take i)).map V.str))) ?_ ?_ ?_ ?_
      · exact ⟨same_new hD, upd_same⟩
      · rintro i H' _ ⟨hs, _⟩
        exact hs _ _ upd_same
      · rintro i x H3 H' hi ⟨hs, hlD⟩ ⟨Tt, a, b, rfl, hn, rfl, ea, eb⟩
        have hi' : i < R2.HV.length := by rw [← lv]; exact hi
        obtain ⟨q, hq⟩ : ∃ q, R2.HV[i]? = some q := ⟨R2.HV[i], by simp [hi']⟩
        obtain ⟨v, hv, rfl⟩ := DRel.atL A2.rh hq
        have ea : R2.hk[i]?.map (fun kv => kV kv.1) = some a := ea
        have eb : R2.hk[i]?.map Prod.snd = some b := eb
        rw [hv] at ea eb
        cases ea
        cases eb
        have hsT : Same H3 (upd H3 Tt (.tup [kV (Sum.inr q.1, V.int q.2.2).1, V.int q.2.2])) := same_new hn
        refine ⟨Tt, _, rfl, .inl (.inl upd_same), rfl, _, _, rfl, _, _, rfl, rfl, rfl, ?_⟩
        refine ⟨_, rfl, _, rfl, rfl, _, rfl, ?_⟩
        rw [handL_snoc hq]
        by_cases cc : q.2.2 = h
        · rw [decide_eq_true (congrArg V.int cc), if_pos cc]
          refine iteT ⟨_, rfl, _, hsT _ _ hlD, ?_, fun b o e => ?_, ?_⟩
          · have l2 := handL_len h (R2.HV.take i)
            have l3 := List.length_take_le' i R2.HV
            rw [List.length_map]
            exact smallS (by omega)
          · rw [upd_ne (ne_of_none e hD)]
            exact hsT _ _ (hs b o e)
          · rw [upd_same, List.map_append]; rfl
        · rw [decide_eq_false (fun z => cc (V.int.inj z)), if_neg cc, List.append_nil]
          exact iteF ⟨fun b o e => hsT _ _ (hs b o e), hsT _ _ hlD⟩
      · rintro H' ⟨hs, hlD⟩
        have hde : H' R2.dh = some (.frz od (.dK R2.hk)) := hs _ _ upd_same
        rw [lv, List.take_length] at hlD
        have hDe : D ≠ R2.dh := ne_of hlD hde (by intro z; cases z)
        refine ⟨hde, D, handL h R2.HV, rfl, .inl (.inl (by rw [upd_ne hDe]; exact hlD)), fun ks q h1 h2 hq => ?_⟩
        have sm : Same H1 (upd H' R2.dh (.dK R2.hk)) := fun b o e => by
          by_cases hb : b = R2.dh
          · subst hb
            rw [A2.ho] at e
            cases e
            exact upd_same
          · rw [upd_ne hb]
            exact hs b o (by rw [upd_ne hb]; exact e)
        have sm2 := sm.trans (same_new (o := .lst (ks.map V.str)) hq)
        have hq2 : upd (upd H' R2.dh (.dK R2.hk)) q (.lst (ks.map V.str)) q = some (.lst (ks.map V.str)) := upd_same
        have q0 : H1 q = none := sm.free hq
        have nq : q ∉ R2.F p := fun y => by
          obtain ⟨o, e⟩ := A2.own q y
          rw [q0] at e
          cases e
        have hk : HandKeys r2.held h ks := by
          rw [A2.fh]
          exact handL_keys A2.nH h1 h2
        have A3 := A2.ch (Ch.of sm2 []) (fun _ _ z => nomatch z)
        dsimp only
        generalize upd (upd H' R2.dh (.dK R2.hk)) q (.lst (ks.map V.str)) = H4 at sm2 hq2 A3 ⊢
        have lks : ks.length ≤ R2.HV.length := by
          rw [h1.length_eq]
          exact handL_len h R2.HV
        refine ⟨_, rfl, q, rfl, ⟨_, SqL.of hq2⟩, ?_⟩
        refine for_list (xs := ks.map V.str) (fun i σ H' => (∃ y3 y5 : Option V, σ = [some (.ref p), some (.int h), some (.int t), y3, some (.ref q), y5]) ∧ ∃ R', Way c p H4 R2 r2 H' R' (cutAll r2 t (ks.take i))) ⟨⟨_, _, rfl⟩, R2, Way.refl A3⟩ ?_ ?_ ?_
        · rintro i σ H5 _ ⟨⟨y3, y5, rfl⟩, R', W⟩
          exact SqL.of (W.ch.at hq2 nq)
        · rintro i x σ H5 hx ⟨⟨y3, y5, rfl⟩, R', W⟩
          rw [List.getElem?_map] at hx
          obtain ⟨ky, hky, rfl⟩ : ∃ ky, ks[i]? = some ky ∧ V.str ky = x := by
            cases e : ks[i]? with
            | none => rw [e] at hx; cases hx
            | some ky => rw [e] at hx; exact ⟨ky, rfl, Option.some.inj hx⟩
          have et : ks.take (i + 1) = ks.take i ++ [ky] := by
            rw [List.take_add_one, hky]; rfl
          have nin : ky ∉ ks.take i := fun m => by
            have nd := hk.nd
            rw [← List.take_append_drop (i + 1) ks, et, List.append_assoc] at nd
            exact (List.nodup_append.mp nd).2.2 ky m ky (by simp) rfl
          have hh : (cutAll r2 t (ks.take i)).held ky ≠ none := by
            rw [all_held _ _ _ _ nin]
            obtain ⟨v, e⟩ := (hk.mem ky).mp (List.mem_of_getElem? hky)
            rw [e]
            intro z
            cases z
          obtain ⟨dx5, hp5⟩ := W.at_.ob
          have l5 := W.sub.hr
          refine ⟨_, rfl, p, dx5, _, rfl, hp5, zf_no (by decide +kernel), _, rfl, _, rfl, p, ky, t, R', _, rfl, W.at_, hh, by omega, fun R6 H6 W6 => ?_⟩
          refine ⟨⟨_, _, rfl⟩, R6, ?_⟩
          rw [et, all_snoc]
          exact W.trans W6
        · rintro σ H5 ⟨⟨y3, y5, rfl⟩, R', W⟩
          rw [List.length_map, List.take_length] at W
          exact k4 ks R' H5 _ hk rfl ⟨W.at_, W.sub, fun a ha => (W.gr a ha).imp id fun e => sm2.free e, (Ch.of sm2 _).trans W.ch⟩
end
end KL

namespace KL
open PySem L2 L2H LX KB KA1
/-! ### the program's room: deeds on leases, and time -/
theorem aput_eq (l : Al) (k v : Int) : aput l k v = putA l k v := rfl
theorem over_ends {s s' : Rm} {h t : Int} (o : OverR s h t s') : s'.ends = setF s.ends h none := by
  obtain ⟨ks, _, rfl⟩ := o
  rw [all_ends]
theorem over_now {s s' : Rm} {h t n : Int} (o : OverR s h t s') : OverR { s with now := n } h t { s' with now := n } := by
  obtain ⟨ks, hk, rfl⟩ := o
  refine ⟨ks, hk, ?_⟩
  rw [← all_now]
theorem oversR_snoc : ∀ {es : List (Int × Int)} {s s1 s2 : Rm} {e : Int × Int}, OversR es s s1 → OverR s1 e.2 e.1 s2 → OversR (es ++ [e]) s s2
  | [], s, s1, s2, e, h, o => by
    have h : s1 = s := h
    subst h
    exact ⟨s2, o, rfl⟩
  | x :: es, s, s1, s2, e, ⟨y, h1, h2⟩, o => ⟨y, h1, oversR_snoc h2 o⟩
theorem overs_ends : ∀ {es : List (Int × Int)} {s s1 : Rm} {h : Int}, OversR es s s1 → h ∉ es.map (·.2) → s1.ends h = s.ends h
  | [], s, s1, h, o, _ => by
    have o : s1 = s := o
    rw [o]
  | x :: es, s, s1, h, ⟨y, h1, h2⟩, n => by
    rw [List.map_cons, List.mem_cons, not_or] at n
    rw [overs_ends h2 n.2, over_ends h1]
    unfold setF
    rw [if_neg fun z => n.1 z.symm]
/-- the list of what is due, by the table -/
theorem due_ends {E : Al} (n : (E.map (·.1)).Nodup) {u : Int} {ps : Al} (a : Asc ps) (p : ps.Perm (dueL E u)) : EndsTo (getA E) u ps := by
  have nd : (dueL E u).Nodup := by
    unfold dueL
    have n2 : (E.filter fun p => decide (p.2 ≤ u)).Nodup := (List.Pairwise.of_map (fun p : Int × Int => p.1) (fun _ _ h e => h (by rw [e])) n).sublist List.filter_sublist
    refine List.Pairwise.map _ (fun x y h e => h ?_) n2
    exact Prod.ext (congrArg Prod.snd e) (congrArg Prod.fst e)
  refine ⟨a, p.nodup_iff.mpr nd, fun e => p.mem_iff.trans ?_⟩
  unfold dueL
  rw [List.mem_map]
  constructor
  · rintro ⟨x, hx, rfl⟩
    obtain ⟨h1, h2⟩ := List.mem_filter.mp hx
    exact ⟨getA_of n h1, of_decide_eq_true h2⟩
  · rintro ⟨h1, h2⟩
    exact ⟨(e.2, e.1), List.mem_filter.mpr ⟨getA_mem h1, decide_eq_true h2⟩, rfl⟩
theorem tupsAt {H : Hp} : ∀ {ts : List Addr} {ps : Al} {j : Nat} {y : V}, Tups H ts ps → (ts.map V.ref)[j]? = some y → ∃ t r, y = V.ref t ∧ ps[j]? = some r ∧ H t = some (.tup [.int r.1, .int r.2])
  | _, _, j, y, .nil, h => by simp at h
  | _, _, 0, y, .cons r m, h => ⟨_, _, (Option.some.inj h).symm, rfl, r⟩
  | _, _, j + 1, y, .cons r m, h => tupsAt (j := j) m (by simpa using h)
/-- two ends of one lease are one -/
theorem ends_fst {f : Int → Option Int} {u : Int} {es : List (Int × Int)} (h : EndsTo f u es) : (es.map (·.2)).Nodup := by
  refine List.pairwise_map.mpr (List.Pairwise.imp_of_mem (fun {a b} ha hb n e => n ?_) h.nd)
  have x1 := ((h.mem a).mp ha).1
  have x2 := ((h.mem b).mp hb).1
  rw [e, x2] at x1
  exact Prod.ext (Option.some.inj x1).symm e
section
variable {P : Program} {w : World} {K : PySem.W.Frag} {mg : Str → Option Value} {base : Heap} {c : Cs} {kk : Kinds}
theorem ok_Room_grant {f fG : Addr} {fd fdG : FuncData} {psG : List Str} (F : Fun K "grant" "Room.grant" s_Room_grant f fd) (T : RomT K c.C) (TL : LeaT K mg c.CL) (mG : Meth K c.CL "grant" fG) (bG : Binds K fdG psG []) (GG : FnOk P w K mg base (L2.CX P w) 1 fG fdG psG (spLeGrant c.CL kk.BT)) :
    FnOk P w K mg base (L2.CX P w) 2 f fd p_Room_grant (spRDo kk (RsP c) argG) := by
  refine F.okX sc_Room_grant (fun vs H Q E h => ?_) (fun cdv A outer s H vs Q E hr h => ?_)
  · obtain ⟨Fo, p, s, d, xs, rfl, ⟨t, rfl, rfl⟩, _⟩ := h
    rfl
  · obtain ⟨Fo, p, r, d, xs, rfl, ⟨t, rfl, rfl⟩, ⟨R, rfl, A1, Z⟩, fit, k⟩ := h
    obtain ⟨dx, hp⟩ := A1.ob
    obtain ⟨dy, hl⟩ := A1.lt.ob
    refine ⟨_, pss_one (ps_ret (pe_meth (E := E) (pe_fld (pv 0) rfl) TL.cl mG GG hr bG .nil (passes_call (takes_of rfl rfl rfl rfl) (fun _ _ _ _ h => h)) (pa_cons (pe_fld (pv 0) rfl) (pa_cons (pv 1) pa_nil)))), ?_⟩
    have f1 := fit.given
    have z1 := Z.t
    have z2 := Z.e
    refine ⟨_, rfl, p, c.C, dx, _, _, rfl, hp, T.cl, T.n1, zf_get (i := 1) (by decide +kernel) rfl, R.pl, dy, _, rfl, hl, flds_no _ _ _ (by decide +kernel) (by decide +kernel) (by decide +kernel),
      _, rfl, p, c.C, dx, _, _, rfl, hp, T.cl, T.n0, zf_get (i := 0) (by decide +kernel) rfl, _, rfl, R.pl, R.dt, R.de, _, r.now, t, R.T, R.E, rfl, A1.lt, by omega, by omega, fun hb => ?_, fun h1 h2 H1 L1 c1 => ?_⟩
    · exact k (.bad .ticks) r _ H (.inl ⟨hb, rfl, rfl⟩) ⟨R, rfl, A1, Z⟩ (Grow.refl _ _) (Ch.refl _ _)
    · have eE : getA (aput R.E ((r.given : Int) + 1) (r.now + t)) = setF r.ends ((r.given : Int) + 1) (some (r.now + t)) := by
        rw [aput_eq, setA_put, A1.fe]
      have fs1 : ∀ j e, getA (aput R.E ((r.given : Int) + 1) (r.now + t)) j = some e → ∃ u, getA (aput R.T ((r.given : Int) + 1) t) j = some u ∧ setF r.span ((r.given : Int) + 1) (some t) j = some u := fun j e he => by
        rw [aput_eq, getA_putA] at he
        rw [aput_eq, getA_putA]
        unfold setF
        by_cases cj : (r.given : Int) + 1 = j
        · rw [if_pos cj, if_pos cj]; exact ⟨t, rfl, rfl⟩
        · rw [if_neg cj] at he
          rw [if_neg cj, if_neg cj]
          exact A1.fs j e he
      have A2 := A1.lot (n := r.given + 1) (sp := setF r.span ((r.given : Int) + 1) (some t)) L1 c1 (putA_nodup A1.nE) fs1
      rw [eE] at A2
      refine k (.num ((r.given : Int) + 1)) _ _ H1 (.inr ⟨fun z => ?_, rfl, rfl⟩) ⟨_, rfl, A2, ⟨?_, ?_, Z.h, Z.w, Z.wt⟩⟩ (Grow.refl _ _) (c1.mono fun x hx => ?_)
      · rcases z with z | z <;> omega
      · exact Nat.le_trans (putA_len _ _ _) (Nat.succ_le_succ Z.t)
      · exact Nat.le_trans (putA_len _ _ _) (Nat.succ_le_succ Z.e)
      · simp only [List.mem_cons, List.not_mem_nil, or_false] at hx
        rcases hx with rfl | rfl | rfl <;> exact List.mem_append_left _ (by simp [Rc.o])
theorem ok_Room_renew {f fG : Addr} {fd fdG : FuncData} {psG : List Str} (F : Fun K "renew" "Room.renew" s_Room_renew f fd) (T : RomT K c.C) (TL : LeaT K mg c.CL) (mG : Meth K c.CL "renew" fG) (bG : Binds K fdG psG []) (GG : FnOk P w K mg base (L2.CX P w) 2 fG fdG psG (spLeRenew c.CL kk.NL)) :
    FnOk P w K mg base (L2.CX P w) 3 f fd p_Room_renew (spRDo kk (RsP c) argR) := by
  refine F.okX sc_Room_renew (fun vs H Q E h => ?_) (fun cdv A outer s H vs Q E hr h => ?_)
  · obtain ⟨Fo, p, s, d, xs, rfl, ⟨t, rfl, rfl⟩, _⟩ := h
    rfl
  · obtain ⟨Fo, p, r, d, xs, rfl, ⟨h, rfl, rfl⟩, ⟨R, rfl, A1, Z⟩, fit, k⟩ := h
    obtain ⟨dx, hp⟩ := A1.ob
    obtain ⟨dy, hl⟩ := A1.lt.ob
    refine ⟨_, pss_one (ps_expr (pe_meth (E := E) (pe_fld (pv 0) rfl) TL.cl mG GG hr bG .nil (passes_call (takes_of rfl rfl rfl rfl) (fun _ _ _ _ h => h)) (pa_cons (pe_fld (pv 0) rfl) (pa_cons (pv 1) pa_nil)))), ?_⟩
    have f1 := fit.given
    have z2 := Z.e
    have ee : ∀ h, aget R.E h = r.ends h := fun h => by rw [aget_eq, A1.fe]
    refine ⟨_, rfl, p, c.C, dx, _, _, rfl, hp, T.cl, T.n1, zf_get (i := 1) (by decide +kernel) rfl, R.pl, dy, _, rfl, hl, flds_no _ _ _ (by decide +kernel) (by decide +kernel) (by decide +kernel),
      _, rfl, p, c.C, dx, _, _, rfl, hp, T.cl, T.n0, zf_get (i := 0) (by decide +kernel) rfl, _, rfl, R.pl, R.dt, R.de, _, r.now, h, R.T, R.E, rfl, A1.lt, by omega, fun z => ?_, fun z => ?_⟩
    · rw [ee] at z
      exact k (.bad .lease) r _ H (.inl ⟨z, rfl, rfl⟩) ⟨R, rfl, A1, Z⟩ (Grow.refl _ _) (Ch.refl _ _)
    · rw [ee] at z
      have ne : r.ends h ≠ none := fun q => by rw [q] at z; cases z
      obtain ⟨e0, he0⟩ : ∃ e0, getA R.E h = some e0 := by
        have ne2 := ne
        rw [A1.fe] at ne2
        exact Option.ne_none_iff_exists'.mp ne2
      obtain ⟨t0, ht0, hs0⟩ := A1.fs h e0 he0
      refine ⟨t0, by rw [aget_eq]; exact ht0, fun H1 L1 c1 => ?_⟩
      have eE : getA (aput R.E h (r.now + t0)) = setF r.ends h (some (r.now + t0)) := by
        rw [aput_eq, setA_put, A1.fe]
      have fs1 : ∀ j e, getA (aput R.E h (r.now + t0)) j = some e → ∃ u, getA R.T j = some u ∧ r.span j = some u := fun j e he => by
        rw [aput_eq, getA_putA] at he
        by_cases cj : h = j
        · subst cj; exact ⟨t0, ht0, hs0⟩
        · rw [if_neg cj] at he
          exact A1.fs j e he
      have A2 := A1.lot (n := r.given) (T := R.T) (sp := r.span) L1 c1 (putA_nodup A1.nE) fs1
      rw [eE] at A2
      have le : (aput R.E h (r.now + t0)).length = R.E.length := by
        have q := congrArg List.length (keys_putA_old (d := R.E) (k := h) (v := r.now + t0) (by rw [getA_any, he0]; rfl))
        rw [List.length_map, List.length_map] at q
        exact q
      refine k .non _ _ H1 (.inr ⟨ne, rfl, t0, hs0, rfl⟩) ⟨_, rfl, A2, ⟨Z.t, ?_, Z.h, Z.w, Z.wt⟩⟩ (Grow.refl _ _) (c1.mono fun x hx => ?_)
      · exact Nat.le_trans (Nat.le_of_eq le) Z.e
      · simp only [List.mem_cons, List.not_mem_nil, or_false] at hx
        rcases hx with rfl | rfl | rfl <;> exact List.mem_append_left _ (by simp [Rc.o])
theorem ok_Room_drop {f fG : Addr} {fd fdG : FuncData} {psG : List Str} (F : Fun K "drop" "Room.drop" s_Room_drop f fd) (T : RomT K c.C) (mG : Meth K c.C "_end" fG) (bG : Binds K fdG psG []) (GG : FnOk P w K mg base (L2.CX P w) 4 fG fdG psG (spEnd c kk)) :
    FnOk P w K mg base (L2.CX P w) 5 f fd p_Room_drop (spRDo kk (RsP c) argD) := by
  refine F.okX sc_Room_drop (fun vs H Q E h => ?_) (fun cdv A outer s H vs Q E hr h => ?_)
  · obtain ⟨Fo, p, s, d, xs, rfl, ⟨t, rfl, rfl⟩, _⟩ := h
    rfl
  · obtain ⟨Fo, p, r, d, xs, rfl, ⟨h, rfl, rfl⟩, ⟨R, rfl, A1, Z⟩, fit, k⟩ := h
    obtain ⟨dx, hp⟩ := A1.ob
    refine ⟨_, pss_one (ps_expr (pe_meth (E := E) (pv 0) T.cl mG GG hr bG .nil (passes_call (takes_of rfl rfl rfl rfl) (fun _ _ _ _ h => h)) (pa_cons (pv 1) (pa_cons (pe_fld (pv 0) rfl) pa_nil)))), ?_⟩
    have f1 := fit.rows
    have z2 := Z.h
    refine ⟨_, rfl, p, dx, _, rfl, hp, zf_no (by decide +kernel), _, rfl, _, rfl, p, c.C, dx, _, _, rfl, hp, T.cl, T.n0, zf_get (i := 0) (by decide +kernel) rfl, p, h, r.now, R, r, rfl, A1, fun z => ?_, fun z => ⟨by omega, fun R' H' s' o W => ?_⟩⟩
    · exact k (.bad .lease) r _ H (.inl ⟨z, rfl, rfl⟩) ⟨R, rfl, A1, Z⟩ (Grow.refl _ _) (Ch.refl _ _)
    · exact k .non s' _ H' (.inr ⟨z, rfl, o⟩) ⟨R', rfl, W.at_, W.sub.sz Z⟩ W.gr W.ch
theorem ok_Room_wait {f fE fU : Addr} {fd fdE fdU : FuncData} {psE psU : List Str} {tm : Tok} (F : Fun K "wait" "Room.wait" s_Room_wait f fd) (T : RomT K c.C) (TL : LeaT K mg c.CL) (N : ErrT K mg "BadTicks" kk.BT) (mM : mg "MOST_TICKS" = some (.int 1000000 tm))
    (mE : Meth K c.C "_end" fE) (bE : Binds K fdE psE []) (GE : FnOk P w K mg base (L2.CX P w) 4 fE fdE psE (spEnd c kk)) (mU : Meth K c.CL "due" fU) (bU : Binds K fdU psU []) (GU : FnOk P w K mg base CX0 1 fU fdU psU (spLeDue c.CL)) :
    FnOk P w K mg base (L2.CX P w) 5 f fd p_Room_wait (spRDo kk (RsP c) argW) := by
  refine F.okX sc_Room_wait (fun vs H Q E h => ?_) (fun cdv A outer s H vs Q E hr h => ?_)
  · obtain ⟨Fo, p, s, d, xs, rfl, ⟨t, rfl, rfl⟩, _⟩ := h
    rfl
  · obtain ⟨Fo, p, r, d, xs, rfl, ⟨t, rfl, rfl⟩, ⟨R, rfl, A1, Z⟩, fit, k⟩ := h
    obtain ⟨dx, hp⟩ := A1.ob
    obtain ⟨dy, hl⟩ := A1.lt.ob
    have hr1 : Room 1 _ := hr.mono (by decide)
    refine ⟨_, pss_cons (ps_if (PW.pt (pw_or (pt_cmpR op_lt (pv 1) pe_int (nomark _)) (pw_or1 (pt_cmpR op_gt (pv 1) (pe_glob (v := V.int 1000000) rfl mM ⟨_, rfl⟩) (nomark _)))))
        (pss_one (ps_raise rfl (takes_of rfl rfl rfl rfl) (SkE.pmk_own1 PySem.F.excBase_ValueError N.x N.g N.k (raises_own N.b N.t) rfl
          (pe_joined (.cons pe_str (.cons (pe_fmt (pe_glob (v := V.int 1000000) rfl mM ⟨_, rfl⟩)) (.cons pe_str .nil))))))) pss_nil)
      (PSs.nox (pss_cons (ps_fldaug (pv 0) (pv 1) in_add)
      (pss_cons (ps_set (i := 2) sc_Room_wait.nd rfl (Or.inl rfl) (pe_meth (E := E0) (pe_fld (pv 0) rfl) TL.cl mU GU hr1 bU .nil pass0 (pa_cons (pe_fld (pv 0) rfl) pa_nil)))
      (pss_one (ps_for PassesOwn.never rfl (pi_list (pv 2)) (pg_tup (n := 2) rfl (pgs_cons (pg_name (i := 3) sc_Room_wait.nd rfl (Or.inl rfl)) (pgs_cons (pg_name (i := 4) sc_Room_wait.nd rfl (Or.inl rfl)) pgs_nil)))
        (pss_one (ps_expr (pe_meth (E := E0) (pv 0) T.cl mE GE hr bE .nil (passes_call takes0 (fun _ _ _ _ h => h)) (pa_cons (pv 4) (pa_cons (pv 3) pa_nil)))))))))), ?_⟩
    have bad : badT 0 t → tJs [tC (V.str "a room waits 0 to "), tFmt (tC (V.int 1000000)), tC (V.str " ticks")] Str.empty (L2.start n_Room_wait [V.ref p, V.int t]) H fun out H1 => E (.ref kk.BT) none H1 := fun hb => by
      refine ⟨_, rfl, (by decide +kernel), .inr ⟨1000000, rfl, (by decide +kernel), _, rfl, (by decide +kernel), _, rfl, (by decide +kernel), ?_⟩⟩
      exact k (.bad .ticks) r _ H (.inl ⟨hb, rfl, rfl⟩) ⟨R, rfl, A1, Z⟩ (Grow.refl _ _) (Ch.refl _ _)
    refine ⟨_, rfl, _, _, rfl, rfl, _, rfl, ?_⟩
    by_cases c1 : t < 0
    · rw [decide_eq_true c1]
      exact iteT (iteT (bad (.inl c1)))
    rw [decide_eq_false c1]
    refine iteF ⟨_, rfl, _, _, rfl, rfl, _, rfl, ?_⟩
    by_cases c2 : t > 1000000
    · rw [decide_eq_true c2]
      exact iteT (bad (.inr c2))
    rw [decide_eq_false c2]
    refine iteF ?_
    have nb : ¬ badT 0 t := fun z => by rcases z with z | z <;> omega
    clear bad
    refine ⟨_, rfl, p, c.C, dx, _, _, rfl, hp, T.cl, T.n0, zf_get (i := 0) (by decide +kernel) rfl, _, rfl, _, _, rfl, rfl, dx, _, hp, (by show 7 < 1000; decide), ?_⟩
    rw [zf_put (i := 0) (by decide +kernel) rfl]
    have cp : Ch H (upd H p (.ins c.C dx (rFl { r with now := r.now + t } R))) [p] := (Ch.refl _ _).mut (by simp) hp (fun _ z => by cases z)
    have A2 := A1.tick (n := r.now + t) cp upd_same
    have hp2 : upd H p (.ins c.C dx (rFl { r with now := r.now + t } R)) p = some (.ins c.C dx (rFl { r with now := r.now + t } R)) := upd_same
    change tSeq _ _ _ _ (upd H p (.ins c.C dx (rFl { r with now := r.now + t } R)))
    generalize upd H p (.ins c.C dx (rFl { r with now := r.now + t } R)) = H2 at cp A2 hp2 ⊢
    obtain ⟨dy2, hl2⟩ := A2.lt.ob
    have f1 := fit.given
    have f2 := fit.rows
    have z2 := Z.e
    have z3 := Z.h
    refine ⟨_, rfl, p, c.C, dx, _, _, rfl, hp2, T.cl, T.n1, zf_get (i := 1) (by decide +kernel) rfl, R.pl, dy2, _, rfl, hl2, flds_no _ _ _ (by decide +kernel) (by decide +kernel) (by decide +kernel),
      _, rfl, p, c.C, dx, _, _, rfl, hp2, T.cl, T.n0, zf_get (i := 0) (by decide +kernel) rfl, R.pl, R.dt, R.de, _, r.now + t, R.T, R.E, rfl, A2.lt, by omega, fun q ts es H3 hq hq3 hts asc pm s3 => ?_⟩
    have hes : EndsTo r.ends (r.now + t) es := by
      rw [A1.fe]
      exact due_ends A1.nE asc pm
    have nq : q ∉ R.F p := fun y => by
      obtain ⟨o, e⟩ := A2.own q y
      rw [hq] at e
      cases e
    have A3 := A2.ch (Ch.of s3 []) (fun _ _ z => nomatch z)
    have len : (ts.map V.ref).length = es.length := by rw [List.length_map, Paired.length hts]
    refine ⟨_, rfl, q, rfl, ⟨_, SqL.of hq3⟩, ?_⟩
    refine for_list (xs := ts.map V.ref) (fun i σ H' => (∃ y3 y4 : Option V, σ = [some (.ref p), some (.int t), some (.ref q), y3, y4]) ∧ ∃ R' s', OversR (es.take i) r s' ∧ Way c p H3 R { r with now := r.now + t } H' R' { s' with now := r.now + t }) ⟨⟨_, _, rfl⟩, R, r, rfl, Way.refl A3⟩ ?_ ?_ ?_
    · rintro i σ H5 _ ⟨⟨y3, y4, rfl⟩, R', s', o, W⟩
      exact SqL.of (W.ch.at hq3 nq)
    · rintro i x σ H5 hx ⟨⟨y3, y4, rfl⟩, R', s', o, W⟩
      obtain ⟨ta, e, rfl, he, hta⟩ := tupsAt hts hx
      have hta5 := W.ch.tup _ _ hta
      have et : es.take (i + 1) = es.take i ++ [e] := by
        rw [List.take_add_one, he]; rfl
      have nin : e.2 ∉ (es.take i).map (·.2) := fun m => by
        have nd := ends_fst hes
        rw [← List.take_append_drop (i + 1) es, et, List.append_assoc, List.map_append] at nd
        exact (List.nodup_append.mp nd).2.2 e.2 m e.2 (by simp) rfl
      have hend : s'.ends e.2 ≠ none := by
        rw [overs_ends o nin, ((hes.mem e).mp (List.mem_of_getElem? he)).1]
        intro z
        cases z
      obtain ⟨dx5, hp5⟩ := W.at_.ob
      have l5 := W.sub.hr
      have l6 : ({ r with now := r.now + t } : Rm).rows.length = r.rows.length := rfl
      refine ⟨ta, _, rfl, SqT.of hta5, rfl, _, _, rfl, _, _, rfl, rfl, _, rfl, p, dx5, _, rfl, hp5, zf_no (by decide +kernel), _, rfl, _, rfl, p, e.2, e.1, R', _, rfl, W.at_, fun z => absurd z hend, fun _ => ⟨by omega, fun R6 H6 s6 o6 W6 => ?_⟩⟩
      obtain ⟨ks, hk, rfl⟩ := o6
      have o7 : OverR s' e.2 e.1 (cutAll { s' with ends := setF s'.ends e.2 none } e.1 ks) := ⟨ks, hk, rfl⟩
      refine ⟨⟨_, _, rfl⟩, R6, _, by rw [et]; exact oversR_snoc o o7, ?_⟩
      rw [← all_now]
      exact W.trans W6
    · rintro σ H5 ⟨⟨y3, y4, rfl⟩, R', s', o, W⟩
      rw [len, List.take_length] at o
      refine k .non _ _ H5 (.inr ⟨nb, rfl, es, s', hes, o, rfl⟩) ⟨R', rfl, W.at_, W.sub.sz ⟨Z.t, Z.e, Z.h, Z.w, Z.wt⟩⟩ (fun a ha => (W.gr a ha).imp id fun e => cp.none a (s3.free e)) ?_
      exact ((cp.mono fun x hx => by rw [List.mem_singleton.mp hx]; exact List.mem_append_left _ (by simp [Rc.o])).trans (Ch.of s3 _)).trans W.ch
end
end KL

namespace KL
open PySem L2 L2H LX KB KA1
/-! ### the program's room: pairs -/
def spPairs0 (c : Cs) : Sp := fun vs H Q _ => ∃ (p : Addr) (z : Str) (R : Rc) (s : Rm), vs = [.ref p, .str z] ∧ RcAt c H p R s ∧ R.HV.length ≤ 100000 ∧
  ∀ q ts ps H', Same H H' → H q = none → H' q = some (.lst (ts.map V.ref)) → PairsAt H' ts ps → Told (byPre s z) ps → Q (.ref q) H'
section
variable {P : Program} {w : World} {K : PySem.W.Frag} {mg : Str → Option Value} {base : Heap} {c : Cs}
theorem ok_Room_pairs {f : Addr} {fd : FuncData} (F : Fun K "pairs" "Room.pairs" s_Room_pairs f fd) (T : RomT K c.C) (ms : mg "sorted" = none) : FnOk P w K mg base CX0 1 f fd p_Room_pairs (spPairs0 c) := by
  refine F.ok sc_Room_pairs (fun vs H Q E h => ?_) (fun cdv A outer s H vs Q E hr h => ?_)
  · obtain ⟨p, z, R, s, rfl, _⟩ := h
    rfl
  · obtain ⟨p, z, R, r, rfl, A1, hl, k⟩ := h
    obtain ⟨dx, hp⟩ := A1.ob
    have npv : p ≠ R.dv := A1.ne7.1.2.2.2.1
    refine ⟨_, pss_one (ps_ret (pe_callB cr_sortTT (by rfl) ms (by decide +kernel) (pa_cons (pe_lock
      (pe_lc (own := [("key", 2), ("value", 3)]) (g := gTup K 2 (gCons (gName 2) (gCons (gName 3) gNil))) rfl sc_Room_pairs.nd (pi_items (pe_fld (pv 0) rfl)) (blkOk_by (own := [("key", 2), ("value", 3)]) (N := n_Room_pairs) (sc := defScope s_Room_pairs) (by decide +kernel))
        (fun _ _ _ _ _ => pg_tup (n := 2) rfl (pgs_cons (pg_name (i := 2) sc_Room_pairs.nd rfl (Or.inl rfl) (Or.inr rfl)) (pgs_cons (pg_name (i := 3) sc_Room_pairs.nd rfl (Or.inl rfl) (Or.inr rfl)) pgs_nil)))
        (fun _ _ _ _ _ => pts_one (pt_val (pe_m1 PySem.F.slot_str_startswith PySem.F.type_str_startswith mt_startswith (pv 2) (pv 1))))
        (fun _ _ _ _ _ => pe_tup (pa_cons (pv 2) (pa_cons (pv 3) pa_nil))))) pa_nil))), ?_⟩
    refine ⟨R.dv, _, A1.va, trivial, fun od => ?_⟩
    have hpL : upd H R.dv (.frz od (.dK R.vk)) p = some (.ins c.C dx (rFl r R)) := by rw [upd_ne npv]; exact hp
    refine ⟨_, rfl, p, c.C, dx, _, _, rfl, hpL, T.cl, T.n3, zf_get (i := 3) (by decide +kernel) rfl, R.dv, od, _, rfl, upd_same, fun D hD => ?_⟩
    have lv : R.vk.length = R.HV.length := A1.rv.len
    refine lc_it walk_items (fun i H' => ∃ ts, Same (upd H R.dv (.frz od (.dK R.vk))) H' ∧ H' D = some (.lst (ts.map V.ref)) ∧ PairsAt H' ts (preL z (R.HV.take i))) ?_ ?_ ?_ ?_
    · exact ⟨[], same_new hD, upd_same, .nil⟩
    · rintro i H' _ ⟨ts, hs, _⟩
      exact hs _ _ upd_same
    · rintro i x H1 H' hi ⟨ts, hs, hlD, m⟩ ⟨Tt, a, b, rfl, hn, rfl, ea, eb⟩
      have hi' : i < R.HV.length := by rw [← lv]; exact hi
      obtain ⟨q, hq⟩ : ∃ q, R.HV[i]? = some q := ⟨R.HV[i], by simp [hi']⟩
      obtain ⟨v, hv, rfl⟩ := DRel.atL A1.rv hq
      have ea : R.vk[i]?.map (fun kv => kV kv.1) = some a := ea
      have eb : R.vk[i]?.map Prod.snd = some b := eb
      rw [hv] at ea eb
      cases ea
      cases eb
      have hDT : D ≠ Tt := ne_of_none hlD hn
      refine ⟨Tt, _, rfl, .inl (.inl upd_same), rfl, _, _, rfl, _, _, rfl, rfl, rfl, ?_⟩
      refine ⟨_, rfl, ⟨_, rfl⟩, _, rfl, _, _, rfl, rfl, _, rfl, ?_⟩
      have hsT : Same H1 (upd H1 Tt (.tup [kV (Sum.inr q.1, V.str q.2.1).1, V.str q.2.1])) := same_new hn
      rw [starts_isPre]
      by_cases cc : isPre z q.1 = true
      · rw [cc]
        refine iteT ?_
        refine ⟨_, rfl, _, rfl, (by show 2 ≤ sizeLine; decide), fun y hy => ?_⟩
        have hy1 : H1 y = none := hsT.free hy
        have hDy : D ≠ y := ne_of_none hlD hy1
        refine ⟨ts.map V.ref, ?_, ?_, ts ++ [y], fun b o e => ?_, ?_, ?_⟩
        · rw [upd_ne hDy]
          exact hsT _ _ hlD
        · have := Paired.length m
          have l2 := preL_len z (R.HV.take i)
          have l3 := List.length_take_le i R.HV
          rw [List.length_map]
          exact smallS (by omega)
        · rw [upd_ne (ne_of_none e hD), upd_ne (ne_of_none (hs b o e) hy1)]
          exact hsT _ _ (hs b o e)
        · rw [upd_same, List.map_append]; rfl
        · rw [preL_snoc hq, if_pos cc]
          refine Paired.snoc (m.keep fun b xs e => ?_) ?_
          · have nb : b ≠ D := ne_of e hlD (by intro z; cases z)
            rw [upd_ne nb, upd_ne (ne_of_none e hy1)]
            exact hsT _ _ e
          · show upd _ D _ y = _
            rw [upd_ne hDy.symm]; exact upd_same
      · rw [Bool.eq_false_iff.mpr cc]
        refine iteF ⟨ts, fun b o e => hsT _ _ (hs b o e), hsT _ _ hlD, ?_⟩
        rw [preL_snoc hq, if_neg cc, List.append_nil]
        exact m.keep fun b xs e => hsT _ _ e
    · rintro H' ⟨ts, hs, hlD, m⟩
      have hde : H' R.dv = some (.frz od (.dK R.vk)) := hs _ _ upd_same
      rw [lv, List.take_length] at m
      have hDe : D ≠ R.dv := ne_of hlD hde (by intro z; cases z)
      have m2 : PairsAt (upd H' R.dv (.dK R.vk)) ts (preL z R.HV) := m.keep fun b xs e => by
        rw [upd_ne (ne_of e hde (by intro z; cases z))]; exact e
      refine ⟨hde, D, ts.map V.ref, kOfS (upd H' R.dv (.dK R.vk)), rfl, .inl (.inl (by rw [upd_ne hDe]; exact hlD)), tt_prem m2, fun ys q h1 h2 hq => ?_⟩
      have hb : ∀ x ∈ ys, ∃ t, x = V.ref t ∧ (upd H' R.dv (.dK R.vk)) t = some (.tup [.str (kOfS (upd H' R.dv (.dK R.vk)) x).1, .str (kOfS (upd H' R.dv (.dK R.vk)) x).2]) := fun x hx => tt_prem m2 x (h1.mem_iff.mp hx)
      obtain ⟨ts', rfl, m3⟩ := tt_back hb
      have pk : ((ts'.map V.ref).map (kOfS (upd H' R.dv (.dK R.vk)))).Perm (preL z R.HV) := by
        have e := h1.map (kOfS (upd H' R.dv (.dK R.vk)))
        rw [tt_keys m2] at e
        exact e
      have sm : Same H (upd H' R.dv (.dK R.vk)) := fun b o e => by
        by_cases hb : b = R.dv
        · subst hb
          rw [A1.va] at e
          cases e
          exact upd_same
        · rw [upd_ne hb]
          exact hs b o (by rw [upd_ne hb]; exact e)
      refine k q ts' _ _ (sm.trans (same_new hq)) (sm.free hq) upd_same (m3.keep fun b xs e => ?_) ?_
      · rw [upd_ne (ne_of_none e hq)]; exact e
      · have t := told_perm (preL_nodup A1.nH) pk (List.pairwise_map.mpr h2)
        have e : getP (preL z R.HV) = byPre r z := by
          funext k
          rw [preL_get]
          unfold byPre
          rw [A1.fh]
        rw [e] at t
        exact t
theorem api_pairs {k : Nat} {f : Addr} {fd : FuncData} {ps : List Str} (G : FnOk P w K mg base CX0 k f fd ps (spPairs0 c)) : FnOk P w K mg base CX0 k f fd ps (spRPairs (RsP c)) :=
  G.imp fun vs H Q E ⟨F, p, z, s, e, ⟨R, eF, A, Z⟩, oz, fit, q⟩ => ⟨p, z, R, s, e, A, Nat.le_trans (Nat.le_trans Z.h fit.rows) (by decide), fun x ts qs H' sm hx h1 h2 h3 =>
    q F x ts qs H' (RsP.frame ⟨R, eF, A, Z⟩ (Ch.of sm []) (fun _ _ z => nomatch z)) (Grow.refl _ _) (Ch.of sm _) hx (fun y => by
      subst eF
      obtain ⟨o, e⟩ := A.own x y
      rw [hx] at e
      cases e) h1 h2 h3⟩
end
end KL

namespace KL
open PySem L2 L2H LX KB KA1
/-! ### the program's room: watchers -/
structure WatT (K : PySem.W.Frag) (C : Addr) : Prop where
  cl : Cls K C
  n0 : NoAttr K C "prefix"
  n1 : NoAttr K C "told"
  n2 : NoAttr K C "had"
def spWatInit (C : Addr) : Sp := fun vs H Q _ => ∃ (p dx : Addr) (z : Str) (st : Int), vs = [.ref p, .str z, .int st] ∧ H p = some (.ins C dx []) ∧
  ∀ H', H' p = some (.ins C dx (wFl ⟨z, st - 1, st - 1⟩)) → Ch H H' [p] → Q .non H'
def spRefW (c : Cs) (kk : Kinds) : Sp := fun vs H Q E => ∃ (p : Addr) (n : Int) (R : Rc) (s : Rm), vs = [.ref p, .int n] ∧ RcAt c H p R s ∧ (s.wat n = none → E (.ref kk.NW) none H) ∧ (s.wat n ≠ none → Q .non H)
def spWatching (c : Cs) (kk : Kinds) : Sp := fun vs H Q E => ∃ (p : Addr) (n : Int) (R : Rc) (s : Rm), vs = [.ref p, .int n] ∧ RcAt c H p R s ∧ (s.wat n = none → E (.ref kk.NW) none H) ∧
  (∀ x w, getA R.WS n = some (x, w) → s.wat n = some w → Q (.ref x) H)
/-- a watcher goes on -/
def setW (R : Rc) (n : Int) (w : Wt) : List (Int × (Addr × Wt)) := R.WS.map fun y => if y.1 = n then (y.1, (y.2.1, w)) else y
theorem setW_addr (R : Rc) (n : Int) (w : Wt) : (setW R n w).map (·.2.1) = R.WS.map (·.2.1) := by
  unfold setW
  rw [List.map_map]
  refine List.map_congr_left fun y _ => ?_
  show (if y.1 = n then (y.1, (y.2.1, w)) else y).2.1 = y.2.1
  split <;> rfl
theorem setW_key (R : Rc) (n : Int) (w : Wt) : (setW R n w).map (·.1) = R.WS.map (·.1) := by
  unfold setW
  rw [List.map_map]
  refine List.map_congr_left fun y _ => ?_
  show (if y.1 = n then (y.1, (y.2.1, w)) else y).1 = y.1
  split <;> rfl
theorem setW_get {R : Rc} {n : Int} {w : Wt} {x : Addr} {w0 : Wt} (h : getA R.WS n = some (x, w0)) (j : Int) : getA (setW R n w) j = if n = j then some (x, w) else getA R.WS j := by
  unfold setW
  have go : ∀ l : List (Int × (Addr × Wt)), getA l n = some (x, w0) ∨ getA l n = none → getA (l.map fun y => if y.1 = n then (y.1, (y.2.1, w)) else y) j = if n = j then (getA l n).map fun y => (y.1, w) else getA l j := fun l => by
    induction l with
    | nil => intro _; split <;> rfl
    | cons q r ih =>
      intro hl
      rw [List.map_cons]
      by_cases e : q.1 = n
      · rw [if_pos e]
        by_cases c : n = j
        · rw [if_pos c, getA_pos (show ((q.1, (q.2.1, w)) : Int × (Addr × Wt)).1 = j from e.trans c), getA_pos e]
          rfl
        · rw [if_neg c, getA_neg (show ¬ ((q.1, (q.2.1, w)) : Int × (Addr × Wt)).1 = j from fun z => c (e.symm.trans z)), getA_neg fun z => c (e.symm.trans z)]
          have hr : ∀ r : List (Int × (Addr × Wt)), getA (r.map fun y => if y.1 = n then (y.1, (y.2.1, w)) else y) j = getA r j := fun r => by
            induction r with
            | nil => rfl
            | cons q r ih2 =>
              rw [List.map_cons]
              by_cases e2 : q.1 = n
              · rw [if_pos e2, getA_neg (show ¬ ((q.1, (q.2.1, w)) : Int × (Addr × Wt)).1 = j from fun z => c (e2.symm.trans z)), getA_neg fun z => c (e2.symm.trans z), ih2]
              · rw [if_neg e2]
                by_cases e3 : q.1 = j
                · rw [getA_pos e3, getA_pos e3]
                · rw [getA_neg e3, getA_neg e3, ih2]
          exact hr r
      · rw [if_neg e]
        rw [getA_neg e] at hl ⊢
        by_cases e3 : q.1 = j
        · have c : ¬ n = j := fun z => e (e3.trans z.symm)
          rw [getA_pos e3, if_neg c, getA_pos e3]
        · rw [getA_neg e3, ih hl, getA_neg e3]
  rw [go R.WS (.inl h), h]
  rfl
section
variable {c : Cs} {H H' : Hp} {p : Addr} {R : Rc} {s : Rm}
theorem RcAt.watF (A : RcAt c H p R s) {n : Int} {x : Addr} {w0 w : Wt} {dy : Addr} (g : getA R.WS n = some (x, w0)) (k : Ch H H' [x]) (h1 : H' x = some (.ins c.CW dy (wFl w))) (ep : w.pre = w0.pre) :
    RcAt c H' p { R with WS := setW R n w } { s with wat := setF s.wat n (some w) } := by
  have mx := getA_mem g
  obtain ⟨x1, x2, x3, x4, x5, x6, x7⟩ := A.neW mx
  have o : ∀ {a}, x ≠ a → a ∉ [x] := fun h z => h (List.mem_singleton.mp z).symm
  obtain ⟨dx, h⟩ := A.ob
  have an : (R.WS.map (·.2.1)).Nodup := by
    have n := A.nd
    unfold Rc.o at n
    simp only [List.nodup_cons, List.mem_cons, not_or] at n
    exact n.2.2.2.2.2.2.2
  have eo : Rc.o { R with WS := setW R n w } p = R.o p := by
    unfold Rc.o
    show _ :: _ :: _ :: _ :: _ :: _ :: _ :: (setW R n w).map (·.2.1) = _
    rw [setW_addr]
  have uniq : ∀ y ∈ R.WS, y.2.1 = x → y = (n, (x, w0)) := fun y hy e => by
    obtain ⟨i, hi⟩ := List.mem_iff_getElem?.mp hy
    obtain ⟨j, hj⟩ := List.mem_iff_getElem?.mp mx
    have hi2 : (R.WS.map (·.2.1))[i]? = some x := by rw [List.getElem?_map, hi]; exact congrArg some e
    have hj2 : (R.WS.map (·.2.1))[j]? = some x := by rw [List.getElem?_map, hj]; rfl
    have ij : i = j := (List.getElem?_inj (List.getElem?_eq_some_iff.mp hi2).1 an).mp (hi2.trans hj2.symm)
    subst ij
    rw [hi] at hj
    exact Option.some.inj hj
  refine ⟨⟨dx, k.at h (o x1)⟩, A.lt.ch k (o x2) (o x3) (o x4), A.lg.frame k (fun a ha => o fun z => A.dj a ha (by rw [← z]; exact A.wIn mx)), k.at A.va (o x5), k.at A.ho (o x6), k.at A.wa (o x7), fun y hy => ?_, A.rv, A.rh, ?_, by rw [eo]; exact A.nd, fun a ha => by rw [eo]; exact A.dj a ha,
    A.fe, A.fs, A.fh, ?_, A.nE, A.nH, by show ((setW R n w).map (·.1)).Nodup; rw [setW_key]; exact A.nW, fun y hy => ?_, A.kH, fun y hy => ?_⟩
  · obtain ⟨y0, hy0, rfl⟩ := List.mem_map.mp hy
    by_cases e : y0.1 = n
    · rw [if_pos e]
      have e2 : y0.2 = (x, w0) := by
        have g2 := getA_of A.nW hy0
        rw [e, g] at g2
        exact (Option.some.inj g2).symm
      refine ⟨dy, ?_⟩
      show H' y0.2.1 = _
      rw [e2]
      exact h1
    · rw [if_neg e]
      obtain ⟨dz, hz⟩ := A.wo y0 hy0
      exact ⟨dz, k.at hz (o fun z => e (by rw [uniq y0 hy0 z.symm]))⟩
  · show DRel Sum.inl isW (setW R n w) R.wk
    have go : ∀ {l : List (Int × (Addr × Wt))} {kvs : List (Key × V)}, DRel Sum.inl isW l kvs → DRel Sum.inl isW (l.map fun y => if y.1 = n then (y.1, (y.2.1, w)) else y) kvs := fun m => by
      induction m with
      | nil => exact .nil
      | cons r m ih =>
        rename_i a b l1 l2
        refine .cons ?_ ih
        show b.1 = Sum.inl (if a.1 = n then (a.1, (a.2.1, w)) else a).1 ∧ b.2 = V.ref (if a.1 = n then (a.1, (a.2.1, w)) else a).2.1
        by_cases e : a.1 = n
        · rw [if_pos e]; exact r
        · rw [if_neg e]; exact r
    exact go A.rw_
  · funext j
    show setF s.wat n (some w) j = (getA (setW R n w) j).map (·.2)
    rw [setW_get g, A.fw]
    unfold setF
    split <;> rfl
  · obtain ⟨y0, hy0, rfl⟩ := List.mem_map.mp hy
    have q := A.kW y0 hy0
    split <;> exact q
  · obtain ⟨y0, hy0, rfl⟩ := List.mem_map.mp hy
    by_cases e : y0.1 = n
    · rw [if_pos e]
      show TOk 60 w.pre
      rw [ep]
      exact A.wP _ mx
    · rw [if_neg e]
      exact A.wP y0 hy0
end
section
variable {P : Program} {w : World} {K : PySem.W.Frag} {mg : Str → Option Value} {base : Heap} {c : Cs} {kk : Kinds}
theorem ok_Watcher_init {f C : Addr} {fd : FuncData} (F : Fun K "__init__" "Watcher.__init__" s_Watcher_init f fd) (T : WatT K C) : FnOk P w K mg base CX0 1 f fd p_Watcher_init (spWatInit C) := by
  refine F.ok sc_Watcher_init (fun vs H Q E h => ?_) (fun cdv A outer s H vs Q E hr h => ?_)
  · obtain ⟨p, dx, z, st, rfl, _⟩ := h
    rfl
  · obtain ⟨p, dx, z, st, rfl, hp, k⟩ := h
    refine ⟨_, pss_cons (ps_fld (pv 0) (pv 1) rfl) (pss_cons (ps_fld (pv 0) (pe_op op_sub (pv 2) pe_int) rfl) (pss_one (ps_fld (pv 0) (pe_op op_sub (pv 2) pe_int) rfl))), ?_⟩
    refine ⟨_, rfl, _, rfl, p, C, dx, [], rfl, hp, T.cl, T.n0, (by show 0 < 1000; decide), ?_⟩
    refine ⟨_, rfl, _, _, rfl, rfl, _, rfl, p, C, dx, _, rfl, upd_same, T.cl, T.n1, (by show 1 < 1000; decide), ?_⟩
    refine ⟨_, rfl, _, _, rfl, rfl, _, rfl, p, C, dx, _, rfl, upd_same, T.cl, T.n2, (by show 2 < 1000; decide), ?_⟩
    exact k _ upd_same ((((Ch.refl H [p]).mut (by simp) hp (fun _ z => by cases z)).mut (by simp) hp (fun _ z => by cases z)).mut (by simp) hp (fun _ z => by cases z))
theorem ok_Room_refuse_watcher {f : Addr} {fd : FuncData} (F : Fun K "_refuse_watcher" "Room._refuse_watcher" s_Room_u_refuse_watcher f fd) (T : RomT K c.C) (N : ErrT K mg "NoWatch" kk.NW) : FnOk P w K mg base (L2.CX P w) 1 f fd p_Room_u_refuse_watcher (spRefW c kk) := by
  refine F.okX sc_Room_u_refuse_watcher (fun vs H Q E h => ?_) (fun cdv A outer s H vs Q E hr h => ?_)
  · obtain ⟨p, n, R, s, rfl, _⟩ := h
    rfl
  · obtain ⟨p, n, R, r, rfl, A1, k1, k2⟩ := h
    obtain ⟨dx, hp⟩ := A1.ob
    have hu := hu_of hr
    refine ⟨_, pss_one (ps_if (pt_cmp (pc_dnotin hu (pv 1) (pe_fld (pv 0) rfl))) (pss_one (ps_raise rfl (takes_of rfl rfl rfl rfl) (pmk_own PySem.F.excBase_ValueError N.x N.g N.k (raises_own N.b N.t) rfl))) pss_nil), ?_⟩
    refine ⟨_, rfl, _, rfl, p, c.C, dx, _, _, rfl, hp, T.cl, T.n6, zf_get (i := 6) (by decide +kernel) rfl, R.dw, _, rfl, DGet.k (k := Sum.inl n) A1.wa, _, rfl, ?_⟩
    have ev := A1.rw_.isSome inl_inj n
    have ew : r.wat n = (getA R.WS n).map (·.2) := congrFun A1.fw n
    cases e : valV R.wk (Sum.inl n) with
    | none =>
      rw [e] at ev
      refine iteT (k1 ?_)
      rw [ew]
      cases g : getA R.WS n with
      | none => rfl
      | some x => rw [g] at ev; cases ev
    | some x =>
      rw [e] at ev
      refine iteF (k2 fun z => ?_)
      rw [ew] at z
      cases g : getA R.WS n with
      | none => rw [g] at ev; cases ev
      | some x => rw [g] at z; cases z
theorem ok_Room_watching {f fW : Addr} {fd fdW : FuncData} {psW : List Str} (F : Fun K "_watching" "Room._watching" s_Room_u_watching f fd) (T : RomT K c.C) (mW : Meth K c.C "_refuse_watcher" fW) (bW : Binds K fdW psW []) (GW : FnOk P w K mg base (L2.CX P w) 1 fW fdW psW (spRefW c kk)) :
    FnOk P w K mg base (L2.CX P w) 2 f fd p_Room_u_watching (spWatching c kk) := by
  refine F.okX sc_Room_u_watching (fun vs H Q E h => ?_) (fun cdv A outer s H vs Q E hr h => ?_)
  · obtain ⟨p, n, R, s, rfl, _⟩ := h
    rfl
  · obtain ⟨p, n, R, r, rfl, A1, k1, k2⟩ := h
    obtain ⟨dx, hp⟩ := A1.ob
    have hu := hu_of hr
    refine ⟨_, pss_cons (ps_expr (pe_meth (E := E) (pv 0) T.cl mW GW hr bW .nil (passes_call (takes_of rfl rfl rfl rfl) (fun _ _ _ _ h => h)) (pa_cons (pv 1) pa_nil)))
      (pss_one (ps_ret (pe_dget hu (pe_fld (pv 0) rfl) (pv 1) (fun _ _ => rfl)))), ?_⟩
    refine ⟨_, rfl, p, dx, _, rfl, hp, zf_no (by decide +kernel), _, rfl, p, n, R, r, rfl, A1, k1, fun ne => ?_⟩
    have ew : r.wat n = (getA R.WS n).map (·.2) := congrFun A1.fw n
    cases g : getA R.WS n with
    | none => rw [ew, g] at ne; exact absurd rfl ne
    | some x =>
      obtain ⟨v, e1, e2⟩ := A1.rw_.some_ inl_inj g
      have gg := DGet.k (k := Sum.inl n) A1.wa
      rw [e1, e2] at gg
      refine ⟨_, rfl, p, c.C, dx, _, _, rfl, hp, T.cl, T.n6, zf_get (i := 6) (by decide +kernel) rfl, _, rfl, R.dw, _, rfl, gg, k2 x.1 x.2 g ?_⟩
      rw [ew, g]
      rfl
end
end KL

namespace KL
open PySem L2 L2H LX KB KA1
/-! ### the program's room: a watcher is put in -/
section
variable {c : Cs} {H H' : Hp} {p : Addr} {R : Rc} {s : Rm}
theorem RcAt.watN (A : RcAt c H p R s) {x dx dy : Addr} {w : Wt} (nx : H x = none) (k : Ch H H' [p, R.dw]) (h1 : H' p = some (.ins c.C dx (rFl { s with met := s.met + 1 } R))) (h2 : H' R.dw = some (.dK (putK R.wk (Sum.inl ((s.met : Int) + 1)) (.ref x)))) (h3 : H' x = some (.ins c.CW dy (wFl w))) (ok : TOk 60 w.pre) :
    RcAt c H' p { R with WS := R.WS ++ [((s.met : Int) + 1, (x, w))], wk := putK R.wk (Sum.inl ((s.met : Int) + 1)) (.ref x) } { s with met := s.met + 1, wat := setF s.wat ((s.met : Int) + 1) (some w) } := by
  obtain ⟨⟨a1, a2, a3, a4, a5, a6⟩, ⟨b1, b2, b3, b4, b5⟩, ⟨c1, c2, c3, c4⟩, ⟨d1, d2, d3⟩, ⟨e1, e2⟩, f1⟩ := A.ne7
  have o2 : ∀ {a}, a ≠ p → a ≠ R.dw → a ∉ [p, R.dw] := fun h1 h2 z => by
    simp only [List.mem_cons, List.not_mem_nil, or_false] at z
    rcases z with z | z
    · exact h1 z
    · exact h2 z
  have g : getA R.WS ((s.met : Int) + 1) = none := by
    refine getA_none.mpr fun m => ?_
    obtain ⟨y, hy, e⟩ := List.mem_map.mp m
    have q := A.kW y hy
    omega
  have eo : ∀ a, a ∈ Rc.o { R with WS := R.WS ++ [((s.met : Int) + 1, (x, w))], wk := putK R.wk (Sum.inl ((s.met : Int) + 1)) (.ref x) } p ↔ a ∈ R.o p ∨ a = x := fun a => by
    unfold Rc.o
    simp only [List.map_append, List.map_cons, List.map_nil, List.mem_cons, List.mem_append, List.not_mem_nil, or_false, or_assoc]
  have nin : x ∉ R.o p := fun m => by
    obtain ⟨o, e⟩ := A.own x (List.mem_append_left _ m)
    rw [nx] at e
    cases e
  have ng : x ∉ R.Fg := fun m => by
    obtain ⟨o, e⟩ := A.own x (List.mem_append_right _ m)
    rw [nx] at e
    cases e
  refine ⟨⟨dx, h1⟩, A.lt.ch k (o2 a1.symm b5) (o2 a2.symm c4) (o2 a3.symm d3), A.lg.frame k (fun a ha => o2 ?_ ?_), k.at A.va (o2 a4.symm e2), k.at A.ho (o2 a5.symm f1), h2, fun y hy => ?_, A.rv, A.rh, ?_, ?_, fun a ha z => ?_,
    A.fe, A.fs, A.fh, ?_, A.nE, A.nH, ?_, fun y hy => ?_, A.kH, fun y hy => ?_⟩
  · intro z; exact A.dj a ha (by rw [z]; simp [Rc.o])
  · intro z; exact A.dj a ha (by rw [z]; simp [Rc.o])
  · rcases List.mem_append.mp hy with hy | hy
    · obtain ⟨dz, hz⟩ := A.wo y hy
      have q := A.neW hy
      exact ⟨dz, k.at hz (o2 q.1 q.2.2.2.2.2.2)⟩
    · rw [List.mem_singleton.mp hy]
      exact ⟨dy, h3⟩
  · have q := A.rw_.put inl_inj (k := (s.met : Int) + 1) (b := (x, w)) (v := .ref x) rfl
    rw [putA_new g] at q
    exact q
  · have nd := A.nd
    unfold Rc.o at nd nin ⊢
    simp only [List.map_append, List.map_cons, List.map_nil]
    have e : p :: R.pl :: R.dt :: R.de :: R.dv :: R.dh :: R.dw :: (R.WS.map (·.2.1) ++ [x]) = (p :: R.pl :: R.dt :: R.de :: R.dv :: R.dh :: R.dw :: R.WS.map (·.2.1)) ++ [x] := rfl
    show (p :: R.pl :: R.dt :: R.de :: R.dv :: R.dh :: R.dw :: (R.WS.map (·.2.1) ++ [x])).Nodup
    rw [e]
    refine List.nodup_append.mpr ⟨nd, List.nodup_cons.mpr ⟨by simp, List.nodup_nil⟩, fun a ha b hb z => nin ?_⟩
    rw [← List.mem_singleton.mp hb, ← z]
    exact ha
  · rcases (eo a).mp z with z | z
    · exact A.dj a ha z
    · exact ng (z ▸ ha)
  · funext j
    show setF s.wat ((s.met : Int) + 1) (some w) j = (getA (R.WS ++ [((s.met : Int) + 1, (x, w))]) j).map (·.2)
    rw [getA_app g, A.fw]
    unfold setF
    split <;> rfl
  · rw [List.map_append]
    refine List.nodup_append.mpr ⟨A.nW, List.nodup_cons.mpr ⟨by simp, List.nodup_nil⟩, fun a ha b hb z => getA_none.mp g ?_⟩
    have hb : b = (s.met : Int) + 1 := List.mem_singleton.mp hb
    rw [← hb, ← z]
    exact ha
  · show y.1 ≤ (((s.met + 1 : Nat)) : Int)
    rcases List.mem_append.mp hy with hy | hy
    · have q := A.kW y hy
      omega
    · rw [List.mem_singleton.mp hy]
      show (s.met : Int) + 1 ≤ _
      omega
  · rcases List.mem_append.mp hy with hy | hy
    · exact A.wP y hy
    · rw [List.mem_singleton.mp hy]
      exact ok
end
section
variable {P : Program} {w : World} {K : PySem.W.Frag} {mg : Str → Option Value} {base : Heap} {c : Cs} {kk : Kinds}
theorem ok_Room_watch {f fI fF fL : Addr} {fd fdI fdF fdL : FuncData} {psI psF psL : List Str} (F : Fun K "watch" "Room.watch" s_Room_watch f fd) (T : RomT K c.C) (N : ErrT K mg "NoStart" kk.NS) (gW : mg "Watcher" = some (.ref c.CW)) (MW : Mk K c.CW fI) (bI : Binds K fdI psI []) (GI : FnOk P w K mg base CX0 1 fI fdI psI (spWatInit c.CW))
    (mF : Meth K c.C "first" fF) (bF : Binds K fdF psF []) (GF : FnOk P w K mg base CX0 2 fF fdF psF (spRFirst0 c)) (mL : Meth K c.C "last" fL) (bL : Binds K fdL psL []) (GL : FnOk P w K mg base CX0 2 fL fdL psL (spRLast0 c)) :
    FnOk P w K mg base (L2.CX P w) 3 f fd p_Room_watch (spRWatch kk (RsP c)) := by
  refine F.okX sc_Room_watch (fun vs H Q E h => ?_) (fun cdv A outer s H vs Q E hr h => ?_)
  · obtain ⟨Fo, p, z, st, s, rfl, _⟩ := h
    rfl
  · obtain ⟨Fo, p, z, st, r, rfl, ⟨R, rfl, A1, Z⟩, oz, fit, kb, k⟩ := h
    obtain ⟨dx, hp⟩ := A1.ob
    have hu := hu_of hr
    have hr2 : Room 2 _ := hr.mono (by decide)
    refine ⟨_, pss_cons (ps_if (PW.pt (pw_or (pt_cmpR op_lt (pv 2) (pe_meth0 (E := E0) (pv 0) T.cl mF GF hr2 bF .nil pass0) (nomark _)) (pw_or1 (pt_cmpR op_gt (pv 2) (pe_op op_add (pe_meth0 (E := E0) (pv 0) T.cl mL GL hr2 bL .nil pass0) pe_int) (nomark _)))))
        (pss_one (ps_raise rfl (takes_of rfl rfl rfl rfl) (pmk_own PySem.F.excBase_ValueError N.x N.g N.k (raises_own N.b N.t) rfl))) pss_nil)
      (PSs.nox (pss_cons (ps_fldaug (pv 0) pe_int in_add)
      (pss_cons (ps_dput hu (pe_fld (pv 0) rfl) (pe_fld (pv 0) rfl) (pe_make (E := E0) MW GI (hr.mono (by decide)) rfl gW bI .nil pass0 (pa_cons (pv 1) (pa_cons (pv 2) pa_nil))) rfl)
      (pss_one (ps_ret (pe_fld (pv 0) rfl)))))), ?_⟩
    refine ⟨_, rfl, _, rfl, p, dx, _, rfl, hp, zf_no (by decide +kernel), p, R, r, rfl, A1, _, _, rfl, rfl, _, rfl, ?_⟩
    by_cases c1 : st < (r.gone : Int) + 1
    · rw [decide_eq_true c1]
      exact iteT (iteT (kb (.inl c1) _ H ⟨R, rfl, A1, Z⟩ (Grow.refl _ _) (Ch.refl _ _)))
    rw [decide_eq_false c1]
    refine iteF ⟨_, rfl, _, rfl, p, dx, _, rfl, hp, zf_no (by decide +kernel), p, R, r, rfl, A1, _, _, rfl, rfl, _, _, rfl, rfl, _, rfl, ?_⟩
    by_cases c2 : st > (r.rows.length : Int) + 1
    · rw [decide_eq_true c2]
      exact iteT (kb (.inr c2) _ H ⟨R, rfl, A1, Z⟩ (Grow.refl _ _) (Ch.refl _ _))
    rw [decide_eq_false c2]
    refine iteF ?_
    have k := k (Int.not_lt.mp c1) (Int.not_lt.mp c2)
    refine ⟨_, rfl, p, c.C, dx, _, _, rfl, hp, T.cl, T.n5, zf_get (i := 5) (by decide +kernel) rfl, _, _, rfl, rfl, dx, _, hp, (by show 7 < 1000; decide), ?_⟩
    rw [zf_put (i := 5) (by decide +kernel) rfl]
    have cp : Ch H (upd H p (.ins c.C dx (rFl { r with met := r.met + 1 } R))) [p] := (Ch.refl _ _).mut (by simp) hp (fun _ z => by cases z)
    have hp2 : upd H p (.ins c.C dx (rFl { r with met := r.met + 1 } R)) p = some (.ins c.C dx (rFl { r with met := r.met + 1 } R)) := upd_same
    change tSeq _ _ _ _ (upd H p (.ins c.C dx (rFl { r with met := r.met + 1 } R)))
    generalize upd H p (.ins c.C dx (rFl { r with met := r.met + 1 } R)) = H2 at cp hp2 ⊢
    refine ⟨_, rfl, _, rfl, fun x dy nx ndy ndx => ⟨x, dy, z, st, rfl, upd_same, fun H3 h3 c3 => ⟨rfl, ?_⟩⟩⟩
    obtain ⟨s3, _⟩ := made_same nx ndy c3
    have hp3 := s3 _ _ hp2
    have nw : p ≠ R.dw := A1.ne7.1.2.2.2.2.2
    have hw3 : H3 R.dw = some (.dK R.wk) := s3 _ _ (cp.at A1.wa fun z => nw (List.mem_singleton.mp z).symm)
    have g5 : (rFl { r with met := r.met + 1 } R).lookup ("_entered" : Str) = some (.int ((r.met : Int) + 1)) := zf_get (i := 5) (by decide +kernel) rfl
    have f1 := fit.met
    have z1 := Z.w
    have z2 := A1.rw_.len
    refine ⟨_, rfl, p, c.C, dx, _, _, rfl, hp3, T.cl, T.n6, zf_get (i := 6) (by decide +kernel) rfl, _, rfl, p, c.C, dx, _, _, rfl, hp3, T.cl, T.n5, g5, R.dw, _, rfl, DPut.k (k := Sum.inl ((r.met : Int) + 1)) hw3 (smallS (by omega)), ?_⟩
    have nx0 : H x = none := cp.none x nx
    have npx : p ≠ x := ne_of_none hp nx0
    have nwx : R.dw ≠ x := ne_of_none A1.wa nx0
    have c4 : Ch H3 (upd H3 R.dw (.dK (putK R.wk (Sum.inl ((r.met : Int) + 1)) (.ref x)))) [R.dw] := (Ch.refl _ _).mut (by simp) hw3 (fun _ z => by cases z)
    have call : Ch H (upd H3 R.dw (.dK (putK R.wk (Sum.inl ((r.met : Int) + 1)) (.ref x)))) [p, R.dw] := ((cp.same s3).mono (by simp)).trans (c4.mono (by simp))
    have A2 := A1.watN (dx := dx) (dy := dy) (w := ⟨z, st - 1, st - 1⟩) nx0 call (by rw [upd_ne nw]; exact hp3) upd_same (by rw [upd_ne nwx.symm]; exact h3) oz
    refine ⟨_, rfl, p, c.C, dx, _, _, rfl, by rw [upd_ne nw]; exact hp3, T.cl, T.n5, g5, ?_⟩
    refine k _ _ ⟨_, rfl, A2, ⟨Z.t, Z.e, Z.h, ?_, fun y hy => ?_⟩⟩ (fun a ha => ?_) (call.mono fun a ha => ?_)
    · show (R.WS ++ [_]).length ≤ r.met + 1
      rw [List.length_append]
      exact Nat.succ_le_succ z1
    · rcases List.mem_append.mp hy with hy | hy
      · exact Z.wt y hy
      · rw [List.mem_singleton.mp hy]
        show st - 1 ≤ (r.rows.length : Int) ∧ st - 1 ≤ (r.rows.length : Int)
        omega
    · rcases List.mem_append.mp ha with h | h
      · unfold Rc.o at h
        simp only [List.map_append, List.map_cons, List.map_nil, List.mem_cons, List.mem_append, List.not_mem_nil, or_false] at h
        have q : a ∈ R.o p ∨ a = x := by
          unfold Rc.o
          simp only [List.mem_cons]
          rcases h with h | h | h | h | h | h | h | h | h
          · exact .inl (.inl h)
          · exact .inl (.inr (.inl h))
          · exact .inl (.inr (.inr (.inl h)))
          · exact .inl (.inr (.inr (.inr (.inl h))))
          · exact .inl (.inr (.inr (.inr (.inr (.inl h)))))
          · exact .inl (.inr (.inr (.inr (.inr (.inr (.inl h))))))
          · exact .inl (.inr (.inr (.inr (.inr (.inr (.inr (.inl h)))))))
          · exact .inl (.inr (.inr (.inr (.inr (.inr (.inr (.inr h)))))))
          · exact .inr h
        rcases q with q | q
        · exact .inl (List.mem_append_left _ q)
        · exact .inr (q ▸ nx0)
      · exact .inl (List.mem_append_right _ h)
    · simp only [List.mem_cons, List.not_mem_nil, or_false] at ha
      rcases ha with rfl | rfl <;> exact List.mem_append_left _ (by simp [Rc.o])
end
end KL

namespace KL
open PySem L2 L2H LX KB
/-! ### what a log is wanted for -/
theorem numDrop {rs : List Row} (h : Num rs) {g i : Nat} {r : Row} (e : (rs.drop g)[i]? = some r) : r.n = (g : Int) + i + 1 := by
  rw [List.getElem?_drop] at e
  have := h _ _ e
  omega
/-- the first ones that are not above b are passed over at once -/
theorem filter_from {rs : List Row} (h : Num rs) (g : Nat) (p : Str) (b : Int) : (rs.drop g).filter (fun r => decide (r.n > b) && isPre p r.k) = ((rs.drop g).drop (b - g).toNat).filter fun r => isPre p r.k := by
  rw [← List.take_append_drop (b - g).toNat (rs.drop g), List.filter_append]
  have e1 : ((rs.drop g).take (b - g).toNat).filter (fun r => decide (r.n > b) && isPre p r.k) = [] := by
    refine List.filter_eq_nil_iff.mpr fun r hr => ?_
    obtain ⟨i, hi⟩ := List.mem_iff_getElem?.mp hr
    rw [List.getElem?_take] at hi
    by_cases c : i < (b - g).toNat
    · rw [if_pos c] at hi
      have := numDrop h hi
      rw [decide_eq_false (by omega), Bool.false_and]
      decide
    · rw [if_neg c] at hi; cases hi
  have e2 : ((rs.drop g).drop (b - g).toNat).filter (fun r => decide (r.n > b) && isPre p r.k) = ((rs.drop g).drop (b - g).toNat).filter fun r => isPre p r.k := by
    refine List.filter_congr fun r hr => ?_
    obtain ⟨i, hi⟩ := List.mem_iff_getElem?.mp hr
    rw [List.drop_drop] at hi
    have := numDrop h hi
    rw [decide_eq_true (by omega), Bool.true_and]
  rw [e1, e2, List.nil_append, List.take_append_drop]
theorem take_snoc {l : List Row} {i : Nat} {r : Row} (h : l[i]? = some r) : l.take (i + 1) = l.take i ++ [r] := by
  rw [List.take_add_one, h]; rfl
section
variable {P : Program} {w : World} {K : PySem.W.Frag} {mg : Str → Option Value} {base : Heap}
theorem ok_Log_wanted {f C : Addr} {fd : FuncData} (F : Fun K "wanted" "Log.wanted" s_Log_wanted f fd) (T : LogT K C) (ml : mg "len" = none) (mm : mg "max" = none) (mr : mg "range" = none) : FnOk P w K mg base CX0 1 f fd p_Log_wanted (spLogWanted (LgP C)) := by
  refine F.ok sc_Log_wanted (fun vs H Q E h => ?_) (fun cdv A outer s H vs Q E hr h => ?_)
  · obtain ⟨Fs, p, z, b, m, rs, g, rfl, _⟩ := h
    rfl
  · obtain ⟨Fs, p, z, b, m, rs, g, rfl, LP, oz, hm, hb, hl, k⟩ := h
    obtain ⟨q, ts, rfl, L⟩ := id LP
    obtain ⟨dx, hp⟩ := L.ob
    refine ⟨_, pss_cons (ps_set (i := 4) sc_Log_wanted.nd rfl (Or.inl rfl) (pe_lst pa_nil))
      (pss_cons (ps_for PassesOwn.never rfl (pi_range2 (by rfl) mr (pa_cons (pe_callB (call_max2 rfl) (by rfl) mm (by decide +kernel) (pa_cons pe_int (pa_cons (pe_op op_sub (pv 2) (pe_fld (pv 0) rfl)) pa_nil)))
          (pa_cons (pe_callB call_len_seq (by rfl) ml PySem.boot_len (pa_cons (pe_fld (pv 0) rfl) pa_nil)) pa_nil))) (pg_name (i := 5) sc_Log_wanted.nd rfl (Or.inl rfl))
        (pss_cons (ps_if (pt_cmpR op_ge (pe_callB call_len_seq (by rfl) ml PySem.boot_len (pa_cons (pv 4) pa_nil)) (pv 3) (nomark _)) (pss_one ps_break) pss_nil)
        (pss_cons (ps_set (i := 6) sc_Log_wanted.nd rfl (Or.inl rfl) (pe_ix ix_list (pe_fld (pv 0) rfl) (pv 5) (fun _ _ => rfl)))
        (pss_one (ps_if (pt_val (pe_m1 PySem.F.slot_str_startswith PySem.F.type_str_startswith mt_startswith (pe_ix ix_tup (pv 6) pe_int (fun _ _ => rfl)) (pv 1))) (pss_one (ps_expr (pe_bm PySem.F.plainAttrs_list PySem.F.slot_list_append PySem.F.type_list_append mt_append (pv 4) (pa_cons (pv 6) pa_nil)))) pss_nil)))))
      (pss_one (ps_ret (pv 4)))), ?_⟩
    refine ⟨(by show 0 ≤ sizeLine; decide), fun d hd => ?_⟩
    have npd : p ≠ d := ne_of_none hp hd
    have nqd : q ≠ d := ne_of_none L.kp hd
    have hp1 : upd H d (.lst []) p = some (.ins C dx (nsLog.zip [.int g, .ref q])) := by rw [upd_ne npd]; exact hp
    have hq1 : upd H d (.lst []) q = some (.lst (ts.map V.ref)) := by rw [upd_ne nqd]; exact L.kp
    have gF : (nsLog.zip [V.int (g : Int), V.ref q]).lookup ("_forgotten" : Str) = some (.int g) := zf_get (i := 0) (by decide +kernel) rfl
    have gK : (nsLog.zip [V.int (g : Int), V.ref q]).lookup ("_kept" : Str) = some (.ref q) := zf_get (i := 1) (by decide +kernel) rfl
    have lt : (ts.map V.ref).length = rs.length - g := by rw [List.length_map, L.len]
    refine ⟨_, rfl, _, rfl, p, C, dx, _, _, rfl, hp1, T.cl, T.nF, gF, _, _, rfl, rfl, _, _, rfl, _, rfl, p, C, dx, _, _, rfl, hp1, T.cl, T.nK, gK, q, _, rfl, .inl (SqL.of hq1), _, _, rfl, ?_⟩
    have elo : (if b - (g : Int) > 0 then b - (g : Int) else 0) = (((b - g).toNat : Nat) : Int) := by split <;> omega
    rw [elo, lt]
    have le := L.le
    refine ⟨by omega, ?_⟩
    have en : (((rs.length - g : Nat) : Int) - (((b - g).toNat : Nat) : Int)).toNat = ((rs.drop g).drop (b - g).toNat).length := by
      rw [List.length_drop, List.length_drop]
      omega
    rw [en]
    have ekey : wantedM rs g z b m = (((rs.drop g).drop (b - g).toNat).filter fun r => isPre z r.k).take m.toNat := by
      unfold wantedM
      rw [filter_from L.num]
    generalize hks : (rs.drop g).drop (b - g).toNat = ks at en ekey ⊢
    have s1 : Same H (upd H d (.lst [])) := same_new hd
    -- what is told at the end
    have fin : ∀ {us : List Addr} {H' : Hp}, Same H H' → H' d = some (.lst (us.map V.ref)) → RowsAt H' us (wantedM rs g z b m) → Q (.ref d) H' := fun {us H'} sm h1 h2 =>
      k [p, q] d us H' (LP.frame (Ch.of sm []) (fun _ _ z => nomatch z)) (Grow.refl _ _) (Ch.of sm _) hd (fun y => by
        simp only [List.mem_cons, List.not_mem_nil, or_false] at y
        rcases y with y | y
        · exact npd y.symm
        · exact nqd y.symm) h1 h2
    refine for_range (lo := (((b - g).toNat : Nat) : Int)) (n := ks.length) (fun i σ H' => ∃ (us : List Addr) (y5 y6 : Option V), σ = [some (.ref p), some (.str z), some (.int b), some (.int m), some (.ref d), y5, y6] ∧ Same H H' ∧ H' d = some (.lst (us.map V.ref)) ∧
      RowsAt H' us ((ks.take i).filter fun r => isPre z r.k) ∧ (us.length : Int) ≤ m) ⟨[], none, none, rfl, s1, upd_same, .nil, hm⟩ ?_ ?_
    · rintro i σ H1 hi ⟨us, y5, y6, rfl, sm, hd1, hr1, hlm⟩
      obtain ⟨r, hr⟩ : ∃ r, ks[i]? = some r := ⟨ks[i], by simp [hi]⟩
      have hp2 := sm _ _ hp
      have hq2 := sm _ _ L.kp
      have hul : us.length ≤ rs.length := by
        have h1 := Paired.length hr1
        have h2 := List.length_filter_le (fun r => isPre z r.k) (ks.take i)
        have h3 := List.length_take_le i ks
        have h4 : ks.length ≤ rs.length := by
          rw [← hks, List.length_drop, List.length_drop]
          omega
        omega
      refine ⟨_, rfl, d, _, rfl, .inl (SqL.of hd1), _, rfl, _, _, rfl, rfl, _, rfl, ?_⟩
      rw [List.length_map]
      by_cases c1 : (us.length : Int) ≥ m
      · rw [decide_eq_true c1]
        refine iteT ⟨_, rfl, fin sm hd1 ?_⟩
        have e : wantedM rs g z b m = (ks.take i).filter fun r => isPre z r.k := by
          rw [ekey]
          have h1 := Paired.length hr1
          conv => lhs; rw [← List.take_append_drop i ks, List.filter_append]
          exact List.take_left' (by omega)
        rw [e]
        exact hr1
      rw [decide_eq_false c1]
      refine iteF ?_
      have hx : (rs.drop g)[(b - g).toNat + i]? = some r := by
        rw [← hks, List.getElem?_drop] at hr
        exact hr
      obtain ⟨t, ht, ht2⟩ : ∃ t, (ts.map V.ref)[(b - g).toNat + i]? = some (.ref t) ∧ H1 t = some (.tup r.V) := by
        have hlt : (b - g).toNat + i < (ts.map V.ref).length := by
          rw [List.length_map, Paired.length L.at_]
          exact (List.getElem?_eq_some_iff.mp hx).1
        obtain ⟨t, r', e1, e2, e3⟩ := RowsAt.at L.at_ (List.getElem?_eq_getElem hlt)
        rw [hx] at e2
        cases e2
        exact ⟨t, by rw [List.getElem?_eq_getElem hlt, e1], sm _ _ e3⟩
      have hat : atI (ts.map V.ref) ((((b - g).toNat : Nat) : Int) + (i : Int)) = some (.ref t) := by
        have e : ((((b - g).toNat : Nat) : Int) + (i : Int)) = (((b - g).toNat + i : Nat) : Int) := by omega
        rw [e]
        exact atI_nat ht
      refine ⟨_, rfl, p, C, dx, _, _, rfl, hp2, T.cl, T.nK, gK, _, rfl, q, _, _, _, rfl, rfl, SqL.of hq2, hat, ?_⟩
      refine ⟨_, rfl, t, _, 3, .str r.k, rfl, rfl, SqT.of ht2, rfl, ⟨_, rfl⟩, _, rfl, _, _, rfl, rfl, _, rfl, ?_⟩
      rw [starts_isPre, take_snoc hr, List.filter_append]
      by_cases c2 : isPre z r.k = true
      · rw [c2, List.filter_cons_of_pos (by exact c2), List.filter_nil]
        refine iteT ⟨_, rfl, .inl ⟨rfl, _, SqL.of hd1⟩, _, rfl, d, _, _, rfl, rfl, hd1, by rw [List.length_map]; exact smallS (by omega), ?_⟩
        have cD : Ch H1 (upd H1 d (.lst (us.map V.ref ++ [.ref t]))) [d] := (Ch.refl _ _).mut (List.mem_singleton.mpr rfl) hd1 (fun xs e => by cases e)
        refine ⟨us ++ [t], _, _, rfl, ?_, by rw [upd_same, List.map_append]; rfl, Paired.snoc (hr1.keep cD.tup) (cD.tup _ _ ht2), by rw [List.length_append]; simp only [List.length_cons, List.length_nil]; omega⟩
        exact fun b o e => cD.at (sm _ _ e) fun y => ne_of_none e hd (List.mem_singleton.mp y)
      · rw [Bool.eq_false_iff.mpr c2, List.filter_cons_of_neg (by exact c2), List.filter_nil, List.append_nil]
        exact iteF ⟨us, _, _, rfl, sm, hd1, hr1, hlm⟩
    · rintro σ H1 ⟨us, y5, y6, rfl, sm, hd1, hr1, hlm⟩
      rw [List.take_length] at hr1
      refine ⟨_, rfl, fin sm hd1 ?_⟩
      rw [ekey, List.take_of_length_le (by have := Paired.length hr1; omega)]
      exact hr1
end
end KL

namespace KL
open PySem L2 L2H LX KB KA1
/-! ### the program's room: a watcher goes on -/
section
variable {c : Cs} {H H' : Hp} {p : Addr} {R : Rc} {s : Rm}
theorem setW_F (R : Rc) (n : Int) (w : Wt) (p : Addr) : Rc.F { R with WS := setW R n w } p = R.F p := by
  unfold Rc.F Rc.o
  show (_ :: _ :: _ :: _ :: _ :: _ :: _ :: (setW R n w).map (·.2.1)) ++ _ = _
  rw [setW_addr]
theorem RsP.watU (A : RcAt c H p R s) (Z : RcSz R s) {n : Int} {x dy : Addr} {w0 w : Wt} (g : getA R.WS n = some (x, w0)) (hx : H x = some (.ins c.CW dy (wFl w0))) (ep : w.pre = w0.pre) (b1 : w.told ≤ s.rows.length) (b2 : w.had ≤ s.rows.length) :
    RsP c (R.F p) (upd H x (.ins c.CW dy (wFl w))) p { s with wat := setF s.wat n (some w) } ∧ Ch H (upd H x (.ins c.CW dy (wFl w))) (R.F p) := by
  have mx := getA_mem g
  have k : Ch H (upd H x (.ins c.CW dy (wFl w))) [x] := (Ch.refl _ _).mut (by simp) hx (fun _ z => by cases z)
  refine ⟨⟨_, (setW_F R n w p).symm, A.watF g k upd_same ep, ⟨Z.t, Z.e, Z.h, ?_, fun y hy => ?_⟩⟩, k.mono fun a ha => ?_⟩
  · show (setW R n w).length ≤ _
    unfold setW
    rw [List.length_map]
    exact Z.w
  · obtain ⟨y0, hy0, rfl⟩ := List.mem_map.mp hy
    by_cases e : y0.1 = n
    · rw [if_pos e]
      exact ⟨b1, b2⟩
    · rw [if_neg e]
      exact Z.wt y0 hy0
  · rw [List.mem_singleton.mp ha]
    exact List.mem_append_left _ (A.wIn mx)
theorem setF_same {f : Int → Option Wt} {n : Int} {w : Wt} (h : f n = some w) : setF f n (some w) = f := by
  funext j
  unfold setF
  by_cases e : n = j
  · rw [if_pos e, ← e, h]
  · rw [if_neg e]
theorem lastN_le {rs : List Row} {b : Int} {l : List Row} {t : Int} (hb : b - 1 ≤ t) (h : ∀ r ∈ l, r.n ≤ t) : lastN b l ≤ t := by
  unfold lastN
  cases e : l.getLast? with
  | none => exact hb
  | some r => exact h r (List.mem_of_getLast? e)
theorem wanted_le {rs : List Row} (hn : Num rs) {g : Nat} {z : Str} {b m : Int} : ∀ r ∈ wantedM rs g z b m, r.n ≤ rs.length := fun r hr => by
  have h := List.mem_of_mem_drop (List.mem_filter.mp (List.mem_of_mem_take hr)).1
  obtain ⟨i, hi⟩ := List.mem_iff_getElem?.mp h
  have q := hn i r hi
  have l := (List.getElem?_eq_some_iff.mp hi).1
  omega
end
section
variable {P : Program} {w : World} {K : PySem.W.Frag} {mg : Str → Option Value} {base : Heap} {c : Cs} {kk : Kinds}
theorem ok_Room_pull {f fW fN fL : Addr} {fd fdW fdN fdL : FuncData} {psW psN psL : List Str} (F : Fun K "pull" "Room.pull" s_Room_pull f fd) (T : RomT K c.C) (TW : WatT K c.CW) (TG : LogT K c.CG) (ml : mg "len" = none)
    (mW : Meth K c.C "_watching" fW) (bW : Binds K fdW psW []) (GW : FnOk P w K mg base (L2.CX P w) 2 fW fdW psW (spWatching c kk)) (mN : Meth K c.CG "wanted" fN) (bN : Binds K fdN psN []) (GN : FnOk P w K mg base CX0 1 fN fdN psN (spLogWanted (LgP c.CG)))
    (mL : Meth K c.C "last" fL) (bL : Binds K fdL psL []) (GL : FnOk P w K mg base CX0 2 fL fdL psL (spRLast0 c)) :
    FnOk P w K mg base (L2.CX P w) 3 f fd p_Room_pull (spRWat kk (RsP c) (fun ys => ∃ m : Int, ys = [.int m]) (thenPull (RsP c))) := by
  refine F.okX sc_Room_pull (fun vs H Q E h => ?_) (fun cdv A outer s H vs Q E hr h => ?_)
  · obtain ⟨Fo, p, n, ys, s, rfl, ⟨m, rfl⟩, _⟩ := h
    rfl
  · obtain ⟨Fo, p, n, ys, r, rfl, ⟨m, rfl⟩, ⟨R, rfl, A1, Z⟩, fit, kb, k⟩ := h
    obtain ⟨dx, hp⟩ := A1.ob
    have hr2 : Room 2 _ := hr.mono (by decide)
    refine ⟨_, pss_cons (ps_set (i := 3) sc_Room_pull.nd rfl (Or.inl rfl) (pe_meth (E := E) (pv 0) T.cl mW GW hr bW .nil (passes_call (takes_of rfl rfl rfl rfl) (fun _ _ _ _ h => h)) (pa_cons (pv 1) pa_nil)))
      (PSs.nox (pss_cons (ps_set (i := 4) sc_Room_pull.nd rfl (Or.inl rfl) (pe_meth (E := E0) (pe_fld (pv 0) rfl) TG.cl mN GN (hr.mono (by decide)) bN .nil pass0 (pa_cons (pe_fld (pv 3) rfl) (pa_cons (pe_fld (pv 3) rfl) (pa_cons (pv 2) pa_nil)))))
      (pss_cons (ps_if (pt_cmpR op_lt (pe_callB call_len_seq (by rfl) ml PySem.boot_len (pa_cons (pv 4) pa_nil)) (pv 2) (nomark _)) (pss_one (ps_fld (pv 3) (pe_meth0 (E := E0) (pv 0) T.cl mL GL hr2 bL .nil pass0) rfl))
        (pss_one (ps_if (pt_truth (pv 4) (fun _ => rfl)) (pss_one (ps_fld (pv 3) (pe_ix ix_tup (pe_ix ix_list (pv 4) (pe_un un_neg pe_int) (fun _ _ => rfl)) pe_int (fun _ _ => rfl)) rfl)) pss_nil)))
      (pss_one (ps_ret (pv 4)))))), ?_⟩
    refine ⟨_, rfl, p, dx, _, rfl, hp, zf_no (by decide +kernel), _, rfl, p, n, R, r, rfl, A1, fun e => kb e _ H ⟨R, rfl, A1, Z⟩ (Grow.refl _ _) (Ch.refl _ _), fun x w gx ew => ?_⟩
    obtain ⟨m', em, hm, k⟩ := k w ew
    cases em
    have mx := getA_mem gx
    obtain ⟨dz, hx⟩ := A1.wo _ mx
    have hx : H x = some (.ins c.CW dz (wFl w)) := hx
    obtain ⟨_, dy, fs, hg, hmm⟩ := A1.lg.inst
    have tb := Z.wt _ mx
    have tb1 : w.told ≤ r.rows.length := tb.1
    have tb2 : w.had ≤ r.rows.length := tb.2
    have f1 := fit.rows
    have hnum : Num r.rows := by
      obtain ⟨_, _, _, L⟩ := A1.lg
      exact L.num
    refine ⟨_, rfl, p, c.C, dx, _, _, rfl, hp, T.cl, T.n2, zf_get (i := 2) (by decide +kernel) rfl, R.pg, dy, fs, rfl, hg, hmm _ (by simp), _, rfl, x, c.CW, dz, _, _, rfl, hx, TW.cl, TW.n0, zf_get (i := 0) (by decide +kernel) rfl,
      _, rfl, x, c.CW, dz, _, _, rfl, hx, TW.cl, TW.n1, zf_get (i := 1) (by decide +kernel) rfl, _, rfl, R.Fg, R.pg, w.pre, w.told, m, r.rows, r.gone, rfl, A1.lg, A1.wP _ mx, hm, by omega, f1, fun F' q ts H2 L2 g2 c2 hq nq hq2 hts => ?_⟩
    have A2 : RcAt c H2 p { R with Fg := F' } r := A1.log L2 g2 c2
    have Z2 : RcSz { R with Fg := F' } r := ⟨Z.t, Z.e, Z.h, Z.w, Z.wt⟩
    have gx2 : getA (Rc.WS { R with Fg := F' }) n = some (x, w) := gx
    have xng : x ∉ R.Fg := fun z => A1.dj x z (A1.wIn mx)
    have hx2 : H2 x = some (.ins c.CW dz (wFl w)) := c2.at hx xng
    have gr : Grow (R.F p) (Rc.F { R with Fg := F' } p) H := fun a ha => by
      rcases List.mem_append.mp ha with h | h
      · exact .inl (List.mem_append_left _ h)
      · rcases g2 a h with z | z
        · exact .inl (List.mem_append_right _ z)
        · exact .inr z
    have nqF : q ∉ Rc.F { R with Fg := F' } p := fun y => by
      rcases List.mem_append.mp y with y | y
      · obtain ⟨o, e⟩ := A1.own q (List.mem_append_left _ y)
        rw [hq] at e
        cases e
      · exact nq y
    have cF : Ch H H2 (R.F p) := c2.mono fun a ha => List.mem_append_right _ ha
    have nxq : q ≠ x := fun z => nqF (by rw [z]; exact List.mem_append_left _ (A1.wIn mx))
    have ld := Paired.length hts
    -- what stands at the end, when the watcher is told up to t
    have fin : ∀ t : Int, t = toldW r w m → t ≤ r.rows.length → Q (.ref q) (upd H2 x (.ins c.CW dz (wFl { w with told := t }))) := fun t et ht => by
      obtain ⟨B1, B2⟩ := RsP.watU A2 Z2 (w := { w with told := t }) gx2 hx2 rfl ht tb2
      have B3 : RsP c (Rc.F { R with Fg := F' } p) (upd H2 x (.ins c.CW dz (wFl { w with told := t }))) p (pullM r n w m) := by
        unfold pullM
        rw [← et]
        exact B1
      have cx : Ch H2 (upd H2 x (.ins c.CW dz (wFl { w with told := t }))) [x] := (Ch.refl _ _).mut (by simp) hx2 (fun _ z => by cases z)
      refine k _ q ts _ B3 gr (cF.trans (cx.mono fun a ha => ?_)) hq nqF (by rw [upd_ne nxq]; exact hq2) (hts.keep cx.tup)
      rw [List.mem_singleton.mp ha]
      exact List.mem_append_left _ (A1.wIn mx)
    obtain ⟨dx2, hp2⟩ := A2.ob
    refine ⟨_, rfl, q, _, rfl, .inl (SqL.of hq2), _, rfl, _, _, rfl, rfl, _, rfl, ?_⟩
    rw [List.length_map]
    by_cases c1 : (ts.length : Int) < m
    · rw [decide_eq_true c1]
      refine iteT ⟨_, rfl, p, dx2, _, rfl, hp2, zf_no (by decide +kernel), p, _, r, rfl, A2, _, rfl, x, c.CW, dz, _, rfl, hx2, TW.cl, TW.n1, (by show 3 < 1000; decide), ?_⟩
      rw [zf_put (i := 1) (by decide +kernel) rfl]
      refine ⟨_, rfl, fin _ ?_ (Int.le_refl _)⟩
      unfold toldW dueW
      rw [if_pos (by omega)]
    rw [decide_eq_false c1]
    have et : toldW r w m = lastN (w.told + 1) (dueW r w m) := by
      unfold toldW
      rw [if_neg]
      show ¬ (((wantedM r.rows r.gone w.pre w.told m).length : Nat) : Int) < m
      omega
    refine iteF ⟨_, rfl, !(ts.map V.ref).isEmpty, .inl ⟨_, SqL.of hq2, rfl⟩, ?_⟩
    cases ts with
    | nil =>
      refine iteF ⟨_, rfl, ?_⟩
      have e0 : dueW r w m = [] := by
        unfold dueW
        exact List.length_eq_zero_iff.mp ld.symm
      have e1 : pullM r n w m = r := by
        unfold pullM
        rw [et, e0]
        show ({ r with wat := setF r.wat n (some { w with told := (w.told + 1) - 1 }) } : Rm) = r
        rw [Int.add_sub_cancel, setF_same ew]
      refine k _ q [] H2 ?_ gr cF hq nqF hq2 hts
      rw [e1]
      exact ⟨_, rfl, A2, Z2⟩
    | cons t ts =>
      obtain ⟨ta, ro, ha, hta, el⟩ := RowsAt.last hts (by rw [← ld]; simp)
      refine iteT ⟨_, rfl, _, rfl, q, _, _, _, rfl, rfl, SqL.of hq2, ha, ta, _, 0, .int ro.n, rfl, rfl, SqT.of hta, rfl, _, rfl, x, c.CW, dz, _, rfl, hx2, TW.cl, TW.n1, (by show 3 < 1000; decide), ?_⟩
      rw [zf_put (i := 1) (by decide +kernel) rfl]
      have e2 : ro.n = toldW r w m := by
        rw [et]
        unfold lastN dueW
        rw [List.getLast?_eq_getElem?, el]
      refine ⟨_, rfl, fin ro.n e2 ?_⟩
      exact wanted_le hnum ro (List.mem_of_getElem? el)
end
end KL

namespace KL
open PySem L2 L2H LX KB KA1
/-! ### the program's room: what a watcher has had -/
section
variable {P : Program} {w : World} {K : PySem.W.Frag} {mg : Str → Option Value} {base : Heap} {c : Cs} {kk : Kinds}
theorem ok_Room_confirm {f fW : Addr} {fd fdW : FuncData} {psW : List Str} (F : Fun K "confirm" "Room.confirm" s_Room_confirm f fd) (T : RomT K c.C) (TW : WatT K c.CW) (mW : Meth K c.C "_watching" fW) (bW : Binds K fdW psW []) (GW : FnOk P w K mg base (L2.CX P w) 2 fW fdW psW (spWatching c kk)) :
    FnOk P w K mg base (L2.CX P w) 3 f fd p_Room_confirm (spRWat kk (RsP c) (fun ys => ys = []) (thenSet (RsP c) fun w => some { w with had := w.told })) := by
  refine F.okX sc_Room_confirm (fun vs H Q E h => ?_) (fun cdv A outer s H vs Q E hr h => ?_)
  · obtain ⟨Fo, p, n, ys, s, rfl, rfl, _⟩ := h
    rfl
  · obtain ⟨Fo, p, n, ys, r, rfl, rfl, ⟨R, rfl, A1, Z⟩, fit, kb, k⟩ := h
    obtain ⟨dx, hp⟩ := A1.ob
    refine ⟨_, pss_cons (ps_set (i := 2) sc_Room_confirm.nd rfl (Or.inl rfl) (pe_meth (E := E) (pv 0) T.cl mW GW hr bW .nil (passes_call (takes_of rfl rfl rfl rfl) (fun _ _ _ _ h => h)) (pa_cons (pv 1) pa_nil)))
      (pss_one (ps_fld (pv 2) (pe_fld (pv 2) rfl) rfl)), ?_⟩
    refine ⟨_, rfl, p, dx, _, rfl, hp, zf_no (by decide +kernel), _, rfl, p, n, R, r, rfl, A1, fun e => kb e _ H ⟨R, rfl, A1, Z⟩ (Grow.refl _ _) (Ch.refl _ _), fun x w gx ew => ?_⟩
    have mx := getA_mem gx
    obtain ⟨dz, hx⟩ := A1.wo _ mx
    have hx : H x = some (.ins c.CW dz (wFl w)) := hx
    refine ⟨_, rfl, x, c.CW, dz, _, _, rfl, hx, TW.cl, TW.n1, zf_get (i := 1) (by decide +kernel) rfl, _, rfl, x, c.CW, dz, _, rfl, hx, TW.cl, TW.n2, (by show 3 < 1000; decide), ?_⟩
    rw [zf_put (i := 2) (by decide +kernel) rfl]
    obtain ⟨B1, B2⟩ := RsP.watU A1 Z (w := { w with had := w.told }) gx hx rfl (Z.wt _ mx).1 (Z.wt _ mx).1
    exact k w ew _ _ B1 (Grow.refl _ _) B2
theorem ok_Room_broken {f fW : Addr} {fd fdW : FuncData} {psW : List Str} (F : Fun K "broken" "Room.broken" s_Room_broken f fd) (T : RomT K c.C) (TW : WatT K c.CW) (mW : Meth K c.C "_watching" fW) (bW : Binds K fdW psW []) (GW : FnOk P w K mg base (L2.CX P w) 2 fW fdW psW (spWatching c kk)) :
    FnOk P w K mg base (L2.CX P w) 3 f fd p_Room_broken (spRWat kk (RsP c) (fun ys => ys = []) (thenSet (RsP c) fun w => some { w with told := w.had })) := by
  refine F.okX sc_Room_broken (fun vs H Q E h => ?_) (fun cdv A outer s H vs Q E hr h => ?_)
  · obtain ⟨Fo, p, n, ys, s, rfl, rfl, _⟩ := h
    rfl
  · obtain ⟨Fo, p, n, ys, r, rfl, rfl, ⟨R, rfl, A1, Z⟩, fit, kb, k⟩ := h
    obtain ⟨dx, hp⟩ := A1.ob
    refine ⟨_, pss_cons (ps_set (i := 2) sc_Room_broken.nd rfl (Or.inl rfl) (pe_meth (E := E) (pv 0) T.cl mW GW hr bW .nil (passes_call (takes_of rfl rfl rfl rfl) (fun _ _ _ _ h => h)) (pa_cons (pv 1) pa_nil)))
      (pss_one (ps_fld (pv 2) (pe_fld (pv 2) rfl) rfl)), ?_⟩
    refine ⟨_, rfl, p, dx, _, rfl, hp, zf_no (by decide +kernel), _, rfl, p, n, R, r, rfl, A1, fun e => kb e _ H ⟨R, rfl, A1, Z⟩ (Grow.refl _ _) (Ch.refl _ _), fun x w gx ew => ?_⟩
    have mx := getA_mem gx
    obtain ⟨dz, hx⟩ := A1.wo _ mx
    have hx : H x = some (.ins c.CW dz (wFl w)) := hx
    refine ⟨_, rfl, x, c.CW, dz, _, _, rfl, hx, TW.cl, TW.n2, zf_get (i := 2) (by decide +kernel) rfl, _, rfl, x, c.CW, dz, _, rfl, hx, TW.cl, TW.n1, (by show 3 < 1000; decide), ?_⟩
    rw [zf_put (i := 1) (by decide +kernel) rfl]
    obtain ⟨B1, B2⟩ := RsP.watU A1 Z (w := { w with told := w.had }) gx hx rfl (Z.wt _ mx).2 (Z.wt _ mx).2
    exact k w ew _ _ B1 (Grow.refl _ _) B2
end
end KL

namespace KL
open PySem L2 L2H LX KB KA1
/-! ### the program's room: a watcher leaves -/
section
variable {c : Cs} {H H' : Hp} {p : Addr} {R : Rc} {s : Rm}
theorem outF (R : Rc) (n : Int) (wk : List (Key × V)) (p : Addr) : ∀ a ∈ Rc.o { R with WS := dropA R.WS n, wk := wk } p, a ∈ R.o p := fun a h => by
  unfold Rc.o at h ⊢
  have sub : ((dropA R.WS n).map (·.2.1)).Sublist (R.WS.map (·.2.1)) := List.filter_sublist.map _
  change a ∈ p :: R.pl :: R.dt :: R.de :: R.dv :: R.dh :: R.dw :: (dropA R.WS n).map (·.2.1) at h
  exact (((((((sub.cons₂ R.dw).cons₂ R.dh).cons₂ R.dv).cons₂ R.de).cons₂ R.dt).cons₂ R.pl).cons₂ p).subset h
theorem RcAt.watD (A : RcAt c H p R s) (n : Int) (k : Ch H H' [R.dw]) (h2 : H' R.dw = some (.dK (dropK R.wk (Sum.inl n)))) :
    RcAt c H' p { R with WS := dropA R.WS n, wk := dropK R.wk (Sum.inl n) } { s with wat := setF s.wat n none } := by
  obtain ⟨⟨a1, a2, a3, a4, a5, a6⟩, ⟨b1, b2, b3, b4, b5⟩, ⟨c1, c2, c3, c4⟩, ⟨d1, d2, d3⟩, ⟨e1, e2⟩, f1⟩ := A.ne7
  have o1 : ∀ {a}, a ≠ R.dw → a ∉ [R.dw] := fun h1 z => h1 (List.mem_singleton.mp z)
  obtain ⟨dx, h⟩ := A.ob
  refine ⟨⟨dx, k.at h (o1 a6)⟩, A.lt.ch k (o1 b5) (o1 c4) (o1 d3), A.lg.frame k (fun a ha => o1 ?_), k.at A.va (o1 e2), k.at A.ho (o1 f1), h2, fun y hy => ?_, A.rv, A.rh, A.rw_.drop inl_inj n, ?_, fun a ha z => A.dj a ha (outF R n _ p a z),
    A.fe, A.fs, A.fh, ?_, A.nE, A.nH, dropA_nodup A.nW, fun y hy => A.kW y (List.mem_filter.mp hy).1, A.kH, fun y hy => A.wP y (List.mem_filter.mp hy).1⟩
  · intro z; exact A.dj a ha (by rw [z]; simp [Rc.o])
  · have hy := (List.mem_filter.mp hy).1
    obtain ⟨dz, hz⟩ := A.wo y hy
    exact ⟨dz, k.at hz (o1 (A.neW hy).2.2.2.2.2.2)⟩
  · have nd := A.nd
    unfold Rc.o at nd ⊢
    have sub : ((dropA R.WS n).map (·.2.1)).Sublist (R.WS.map (·.2.1)) := List.filter_sublist.map _
    exact nd.sublist (((((((sub.cons₂ R.dw).cons₂ R.dh).cons₂ R.dv).cons₂ R.de).cons₂ R.dt).cons₂ R.pl).cons₂ p)
  · funext j
    show setF s.wat n none j = (getA (dropA R.WS n) j).map (·.2)
    rw [getA_dropA, A.fw]
    unfold setF
    split <;> rfl
end
section
variable {P : Program} {w : World} {K : PySem.W.Frag} {mg : Str → Option Value} {base : Heap} {c : Cs} {kk : Kinds}
theorem ok_Room_leave {f fW : Addr} {fd fdW : FuncData} {psW : List Str} (F : Fun K "leave" "Room.leave" s_Room_leave f fd) (T : RomT K c.C) (mW : Meth K c.C "_refuse_watcher" fW) (bW : Binds K fdW psW []) (GW : FnOk P w K mg base (L2.CX P w) 1 fW fdW psW (spRefW c kk)) :
    FnOk P w K mg base (L2.CX P w) 2 f fd p_Room_leave (spRWat kk (RsP c) (fun ys => ys = []) (thenSet (RsP c) fun _ => none)) := by
  refine F.okX sc_Room_leave (fun vs H Q E h => ?_) (fun cdv A outer s H vs Q E hr h => ?_)
  · obtain ⟨Fo, p, n, ys, s, rfl, rfl, _⟩ := h
    rfl
  · obtain ⟨Fo, p, n, ys, r, rfl, rfl, ⟨R, rfl, A1, Z⟩, fit, kb, k⟩ := h
    obtain ⟨dx, hp⟩ := A1.ob
    refine ⟨_, pss_cons (ps_expr (pe_meth (E := E) (pv 0) T.cl mW GW hr bW .nil (passes_call (takes_of rfl rfl rfl rfl) (fun _ _ _ _ h => h)) (pa_cons (pv 1) pa_nil)))
      (pss_one (ps_ddel (pe_fld (pv 0) rfl) (pv 1))), ?_⟩
    refine ⟨_, rfl, p, dx, _, rfl, hp, zf_no (by decide +kernel), _, rfl, p, n, R, r, rfl, A1, fun e => kb e _ H ⟨R, rfl, A1, Z⟩ (Grow.refl _ _) (Ch.refl _ _), fun ne => ?_⟩
    have ew : r.wat n = (getA R.WS n).map (·.2) := congrFun A1.fw n
    obtain ⟨x, gx⟩ : ∃ x, getA R.WS n = some x := by
      cases e : getA R.WS n with
      | none => rw [ew, e] at ne; exact absurd rfl ne
      | some x => exact ⟨x, rfl⟩
    refine ⟨_, rfl, p, c.C, dx, _, _, rfl, hp, T.cl, T.n6, zf_get (i := 6) (by decide +kernel) rfl, _, rfl, R.dw, _, Sum.inl n, rfl, A1.wa, rfl, by rw [A1.rw_.isSome inl_inj, gx]; rfl, ?_⟩
    have c1 : Ch H (upd H R.dw (.dK (dropK R.wk (Sum.inl n)))) [R.dw] := (Ch.refl _ _).mut (by simp) A1.wa (fun _ z => by cases z)
    have A2 := A1.watD n c1 upd_same
    refine k x.2 (by rw [ew, gx]; rfl) _ _ ⟨_, rfl, A2, ⟨Z.t, Z.e, Z.h, Nat.le_trans (dropA_len _ _) Z.w, fun y hy => Z.wt y (List.mem_filter.mp hy).1⟩⟩ (fun a ha => ?_) (c1.mono fun a ha => ?_)
    · rcases List.mem_append.mp ha with h | h
      · exact .inl (List.mem_append_left _ (outF R n _ p a h))
      · exact .inl (List.mem_append_right _ h)
    · rw [List.mem_singleton.mp ha]
      exact List.mem_append_left _ (by simp [Rc.o])
end
end KL

namespace KL
open PySem L2 L2H LX KB
/-! ### what a log forgets -/
section
variable {P : Program} {w : World} {K : PySem.W.Frag} {mg : Str → Option Value} {base : Heap}
theorem ok_Log_forget {f fL C : Addr} {fd fdL : FuncData} {psL : List Str} (F : Fun K "forget" "Log.forget" s_Log_forget f fd) (T : LogT K C) (mx : mg "max" = none) (mn : mg "min" = none) (mL : Meth K C "last" fL) (bL : Binds K fdL psL []) (GL : FnOk P w K mg base CX0 1 fL fdL psL (spLast0 C)) :
    FnOk P w K mg base CX0 2 f fd p_Log_forget (spLogForget (LgP C)) := by
  refine F.ok sc_Log_forget (fun vs H Q E h => ?_) (fun cdv A outer s H vs Q E hr h => ?_)
  · obtain ⟨Fs, p, u, rs, g, rfl, _⟩ := h
    rfl
  · obtain ⟨Fs, p, u, rs, g, rfl, LP, hl, k⟩ := h
    obtain ⟨q, ts, rfl, L⟩ := id LP
    obtain ⟨dx, hp⟩ := L.ob
    have le := L.le
    refine ⟨_, pss_cons (ps_set (i := 2) sc_Log_forget.nd rfl (Or.inl rfl) (pe_callB (call_max2 rfl) (by rfl) mx (by decide +kernel) (pa_cons pe_int (pa_cons (pe_op op_sub (pe_callB (call_min2 rfl) (by rfl) mn (by decide +kernel)
        (pa_cons (pv 1) (pa_cons (pe_meth0 (pv 0) T.cl mL GL hr bL .nil pass0) pa_nil))) (pe_fld (pv 0) rfl)) pa_nil))))
      (pss_cons (ps_fld (pv 0) (pe_slice sl_list (pe_fld (pv 0) rfl) (po_some (pv 2)) po_none) rfl)
      (pss_cons (ps_fldaug (pv 0) (pv 2) in_add)
      (pss_one (ps_ret (pv 2))))), ?_⟩
    have gF : ∀ (x : Int) (y : Addr), (nsLog.zip [V.int x, V.ref y]).lookup ("_forgotten" : Str) = some (.int x) := fun x y => zf_get (i := 0) (by decide +kernel) rfl
    have gK : ∀ (x : Int) (y : Addr), (nsLog.zip [V.int x, V.ref y]).lookup ("_kept" : Str) = some (.ref y) := fun x y => zf_get (i := 1) (by decide +kernel) rfl
    refine ⟨_, rfl, _, rfl, p, dx, _, rfl, hp, zf_no (by decide +kernel), _, p, rs, g, rfl, LP, _, _, rfl, _, rfl, p, C, dx, _, _, rfl, hp, T.cl, T.nF, gF _ _, _, _, rfl, rfl, _, _, rfl, ?_⟩
    have em : (if (if (rs.length : Int) < u then (rs.length : Int) else u) - (g : Int) > 0 then (if (rs.length : Int) < u then (rs.length : Int) else u) - (g : Int) else 0) = ((goneM rs.length g u - g : Nat) : Int) := by
      unfold goneM
      by_cases c1 : (rs.length : Int) < u
      · rw [if_pos c1]
        split <;> omega
      · rw [if_neg c1]
        split <;> omega
    rw [em]
    have g1 := goneM_ge rs.length g u
    have g2 := goneM_le u le
    generalize goneM rs.length g u = n at g1 g2 k ⊢
    refine ⟨_, rfl, p, C, dx, _, _, rfl, hp, T.cl, T.nK, gK _ _, ?_⟩
    have lt : (ts.map V.ref).length = rs.length - g := by rw [List.length_map, L.len]
    refine ⟨_, rfl, _, rfl, q, _, rfl, SqL.of L.kp, fun q2 hq2 => ?_⟩
    rw [cutV_from _ (by rw [lt]; omega), ← List.map_drop]
    have npq : p ≠ q2 := ne_of_none hp hq2
    have nqq : q ≠ q2 := ne_of_none L.kp hq2
    have hp1 : upd H q2 (.lst ((ts.drop (n - g)).map V.ref)) p = some (.ins C dx (nsLog.zip [.int g, .ref q])) := by rw [upd_ne npq]; exact hp
    refine ⟨_, rfl, p, C, dx, _, rfl, hp1, T.cl, T.nK, (by show 2 < 1000; decide), ?_⟩
    rw [zf_put (i := 1) (by decide +kernel) rfl]
    refine ⟨_, rfl, p, C, dx, _, _, rfl, upd_same, T.cl, T.nF, gF _ _, _, rfl, _, _, rfl, rfl, dx, _, upd_same, (by show 2 < 1000; decide), ?_⟩
    rw [zf_put (i := 0) (by decide +kernel) rfl]
    refine ⟨_, rfl, ?_⟩
    have e1 : ((n - g : Nat) : Int) = (n : Int) - g := by omega
    have e2 : (g : Int) + ((n - g : Nat) : Int) = n := by omega
    rw [e2, e1]
    have c1 : Ch H (upd (upd (upd H q2 (.lst ((ts.drop (n - g)).map V.ref))) p (.ins C dx (nsLog.zip [.int g, .ref q2]))) p (.ins C dx (nsLog.zip [.int n, .ref q2]))) [p, q] :=
      (((Ch.refl H [p, q]).new _ hq2).mut (by simp) hp (fun _ z => by cases z)).mut (by simp) hp (fun _ z => by cases z)
    refine k [p, q2] _ ⟨q2, ts.drop (n - g), rfl, ⟨dx, upd_same⟩, ?_, ?_, g2, L.num⟩ (fun a ha => ?_) c1
    · rw [upd_ne npq.symm, upd_ne npq.symm]; exact upd_same
    · have e : rs.drop n = (rs.drop g).drop (n - g) := by
        rw [List.drop_drop]
        congr 1
        omega
      rw [e]
      exact (L.at_.drop (n - g)).keep c1.tup
    · simp only [List.mem_cons, List.not_mem_nil, or_false] at ha
      rcases ha with rfl | rfl
      · exact .inl (by simp)
      · exact .inr hq2
end
end KL

/-! a rule of our own: min(xs, default=d) of a list of ints -/
namespace LX
open PySem PySem.Spec PyProof.Rows L2 L2H
theorem ints_read {h : Heap} : ∀ {ns : List Int} {its : List Value}, Vals (ns.map V.int) its → ReadsAll h its (ns.map PyData.int) []
  | [], _, .nil => .nil
  | n :: ns, _, .cons r m => by
    obtain ⟨t, rfl⟩ := r
    exact .cons (as := []) (bs := []) (.int n t) (ints_read m)
theorem ints_flat : ∀ ns : List Int, PyData.depthAll (ns.map PyData.int) = 0
  | [] => rfl
  | n :: ns => by
    rw [List.map_cons]
    unfold PyData.depthAll
    rw [ints_flat ns]
    rfl
theorem ints_alike (ns : List Int) : PySem.W.AlikeAll (ns.map PyData.int) := by
  refine ⟨fun x hx y hy => ?_, fun x hx => ?_⟩
  · obtain ⟨a, _, rfl⟩ := List.mem_map.mp hx
    obtain ⟨b, _, rfl⟩ := List.mem_map.mp hy
    rfl
  · obtain ⟨a, _, rfl⟩ := List.mem_map.mp hx
    intro z
    cases z
theorem least_of : ∀ (ns : List Int) (n : Int), ns.foldl min n ∈ n :: ns ∧ ∀ y ∈ n :: ns, ns.foldl min n ≤ y
  | [], n => ⟨List.mem_cons_self, fun y hy => by rw [List.mem_singleton.mp hy]; exact Int.le_refl _⟩
  | k :: ns, n => by
    obtain ⟨h1, h2⟩ := least_of ns (min n k)
    rw [List.foldl_cons]
    refine ⟨?_, fun y hy => ?_⟩
    · rcases List.mem_cons.mp h1 with e | h1
      · rw [e]
        rcases Int.le_total n k with c | c
        · rw [Int.min_eq_left c]; exact List.mem_cons_self
        · rw [Int.min_eq_right c]; exact List.mem_cons_of_mem _ List.mem_cons_self
      · exact List.mem_cons_of_mem _ (List.mem_cons_of_mem _ h1)
    · have q := h2 _ List.mem_cons_self
      rcases List.mem_cons.mp hy with e | hy
      · rw [e]; omega
      · rcases List.mem_cons.mp hy with e | hy
        · rw [e]; omega
        · exact h2 y (List.mem_cons_of_mem _ hy)
def rLeastD (K : PySem.W.Frag) : List V → List V → Hp → VK → Prop := fun vs zs H Q => ∃ (a : Addr) (ns : List Int) (d : Int), vs = [.ref a] ∧ zs = [.int d] ∧ SqL K H a (ns.map V.int) ∧ (ns = [] → Q (.int d) H) ∧ ∀ m ∈ ns, (∀ y ∈ ns, m ≤ y) → Q (.int m) H
theorem cr_leastD {X : Cx} (hc : X.calm = true) (hu : X.A.units + 1 < cLine) : CallRK X (.builtin "min") ["default"] (rLeastD X.K) := by
  intro pins s σ H xs zs us ws Q I rx rz h
  obtain ⟨a, ns, d, rfl, rfl, hs, q0, q1⟩ := h
  obtain ⟨its, rv, hl, _⟩ := I.list hs
  obtain rfl : us = [Value.ref a] := by
    cases rx with
    | cons r m =>
      cases m
      exact congrArg (· :: []) r
  obtain ⟨t, rfl⟩ : ∃ t, ws = [Value.int d t] := by
    cases rz with
    | cons r m =>
      obtain ⟨t, rfl⟩ := r
      cases m
      exact ⟨t, rfl⟩
  refine PySem.W.min_list_default (I.ok.hd hc) hl.isList (ints_read rv) (ints_alike ns) (by rw [ints_flat]; exact hu) (fun e h' tk k => ?_) fun y ys i v h' tk bs e hi rd k => ?_
  · exact ⟨.int d, H, I.kept k, ⟨_, rfl⟩, q0 (List.map_eq_nil_iff.mp e)⟩
  · cases ns with
    | nil => cases e
    | cons n ns =>
      rw [List.map_cons] at e
      cases e
      rw [PySem.W.minD_ints] at rd
      obtain ⟨t2, rfl⟩ : ∃ t2, v = Value.int (ns.foldl min n) t2 := by
        cases rd
        exact ⟨_, rfl⟩
      obtain ⟨h1, h2⟩ := least_of ns n
      exact ⟨.int _, H, I.kept k, ⟨_, rfl⟩, q1 _ h1 h2⟩
end LX
namespace KL
open PySem L2 L2H LX KB KA1
/-! ### the program's room: what all have had is forgotten -/
section
variable {c : Cs} {H H' : Hp} {p : Addr} {R : Rc} {s : Rm}
def hads (l : List (Int × (Addr × Wt))) : List Int := l.map fun x => x.2.2.had
theorem RcAt.wat_of (A : RcAt c H p R s) {y : Int × (Addr × Wt)} (h : y ∈ R.WS) : s.wat y.1 = some y.2.2 := by
  rw [A.fw]
  show (getA R.WS y.1).map (·.2) = _
  rw [getA_of A.nW h]
  rfl
theorem RcAt.of_wat (A : RcAt c H p R s) {n : Int} {w : Wt} (h : s.wat n = some w) : ∃ x, (n, (x, w)) ∈ R.WS := by
  rw [A.fw] at h
  change (getA R.WS n).map (·.2) = some w at h
  cases e : getA R.WS n with
  | none => rw [e] at h; cases h
  | some x =>
    rw [e] at h
    cases h
    exact ⟨x.1, getA_mem e⟩
theorem RcAt.trim0 (A : RcAt c H p R s) (e : hads R.WS = []) : TrimTo s s.rows.length := by
  have e := List.map_eq_nil_iff.mp e
  refine ⟨fun n w h => ?_, .inr ⟨fun n => ?_, rfl⟩⟩
  · obtain ⟨x, m⟩ := A.of_wat h
    rw [e] at m
    cases m
  · rw [A.fw]
    show (getA R.WS n).map (·.2) = none
    rw [e]
    rfl
theorem RcAt.trim1 (A : RcAt c H p R s) {m : Int} (h1 : m ∈ hads R.WS) (h2 : ∀ y ∈ hads R.WS, m ≤ y) : TrimTo s m := by
  obtain ⟨y, hy, rfl⟩ := List.mem_map.mp h1
  refine ⟨fun n w h => ?_, .inl ⟨y.1, y.2.2, A.wat_of hy, rfl⟩⟩
  obtain ⟨x, m⟩ := A.of_wat h
  exact h2 _ (List.mem_map.mpr ⟨_, m, rfl⟩)
end
section
variable {P : Program} {w : World} {K : PySem.W.Frag} {mg : Str → Option Value} {base : Heap} {c : Cs} {kk : Kinds}
theorem ok_Room_trim {f fL fG : Addr} {fd fdL fdG : FuncData} {psL psG : List Str} (F : Fun K "trim" "Room.trim" s_Room_trim f fd) (T : RomT K c.C) (TW : WatT K c.CW) (TG : LogT K c.CG) (mn : mg "min" = none)
    (mL : Meth K c.C "last" fL) (bL : Binds K fdL psL []) (GL : FnOk P w K mg base CX0 2 fL fdL psL (spRLast0 c)) (mG : Meth K c.CG "forget" fG) (bG : Binds K fdG psG []) (GG : FnOk P w K mg base CX0 2 fG fdG psG (spLogForget (LgP c.CG))) :
    FnOk P w K mg base CX0 3 f fd p_Room_trim (spRTrim (RsP c)) := by
  refine F.ok sc_Room_trim (fun vs H Q E h => ?_) (fun cdv A outer s H vs Q E hr h => ?_)
  · obtain ⟨Fo, p, s, rfl, _⟩ := h
    rfl
  · obtain ⟨Fo, p, r, rfl, ⟨R, rfl, A1, Z⟩, fit, k⟩ := h
    obtain ⟨dx, hp⟩ := A1.ob
    have hu := hu_of hr
    have hr2 : Room 2 _ := hr.mono (by decide)
    refine ⟨_, pss_cons (ps_set (i := 1) sc_Room_trim.nd rfl (Or.inl rfl) (pe_callBK (cr_leastD (by rfl) hu) (by rfl) mn (by decide +kernel) (pa_cons (pe_lock
        (pe_lc (own := [("watching", 2)]) (g := gName 2) (te := tFld K (tVar 2) "had") rfl sc_Room_trim.nd (pi_values (pe_fld (pv 0) rfl)) (blkOk_by (own := [("watching", 2)]) (N := n_Room_trim) (sc := defScope s_Room_trim) (by decide +kernel))
          (fun _ _ _ _ _ => pg_name (i := 2) sc_Room_trim.nd rfl (Or.inl rfl) (Or.inr rfl)) (fun _ _ _ _ _ => pts_nil) (fun _ _ _ _ _ => pe_fld (pv 2) rfl))) pa_nil)
        (pk_cons (pe_meth0 (E := E0) (pv 0) T.cl mL GL hr2 bL .nil pass0) pk_nil)))
      (pss_one (ps_ret (pe_meth (E := E0) (pe_fld (pv 0) rfl) TG.cl mG GG hr2 bG .nil pass0 (pa_cons (pv 1) pa_nil)))), ?_⟩
    have npw : p ≠ R.dw := A1.ne7.1.2.2.2.2.2
    have f1 := fit.met
    have f2 := fit.rows
    have zw := Z.w
    have lv : R.wk.length = R.WS.length := A1.rw_.len
    refine ⟨R.dw, _, A1.wa, trivial, fun od => ?_⟩
    have hpL : upd H R.dw (.frz od (.dK R.wk)) p = some (.ins c.C dx (rFl r R)) := by rw [upd_ne npw]; exact hp
    refine ⟨_, rfl, p, c.C, dx, _, _, rfl, hpL, T.cl, T.n6, zf_get (i := 6) (by decide +kernel) rfl, R.dw, od, _, rfl, upd_same, fun D hD => ?_⟩
    refine lc_it walk_values (fun i H' => Same (upd H R.dw (.frz od (.dK R.wk))) H' ∧ H' D = some (.lst ((hads (R.WS.take i)).map V.int))) ?_ ?_ ?_ ?_
    · exact ⟨same_new hD, upd_same⟩
    · rintro i H' _ ⟨hs, _⟩
      exact hs _ _ upd_same
    · rintro i x H3 H' hi ⟨hs, hlD⟩ ⟨rfl, ky, ek⟩
      have hi' : i < R.WS.length := by rw [← lv]; exact hi
      obtain ⟨q, hq⟩ : ∃ q, R.WS[i]? = some q := ⟨R.WS[i], by simp [hi']⟩
      obtain ⟨v, hv, rfl⟩ := DRel.atL A1.rw_ hq
      rw [hv] at ek
      cases ek
      have mq := List.mem_of_getElem? hq
      obtain ⟨dz, hx⟩ := A1.wo q mq
      have nxw := (A1.neW mq).2.2.2.2.2.2
      have hx3 : H' q.2.1 = some (.ins c.CW dz (wFl q.2.2)) := hs _ _ (by rw [upd_ne nxw]; exact hx)
      refine ⟨rfl, _, rfl, q.2.1, c.CW, dz, _, _, rfl, hx3, TW.cl, TW.n2, zf_get (i := 2) (by decide +kernel) rfl, _, hlD, ?_, fun b o e => ?_, ?_⟩
      · unfold hads
        rw [List.length_map, List.length_map]
        have l3 := List.length_take_le' i R.WS
        exact smallS (by omega)
      · rw [upd_ne (ne_of_none e hD)]
        exact hs b o e
      · have e1 : R.WS.take (i + 1) = R.WS.take i ++ [q] := by
          rw [List.take_add_one, hq]; rfl
        rw [upd_same, e1]
        unfold hads
        rw [List.map_append, List.map_append]
        rfl
    · rintro H' ⟨hs, hlD⟩
      have hde : H' R.dw = some (.frz od (.dK R.wk)) := hs _ _ upd_same
      rw [lv, List.take_length] at hlD
      have hDe : D ≠ R.dw := ne_of hlD hde (by intro z; cases z)
      refine ⟨hde, ?_⟩
      have sm : Same H (upd H' R.dw (.dK R.wk)) := fun b o e => by
        by_cases hb : b = R.dw
        · subst hb
          rw [A1.wa] at e
          cases e
          exact upd_same
        · rw [upd_ne hb]
          exact hs b o (by rw [upd_ne hb]; exact e)
      have hlD2 : upd H' R.dw (.dK R.wk) D = some (.lst ((hads R.WS).map V.int)) := by rw [upd_ne hDe]; exact hlD
      generalize upd H' R.dw (.dK R.wk) = H2 at sm hlD2 ⊢
      have A2 : RcAt c H2 p R r := A1.ch (Ch.of sm []) (fun _ _ z => nomatch z)
      obtain ⟨dx2, hp2⟩ := A2.ob
      -- what is forgotten, up to u
      have fin : ∀ u : Int, TrimTo r u → tMeth c.CG "forget" (spLogForget (LgP c.CG)) [] E0 (tFld K (tVar 0) "_log") (tCons (tVar 1) tNil) [some (.ref p), some (.int u), none] H2 Q := fun u tu => by
        obtain ⟨_, dy, fs, hg, hmm⟩ := A2.lg.inst
        refine ⟨_, rfl, p, c.C, dx2, _, _, rfl, hp2, T.cl, T.n2, zf_get (i := 2) (by decide +kernel) rfl, R.pg, dy, fs, rfl, hg, hmm _ (by simp), _, rfl, R.Fg, R.pg, u, r.rows, r.gone, rfl, A2.lg, f2, fun F' H3 L3 g3 c3 => ?_⟩
        have A3 := A2.log L3 g3 c3
        refine k u _ H3 tu ⟨_, rfl, A3, ⟨Z.t, Z.e, Z.h, Z.w, Z.wt⟩⟩ (fun a ha => ?_) ((Ch.of sm _).trans (c3.mono fun a ha => List.mem_append_right _ ha))
        rcases List.mem_append.mp ha with h | h
        · exact .inl (List.mem_append_left _ h)
        · rcases g3 a h with z | z
          · exact .inl (List.mem_append_right _ z)
          · exact .inr (sm.free z)
      refine ⟨_, rfl, p, dx2, _, rfl, hp2, zf_no (by decide +kernel), p, R, r, rfl, A2, D, _, _, rfl, rfl, SqL.of hlD2, fun e => ?_, fun m h1 h2 => ?_⟩
      · exact fin _ (A2.trim0 e)
      · exact fin _ (A2.trim1 h1 h2)
end
end KL

namespace KL
open PySem L2 L2H LX KB
/-! ### a law's plain helpers: whole, cell_at, sign, text, pool, prefix -/
structure LTxt (mg : Str → Option Value) : Prop where
  isi : mg "isinstance" = none
  int : mg "int" = none
  bool : mg "bool" = none
  str : mg "str" = none
  len : mg "len" = none
  sorted : mg "sorted" = none
  list : mg "list" = none
  tuple : mg "tuple" = none
  range : mg "range" = none
/-- a def of the law as its callers see it -/
structure Def (P : Program) (w : World) (K : PySem.W.Frag) (mg : Str → Option Value) (base : Heap) (x : Str) (k : Nat) (ps : List Str) (sp : Sp) : Prop where
  ex : ∃ f fd, mg x = some (.ref f) ∧ PySem.W.keepIn K (.ref f) = true ∧ Binds K fd ps [] ∧ FnOk P w K mg base CX0 k f fd ps sp
def Plain (v : V) (b : Bool) : Prop := ((∃ i, v = .int i) ∧ b = true) ∨ ((v = .non ∨ ∃ z, v = .str z) ∧ b = false)
def spWhole : Sp := fun vs H Q _ => ∃ (v : V) (b : Bool), vs = [v] ∧ Plain v b ∧ Q (.bl b) H
def spCellA (K : PySem.W.Frag) : Sp := fun vs H Q _ => ∃ (a : Addr) (ns : List Int) (j : Nat), vs = [.ref a, .int j] ∧ SqL K H a (ns.map V.int) ∧ ∀ t, Q (.int t) H
def spSign : Sp := fun vs H Q _ => ∃ (c : Int), vs = [.int c] ∧ ∀ z, TOk 1 z → z.length = 1 → Q (.str z) H
def spText : Sp := fun vs H Q _ => ∃ (c n : Int), vs = [.int c, .int n] ∧ 0 ≤ n ∧ n ≤ 60 ∧ ∀ z H', TOk n.toNat z → z.length = n.toNat → Same H H' → Q (.str z) H'
def spPool : Sp := fun vs H Q _ => ∃ (c o : Int), vs = [.int c, .int o] ∧ ∀ (q : Addr) (zs : List Str) (H' : Hp), H q = none → H' q = some (.lst (zs.map V.str)) → zs.length = 6 → (∀ z ∈ zs, TOk 60 z) → (∀ z, zs[0]? = some z → 0 < z.length) → Same H H' → Q (.ref q) H'
def spPrefix : Sp := fun vs H Q _ => ∃ (q : Addr) (zs : List Str) (c : Int), vs = [.ref q, .int c] ∧ H q = some (.lst (zs.map V.str)) ∧ zs.length = 6 ∧ (∀ z ∈ zs, TOk 60 z) ∧ ∀ z H', TOk 60 z → Same H H' → Q (.str z) H'
section
variable {P : Program} {w : World} {K : PySem.W.Frag} {mg : Str → Option Value} {base : Heap}
theorem ok_whole {f : Addr} {fd : FuncData} (F : Fun K "_law_whole" "_law_whole" s_whole f fd) (T : LTxt mg) : FnOk P w K mg base CX0 1 f fd p_whole spWhole := by
  refine F.ok sc_whole (fun vs H Q E h => ?_) (fun cdv A outer s H vs Q E hr h => ?_)
  · obtain ⟨v, b, rfl, _⟩ := h
    rfl
  · obtain ⟨v, b, rfl, hb, k⟩ := h
    refine ⟨_, pss_one (ps_ret (pe_and (pe_callB call_isi (by rfl) T.isi (by decide +kernel) (pa_cons (pv 0) (pa_cons (pe_bltn (v := V.ty "int") (by rfl) T.int (by decide +kernel) rfl) pa_nil)))
      (pe_one (pe_not (pe_callB call_isi (by rfl) T.isi (by decide +kernel) (pa_cons (pv 0) (pa_cons (pe_bltn (v := V.ty "bool") (by rfl) T.bool (by decide +kernel) rfl) pa_nil))))))), ?_⟩
    rcases hb with ⟨⟨i, rfl⟩, rfl⟩ | ⟨hv, rfl⟩
    · refine ⟨_, rfl, _, _, _, _, true, rfl, .ty _, .base (.int i), kit_ty (by decide +kernel), true, rfl, ?_⟩
      refine iteT ?_
      exact ⟨_, rfl, _, _, _, _, false, rfl, .ty _, .base (.int i), kit_ty (by decide +kernel), false, rfl, k⟩
    · rcases hv with rfl | ⟨z, rfl⟩
      · refine ⟨_, rfl, _, _, _, _, false, rfl, .ty _, .base .non, kit_ty (by decide +kernel), false, rfl, ?_⟩
        exact iteF k
      · refine ⟨_, rfl, _, _, _, _, false, rfl, .ty _, .base (.str z), kit_ty (by decide +kernel), false, rfl, ?_⟩
        exact iteF k
theorem ok_cell {f : Addr} {fd : FuncData} (F : Fun K "_law_cell_at" "_law_cell_at" s_cell_at f fd) (T : LTxt mg) : FnOk P w K mg base CX0 1 f fd p_cell_at (spCellA K) := by
  refine F.ok sc_cell_at (fun vs H Q E h => ?_) (fun cdv A outer s H vs Q E hr h => ?_)
  · obtain ⟨a, ns, j, rfl, _⟩ := h
    rfl
  · obtain ⟨a, ns, j, rfl, hs, k⟩ := h
    refine ⟨_, pss_cons (ps_if (pt_cmpR op_lt (pv 1) (pe_callB call_len_seq (by rfl) T.len PySem.boot_len (pa_cons (pv 0) pa_nil)) (nomark _)) (pss_one (ps_ret (pe_ix ix_list (pv 0) (pv 1) (fun _ _ => rfl)))) pss_nil)
      (pss_one (ps_ret pe_int)), ?_⟩
    refine ⟨_, rfl, _, rfl, a, _, rfl, .inl hs, _, _, rfl, rfl, _, rfl, ?_⟩
    rw [List.length_map]
    by_cases c : (j : Int) < ns.length
    · rw [decide_eq_true c]
      refine iteT ?_
      obtain ⟨t, _, e⟩ := at_ints (ns := ns) (z := (j : Int)) (by omega) c
      exact ⟨_, rfl, _, rfl, a, _, _, _, rfl, rfl, hs, e, k t⟩
    · rw [decide_eq_false c]
      refine iteF ?_
      exact k 0
theorem sign_go {z : Str} {i : Int} {H : Hp} {Q : VK} (h1 : z.length = 94) (h2 : PyData.strOk z = true) (k : ∀ y, TOk 1 y → y.length = 1 → Q (.str y) H) :
    ∃ x j c, V.str z = .str x ∧ V.int (i % 94) = .int j ∧ x.length ≤ sizeLine ∧ atI x.cps.toList j = some c ∧ Q (.str ⟨#[c]⟩) H := by
  have hl : z.cps.toList.length = 94 := by rw [Array.length_toList]; exact h1
  obtain ⟨j, hj⟩ := Int.eq_ofNat_of_zero_le (a := i % 94) (by omega)
  have hlt : j < z.cps.toList.length := by omega
  refine ⟨z, _, z.cps.toList[j], rfl, rfl, by rw [h1]; decide, by rw [hj]; exact atI_nat (List.getElem?_eq_getElem hlt), k _ (TOk.one ?_) rfl⟩
  unfold PyData.strOk at h2
  rw [← Array.all_toList, List.all_eq_true] at h2
  exact of_decide_eq_true (h2 _ (List.getElem_mem hlt))
theorem ok_sign {f : Addr} {fd : FuncData} (F : Fun K "_law_sign" "_law_sign" s_sign f fd) : FnOk P w K mg base CX0 1 f fd p_sign spSign := by
  refine F.ok sc_sign (fun vs H Q E h => ?_) (fun cdv A outer s H vs Q E hr h => ?_)
  · obtain ⟨c, rfl, _⟩ := h
    rfl
  · obtain ⟨c, rfl, k⟩ := h
    refine ⟨_, pss_cons (ps_set (i := 1) sc_sign.nd rfl (Or.inl rfl) pe_str) (pss_cons (ps_set (i := 1) sc_sign.nd rfl (Or.inl rfl) (pe_op op_add_str (pv 1) pe_str))
      (pss_one (ps_ret (pe_ix ix_str (pv 1) (pe_op op_mod (pv 0) pe_int) (fun _ _ => rfl))))), ?_⟩
    refine ⟨_, rfl, _, _, rfl, rfl, (by decide +kernel), ?_⟩
    refine ⟨_, rfl, _, rfl, _, _, rfl, rfl, (by show (0 : Int) < 94; decide), ?_⟩
    exact sign_go (by decide +kernel) (by decide +kernel) k
theorem join_full : ∀ {ys : List Str}, (∀ y ∈ ys, y.length = 1) → (Str.join "" ys).length = ys.length
  | [], _ => rfl
  | [x], h => h x List.mem_cons_self
  | x :: z :: r, h => by
    have a := h x List.mem_cons_self
    have b := join_full (ys := z :: r) fun y hy => h y (List.mem_cons_of_mem _ hy)
    show ((x ++ ("" : Str)) ++ Str.join "" (z :: r)).length = _
    have lap : ∀ x y : Str, (x ++ y).length = x.length + y.length := fun x y => by
      have e : tl (x ++ y) = tl x ++ tl y := TL.tl_append x y
      rw [← tl_len, e, List.length_append, tl_len, tl_len]
    rw [lap, lap, a, b]
    show 1 + 0 + _ = _
    simp only [List.length_cons]
    omega
theorem ok_text {f : Addr} {fd : FuncData} (F : Fun K "_law_text" "_law_text" s_text f fd) (T : LTxt mg) (D1 : Def P w K mg base "_law_sign" 1 p_sign spSign) : FnOk P w K mg base CX0 2 f fd p_text spText := by
  obtain ⟨fS, fdS, gS, kS, bS, GS⟩ := D1.ex
  refine F.ok sc_text (fun vs H Q E h => ?_) (fun cdv A outer s H vs Q E hr h => ?_)
  · obtain ⟨c, n, rfl, _⟩ := h
    rfl
  · obtain ⟨c, n, rfl, n0, n1, k⟩ := h
    refine ⟨_, pss_one (ps_ret (pe_join pe_str (pe_lc (own := [("_law_k", 2)]) (g := gName 2) rfl sc_text.nd (pi_range1 (by rfl) T.range (pa_cons (pv 1) pa_nil)) (blkOk_by (own := [("_law_k", 2)]) (N := n_text) (sc := defScope s_text) (by decide +kernel))
      (fun _ _ _ _ _ => pg_name (i := 2) sc_text.nd rfl (Or.inl rfl) (Or.inr rfl)) (fun _ _ _ _ _ => pts_nil)
      (fun _ _ _ _ _ => pe_call GS hr rfl gS kS bS .nil pass0 (pa_cons (pe_op op_add (pv 0) (pe_op op_mul (pe_op op_mul pe_int (pv 2)) (pv 2))) pa_nil))))), ?_⟩
    refine ⟨⟨_, rfl⟩, _, rfl, n, rfl, by omega, by omega, fun D hD => ?_⟩
    refine lc_range (lo := 0) (n := n.toNat) (fun i H' => ∃ ys : List Str, Same H H' ∧ H' D = some (.lst (ys.map V.str)) ∧ ys.length = i ∧ (∀ y ∈ ys, TOk 1 y) ∧ ∀ y ∈ ys, y.length = 1) ⟨[], same_new hD, upd_same, rfl, (fun y hy => by cases hy), fun y hy => by cases hy⟩ ?_ ?_
    · rintro i H1 hi ⟨ys, hs, hl, len, ok, one⟩
      refine ⟨rfl, _, rfl, _, rfl, _, _, rfl, rfl, .inl ⟨by decide, by decide⟩, _, rfl, _, _, rfl, rfl, .inl ⟨by omega, by omega⟩, _, _, rfl, rfl, _, rfl, fun z hz hz1 => ?_⟩
      refine ⟨_, hl, by rw [List.length_map]; exact small1000 (by omega), ys ++ [z], fun b o e => ?_, by rw [upd_same, List.map_append]; rfl, by rw [List.length_append, len]; rfl, fun y hy => ?_, fun y hy => ?_⟩
      · rw [upd_ne (ne_of_none e hD)]; exact hs b o e
      · rcases List.mem_append.mp hy with hy | hy
        · exact ok y hy
        · rw [List.mem_singleton.mp hy]; exact hz
      · rcases List.mem_append.mp hy with hy | hy
        · exact one y hy
        · rw [List.mem_singleton.mp hy]; exact hz1
    · rintro H1 ⟨ys, hs, hl, len, ok, one⟩
      refine ⟨_, D, ys, rfl, rfl, .inl (SqL.of hl), Nat.le_trans (join_len ok) (by omega), ?_⟩
      rw [TL.join_eq]
      refine k _ _ ?_ ?_ hs
      · rw [← len]
        exact join_ok ok
      · rw [← len]
        exact join_full one
theorem ok_pool {f : Addr} {fd : FuncData} (F : Fun K "_law_pool" "_law_pool" s_pool f fd) (T : LTxt mg) (D1 : Def P w K mg base "_law_sign" 1 p_sign spSign) (D2 : Def P w K mg base "_law_text" 2 p_text spText) : FnOk P w K mg base CX0 3 f fd p_pool spPool := by
  obtain ⟨fS, fdS, gS, kS, bS, GS⟩ := D1.ex
  obtain ⟨fT, fdT, gT, kT, bT, GT⟩ := D2.ex
  refine F.ok sc_pool (fun vs H Q E h => ?_) (fun cdv A outer s H vs Q E hr h => ?_)
  · obtain ⟨c, o, rfl, _⟩ := h
    rfl
  · obtain ⟨c, o, rfl, k⟩ := h
    have hr1 : Room 1 _ := hr.mono (by decide)
    refine ⟨_, pss_cons (ps_set (i := 2) sc_pool.nd rfl (Or.inl rfl) (pe_call GT hr rfl gT kT bT .nil pass0 (pa_cons (pv 0) (pa_cons (pe_ix ix_list (pe_lst (pa_cons (pe_op op_add pe_int (pe_op op_mod (pv 0) pe_int)) (pa_cons (pe_op op_add pe_int (pe_op op_mod (pv 0) pe_int)) pa_nil)))
          (pe_op op_mod (pe_op op_fdiv (pv 0) pe_int) pe_int) (fun _ _ => rfl)) pa_nil))))
      (pss_cons (ps_set (i := 3) sc_pool.nd rfl (Or.inl rfl) (pe_call GS hr1 rfl gS kS bS .nil pass0 (pa_cons (pv 1) pa_nil)))
      (pss_cons (ps_set (i := 4) sc_pool.nd rfl (Or.inl rfl) (pe_call GS hr1 rfl gS kS bS .nil pass0 (pa_cons (pe_op op_fdiv (pv 1) pe_int) pa_nil)))
      (pss_cons (ps_set (i := 5) sc_pool.nd rfl (Or.inl rfl) (pe_op op_mod (pe_op op_fdiv (pv 1) pe_int) (pe_op op_add (pe_callB call_len_str (by rfl) T.len PySem.boot_len (pa_cons (pv 2) pa_nil)) pe_int)))
      (pss_one (ps_ret (pe_lst (pa_cons (pv 2) (pa_cons (pe_op op_add_str (pv 2) (pv 3)) (pa_cons (pe_op op_add_str (pe_op op_add_str (pe_slice sl_str (pv 2) po_none (po_some (pv 5))) (pv 4)) (pe_slice sl_str (pv 2) (po_some (pv 5)) po_none))
        (pa_cons (pv 3) (pa_cons (pe_op op_add_str (pv 4) (pv 2)) (pa_cons (pe_call GT hr rfl gT kT bT .nil pass0 (pa_cons (pv 1) (pa_cons (pe_op op_sub pe_int (pe_op op_mod (pv 1) pe_int)) pa_nil))) pa_nil)))))))))))), ?_⟩
    refine ⟨_, rfl, _, rfl, _, _, rfl, rfl, (by show (0 : Int) < 4; decide), _, _, rfl, rfl, _, rfl, _, _, rfl, rfl, (by show (0 : Int) < 18; decide), _, _, rfl, rfl, (by show 2 ≤ sizeLine; decide), fun l hl => ?_⟩
    obtain ⟨n, hn, e⟩ := at_ints (ns := [1 + c % 4, 1 + c % 18]) (z := c / 4 % 2) (by omega) (by show c / 4 % 2 < 2; omega)
    have hn1 : 1 ≤ n ∧ n ≤ 18 := by
      simp only [List.mem_cons, List.not_mem_nil, or_false] at hn
      omega
    refine ⟨_, rfl, _, _, rfl, rfl, ⟨by decide, by decide⟩, _, _, rfl, rfl, (by show (0 : Int) < 2; decide), l, _, _, _, rfl, rfl, SqL.of upd_same, e, c, n, rfl, by omega, by omega, fun z1 H1 t1 l1 s1 => ?_⟩
    have t1 : TOk 18 z1 := t1.mono (by omega)
    refine ⟨_, rfl, _, rfl, fun z2 t2 _ => ?_⟩
    refine ⟨_, rfl, _, _, rfl, rfl, ⟨by decide, by decide⟩, _, rfl, fun z3 t3 _ => ?_⟩
    refine ⟨_, rfl, _, _, rfl, rfl, ⟨by decide, by decide⟩, _, rfl, _, rfl, t1.line (by decide), _, _, rfl, rfl, _, _, rfl, rfl, ?_, ?_⟩
    · show (0 : Int) < (z1.length : Int) + 1
      omega
    have c1 := t1.cut none (some (o / 8836 % ((z1.length : Int) + 1)))
    have c2 := t1.cut (some (o / 8836 % ((z1.length : Int) + 1))) none
    have a1 := (c1.app t3).app c2
    have a2 := t1.app t2
    have a3 := t3.app t1
    have L1 : ∀ {x y : Str} {n m : Nat}, TOk n x → TOk m y → n + m ≤ 1000 → x.length + y.length ≤ sizeLine := fun {x y n m} a b h => by
      have := a.le
      have := b.le
      exact Nat.le_of_lt (small1000 (by omega))
    refine ⟨_, rfl, _, rfl, _, rfl, _, _, rfl, rfl, L1 t1 t2 (by decide), ?_⟩
    refine ⟨_, rfl, _, rfl, _, rfl, _, rfl, t1.line (by decide), _, rfl, _, _, rfl, rfl, L1 c1 t3 (by decide), ?_⟩
    refine ⟨_, rfl, _, rfl, _, rfl, _, rfl, t1.line (by decide), _, _, rfl, rfl, L1 (c1.app t3) c2 (by decide), ?_⟩
    refine ⟨_, rfl, _, rfl, _, rfl, _, _, rfl, rfl, L1 t3 t1 (by decide), ?_⟩
    refine ⟨_, rfl, _, rfl, _, _, rfl, rfl, (by show (0 : Int) < 3; decide), _, _, rfl, rfl, o, 20 - o % 3, rfl, by omega, by omega, fun z4 H2 t4 _ s2 => ?_⟩
    refine ⟨(by show 6 ≤ sizeLine; decide), fun q hq => ?_⟩
    have s0 : Same H H2 := fun b u e => s2 _ _ (s1 _ _ (same_new hl _ _ e))
    refine k q [z1, z1 ++ z2, cutS z1 none (some (o / 8836 % ((z1.length : Int) + 1))) ++ z3 ++ cutS z1 (some (o / 8836 % ((z1.length : Int) + 1))) none, z2, z3 ++ z1, z4] _ (s0.free hq) upd_same rfl (fun z hz => ?_) (fun z hz => ?_) fun b u e => ?_
    · simp only [List.mem_cons, List.not_mem_nil, or_false] at hz
      rcases hz with rfl | rfl | rfl | rfl | rfl | rfl
      · exact t1.mono (by decide)
      · exact a2.mono (by decide)
      · exact a1.mono (by decide)
      · exact t2.mono (by decide)
      · exact a3.mono (by decide)
      · exact t4.mono (by omega)
    · cases hz
      rw [l1]
      omega
    · rw [upd_ne (ne_of_none (s0 _ _ e) hq)]; exact s0 _ _ e
theorem ok_prefix {f : Addr} {fd : FuncData} (F : Fun K "_law_prefix" "_law_prefix" s_prefix f fd) : FnOk P w K mg base CX0 1 f fd p_prefix spPrefix := by
  refine F.ok sc_prefix (fun vs H Q E h => ?_) (fun cdv A outer s H vs Q E hr h => ?_)
  · obtain ⟨q, zs, c, rfl, _⟩ := h
    rfl
  · obtain ⟨q, zs, c, rfl, hq, hl, ok, k⟩ := h
    obtain ⟨z0, z1, z2, z3, z4, z5, rfl⟩ : ∃ z0 z1 z2 z3 z4 z5, zs = [z0, z1, z2, z3, z4, z5] := by
      match zs, hl with
      | [z0, z1, z2, z3, z4, z5], _ => exact ⟨z0, z1, z2, z3, z4, z5, rfl⟩
    have o4 := ok z4 (by simp)
    refine ⟨_, pss_one (ps_ret (pe_ix ix_list (pe_lst (pa_cons pe_str (pa_cons pe_str (pa_cons (pe_ix ix_list (pv 0) pe_int (fun _ _ => rfl)) (pa_cons (pe_ix ix_list (pv 0) pe_int (fun _ _ => rfl)) (pa_cons (pe_ix ix_list (pv 0) pe_int (fun _ _ => rfl))
      (pa_cons (pe_slice sl_str (pe_ix ix_list (pv 0) pe_int (fun _ _ => rfl)) po_none (po_some pe_int)) (pa_cons (pe_ix ix_list (pv 0) pe_int (fun _ _ => rfl)) pa_nil))))))))
      (pe_op op_mod (pv 1) pe_int) (fun _ _ => rfl))), ?_⟩
    refine ⟨_, rfl, q, _, 0, .str z0, rfl, rfl, SqL.of hq, rfl, _, rfl, q, _, 3, .str z3, rfl, rfl, SqL.of hq, rfl, _, rfl, q, _, 1, .str z1, rfl, rfl, SqL.of hq, rfl, _, rfl, q, _, 4, .str z4, rfl, rfl, SqL.of hq, rfl, _, rfl, _, rfl, o4.line (by decide),
      _, rfl, q, _, 5, .str z5, rfl, rfl, SqL.of hq, rfl, (by show 7 ≤ sizeLine; decide), fun l hl => ?_⟩
    obtain ⟨z, hz, e⟩ := at_strs (ns := ["", "", z0, z3, z1, cutS z4 none (some 1), z5]) (z := c % 7) (by omega) (by show c % 7 < 7; omega)
    refine ⟨_, rfl, _, _, rfl, rfl, (by show (0 : Int) < 7; decide), l, _, _, _, rfl, rfl, SqL.of upd_same, e, ?_⟩
    refine k z _ ?_ (same_new hl)
    simp only [List.mem_cons, List.not_mem_nil, or_false] at hz
    rcases hz with rfl | rfl | rfl | rfl | rfl | rfl | rfl
    · exact TOk.nil.mono (by decide)
    · exact TOk.nil.mono (by decide)
    · exact ok _ (by simp)
    · exact ok _ (by simp)
    · exact ok _ (by simp)
    · exact o4.cut _ _
    · exact ok _ (by simp)
end
end KL

namespace KL
open PySem L2 L2H LX KB
/-! ### a law's plain helpers: change, changes -/
def spChange : Sp := fun vs H Q _ => ∃ (t : Addr) (r : Row), vs = [.ref t] ∧ H t = some (.tup r.V) ∧ Q (.bl true) H
def spChanges (K : PySem.W.Frag) : Sp := fun vs H Q _ => ∃ (f d : Addr) (ts us : List Addr) (rs : List Row), vs = [.ref f, .ref d] ∧ H f = some (.lst (ts.map V.ref)) ∧ H d = some (.lst (us.map V.ref)) ∧ RowsAt H ts rs ∧ RowsAt H us rs ∧ (∀ r ∈ rs, r.Ok) ∧
  Q (.bl true) (upd H f (.lst []))
section
variable {P : Program} {w : World} {K : PySem.W.Frag} {mg : Str → Option Value} {base : Heap}
theorem ok_change {f : Addr} {fd : FuncData} (F : Fun K "_law_change" "_law_change" s_change f fd) (T : LTxt mg) (D1 : Def P w K mg base "_law_whole" 1 p_whole spWhole) : FnOk P w K mg base CX0 2 f fd p_change spChange := by
  obtain ⟨fW, fdW, gW, kW, bW, GW⟩ := D1.ex
  refine F.ok sc_change (fun vs H Q E h => ?_) (fun cdv A outer s H vs Q E hr h => ?_)
  · obtain ⟨t, r, rfl, _⟩ := h
    rfl
  · obtain ⟨t, r, rfl, ht, k⟩ := h
    refine ⟨_, pss_cons (ps_if (PW.pt (pw_or (pt_not (pt_val (pe_callB call_isi (by rfl) T.isi (by decide +kernel) (pa_cons (pv 0) (pa_cons (pe_bltn (v := V.ty "tuple") (by rfl) T.tuple (by decide +kernel) rfl) pa_nil)))))
          (pw_or1 (pt_cmpR op_ne (pe_callB call_len_seq (by rfl) T.len PySem.boot_len (pa_cons (pv 0) pa_nil)) pe_int (nomark _))))) (pss_one (ps_ret pe_bl)) pss_nil)
      (pss_cons (ps_if (PW.pt (pw_or (pt_not (pt_val (pe_call GW hr rfl gW kW bW .nil pass0 (pa_cons (pe_ix ix_tup (pv 0) pe_int (fun _ _ => rfl)) pa_nil))))
          (pw_or1 (pt_not (pt_val (pe_call GW hr rfl gW kW bW .nil pass0 (pa_cons (pe_ix ix_tup (pv 0) pe_int (fun _ _ => rfl)) pa_nil))))))) (pss_one (ps_ret pe_bl)) pss_nil)
      (pss_one (ps_ret (pe_and (pe_callB call_isi (by rfl) T.isi (by decide +kernel) (pa_cons (pe_ix ix_tup (pv 0) pe_int (fun _ _ => rfl)) (pa_cons (pe_bltn (v := V.ty "str") (by rfl) T.str (by decide +kernel) rfl) pa_nil)))
        (pe_and (pe_callB call_isi (by rfl) T.isi (by decide +kernel) (pa_cons (pe_ix ix_tup (pv 0) pe_int (fun _ _ => rfl)) (pa_cons (pe_bltn (v := V.ty "str") (by rfl) T.str (by decide +kernel) rfl) pa_nil)))
        (pe_one (pe_callB call_isi (by rfl) T.isi (by decide +kernel) (pa_cons (pe_ix ix_tup (pv 0) pe_int (fun _ _ => rfl)) (pa_cons (pe_bltn (v := V.ty "str") (by rfl) T.str (by decide +kernel) rfl) pa_nil))))))))), ?_⟩
    refine ⟨_, rfl, _, _, _, _, true, rfl, .ty _, .base (.tup ht), kit_ty (by decide +kernel), true, rfl, iteF ?_⟩
    refine ⟨_, rfl, t, _, rfl, .inr (SqT.of ht), rfl, _, rfl, iteNS rfl ?_⟩
    refine ⟨_, rfl, t, _, 0, .int r.n, rfl, rfl, SqT.of ht, rfl, _, true, rfl, .inl ⟨⟨r.n, rfl⟩, rfl⟩, true, rfl, iteF ?_⟩
    refine ⟨_, rfl, t, _, 1, .int r.t, rfl, rfl, SqT.of ht, rfl, _, true, rfl, .inl ⟨⟨r.t, rfl⟩, rfl⟩, true, rfl, iteF ?_⟩
    refine ⟨_, rfl, t, _, 2, .str r.w, rfl, rfl, SqT.of ht, rfl, _, _, _, _, true, rfl, .ty _, .base (.str r.w), kit_ty (by decide +kernel), true, rfl, iteT ?_⟩
    refine ⟨_, rfl, t, _, 3, .str r.k, rfl, rfl, SqT.of ht, rfl, _, _, _, _, true, rfl, .ty _, .base (.str r.k), kit_ty (by decide +kernel), true, rfl, iteT ?_⟩
    exact ⟨_, rfl, t, _, 4, .str r.v, rfl, rfl, SqT.of ht, rfl, _, _, _, _, true, rfl, .ty _, .base (.str r.v), kit_ty (by decide +kernel), k⟩
theorem ok_changes {f : Addr} {fd : FuncData} (F : Fun K "_law_changes" "_law_changes" s_changes f fd) (T : LTxt mg) (D1 : Def P w K mg base "_law_change" 2 p_change spChange) : FnOk P w K mg base CX0 3 f fd p_changes (spChanges K) := by
  obtain ⟨fC, fdC, gC, kC, bC, GC⟩ := D1.ex
  refine F.ok sc_changes (fun vs H Q E h => ?_) (fun cdv A outer s H vs Q E hr h => ?_)
  · obtain ⟨f, d, ts, us, rs, rfl, _⟩ := h
    rfl
  · obtain ⟨fo, d, ts, us, rs, rfl, hf, hd, mf, md, ok, k⟩ := h
    have hu64 := hr.units
    refine ⟨_, pss_cons (ps_if (PW.pt (pw_or (pt_not (pt_val (pe_callB call_isi (by rfl) T.isi (by decide +kernel) (pa_cons (pv 0) (pa_cons (pe_bltn (v := V.ty "list") (by rfl) T.list (by decide +kernel) rfl) pa_nil)))))
          (pw_or1 (pt_cmpR op_ne (pe_callB call_len_seq (by rfl) T.len PySem.boot_len (pa_cons (pv 0) pa_nil)) (pe_callB call_len_seq (by rfl) T.len PySem.boot_len (pa_cons (pv 1) pa_nil)) (nomark _))))) (pss_one (ps_ret pe_bl)) pss_nil)
      (pss_cons (ps_for PassesOwn.never rfl (pi_list (pv 0)) (pg_name (i := 2) sc_changes.nd rfl (Or.inl rfl))
        (pss_one (ps_if (pt_not (pt_val (pe_call GC hr rfl gC kC bC .nil pass0 (pa_cons (pv 2) pa_nil)))) (pss_one (ps_ret pe_bl)) pss_nil)))
      (pss_cons (ps_set (i := 3) sc_changes.nd rfl (Or.inl rfl) (pe_cmpR (op_eqD hu64) (pv 0) (pv 1) (nomark _)))
      (pss_cons (ps_expr (pe_bm0 PySem.F.plainAttrs_list PySem.F.slot_list_clear PySem.F.type_list_clear mt_clear (pv 0)))
      (pss_one (ps_ret (pv 3)))))), ?_⟩
    refine ⟨_, rfl, _, _, _, _, true, rfl, .ty _, .base (.lst hf), kit_ty (by decide +kernel), true, rfl, iteF ?_⟩
    refine ⟨_, rfl, fo, _, rfl, .inl (SqL.of hf), _, rfl, d, _, rfl, .inl (SqL.of hd), rfl, _, rfl, iteNS (by rw [List.length_map, List.length_map, Paired.length mf, Paired.length md]) ?_⟩
    refine ⟨_, rfl, fo, rfl, ⟨_, SqL.of hf⟩, for_list (xs := ts.map V.ref) (fun i σ H' => H = H' ∧ ∃ y, σ = [some (.ref fo), some (.ref d), y, none]) ⟨rfl, none, rfl⟩ ?_ ?_ ?_⟩
    · rintro i σ H' _ ⟨rfl, _⟩
      exact SqL.of hf
    · rintro i x σ H' hx ⟨rfl, y, rfl⟩
      obtain ⟨t, r, rfl, _, ht⟩ := RowsAt.at mf hx
      exact ⟨_, rfl, t, r, rfl, ht, true, rfl, iteF ⟨rfl, _, rfl⟩⟩
    · rintro σ H' ⟨rfl, y, rfl⟩
      refine ⟨_, rfl, _, rfl, .list (rs.map Row.D), .list (rs.map Row.D), .lst (SqL.of hf) mf.dp, .lst (SqL.of hd) md.dp, rows_shaped ok, rows_shaped ok, ?_⟩
      rw [rows_eqv ok]
      exact ⟨_, rfl, .inl ⟨rfl, _, SqL.of hf⟩, fo, _, rfl, rfl, hf, _, rfl, k⟩
end
end KL

namespace KL
open PySem L2 L2H LX KB
/-! ### a law's plain helpers: pairs -/
def spPairs (K : PySem.W.Frag) : Sp := fun vs H Q _ => ∃ (f d : Addr) (ts us : List Addr) (ps : List (Str × Str)), vs = [.ref f, .ref d] ∧ H f = some (.lst (ts.map V.ref)) ∧ H d = some (.lst (us.map V.ref)) ∧ PairsAt H ts ps ∧ PairsAt H us ps ∧ (∀ r ∈ ps, PairOk r) ∧
  Q (.bl true) (upd H f (.lst []))
section
variable {P : Program} {w : World} {K : PySem.W.Frag} {mg : Str → Option Value} {base : Heap}
theorem ok_pairs {f : Addr} {fd : FuncData} (F : Fun K "_law_pairs" "_law_pairs" s_pairs f fd) (T : LTxt mg) : FnOk P w K mg base CX0 1 f fd p_pairs (spPairs K) := by
  refine F.ok sc_pairs (fun vs H Q E h => ?_) (fun cdv A outer s H vs Q E hr h => ?_)
  · obtain ⟨f, d, ts, us, ps, rfl, _⟩ := h
    rfl
  · obtain ⟨fo, d, ts, us, ps, rfl, hf, hd, mf, md, ok, k⟩ := h
    have hu64 := hr.units
    refine ⟨_, pss_cons (ps_if (PW.pt (pw_or (pt_not (pt_val (pe_callB call_isi (by rfl) T.isi (by decide +kernel) (pa_cons (pv 0) (pa_cons (pe_bltn (v := V.ty "list") (by rfl) T.list (by decide +kernel) rfl) pa_nil)))))
          (pw_or1 (pt_cmpR op_ne (pe_callB call_len_seq (by rfl) T.len PySem.boot_len (pa_cons (pv 0) pa_nil)) (pe_callB call_len_seq (by rfl) T.len PySem.boot_len (pa_cons (pv 1) pa_nil)) (nomark _))))) (pss_one (ps_ret pe_bl)) pss_nil)
      (pss_cons (ps_for PassesOwn.never rfl (pi_list (pv 0)) (pg_name (i := 2) sc_pairs.nd rfl (Or.inl rfl))
        (pss_cons (ps_if (PW.pt (pw_or (pt_not (pt_val (pe_callB call_isi (by rfl) T.isi (by decide +kernel) (pa_cons (pv 2) (pa_cons (pe_bltn (v := V.ty "tuple") (by rfl) T.tuple (by decide +kernel) rfl) pa_nil)))))
          (pw_or1 (pt_cmpR op_ne (pe_callB call_len_seq (by rfl) T.len PySem.boot_len (pa_cons (pv 2) pa_nil)) pe_int (nomark _))))) (pss_one (ps_ret pe_bl)) pss_nil)
        (pss_one (ps_if (PW.pt (pw_or (pt_not (pt_val (pe_callB call_isi (by rfl) T.isi (by decide +kernel) (pa_cons (pe_ix ix_tup (pv 2) pe_int (fun _ _ => rfl)) (pa_cons (pe_bltn (v := V.ty "str") (by rfl) T.str (by decide +kernel) rfl) pa_nil)))))
          (pw_or1 (pt_not (pt_val (pe_callB call_isi (by rfl) T.isi (by decide +kernel) (pa_cons (pe_ix ix_tup (pv 2) pe_int (fun _ _ => rfl)) (pa_cons (pe_bltn (v := V.ty "str") (by rfl) T.str (by decide +kernel) rfl) pa_nil)))))))) (pss_one (ps_ret pe_bl)) pss_nil))))
      (pss_cons (ps_set (i := 3) sc_pairs.nd rfl (Or.inl rfl) (pe_cmpR (op_eqD hu64) (pv 0) (pv 1) (nomark _)))
      (pss_cons (ps_expr (pe_bm0 PySem.F.plainAttrs_list PySem.F.slot_list_clear PySem.F.type_list_clear mt_clear (pv 0)))
      (pss_one (ps_ret (pv 3)))))), ?_⟩
    refine ⟨_, rfl, _, _, _, _, true, rfl, .ty _, .base (.lst hf), kit_ty (by decide +kernel), true, rfl, iteF ?_⟩
    refine ⟨_, rfl, fo, _, rfl, .inl (SqL.of hf), _, rfl, d, _, rfl, .inl (SqL.of hd), rfl, _, rfl, iteNS (by rw [List.length_map, List.length_map, Paired.length mf, Paired.length md]) ?_⟩
    refine ⟨_, rfl, fo, rfl, ⟨_, SqL.of hf⟩, for_list (xs := ts.map V.ref) (fun i σ H' => H = H' ∧ ∃ y, σ = [some (.ref fo), some (.ref d), y, none]) ⟨rfl, none, rfl⟩ ?_ ?_ ?_⟩
    · rintro i σ H' _ ⟨rfl, _⟩
      exact SqL.of hf
    · rintro i x σ H' hx ⟨rfl, y, rfl⟩
      obtain ⟨t, a, b, rfl, ht⟩ := PairsAt.at mf hx
      refine ⟨_, rfl, _, _, _, _, true, rfl, .ty _, .base (.tup ht), kit_ty (by decide +kernel), true, rfl, iteF ?_⟩
      refine ⟨_, rfl, t, _, rfl, .inr (SqT.of ht), rfl, _, rfl, iteNS rfl ?_⟩
      refine ⟨_, rfl, t, _, 0, .str a, rfl, rfl, SqT.of ht, rfl, _, _, _, _, true, rfl, .ty _, .base (.str a), kit_ty (by decide +kernel), true, rfl, iteF ?_⟩
      exact ⟨_, rfl, t, _, 1, .str b, rfl, rfl, SqT.of ht, rfl, _, _, _, _, true, rfl, .ty _, .base (.str b), kit_ty (by decide +kernel), true, rfl, iteF ⟨rfl, _, rfl⟩⟩
    · rintro σ H' ⟨rfl, y, rfl⟩
      refine ⟨_, rfl, _, rfl, .list (ps.map pairD), .list (ps.map pairD), .lst (SqL.of hf) mf.dp, .lst (SqL.of hd) md.dp, pairs_shaped ok, pairs_shaped ok, ?_⟩
      rw [pairs_eqv ok]
      exact ⟨_, rfl, .inl ⟨rfl, _, SqL.of hf⟩, fo, _, rfl, rfl, hf, _, rfl, k⟩
end
end KL

namespace KL
open PySem L2 L2H LX KB
/-! ### the law's own tables of a room -/
def mD (now given : Int) (sp en he ro : Addr) : List (Key × V) := [(Sum.inr "now", .int now), (Sum.inr "given", .int given), (Sum.inr "spans", .ref sp), (Sum.inr "ends", .ref en), (Sum.inr "held", .ref he), (Sum.inr "rows", .ref ro)]
def mK : List Key := [Sum.inr "now", Sum.inr "given", Sum.inr "spans", Sum.inr "ends", Sum.inr "held", Sum.inr "rows"]
theorem mD_keys (now given : Int) (sp en he ro : Addr) : ((mD now given sp en he ro).map (·.1)).Nodup := by
  show [(Sum.inr ("now" : Str) : Key), Sum.inr "given", Sum.inr "spans", Sum.inr "ends", Sum.inr "held", Sum.inr "rows"].Nodup
  decide +kernel
theorem valV_of {κ : Type} [DecidableEq κ] : ∀ {kvs : List (κ × V)}, (kvs.map (·.1)).Nodup → ∀ {k : κ} {v : V}, (k, v) ∈ kvs → valV kvs k = some v
  | [], _, _, _, h => nomatch h
  | q :: r, n, k, v, h => by
    rw [List.map_cons, List.nodup_cons] at n
    rcases List.mem_cons.mp h with e | h
    · subst e
      exact valV_pos rfl
    · rw [valV_neg fun z => n.1 (z ▸ List.mem_map.mpr ⟨(k, v), h, rfl⟩)]
      exact valV_of n.2 h
theorem merge_all {κ : Type} [DecidableEq κ] : ∀ {kvs acc : List (κ × V)}, ((acc ++ kvs).map (·.1)).Nodup → kvs.foldl (fun d p => putK d p.1 p.2) acc = acc ++ kvs
  | [], acc, _ => (List.append_nil acc).symm
  | q :: r, acc, n => by
    have nk : valV acc q.1 = none := by
      cases e : valV acc q.1 with
      | none => rfl
      | some v =>
        exfalso
        rw [List.map_append] at n
        have ha : (acc.any fun kv => decide (kv.1 = q.1)) = true := by rw [valV_any, e]; rfl
        obtain ⟨x, hx, hy⟩ := List.any_eq_true.mp ha
        exact (List.nodup_append.mp n).2.2 x.1 (List.mem_map.mpr ⟨x, hx, rfl⟩) q.1 (by simp) (of_decide_eq_true hy)
    rw [List.foldl_cons, putK_new _ nk]
    have e2 : acc ++ q :: r = (acc ++ [q]) ++ r := by simp
    rw [e2] at n ⊢
    exact merge_all n
theorem inr_no {a b : Str} (h : ¬ a = b) : ¬ ((Sum.inr a : Key) = Sum.inr b) := fun e => h (Sum.inr.inj e)
theorem mD_given (now g g' : Int) (sp en he ro : Addr) : putK (mD now g sp en he ro) (Sum.inr "given") (.int g') = mD now g' sp en he ro := by
  have v := valV_of (mD_keys now g sp en he ro) (k := Sum.inr "given") (v := .int g) (by simp [mD])
  unfold putK
  rw [valV_any, v, if_pos (show (some (V.int g)).isSome = true from rfl)]
  have h1 := inr_no (a := "now") (b := "given") (by decide +kernel)
  have h2 := inr_no (a := "spans") (b := "given") (by decide +kernel)
  have h3 := inr_no (a := "ends") (b := "given") (by decide +kernel)
  have h4 := inr_no (a := "held") (b := "given") (by decide +kernel)
  have h5 := inr_no (a := "rows") (b := "given") (by decide +kernel)
  unfold mD
  simp only [List.map_cons, List.map_nil, if_neg h1, if_neg h2, if_neg h3, if_neg h4, if_neg h5, if_pos]
theorem mD_now (n n' g : Int) (sp en he ro : Addr) : putK (mD n g sp en he ro) (Sum.inr "now") (.int n') = mD n' g sp en he ro := by
  have v := valV_of (mD_keys n g sp en he ro) (k := Sum.inr "now") (v := .int n) (by simp [mD])
  unfold putK
  rw [valV_any, v, if_pos (show (some (V.int n)).isSome = true from rfl)]
  have h1 := inr_no (a := "given") (b := "now") (by decide +kernel)
  have h2 := inr_no (a := "spans") (b := "now") (by decide +kernel)
  have h3 := inr_no (a := "ends") (b := "now") (by decide +kernel)
  have h4 := inr_no (a := "held") (b := "now") (by decide +kernel)
  have h5 := inr_no (a := "rows") (b := "now") (by decide +kernel)
  unfold mD
  simp only [List.map_cons, List.map_nil, if_neg h1, if_neg h2, if_neg h3, if_neg h4, if_neg h5, if_pos]
structure Mm where
  m : Addr
  sp : Addr
  en : Addr
  he : Addr
  ro : Addr
  spl : List (Int × Int)
  enl : List (Int × Int)
  hl : List (Str × (Str × Int))
  spk : List (Key × V)
  enk : List (Key × V)
  hk : List (Key × V)
  ts : List Addr
  x : List (Key × V)
/-- the six, and what stands beside them -/
def mX (now given : Int) (M : Mm) : List (Key × V) := mD now given M.sp M.en M.he M.ro ++ M.x
theorem mX_keys {M : Mm} (h : (mK ++ M.x.map (·.1)).Nodup) (now given : Int) : ((mX now given M).map (·.1)).Nodup := by
  unfold mX
  rw [List.map_append]
  exact h
theorem map_other {x : List (Key × V)} {k : Key} (h : k ∉ x.map (·.1)) (v : V) : x.map (fun kv => if kv.1 = k then (kv.1, v) else kv) = x := by
  have e : x.map (fun kv => if kv.1 = k then (kv.1, v) else kv) = x.map id := List.map_congr_left fun q hq => if_neg fun z => h (List.mem_map.mpr ⟨q, hq, z⟩)
  rw [e, List.map_id]
theorem putK_left {a x : List (Key × V)} {k : Key} {v : V} (h1 : (valV a k).isSome = true) (h2 : k ∉ x.map (·.1)) : putK (a ++ x) k v = putK a k v ++ x := by
  unfold putK
  rw [valV_any, valV_any, h1, if_pos rfl, if_pos]
  · rw [List.map_append, map_other h2]
  · rw [← valV_any, List.any_append, valV_any, h1]
    rfl
theorem mX_given {M : Mm} (h : (mK ++ M.x.map (·.1)).Nodup) (now g g' : Int) : putK (mX now g M) (Sum.inr "given") (.int g') = mX now g' M := by
  unfold mX
  rw [putK_left, mD_given]
  · rw [valV_of (mD_keys now g M.sp M.en M.he M.ro) (k := Sum.inr "given") (v := .int g) (by simp [mD])]
    rfl
  · intro m
    exact (List.nodup_append.mp h).2.2 _ (by simp [mK]) _ m rfl
theorem mX_now {M : Mm} (h : (mK ++ M.x.map (·.1)).Nodup) (n n' g : Int) : putK (mX n g M) (Sum.inr "now") (.int n') = mX n' g M := by
  unfold mX
  rw [putK_left, mD_now]
  · rw [valV_of (mD_keys n g M.sp M.en M.he M.ro) (k := Sum.inr "now") (v := .int n) (by simp [mD])]
    rfl
  · intro m
    exact (List.nodup_append.mp h).2.2 _ (by simp [mK]) _ m rfl
abbrev isI (b : Int) (v : V) : Prop := v = .int b
abbrev isH (H : Hp) (b : Str × Int) (v : V) : Prop := ∃ t, v = .ref t ∧ H t = some (.tup [.str b.1, .int b.2])
def Mm.l (M : Mm) : List Addr := [M.m, M.sp, M.en, M.he, M.ro]
structure MdAt (H : Hp) (M : Mm) (s : Rm) : Prop where
  di : H M.m = some (.dK (mX s.now s.given M))
  sp : H M.sp = some (.dK M.spk)
  en : H M.en = some (.dK M.enk)
  he : H M.he = some (.dK M.hk)
  ro : H M.ro = some (.lst (M.ts.map V.ref))
  rs : DRel Sum.inl isI M.spl M.spk
  re : DRel Sum.inl isI M.enl M.enk
  rh : DRel Sum.inr (isH H) M.hl M.hk
  rr : RowsAt H M.ts s.rows
  fs : s.span = getA M.spl
  fe : s.ends = getA M.enl
  fh : s.held = getA M.hl
  ne : (M.enl.map (·.1)).Nodup
  nh : (M.hl.map (·.1)).Nodup
  nd : M.l.Nodup
  ok : ∀ r ∈ s.rows, r.Ok
  kv : ∀ k v h, s.held k = some (v, h) → TOk 60 k ∧ TOk 60 v
  nx : (mK ++ M.x.map (·.1)).Nodup
  lx : M.x.length ≤ 4
theorem isH_keep {H H' : Hp} (k : ∀ b xs, H b = some (.tup xs) → H' b = some (.tup xs)) {b : Str × Int} {v : V} (h : isH H b v) : isH H' b v := by
  obtain ⟨t, e, q⟩ := h
  exact ⟨t, e, k _ _ q⟩
theorem MdAt.ch {H H' : Hp} {M : Mm} {s : Rm} {l : List Addr} (A : MdAt H M s) (c : Ch H H' l) (d : ∀ a ∈ M.l, a ∉ l) : MdAt H' M s :=
  ⟨c.at A.di (d _ (by simp [Mm.l])), c.at A.sp (d _ (by simp [Mm.l])), c.at A.en (d _ (by simp [Mm.l])), c.at A.he (d _ (by simp [Mm.l])), c.at A.ro (d _ (by simp [Mm.l])), A.rs, A.re, A.rh.mono fun b v h => isH_keep c.tup h, A.rr.keep c.tup, A.fs, A.fe, A.fh, A.ne, A.nh, A.nd, A.ok, A.kv, A.nx, A.lx⟩
theorem MdAt.same {H H' : Hp} {M : Mm} {s : Rm} (A : MdAt H M s) (c : Same H H') : MdAt H' M s := A.ch (Ch.of c []) fun _ _ z => nomatch z
theorem MdAt.get {H : Hp} {M : Mm} {s : Rm} (A : MdAt H M s) {k : Str} {v : V} (h : (Sum.inr k, v) ∈ mX s.now s.given M) : DGet H M.m (.str k) (some v) := by
  have g := DGet.k (k := Sum.inr k) A.di
  rw [valV_of (mX_keys A.nx _ _) h] at g
  exact g
theorem MdAt.gN {H : Hp} {M : Mm} {s : Rm} (A : MdAt H M s) : DGet H M.m (.str "now") (some (.int s.now)) := A.get (by simp [mX, mD])
theorem MdAt.gG {H : Hp} {M : Mm} {s : Rm} (A : MdAt H M s) : DGet H M.m (.str "given") (some (.int s.given)) := A.get (by simp [mX, mD])
theorem MdAt.gS {H : Hp} {M : Mm} {s : Rm} (A : MdAt H M s) : DGet H M.m (.str "spans") (some (.ref M.sp)) := A.get (by simp [mX, mD])
theorem MdAt.gE {H : Hp} {M : Mm} {s : Rm} (A : MdAt H M s) : DGet H M.m (.str "ends") (some (.ref M.en)) := A.get (by simp [mX, mD])
theorem MdAt.gH {H : Hp} {M : Mm} {s : Rm} (A : MdAt H M s) : DGet H M.m (.str "held") (some (.ref M.he)) := A.get (by simp [mX, mD])
theorem MdAt.gR {H : Hp} {M : Mm} {s : Rm} (A : MdAt H M s) : DGet H M.m (.str "rows") (some (.ref M.ro)) := A.get (by simp [mX, mD])
def spNew : Sp := fun vs H Q _ => vs = [] ∧ ∀ M H', MdAt H' M .init → M.x = [] → (∀ x ∈ M.l, H x = none) → Same H H' → Q (.ref M.m) H'
def spNote : Sp := fun vs H Q _ => ∃ (M : Mm) (s : Rm) (t : Int) (w k v : Str), vs = [.ref M.m, .int t, .str w, .str k, .str v] ∧ MdAt H M s ∧ (Row.mk 0 t w k v).Ok ∧ s.rows.length ≤ 900 ∧
  ∀ ts' H', MdAt H' { M with ts := ts' } (noteM s t w k v) → Ch H H' [M.ro] → Q (.int ((s.rows.length : Int) + 1)) H'
section
variable {P : Program} {w : World} {K : PySem.W.Frag} {mg : Str → Option Value} {base : Heap}
theorem ok_new {f : Addr} {fd : FuncData} (F : Fun K "_law_new" "_law_new" s_new f fd) : FnOk P w K mg base CX0 1 f fd p_new spNew := by
  refine F.ok sc_new (fun vs H Q E h => ?_) (fun cdv A outer s H vs Q E hr h => ?_)
  · obtain ⟨rfl, _⟩ := h
    rfl
  · obtain ⟨rfl, k⟩ := h
    refine ⟨_, pss_one (ps_ret (pe_disp (pps_cons pe_str pe_int (pps_cons pe_str pe_int (pps_cons pe_str pe_dnewK (pps_cons pe_str pe_dnewK (pps_cons pe_str pe_dnewK (pps_cons pe_str (pe_lst pa_nil) pps_nil)))))) (by rfl) (by rfl) (fun z => by cases z) (by decide))), ?_⟩
    intro m hm sp hsp en hen he hhe
    refine ⟨(by show 0 ≤ sizeLine; decide), fun ro hro => ?_⟩
    have s1 : Same H (upd H m (.dK [])) := same_new hm
    have s2 := same_new (o := .dK []) hsp
    have s3 := same_new (o := .dK []) hen
    have s4 := same_new (o := .dK []) hhe
    have s5 := same_new (o := .lst []) hro
    have m1 := s5 _ _ (s4 _ _ (s3 _ _ (s2 _ _ (upd_same (H := H) (a := m) (o := .dK [])))))
    have p1 := s5 _ _ (s4 _ _ (s3 _ _ (upd_same (H := upd H m (.dK [])) (a := sp) (o := .dK []))))
    have e1 := s5 _ _ (s4 _ _ (upd_same (H := upd (upd H m (.dK [])) sp (.dK [])) (a := en) (o := .dK [])))
    have h1 := s5 _ _ (upd_same (H := upd (upd (upd H m (.dK [])) sp (.dK [])) en (.dK [])) (a := he) (o := .dK []))
    have r1 := upd_same (H := upd (upd (upd (upd H m (.dK [])) sp (.dK [])) en (.dK [])) he (.dK [])) (a := ro) (o := .lst [])
    have q1 : m ≠ sp := ne_of_none upd_same hsp
    have q2 : m ≠ en := ne_of_none (s2 _ _ upd_same) hen
    have q3 : m ≠ he := ne_of_none (s3 _ _ (s2 _ _ upd_same)) hhe
    have q4 : m ≠ ro := ne_of_none (s4 _ _ (s3 _ _ (s2 _ _ upd_same))) hro
    have q5 : sp ≠ en := ne_of_none upd_same hen
    have q6 : sp ≠ he := ne_of_none (s3 _ _ upd_same) hhe
    have q7 : sp ≠ ro := ne_of_none (s4 _ _ (s3 _ _ upd_same)) hro
    have q8 : en ≠ he := ne_of_none upd_same hhe
    have q9 : en ≠ ro := ne_of_none (s4 _ _ upd_same) hro
    have q10 : he ≠ ro := ne_of_none upd_same hro
    have n2 : H sp = none := s1.free hsp
    have n3 : H en = none := s1.free (s2.free hen)
    have n4 : H he = none := s1.free (s2.free (s3.free hhe))
    have n5 : H ro = none := s1.free (s2.free (s3.free (s4.free hro)))
    have sa := ((s2.trans s3).trans s4).trans s5
    dsimp only
    generalize upd (upd (upd (upd (upd H m (.dK [])) sp (.dK [])) en (.dK [])) he (.dK [])) ro (.lst []) = H1 at m1 p1 e1 h1 r1 sa
    refine ⟨m1, mD 0 0 sp en he ro, rfl, (by show 6 ≤ 15; decide), ?_⟩
    have em : mergeK [] (mD 0 0 sp en he ro) = mD 0 0 sp en he ro := by
      have := merge_all (kvs := mD 0 0 sp en he ro) (acc := []) (mD_keys 0 0 sp en he ro)
      rw [List.nil_append] at this
      exact this
    rw [em]
    refine k ⟨m, sp, en, he, ro, [], [], [], [], [], [], [], []⟩ _ ⟨upd_same, by rw [upd_ne q1.symm]; exact p1, by rw [upd_ne q2.symm]; exact e1, by rw [upd_ne q3.symm]; exact h1, by rw [upd_ne q4.symm]; exact r1, .nil, .nil, .nil, .nil, rfl, rfl, rfl, .nil, .nil, ?_, (fun _ h => nomatch h), (fun _ _ _ h => nomatch h), mD_keys 0 0 sp en he ro, Nat.zero_le 4⟩ rfl (fun x hx => ?_) fun b o e => ?_
    · simp only [Mm.l, List.nodup_cons, List.mem_cons, List.not_mem_nil, or_false, not_or, not_false_eq_true, List.nodup_nil, and_true]
      exact ⟨⟨q1, q2, q3, q4⟩, ⟨q5, q6, q7⟩, ⟨q8, q9⟩, q10⟩
    · simp only [Mm.l, List.mem_cons, List.not_mem_nil, or_false] at hx
      rcases hx with rfl | rfl | rfl | rfl | rfl
      · exact hm
      · exact n2
      · exact n3
      · exact n4
      · exact n5
    · rw [upd_ne (ne_of_none e hm)]
      exact sa _ _ (s1 _ _ e)
theorem ok_note {f : Addr} {fd : FuncData} (F : Fun K "_law_note" "_law_note" s_note f fd) (LT : LTxt mg) : FnOk P w K mg base CX0 1 f fd p_note spNote := by
  refine F.ok sc_note (fun vs H Q E h => ?_) (fun cdv A outer s H vs Q E hr h => ?_)
  · obtain ⟨M, s, t, w, k, v, rfl, _⟩ := h
    rfl
  · obtain ⟨M, r, t, wd, ky, vl, rfl, S, ok, hl, k⟩ := h
    have hu := hu_of hr
    refine ⟨_, pss_cons (ps_expr (pe_bm PySem.F.plainAttrs_list PySem.F.slot_list_append PySem.F.type_list_append mt_append (pe_dget hu (pv 0) pe_str (fun _ _ => rfl))
        (pa_cons (pe_tup (pa_cons (pe_op op_add (pe_callB call_len_seq (by rfl) LT.len PySem.boot_len (pa_cons (pe_dget hu (pv 0) pe_str (fun _ _ => rfl)) pa_nil)) pe_int) (pa_cons (pv 1) (pa_cons (pv 2) (pa_cons (pv 3) (pa_cons (pv 4) pa_nil)))))) pa_nil)))
      (pss_one (ps_ret (pe_callB call_len_seq (by rfl) LT.len PySem.boot_len (pa_cons (pe_dget hu (pv 0) pe_str (fun _ _ => rfl)) pa_nil)))), ?_⟩
    have lt : (M.ts.map V.ref).length = r.rows.length := by rw [List.length_map, Paired.length S.rr]
    refine ⟨_, rfl, M.m, _, rfl, S.gR, .inl ⟨rfl, _, SqL.of S.ro⟩, _, rfl, M.m, _, rfl, S.gR, M.ro, _, rfl, .inl (SqL.of S.ro), _, _, rfl, rfl, _, rfl, _, rfl, _, rfl, _, rfl, (by show 5 ≤ sizeLine; decide), fun tp htp => ?_⟩
    rw [lt]
    have s5 := same_new (o := .tup (Row.mk ((r.rows.length : Int) + 1) t wd ky vl).V) htp
    have S5 := S.same s5
    have ht5 : upd H tp (.tup (Row.mk ((r.rows.length : Int) + 1) t wd ky vl).V) tp = some (.tup (Row.mk ((r.rows.length : Int) + 1) t wd ky vl).V) := upd_same
    refine ⟨M.ro, _, _, rfl, rfl, S5.ro, by rw [lt]; exact small1000 (by omega), ?_⟩
    have tr : tp ≠ M.ro := ne_of ht5 S5.ro (by intro z; cases z)
    have cr : Ch (upd H tp (.tup (Row.mk ((r.rows.length : Int) + 1) t wd ky vl).V)) (upd (upd H tp (.tup (Row.mk ((r.rows.length : Int) + 1) t wd ky vl).V)) M.ro (.lst (M.ts.map V.ref ++ [V.ref tp]))) [M.ro] := (Ch.refl _ _).mut (List.mem_singleton.mpr rfl) S5.ro (fun xs z => by cases z)
    have nd := S.nd
    simp only [Mm.l, List.nodup_cons, List.mem_cons, List.not_mem_nil, or_false, not_or] at nd
    obtain ⟨⟨n1, n2, n3, n4⟩, ⟨n5, n6, n7⟩, ⟨n8, n9⟩, n10, _⟩ := nd
    have S6 : MdAt (upd (upd H tp (.tup (Row.mk ((r.rows.length : Int) + 1) t wd ky vl).V)) M.ro (.lst (M.ts.map V.ref ++ [V.ref tp]))) { M with ts := M.ts ++ [tp] } (noteM r t wd ky vl) :=
      ⟨cr.at S5.di (by simp [n4]), cr.at S5.sp (by simp [n7]), cr.at S5.en (by simp [n9]), cr.at S5.he (by simp [n10]), by rw [upd_same, List.map_append]; rfl, S.rs, S.re, S5.rh.mono fun b v h => isH_keep cr.tup h, Paired.snoc (S5.rr.keep cr.tup) (cr.tup _ _ ht5), S.fs, S.fe, S.fh, S.ne, S.nh, S.nd, fun x hx => ?_, S.kv, S.nx, S.lx⟩
    · refine ⟨_, rfl, M.m, _, rfl, S6.gR, M.ro, _, rfl, .inl (SqL.of S6.ro), ?_⟩
      have e : ((({ M with ts := M.ts ++ [tp] } : Mm).ts.map V.ref).length : Int) = (r.rows.length : Int) + 1 := by
        rw [← lt]
        simp
      rw [e]
      exact k _ _ S6 ((Ch.of s5 _).trans cr)
    · rcases List.mem_append.mp hx with hx | hx
      · exact S.ok x hx
      · rw [List.mem_singleton.mp hx]
        exact ⟨ok.w, ok.k, ok.v⟩
end
end KL

namespace KL
open PySem L2 L2H LX KB
/-! ### the law's own tables of a room: one entry changes -/
theorem dropA_lt {α β : Type} [DecidableEq α] {d : List (α × β)} {k : α} (h : getA d k ≠ none) : (dropA d k).length + 1 ≤ d.length := by
  cases e : getA d k with
  | none => exact absurd e h
  | some v =>
    have m := getA_mem e
    have := List.length_filter_lt_length_iff_exists (p := fun p : α × β => decide (p.1 ≠ k)) (l := d) |>.mpr ⟨(k, v), m, by simp⟩
    exact this
theorem setF_drop {α β : Type} [DecidableEq α] (d : List (α × β)) (k : α) : setF (getA d) k none = getA (dropA d k) := by
  funext j
  rw [getA_dropA]
  rfl
theorem setF_put {α β : Type} [DecidableEq α] (d : List (α × β)) (k : α) (v : β) : setF (getA d) k (some v) = getA (putA d k v) := by
  funext j
  rw [getA_putA]
  rfl
/-- the same places -/
structure At5 (M M' : Mm) : Prop where
  m : M'.m = M.m
  sp : M'.sp = M.sp
  en : M'.en = M.en
  he : M'.he = M.he
  ro : M'.ro = M.ro
  x : M'.x = M.x
theorem At5.refl (M : Mm) : At5 M M := ⟨rfl, rfl, rfl, rfl, rfl, rfl⟩
theorem At5.trans {M N O : Mm} (a : At5 M N) (b : At5 N O) : At5 M O := ⟨b.m.trans a.m, b.sp.trans a.sp, b.en.trans a.en, b.he.trans a.he, b.ro.trans a.ro, b.x.trans a.x⟩
theorem At5.l {M M' : Mm} (a : At5 M M') : M'.l = M.l := by
  unfold Mm.l
  rw [a.m, a.sp, a.en, a.he, a.ro]
theorem MdAt.nes {H : Hp} {M : Mm} {s : Rm} (S : MdAt H M s) : (M.m ≠ M.sp ∧ M.m ≠ M.en ∧ M.m ≠ M.he ∧ M.m ≠ M.ro) ∧ (M.sp ≠ M.en ∧ M.sp ≠ M.he ∧ M.sp ≠ M.ro) ∧ (M.en ≠ M.he ∧ M.en ≠ M.ro) ∧ M.he ≠ M.ro := by
  have nd := S.nd
  simp only [Mm.l, List.nodup_cons, List.mem_cons, List.not_mem_nil, or_false, not_or, not_false_eq_true, List.nodup_nil, and_true] at nd
  exact nd
theorem MdAt.small {H : Hp} {M : Mm} {s : Rm} (S : MdAt H M s) : (mX s.now s.given M).length < sizeLine := by
  have h := S.lx
  unfold mX mD
  rw [List.length_append]
  exact Nat.lt_of_le_of_lt (Nat.add_le_add_left h 6) (by decide)
theorem ch_one {H : Hp} {a : Addr} {o u : HO} (e : H a = some u) (n : ∀ xs, u ≠ .tup xs) : Ch H (upd H a o) [a] := (Ch.refl _ _).mut (List.mem_singleton.mpr rfl) e n
theorem MdAt.dropKey {H : Hp} {M : Mm} {s : Rm} (S : MdAt H M s) (k : Str) : MdAt (upd H M.he (.dK (dropK M.hk (Sum.inr k)))) { M with hl := dropA M.hl k, hk := dropK M.hk (Sum.inr k) } { s with held := setF s.held k none } := by
  obtain ⟨⟨n1, n2, n3, n4⟩, ⟨n5, n6, n7⟩, ⟨n8, n9⟩, n10⟩ := S.nes
  have c := ch_one (o := .dK (dropK M.hk (Sum.inr k))) S.he (fun xs z => by cases z)
  refine ⟨c.at S.di (by simp [n3]), c.at S.sp (by simp [n6]), c.at S.en (by simp [n8]), upd_same, c.at S.ro (by simp [n10.symm]), S.rs, S.re, (S.rh.drop inr_inj k).mono fun b v h => isH_keep c.tup h, S.rr.keep c.tup, S.fs, S.fe, ?_, S.ne, dropA_nodup S.nh, S.nd, S.ok, fun k2 v h e => ?_, S.nx, S.lx⟩
  · show setF s.held k none = _
    rw [S.fh]
    exact setF_drop M.hl k
  · refine S.kv k2 v h ?_
    change setF s.held k none k2 = some (v, h) at e
    unfold setF at e
    by_cases z : k = k2
    · rw [if_pos z] at e; cases e
    · rw [if_neg z] at e; exact e
theorem MdAt.putKey {H : Hp} {M : Mm} {s : Rm} (S : MdAt H M s) {k v : Str} {h : Int} {t : Addr} (ht : H t = some (.tup [.str v, .int h])) (o1 : TOk 60 k) (o2 : TOk 60 v) :
    MdAt (upd H M.he (.dK (putK M.hk (Sum.inr k) (.ref t)))) { M with hl := putA M.hl k (v, h), hk := putK M.hk (Sum.inr k) (.ref t) } { s with held := setF s.held k (some (v, h)) } := by
  obtain ⟨⟨n1, n2, n3, n4⟩, ⟨n5, n6, n7⟩, ⟨n8, n9⟩, n10⟩ := S.nes
  have c := ch_one (o := .dK (putK M.hk (Sum.inr k) (.ref t))) S.he (fun xs z => by cases z)
  refine ⟨c.at S.di (by simp [n3]), c.at S.sp (by simp [n6]), c.at S.en (by simp [n8]), upd_same, c.at S.ro (by simp [n10.symm]), S.rs, S.re, (S.rh.put inr_inj (b := (v, h)) ⟨t, rfl, ht⟩).mono fun b v h => isH_keep c.tup h, S.rr.keep c.tup, S.fs, S.fe, ?_, S.ne, putA_nodup S.nh, S.nd, S.ok, fun k2 v2 h2 e => ?_, S.nx, S.lx⟩
  · show setF s.held k (some (v, h)) = _
    rw [S.fh]
    exact setF_put M.hl k (v, h)
  · change setF s.held k (some (v, h)) k2 = some (v2, h2) at e
    unfold setF at e
    by_cases z : k = k2
    · rw [if_pos z] at e
      cases e
      exact ⟨z ▸ o1, o2⟩
    · rw [if_neg z] at e
      exact S.kv k2 v2 h2 e
theorem MdAt.dropEnd {H : Hp} {M : Mm} {s : Rm} (S : MdAt H M s) (k : Int) : MdAt (upd H M.en (.dK (dropK M.enk (Sum.inl k)))) { M with enl := dropA M.enl k, enk := dropK M.enk (Sum.inl k) } { s with ends := setF s.ends k none } := by
  obtain ⟨⟨n1, n2, n3, n4⟩, ⟨n5, n6, n7⟩, ⟨n8, n9⟩, n10⟩ := S.nes
  have c := ch_one (o := .dK (dropK M.enk (Sum.inl k))) S.en (fun xs z => by cases z)
  refine ⟨c.at S.di (by simp [n2]), c.at S.sp (by simp [n5]), upd_same, c.at S.he (by simp [n8.symm]), c.at S.ro (by simp [n9.symm]), S.rs, S.re.drop inl_inj k, S.rh.mono fun b v h => isH_keep c.tup h, S.rr.keep c.tup, S.fs, ?_, S.fh, dropA_nodup S.ne, S.nh, S.nd, S.ok, S.kv, S.nx, S.lx⟩
  show setF s.ends k none = _
  rw [S.fe]
  exact setF_drop M.enl k
theorem MdAt.putEnd {H : Hp} {M : Mm} {s : Rm} (S : MdAt H M s) (k e : Int) : MdAt (upd H M.en (.dK (putK M.enk (Sum.inl k) (.int e)))) { M with enl := putA M.enl k e, enk := putK M.enk (Sum.inl k) (.int e) } { s with ends := setF s.ends k (some e) } := by
  obtain ⟨⟨n1, n2, n3, n4⟩, ⟨n5, n6, n7⟩, ⟨n8, n9⟩, n10⟩ := S.nes
  have c := ch_one (o := .dK (putK M.enk (Sum.inl k) (.int e))) S.en (fun xs z => by cases z)
  refine ⟨c.at S.di (by simp [n2]), c.at S.sp (by simp [n5]), upd_same, c.at S.he (by simp [n8.symm]), c.at S.ro (by simp [n9.symm]), S.rs, S.re.put inl_inj (b := e) rfl, S.rh.mono fun b v h => isH_keep c.tup h, S.rr.keep c.tup, S.fs, ?_, S.fh, putA_nodup S.ne, S.nh, S.nd, S.ok, S.kv, S.nx, S.lx⟩
  show setF s.ends k (some e) = _
  rw [S.fe]
  exact setF_put M.enl k e
theorem MdAt.putSpan {H : Hp} {M : Mm} {s : Rm} (S : MdAt H M s) (k e : Int) : MdAt (upd H M.sp (.dK (putK M.spk (Sum.inl k) (.int e)))) { M with spl := putA M.spl k e, spk := putK M.spk (Sum.inl k) (.int e) } { s with span := setF s.span k (some e) } := by
  obtain ⟨⟨n1, n2, n3, n4⟩, ⟨n5, n6, n7⟩, ⟨n8, n9⟩, n10⟩ := S.nes
  have c := ch_one (o := .dK (putK M.spk (Sum.inl k) (.int e))) S.sp (fun xs z => by cases z)
  refine ⟨c.at S.di (by simp [n1]), upd_same, c.at S.en (by simp [n5.symm]), c.at S.he (by simp [n6.symm]), c.at S.ro (by simp [n7.symm]), S.rs.put inl_inj (b := e) rfl, S.re, S.rh.mono fun b v h => isH_keep c.tup h, S.rr.keep c.tup, ?_, S.fe, S.fh, S.ne, S.nh, S.nd, S.ok, S.kv, S.nx, S.lx⟩
  show setF s.span k (some e) = _
  rw [S.fs]
  exact setF_put M.spl k e
theorem MdAt.setG {H : Hp} {M : Mm} {s : Rm} (S : MdAt H M s) (g : Nat) : MdAt (upd H M.m (.dK (putK (mX s.now s.given M) (Sum.inr "given") (.int g)))) M { s with given := g } := by
  obtain ⟨⟨n1, n2, n3, n4⟩, ⟨n5, n6, n7⟩, ⟨n8, n9⟩, n10⟩ := S.nes
  have c := ch_one (o := .dK (putK (mX s.now s.given M) (Sum.inr "given") (.int g))) S.di (fun xs z => by cases z)
  exact ⟨by rw [upd_same, mX_given S.nx], c.at S.sp (by simp [n1.symm]), c.at S.en (by simp [n2.symm]), c.at S.he (by simp [n3.symm]), c.at S.ro (by simp [n4.symm]), S.rs, S.re, S.rh.mono fun b v h => isH_keep c.tup h, S.rr.keep c.tup, S.fs, S.fe, S.fh, S.ne, S.nh, S.nd, S.ok, S.kv, S.nx, S.lx⟩
theorem MdAt.setN {H : Hp} {M : Mm} {s : Rm} (S : MdAt H M s) (g : Int) : MdAt (upd H M.m (.dK (putK (mX s.now s.given M) (Sum.inr "now") (.int g)))) M { s with now := g } := by
  obtain ⟨⟨n1, n2, n3, n4⟩, ⟨n5, n6, n7⟩, ⟨n8, n9⟩, n10⟩ := S.nes
  have c := ch_one (o := .dK (putK (mX s.now s.given M) (Sum.inr "now") (.int g))) S.di (fun xs z => by cases z)
  exact ⟨by rw [upd_same, mX_now S.nx], c.at S.sp (by simp [n1.symm]), c.at S.en (by simp [n2.symm]), c.at S.he (by simp [n3.symm]), c.at S.ro (by simp [n4.symm]), S.rs, S.re, S.rh.mono fun b v h => isH_keep c.tup h, S.rr.keep c.tup, S.fs, S.fe, S.fh, S.ne, S.nh, S.nd, S.ok, S.kv, S.nx, S.lx⟩
/-! what a cut of many leaves -/
theorem cutAll_snoc (s : Rm) (t : Int) (ks : List Str) (k : Str) : cutAll s t (ks ++ [k]) = cutM t (cutAll s t ks) k := by
  unfold cutAll
  rw [List.foldl_append]
  rfl
theorem cutAll_held : ∀ (ks : List Str) (s : Rm) (t : Int) (k : Str), k ∉ ks → (cutAll s t ks).held k = s.held k
  | [], s, t, k, _ => rfl
  | j :: ks, s, t, k, h => by
    rw [List.mem_cons, not_or] at h
    show (cutAll (cutM t s j) t ks).held k = _
    rw [cutAll_held ks _ t k h.2]
    show setF s.held j none k = _
    unfold setF
    rw [if_neg fun z => h.1 z.symm]
theorem cutAll_len : ∀ (ks : List Str) (s : Rm) (t : Int), (cutAll s t ks).rows.length = s.rows.length + ks.length
  | [], s, t => rfl
  | j :: ks, s, t => by
    show (cutAll (cutM t s j) t ks).rows.length = _
    rw [cutAll_len ks]
    show (s.rows ++ [_]).length + _ = _
    rw [List.length_append, List.length_cons, List.length_cons, List.length_nil]
    omega
theorem DRel.at {α β : Type} {inj : α → Key} {R : β → V → Prop} : ∀ {d : List (α × β)} {kvs : List (Key × V)} {i : Nat} {q : Key × V}, DRel inj R d kvs → kvs[i]? = some q → ∃ p, d[i]? = some p ∧ q.1 = inj p.1 ∧ R p.2 q.2
  | _, _, i, q, .nil, h => by simp at h
  | _, _, 0, q, .cons r m, h => by
    have e := Option.some.inj h
    subst e
    exact ⟨_, rfl, r⟩
  | _, _, i + 1, q, .cons r m, h => DRel.at (i := i) m h
end KL

namespace KL
open PySem L2 L2H LX KB
/-! ### the law's own: a lease ends -/
def Mm.n (M : Mm) (s : Rm) : Nat := s.rows.length + M.hl.length
def spOver : Sp := fun vs H Q _ => ∃ (M : Mm) (s : Rm) (h t : Int), vs = [.ref M.m, .int h, .int t] ∧ MdAt H M s ∧ s.ends h ≠ none ∧ M.n s ≤ 890 ∧
  ∀ s' M' H', OverR s h t s' → MdAt H' M' s' → At5 M M' → Ch H H' M.l → M'.n s' ≤ M.n s → M'.enl.length ≤ M.enl.length → M'.spl = M.spl → Q .non H'
theorem w_cut : PyData.strOk ("cut" : Str) = true ∧ PyData.strOk ("put" : Str) = true := ⟨by decide +kernel, by decide +kernel⟩
def keysH (h : Int) (l : List (Str × (Str × Int))) : List Str := (l.filter fun p => decide (p.2.2 = h)).map (·.1)
theorem keysH_snoc {h : Int} {l : List (Str × (Str × Int))} {i : Nat} {p : Str × (Str × Int)} (e : l[i]? = some p) : keysH h (l.take (i + 1)) = keysH h (l.take i) ++ (if p.2.2 = h then [p.1] else []) := by
  unfold keysH
  rw [List.take_add_one, e, List.filter_append, List.map_append]
  congr 1
  show List.map _ (List.filter _ [p]) = _
  by_cases z : p.2.2 = h
  · rw [List.filter_cons_of_pos (by exact decide_eq_true z), if_pos z]; rfl
  · rw [List.filter_cons_of_neg (by rw [decide_eq_false z]; decide), if_neg z]; rfl
theorem keysH_len (h : Int) (l : List (Str × (Str × Int))) : (keysH h l).length ≤ l.length := by
  unfold keysH
  rw [List.length_map]
  exact List.length_filter_le _ _
theorem keysH_hand {h : Int} {l : List (Str × (Str × Int))} (n : (l.map (·.1)).Nodup) {ys : List Str} (p : ys.Perm (keysH h l)) (s : PyProof.Rows.sortedS ys = true) : HandKeys (getA l) h ys := by
  have nk : (keysH h l).Nodup := n.sublist (List.Sublist.map _ List.filter_sublist)
  refine ⟨s, p.nodup_iff.mpr nk, fun k => p.mem_iff.trans ?_⟩
  unfold keysH
  constructor
  · intro m
    obtain ⟨q, hq, e⟩ := List.mem_map.mp m
    obtain ⟨h1, h2⟩ := List.mem_filter.mp hq
    refine ⟨q.2.1, ?_⟩
    rw [← e, getA_of n h1, ← of_decide_eq_true h2]
  · rintro ⟨v, e⟩
    exact List.mem_map.mpr ⟨(k, (v, h)), List.mem_filter.mpr ⟨getA_mem e, decide_eq_true rfl⟩, rfl⟩
theorem DGet_frz {H : Hp} {a : Addr} {od : Obj} {kvs : List (Key × V)} {k : Str} {v : V} (e : H a = some (.frz od (.dK kvs))) (h : valV kvs (Sum.inr k) = some v) : DGet H a (.str k) (some v) := .inl ⟨kvs, Sum.inr k, .inr ⟨od, e⟩, rfl, h.symm⟩
section
variable {P : Program} {w : World} {K : PySem.W.Frag} {mg : Str → Option Value} {base : Heap}
theorem ok_over {f : Addr} {fd : FuncData} (F : Fun K "_law_over" "_law_over" s_over f fd) (LT : LTxt mg) (DN : Def P w K mg base "_law_note" 1 p_note spNote) : FnOk P w K mg base CX0 2 f fd p_over spOver := by
  obtain ⟨f1, fd1, g1, k1, b1, G1⟩ := DN.ex
  refine F.ok sc_over (fun vs H Q E h => ?_) (fun cdv A outer s H vs Q E hr h => ?_)
  · obtain ⟨M, s, h, t, rfl, _⟩ := h
    rfl
  · obtain ⟨M, r, h, t, rfl, S, hne, hn, k⟩ := h
    have hu := hu_of hr
    refine ⟨_, pss_cons (ps_expr (pe_dpop1 (pe_dget hu (pv 0) pe_str (fun _ _ => rfl)) (pv 1) ⟨by rfl, by rfl, by rfl, by rfl⟩))
      (pss_one (ps_for PassesOwn.never rfl (pi_list (pe_callB cr_sortedSL (by rfl) LT.sorted (by decide +kernel) (pa_cons (pe_lock
          (pe_lc (own := [("_law_one", 4)]) (g := gName 4) rfl sc_over.nd (pi_keys (pe_dget hu (pv 0) pe_str (fun _ _ => rfl))) (blkOk_by (own := [("_law_one", 4)]) (N := n_over) (sc := defScope s_over) (by decide +kernel))
            (fun _ _ _ _ _ => pg_name (i := 4) sc_over.nd rfl (Or.inl rfl) (Or.inr rfl))
            (fun _ _ _ _ _ => pts_one (pt_cmpR op_eq (pe_ix (r := rIxT K) ix_tup (pe_dget hu (pe_dget hu (pv 0) pe_str (fun _ _ => rfl)) (pv 4) (fun _ _ => rfl)) pe_int (fun _ _ => rfl)) (pv 1) (nomark _)))
            (fun _ _ _ _ _ => pv 4))) pa_nil))) (pg_name (i := 3) sc_over.nd rfl (Or.inl rfl))
        (pss_cons (ps_expr (pe_dpop1 (pe_dget hu (pv 0) pe_str (fun _ _ => rfl)) (pv 3) ⟨by rfl, by rfl, by rfl, by rfl⟩))
        (pss_one (ps_expr (pe_call G1 hr rfl g1 k1 b1 .nil pass0 (pa_cons (pv 0) (pa_cons (pv 2) (pa_cons pe_str (pa_cons (pv 3) (pa_cons pe_str pa_nil)))))))))))
      , ?_⟩
    obtain ⟨v0, hv0⟩ : ∃ v0, getA M.enl h = some v0 := by
      rw [S.fe] at hne
      cases e : getA M.enl h with
      | none => exact absurd e hne
      | some v => exact ⟨v, rfl⟩
    obtain ⟨vv, hvv, _⟩ := S.re.some_ inl_inj hv0
    refine ⟨_, rfl, M.m, _, rfl, S.gE, M.en, rfl, .inl ⟨_, .inl S.en⟩, _, rfl, _, Sum.inl h, vv, S.en, rfl, hvv, ?_⟩
    have S1 := S.dropEnd h
    have c1 : Ch H (upd H M.en (.dK (dropK M.enk (Sum.inl h)))) M.l := (ch_one (o := .dK (dropK M.enk (Sum.inl h))) S.en (fun xs z => by cases z)).mono fun x hx => by rw [List.mem_singleton.mp hx]; simp [Mm.l]
    generalize upd H M.en (.dK (dropK M.enk (Sum.inl h))) = H1 at S1 c1
    have le1 := dropA_len M.enl h
    generalize hM1 : ({ M with enl := dropA M.enl h, enk := dropK M.enk (Sum.inl h) } : Mm) = M1 at S1
    have a51 : At5 M M1 := by rw [← hM1]; exact ⟨rfl, rfl, rfl, rfl, rfl, rfl⟩
    have hl1 : M1.hl = M.hl := by rw [← hM1]
    have he1 : M1.enl.length ≤ M.enl.length := by rw [← hM1]; exact le1
    have hs1 : M1.spl = M.spl := by rw [← hM1]
    generalize hr1' : ({ r with ends := setF r.ends h none } : Rm) = r1 at S1
    have rr1 : r1.rows = r.rows := by rw [← hr1']
    have rh1 : r1.held = r.held := by rw [← hr1']
    have em : M.m = M1.m := a51.m.symm
    refine ⟨M1.he, _, S1.he, trivial, fun od => ?_⟩
    have gAt : ∀ H', H' M.m = some (.dK (mX r1.now r1.given M1)) → DGet H' M.m (.str "held") (some (.ref M1.he)) := fun H' e => by
      have g := DGet.k (k := Sum.inr "held") e
      rw [valV_of (mX_keys S1.nx _ _) (v := .ref M1.he) (by simp [mX, mD])] at g
      exact g
    obtain ⟨⟨n1, n2, n3, n4⟩, ⟨n5, n6, n7⟩, ⟨n8, n9⟩, n10⟩ := S1.nes
    have hmL : upd H1 M1.he (.frz od (.dK M1.hk)) M.m = some (.dK (mX r1.now r1.given M1)) := by
      rw [em, upd_ne n3]; exact S1.di
    have lh : M1.hk.length = M1.hl.length := S1.rh.len
    have lm : M1.hl.length ≤ 890 := by
      have : M.n r = r.rows.length + M.hl.length := rfl
      rw [hl1]
      omega
    refine ⟨_, rfl, M.m, _, rfl, gAt _ hmL, M1.he, od, rfl, .inl ⟨_, upd_same, fun D hD => ?_⟩⟩
    have tupL : ∀ {b : Addr} {xs : List V}, H1 b = some (.tup xs) → upd H1 M1.he (.frz od (.dK M1.hk)) b = some (.tup xs) := fun {b xs} e => by
      rw [upd_ne (ne_of e S1.he (by intro z; cases z))]; exact e
    refine lc_it walk_keys (fun i H' => Same (upd H1 M1.he (.frz od (.dK M1.hk))) H' ∧ H' D = some (.lst ((keysH h (M1.hl.take i)).map V.str))) ?_ ?_ ?_ ?_
    · exact ⟨same_new hD, upd_same⟩
    · rintro i H' _ ⟨hs, _⟩
      exact hs _ _ upd_same
    · rintro i x H2 H' hi ⟨hs, hl2⟩ ⟨rfl, kk, v, ek, rfl⟩
      obtain ⟨p, hp, e1, tz, e2, ht⟩ := DRel.at S1.rh ek
      dsimp only at e1 e2
      subst e1 e2
      have hm2 := hs _ _ hmL
      have he2 := hs _ _ (upd_same (H := H1) (a := M1.he) (o := .frz od (.dK M1.hk)))
      obtain ⟨v2, hv2, t2, e3, ht2⟩ := S1.rh.some_ inr_inj (getA_of S1.nh (List.mem_of_getElem? hp))
      subst e3
      have gL : DGet _ M1.he (.str p.1) (some (.ref t2)) := DGet_frz he2 hv2
      have ht2' := hs _ _ (tupL ht2)
      refine ⟨rfl, _, rfl, M.m, _, rfl, gAt _ hm2, _, rfl, M1.he, _, rfl, gL, t2, _, 1, .int p.2.2, rfl, rfl, SqT.of ht2', rfl, _, rfl, rfl, _, rfl, ?_⟩
      rw [keysH_snoc hp]
      by_cases c : p.2.2 = h
      · rw [decide_eq_true (congrArg V.int c), if_pos c]
        refine iteT ⟨_, rfl, _, hl2, ?_, ?_, ?_⟩
        · rw [List.length_map]
          have l1 := keysH_len h (M1.hl.take i)
          rw [List.length_take] at l1
          exact small1000 (by omega)
        · exact fun b o e => by rw [upd_ne (ne_of_none e hD)]; exact hs b o e
        · rw [upd_same, List.map_append]; rfl
      · rw [decide_eq_false (fun e => c (V.int.inj e)), if_neg c]
        refine iteF ⟨hs, ?_⟩
        rw [List.append_nil]
        exact hl2
    · rintro H2 ⟨hs, hl2⟩
      rw [lh, List.take_length] at hl2
      have hde : H2 M1.he = some (.frz od (.dK M1.hk)) := hs _ _ upd_same
      have hDe : D ≠ M1.he := ne_of hl2 hde (by intro z; cases z)
      have s13 : Same H1 (upd H2 M1.he (.dK M1.hk)) := fun b o eb => by
        by_cases hb : b = M1.he
        · subst hb
          rw [S1.he] at eb
          cases eb
          exact upd_same
        · rw [upd_ne hb]
          exact hs b o (by rw [upd_ne hb]; exact eb)
      have hD3 : upd H2 M1.he (.dK M1.hk) D = some (.lst ((keysH h M1.hl).map V.str)) := by rw [upd_ne hDe]; exact hl2
      generalize upd H2 M1.he (.dK M1.hk) = H3 at s13 hD3
      refine ⟨hde, ?_⟩
      refine ⟨D, keysH h M1.hl, rfl, SqL.of hD3, fun ys L2a pe sr hL2 => ?_⟩
      have HK : HandKeys r1.held h ys := by
        rw [S1.fh]
        exact keysH_hand S1.nh pe sr
      have s34 : Same H3 (upd H3 L2a (.lst (ys.map V.str))) := same_new hL2
      have hL4 : upd H3 L2a (.lst (ys.map V.str)) L2a = some (.lst (ys.map V.str)) := upd_same
      have S3 := S1.same s13
      have ex3 : ∀ a ∈ M1.l, ∃ o, H3 a = some o := fun a ha => by
        simp only [Mm.l, List.mem_cons, List.not_mem_nil, or_false] at ha
        rcases ha with rfl | rfl | rfl | rfl | rfl
        · exact ⟨_, S3.di⟩
        · exact ⟨_, S3.sp⟩
        · exact ⟨_, S3.en⟩
        · exact ⟨_, S3.he⟩
        · exact ⟨_, S3.ro⟩
      have nL : L2a ∉ M1.l := fun z => by
        obtain ⟨o, e⟩ := ex3 _ z
        rw [hL2] at e
        cases e
      have S4 := S3.same s34
      have s14 := s13.trans s34
      dsimp only
      generalize upd H3 L2a (.lst (ys.map V.str)) = H4 at s34 hL4 S4 s14
      have l51 := a51.l
      refine ⟨L2a, rfl, ⟨_, SqL.of hL4⟩, for_list (xs := ys.map V.str) (D := { nx := fun _ H' => Q .non H', rt := Q }) (fun j σ H' => (∃ y3 : Option V, σ = [some (.ref M.m), some (.int h), some (.int t), y3, none]) ∧ ∃ M2, MdAt H' M2 (cutAll r1 t (ys.take j)) ∧ At5 M M2 ∧ Ch H4 H' M.l ∧ M2.n (cutAll r1 t (ys.take j)) ≤ M.n r ∧ M2.enl.length ≤ M.enl.length ∧ M2.spl = M.spl)
        ⟨⟨none, rfl⟩, M1, S4, a51, Ch.refl _ _, ?_, he1, hs1⟩ ?_ ?_ ?_⟩
      · show r1.rows.length + M1.hl.length ≤ r.rows.length + M.hl.length
        rw [rr1, hl1]
        exact Nat.le_refl _
      · rintro j σ H' _ ⟨_, M2, _, _, c, _⟩
        exact SqL.of (c.at hL4 (by rw [← l51]; exact nL))
      · rintro j x σ H5 hx ⟨⟨y3, rfl⟩, M2, S5, a2, c5, n5, e5, p5⟩
        rw [List.getElem?_map] at hx
        cases ey : ys[j]? with
        | none => rw [ey] at hx; cases hx
        | some ky =>
          rw [ey] at hx
          have ex : V.str ky = x := Option.some.inj hx
          subst ex
          have tk : ys.take (j + 1) = ys.take j ++ [ky] := by rw [List.take_add_one, ey]; rfl
          have nk : ky ∉ ys.take j := by
            have n2 := HK.nd
            rw [← List.take_append_drop (j + 1) ys, tk] at n2
            have n3 := (List.nodup_append.mp (List.nodup_append.mp n2).1).2.2
            exact fun z => n3 _ z ky (by simp) rfl
          obtain ⟨vk, hvk⟩ := (HK.mem ky).mp (List.mem_of_getElem? ey)
          have hk5 : (cutAll r1 t (ys.take j)).held ky = some (vk, h) := by rw [cutAll_held _ _ _ _ nk]; exact hvk
          have okk := S5.kv _ _ _ hk5
          rw [S5.fh] at hk5
          obtain ⟨v3, hv3, _⟩ := S5.rh.some_ inr_inj hk5
          have e2m : M2.m = M.m := a2.m
          have gH := S5.gH
          rw [e2m] at gH
          have lk := dropA_lt (d := M2.hl) (k := ky) (by rw [hk5]; intro z; cases z)
          have S6 := S5.dropKey ky
          have c6 : Ch H5 (upd H5 M2.he (.dK (dropK M2.hk (Sum.inr ky)))) M.l := (ch_one (o := .dK (dropK M2.hk (Sum.inr ky))) S5.he (fun xs z => by cases z)).mono fun x hx => by rw [List.mem_singleton.mp hx, a2.he]; simp [Mm.l]
          have e6 : ({ M2 with hl := dropA M2.hl ky, hk := dropK M2.hk (Sum.inr ky) } : Mm).m = M.m := e2m
          have n5' : (cutAll r1 t (ys.take j)).rows.length + M2.hl.length ≤ M.n r := n5
          refine ⟨_, rfl, M.m, _, rfl, gH, M2.he, rfl, .inl ⟨_, .inl S5.he⟩, _, rfl, _, Sum.inr ky, v3, S5.he, rfl, hv3, ?_⟩
          refine ⟨_, rfl, _, rfl, _, rfl, { M2 with hl := dropA M2.hl ky, hk := dropK M2.hk (Sum.inr ky) }, _, t, "cut", ky, "", by rw [e6]; rfl, S6, ⟨w_cut.1, okk.1, TOk.nil.mono (by decide)⟩, by show (cutAll r1 t (ys.take j)).rows.length ≤ 900; omega, fun ts' H7 S7 c7 => ⟨⟨_, rfl⟩, { M2 with hl := dropA M2.hl ky, hk := dropK M2.hk (Sum.inr ky), ts := ts' }, ?_, ?_, ?_, ?_, e5, p5⟩⟩
          · rw [tk, cutAll_snoc]
            exact S7
          · exact ⟨a2.m, a2.sp, a2.en, a2.he, a2.ro, a2.x⟩
          · refine (c5.trans c6).trans (c7.mono fun x hx => ?_)
            have : x = M2.ro := List.mem_singleton.mp hx
            rw [this, a2.ro]
            simp [Mm.l]
          · rw [tk, cutAll_snoc]
            show ((cutAll r1 t (ys.take j)).rows ++ [_]).length + (dropA M2.hl ky).length ≤ M.n r
            rw [List.length_append, List.length_cons, List.length_nil]
            omega
      · rintro σ H5 ⟨⟨y3, rfl⟩, M2, S5, a2, c5, n5, e5, p5⟩
        rw [List.length_map, List.take_length] at S5 n5
        refine k _ M2 H5 ⟨ys, ?_, rfl⟩ ?_ a2 ((c1.trans (Ch.of s14 _)).trans c5) ?_ e5 p5
        · rw [← rh1]; exact HK
        · rw [hr1']; exact S5
        · rw [hr1']; exact n5
end
end KL

namespace KL
open PySem L2 L2H LX KB
/-! ### the law's own: time goes on -/
abbrev Tup2 (H : Hp) (ts : List Addr) (ps : List (Int × Int)) : Prop := Paired (fun (t : Addr) (p : Int × Int) => H t = some (.tup [.int p.1, .int p.2])) ts ps
def kOf (H : Hp) (x : V) : Int × Int := match x with
  | .ref t => (match H t with
    | some (.tup [.int a, .int b]) => (a, b)
    | _ => (0, 0))
  | _ => (0, 0)
theorem kOf_at {H : Hp} {t : Addr} {p : Int × Int} (h : H t = some (.tup [.int p.1, .int p.2])) : kOf H (.ref t) = p := by
  unfold kOf
  simp only [h]
theorem sort_prem {H : Hp} : ∀ {ts : List Addr} {qs : List (Int × Int)}, Tup2 H ts qs → ∀ x ∈ ts.map V.ref, ∃ t, x = V.ref t ∧ H t = some (.tup [.int (kOf H x).1, .int (kOf H x).2])
  | _, _, .nil, x, h => by cases h
  | _, _, .cons (a := t) (b := p) r m, x, h => by
    rcases List.mem_cons.mp h with e | h
    · subst e
      exact ⟨t, rfl, by rw [kOf_at r]; exact r⟩
    · exact sort_prem m x h
theorem sort_keys {H : Hp} : ∀ {ts : List Addr} {qs : List (Int × Int)}, Tup2 H ts qs → (ts.map V.ref).map (kOf H) = qs
  | _, _, .nil => rfl
  | _, _, .cons r m => by
    rw [List.map_cons, List.map_cons, kOf_at r, sort_keys m]
theorem sort_back {H : Hp} : ∀ {ys : List V}, (∀ x ∈ ys, ∃ t, x = V.ref t ∧ H t = some (.tup [.int (kOf H x).1, .int (kOf H x).2])) → ∃ ts, ys = ts.map V.ref ∧ Tup2 H ts (ys.map (kOf H))
  | [], _ => ⟨[], rfl, .nil⟩
  | y :: r, h => by
    obtain ⟨t, e, ht⟩ := h y List.mem_cons_self
    obtain ⟨ts, e2, m⟩ := sort_back (ys := r) fun x hx => h x (List.mem_cons_of_mem _ hx)
    exact ⟨t :: ts, by rw [List.map_cons, ← e, ← e2], .cons ht m⟩
theorem sort_out {H : Hp} {ts : List Addr} {qs : List (Int × Int)} {ys : List V} (m : Tup2 H ts qs) (hs : SrtO.Srtd (ltP (kOf H)) ys) (hp : ys.Perm (ts.map V.ref)) :
    ∃ ts' ps, ys = ts'.map V.ref ∧ Tup2 H ts' ps ∧ AscE ps ∧ ps.Perm qs := by
  obtain ⟨ts', e, m'⟩ := sort_back (H := H) (ys := ys) fun x hx => sort_prem m x (hp.mem_iff.mp hx)
  refine ⟨ts', _, e, m', ?_, ?_⟩
  · exact List.pairwise_map.mpr hs
  · have q := hp.map (kOf H)
    rw [sort_keys m] at q
    exact q
theorem Tup2.keep {H H' : Hp} {ts : List Addr} {ps : List (Int × Int)} (m : Tup2 H ts ps) (k : ∀ b xs, H b = some (.tup xs) → H' b = some (.tup xs)) : Tup2 H' ts ps := Paired.mono (fun _ _ h => k _ _ h) m
theorem Tup2.at {H : Hp} : ∀ {ts : List Addr} {ps : List (Int × Int)} {i : Nat} {x : V}, Tup2 H ts ps → (ts.map V.ref)[i]? = some x → ∃ t p, x = V.ref t ∧ ps[i]? = some p ∧ H t = some (.tup [.int p.1, .int p.2])
  | _, _, i, x, .nil, h => by simp at h
  | _, _, 0, x, .cons r m, h => by
    have e : x = V.ref _ := (Option.some.inj h).symm
    exact ⟨_, _, e, rfl, r⟩
  | _, _, i + 1, x, .cons r m, h => Tup2.at (i := i) m h
def dueE (l : List (Int × Int)) (u : Int) : List (Int × Int) := (l.filter fun p => decide (p.2 ≤ u)).map fun p => (p.2, p.1)
theorem dueE_snoc {l : List (Int × Int)} {u : Int} {i : Nat} {p : Int × Int} (h : l[i]? = some p) : dueE (l.take (i + 1)) u = dueE (l.take i) u ++ (if p.2 ≤ u then [(p.2, p.1)] else []) := by
  have e : l.take (i + 1) = l.take i ++ [p] := by
    rw [List.take_add_one, h]; rfl
  rw [e]
  unfold dueE
  rw [List.filter_append, List.map_append]
  congr 1
  by_cases c : p.2 ≤ u
  · simp [c]
  · simp [c]
theorem dueE_len (l : List (Int × Int)) (u : Int) : (dueE l u).length ≤ l.length := by
  unfold dueE
  rw [List.length_map]
  exact List.length_filter_le _ _
theorem dueE_to {l : List (Int × Int)} {u : Int} (n : (l.map (·.1)).Nodup) {es : List (Int × Int)} (p : es.Perm (dueE l u)) (a : AscE es) : EndsTo (getA l) u es := by
  have nl : l.Nodup := by
    unfold List.Nodup at n ⊢
    rw [List.pairwise_map] at n
    exact n.imp fun h e => h (by rw [e])
  have nd : (dueE l u).Nodup := by
    unfold dueE List.Nodup
    rw [List.pairwise_map]
    have := nl.sublist (List.filter_sublist (p := fun p : Int × Int => decide (p.2 ≤ u)))
    unfold List.Nodup at this
    exact this.imp fun h e => h (Prod.ext (Prod.mk.inj e).2 (Prod.mk.inj e).1)
  refine ⟨a, p.nodup_iff.mpr nd, fun e => p.mem_iff.trans ?_⟩
  unfold dueE
  constructor
  · intro m
    obtain ⟨q, hq, rfl⟩ := List.mem_map.mp m
    obtain ⟨h1, h2⟩ := List.mem_filter.mp hq
    exact ⟨getA_of n h1, of_decide_eq_true h2⟩
  · rintro ⟨h1, h2⟩
    exact List.mem_map.mpr ⟨(e.2, e.1), List.mem_filter.mpr ⟨getA_mem h1, decide_eq_true h2⟩, rfl⟩
theorem cutAll_ends : ∀ (ks : List Str) (s : Rm) (t : Int), (cutAll s t ks).ends = s.ends
  | [], s, t => rfl
  | j :: ks, s, t => by
    show (cutAll (cutM t s j) t ks).ends = _
    rw [cutAll_ends ks]
    rfl
theorem OverR.ends {s s' : Rm} {h t : Int} (o : OverR s h t s') : s'.ends = setF s.ends h none := by
  obtain ⟨ks, _, rfl⟩ := o
  rw [cutAll_ends]
theorem OversR.ends : ∀ {es : List (Int × Int)} {s s' : Rm}, OversR es s s' → ∀ k, k ∉ es.map (·.2) → s'.ends k = s.ends k
  | [], s, s', h, k, _ => by
    have h : s' = s := h
    rw [h]
  | e :: r, s, s', ⟨s1, h1, h2⟩, k, n => by
    rw [List.map_cons, List.mem_cons, not_or] at n
    rw [OversR.ends h2 k n.2, OverR.ends h1]
    unfold setF
    rw [if_neg fun z => n.1 z.symm]
theorem OversR.snoc : ∀ {es : List (Int × Int)} {s s1 s' : Rm} {e : Int × Int}, OversR es s s1 → OverR s1 e.2 e.1 s' → OversR (es ++ [e]) s s'
  | [], s, s1, s', e, h, o => by
    have h : s1 = s := h
    subst h
    exact ⟨s', o, rfl⟩
  | x :: r, s, s1, s', e, ⟨s2, h1, h2⟩, o => ⟨s2, h1, OversR.snoc h2 o⟩
theorem EndsTo.hands {ends : Int → Option Int} {u : Int} {es : List (Int × Int)} (h : EndsTo ends u es) : (es.map (·.2)).Nodup := by
  have n := h.nd
  unfold List.Nodup at n ⊢
  rw [List.pairwise_map]
  refine List.Pairwise.imp_of_mem (fun {a b} ha hb ne e => ne ?_) n
  have h1 := ((h.mem a).mp ha).1
  have h2 := ((h.mem b).mp hb).1
  rw [e, h2] at h1
  exact Prod.ext (Option.some.inj h1).symm e
def spGo : Sp := fun vs H Q _ => ∃ (M : Mm) (s : Rm) (t : Int), vs = [.ref M.m, .int t] ∧ MdAt H M s ∧ M.n s ≤ 890 ∧ M.enl.length ≤ 890 ∧
  ∀ s' M' H', GoR s t s' → MdAt H' M' s' → At5 M M' → Ch H H' M.l → M'.n s' ≤ M.n s → M'.enl.length ≤ M.enl.length → M'.spl = M.spl → Q .non H'
theorem DGet_frzI {H : Hp} {a : Addr} {od : Obj} {kvs : List (Key × V)} {k : Int} {v : V} (e : H a = some (.frz od (.dK kvs))) (h : valV kvs (Sum.inl k) = some v) : DGet H a (.int k) (some v) := .inl ⟨kvs, Sum.inl k, .inr ⟨od, e⟩, rfl, h.symm⟩
section
variable {P : Program} {w : World} {K : PySem.W.Frag} {mg : Str → Option Value} {base : Heap}
theorem ok_go {f : Addr} {fd : FuncData} (F : Fun K "_law_go" "_law_go" s_go f fd) (LT : LTxt mg) (DO : Def P w K mg base "_law_over" 2 p_over spOver) : FnOk P w K mg base CX0 3 f fd p_go spGo := by
  obtain ⟨f1, fd1, g1, k1, b1, G1⟩ := DO.ex
  refine F.ok sc_go (fun vs H Q E h => ?_) (fun cdv A outer s H vs Q E hr h => ?_)
  · obtain ⟨M, s, t, rfl, _⟩ := h
    rfl
  · obtain ⟨M, r, t, rfl, S, hn, hne, k⟩ := h
    have hu := hu_of hr
    refine ⟨_, pss_cons (ps_set (i := 2) sc_go.nd rfl (Or.inr rfl) (pe_op op_add (pe_dget hu (pv 0) pe_str (fun _ _ => rfl)) (pv 1)))
      (pss_cons (ps_for PassesOwn.never rfl (pi_list (pe_callB cr_sortedPO (by rfl) LT.sorted (by decide +kernel) (pa_cons (pe_lock
          (pe_lc (own := [("_law_one", 5)]) (g := gName 5) rfl sc_go.nd (pi_keys (pe_dget hu (pv 0) pe_str (fun _ _ => rfl))) (blkOk_by (own := [("_law_one", 5)]) (N := n_go) (sc := defScope s_go) (by decide +kernel))
            (fun _ _ _ _ _ => pg_name (i := 5) sc_go.nd rfl (Or.inl rfl) (Or.inr rfl))
            (fun _ _ _ _ _ => pts_one (pt_cmpR op_le (pe_dget hu (pe_dget hu (pv 0) pe_str (fun _ _ => rfl)) (pv 5) (fun _ _ => rfl)) (pv 2) (nomark _)))
            (fun _ _ _ _ _ => pe_tup (pa_cons (pe_dget hu (pe_dget hu (pv 0) pe_str (fun _ _ => rfl)) (pv 5) (fun _ _ => rfl)) (pa_cons (pv 5) pa_nil))))) pa_nil)))
          (pg_tup (n := 2) rfl (pgs_cons (pg_name (i := 3) sc_go.nd rfl (Or.inl rfl)) (pgs_cons (pg_name (i := 4) sc_go.nd rfl (Or.inl rfl)) pgs_nil)))
        (pss_one (ps_expr (pe_call G1 hr rfl g1 k1 b1 .nil pass0 (pa_cons (pv 0) (pa_cons (pv 4) (pa_cons (pv 3) pa_nil)))))))
      (pss_one (ps_dput hu (pv 0) pe_str (pv 2) rfl))), ?_⟩
    refine ⟨_, rfl, M.m, _, rfl, S.gN, _, rfl, _, _, rfl, rfl, ?_⟩
    refine ⟨M.en, _, S.en, trivial, fun od => ?_⟩
    have gAt : ∀ H', H' M.m = some (.dK (mX r.now r.given M)) → DGet H' M.m (.str "ends") (some (.ref M.en)) := fun H' e => by
      have g := DGet.k (k := Sum.inr "ends") e
      rw [valV_of (mX_keys S.nx _ _) (v := .ref M.en) (by simp [mX, mD])] at g
      exact g
    obtain ⟨⟨n1, n2, n3, n4⟩, ⟨n5, n6, n7⟩, ⟨n8, n9⟩, n10⟩ := S.nes
    have hmL : upd H M.en (.frz od (.dK M.enk)) M.m = some (.dK (mX r.now r.given M)) := by
      rw [upd_ne n2]; exact S.di
    have lh : M.enk.length = M.enl.length := S.re.len
    refine ⟨_, rfl, M.m, _, rfl, gAt _ hmL, M.en, od, rfl, .inl ⟨_, upd_same, fun D hD => ?_⟩⟩
    refine lc_it walk_keys (fun i H' => ∃ ts, Same (upd H M.en (.frz od (.dK M.enk))) H' ∧ H' D = some (.lst (ts.map V.ref)) ∧ Tup2 H' ts (dueE (M.enl.take i) (r.now + t))) ?_ ?_ ?_ ?_
    · exact ⟨[], same_new hD, upd_same, .nil⟩
    · rintro i H' _ ⟨ts, hs, _⟩
      exact hs _ _ upd_same
    · rintro i x H2 H' hi ⟨tz, hs, hl2, mz⟩ ⟨rfl, kk, v, ek, rfl⟩
      obtain ⟨p, hp, e1, e2⟩ := DRel.at S.re ek
      dsimp only at e1 e2
      subst e1 e2
      have hm2 := hs _ _ hmL
      have he2 := hs _ _ (upd_same (H := H) (a := M.en) (o := .frz od (.dK M.enk)))
      obtain ⟨v2, hv2, e3⟩ := S.re.some_ inl_inj (getA_of S.ne (List.mem_of_getElem? hp))
      subst e3
      have gL : DGet _ M.en (.int p.1) (some (.int p.2)) := DGet_frzI he2 hv2
      refine ⟨rfl, _, rfl, M.m, _, rfl, gAt _ hm2, _, rfl, M.en, _, rfl, gL, _, rfl, _, _, rfl, rfl, _, rfl, ?_⟩
      rw [dueE_snoc hp]
      by_cases c : p.2 ≤ r.now + t
      · rw [decide_eq_true c, if_pos c]
        refine iteT ⟨_, rfl, M.m, _, rfl, gAt _ hm2, _, rfl, M.en, _, rfl, gL, _, rfl, (by show 2 ≤ sizeLine; decide), fun z hz => ?_⟩
        have hDz : D ≠ z := ne_of_none hl2 hz
        have sz := same_new (o := .tup [V.int p.2, V.int p.1]) hz
        refine ⟨tz.map V.ref, sz _ _ hl2, ?_, tz ++ [z], fun b o e => ?_, by rw [upd_same, List.map_append]; rfl, ?_⟩
        · rw [List.length_map, Paired.length mz]
          have l1 := dueE_len (M.enl.take i) (r.now + t)
          rw [List.length_take] at l1
          exact small1000 (by omega)
        · rw [upd_ne (ne_of_none e hD)]; exact sz _ _ (hs b o e)
        · have nb : ∀ b xs, upd _ z (.tup [V.int p.2, V.int p.1]) b = some (.tup xs) → b ≠ D := fun b xs e => ne_of e (sz _ _ hl2) (by intro z; cases z)
          exact Paired.snoc (Tup2.keep mz fun b xs e => by rw [upd_ne (nb b xs (sz _ _ e))]; exact sz _ _ e) (by rw [upd_ne hDz.symm]; exact upd_same)
      · rw [decide_eq_false c, if_neg c]
        refine iteF ⟨tz, hs, hl2, ?_⟩
        rw [List.append_nil]
        exact mz
    · rintro H2 ⟨tz, hs, hl2, mz⟩
      rw [lh, List.take_length] at mz
      have hde : H2 M.en = some (.frz od (.dK M.enk)) := hs _ _ upd_same
      have hDe : D ≠ M.en := ne_of hl2 hde (by intro z; cases z)
      have s13 : Same H (upd H2 M.en (.dK M.enk)) := fun b o eb => by
        by_cases hb : b = M.en
        · subst hb
          rw [S.en] at eb
          cases eb
          exact upd_same
        · rw [upd_ne hb]
          exact hs b o (by rw [upd_ne hb]; exact eb)
      have hD3 : upd H2 M.en (.dK M.enk) D = some (.lst (tz.map V.ref)) := by rw [upd_ne hDe]; exact hl2
      have m3 : Tup2 (upd H2 M.en (.dK M.enk)) tz (dueE M.enl (r.now + t)) := Tup2.keep mz fun b xs e => by
        rw [upd_ne (ne_of e hde (by intro z; cases z))]; exact e
      generalize upd H2 M.en (.dK M.enk) = H3 at s13 hD3 m3
      refine ⟨hde, D, tz.map V.ref, kOf H3, rfl, .inl (.inl hD3), sort_prem m3, fun ys L2a sr st hL2 => ?_⟩
      obtain ⟨ts2, es, rfl, m4, asc, pe⟩ := sort_out m3 sr st.perm
      have HE : EndsTo r.ends (r.now + t) es := by
        rw [S.fe]
        exact dueE_to S.ne pe asc
      have s34 : Same H3 (upd H3 L2a (.lst (ts2.map V.ref))) := same_new hL2
      have hL4 : upd H3 L2a (.lst (ts2.map V.ref)) L2a = some (.lst (ts2.map V.ref)) := upd_same
      have S3 := S.same s13
      have ex3 : ∀ a ∈ M.l, ∃ o, H3 a = some o := fun a ha => by
        simp only [Mm.l, List.mem_cons, List.not_mem_nil, or_false] at ha
        rcases ha with rfl | rfl | rfl | rfl | rfl
        · exact ⟨_, S3.di⟩
        · exact ⟨_, S3.sp⟩
        · exact ⟨_, S3.en⟩
        · exact ⟨_, S3.he⟩
        · exact ⟨_, S3.ro⟩
      have nL : L2a ∉ M.l := fun z => by
        obtain ⟨o, e⟩ := ex3 _ z
        rw [hL2] at e
        cases e
      have S4 := S3.same s34
      have s14 := s13.trans s34
      have m5 : Tup2 (upd H3 L2a (.lst (ts2.map V.ref))) ts2 es := m4.keep fun b xs e => s34 _ _ e
      try dsimp only
      generalize upd H3 L2a (.lst (ts2.map V.ref)) = H4 at s34 hL4 S4 s14 m5
      refine ⟨L2a, rfl, ⟨_, SqL.of hL4⟩, for_list (xs := ts2.map V.ref) (D := { nx := sDPut (tVar 0) (tC (V.str (Str.ofString "now"))) (tVar 2) { nx := fun _ H' => Q .non H', rt := Q }, rt := Q }) (fun j σ H' => (∃ y3 y4 : Option V, σ = [some (.ref M.m), some (.int t), some (.int (r.now + t)), y3, y4, none]) ∧ ∃ M2 s2, MdAt H' M2 s2 ∧ OversR (es.take j) r s2 ∧ At5 M M2 ∧ Ch H4 H' M.l ∧ M2.n s2 ≤ M.n r ∧ M2.enl.length ≤ M.enl.length ∧ M2.spl = M.spl)
        ⟨⟨none, none, rfl⟩, M, r, S4, rfl, At5.refl M, Ch.refl _ _, Nat.le_refl _, Nat.le_refl _, rfl⟩ ?_ ?_ ?_⟩
      · rintro j σ H' _ ⟨_, M2, s2, _, _, _, c, _⟩
        exact SqL.of (c.at hL4 nL)
      · rintro j x σ H5 hx ⟨⟨y3, y4, rfl⟩, M2, s2, S5, o5, a5, c5, n5, e5, p5⟩
        obtain ⟨tz2, p, rfl, hp, ht⟩ := Tup2.at m5 hx
        have ht5 := c5.tup _ _ ht
        have tk : es.take (j + 1) = es.take j ++ [p] := by rw [List.take_add_one, hp]; rfl
        have ev := (HE.mem p).mp (List.mem_of_getElem? hp)
        have nk : p.2 ∉ (es.take j).map (·.2) := by
          have n2 := EndsTo.hands HE
          rw [← List.take_append_drop (j + 1) es, tk, List.map_append, List.map_append] at n2
          have n3 := (List.nodup_append.mp (List.nodup_append.mp n2).1).2.2
          exact fun z => n3 _ z p.2 (by simp) rfl
        have e2 : s2.ends p.2 = some p.1 := by rw [OversR.ends o5 _ nk]; exact ev.1
        have em := a5.m
        refine ⟨tz2, _, rfl, SqT.of ht5, rfl, _, _, rfl, _, _, rfl, rfl, ?_⟩
        refine ⟨_, rfl, _, rfl, _, rfl, M2, s2, p.2, p.1, by rw [em]; rfl, S5, by rw [e2]; exact fun z => (by cases z), by omega, fun s' M' H' o6 S6 a6 c6 n6 e6 p6 => ⟨⟨_, _, rfl⟩, M', s', S6, ?_, a5.trans a6, c5.trans (by rw [← a5.l]; exact c6), Nat.le_trans n6 n5, Nat.le_trans e6 e5, p6.trans p5⟩⟩
        rw [tk]
        exact OversR.snoc o5 o6
      · rintro σ H5 ⟨⟨y3, y4, rfl⟩, M2, s2, S5, o5, a5, c5, n5, e5, p5⟩
        rw [List.length_map, Paired.length m5, List.take_length] at o5
        have S6 := S5.setN (r.now + t)
        have c6 := (ch_one (o := .dK (putK (mX s2.now s2.given M2) (Sum.inr "now") (.int (r.now + t)))) S5.di (fun xs z => by cases z)).mono (m := M.l) fun x hx => by rw [List.mem_singleton.mp hx, a5.m]; simp [Mm.l]
        rw [a5.m] at S6 c6
        have di := S5.di
        rw [a5.m] at di
        refine ⟨_, rfl, _, rfl, M.m, _, rfl, DPut.k (k := Sum.inr "now") di (by have q := S5.small; exact q), ?_⟩
        exact k _ M2 _ ⟨es, s2, HE, o5, rfl⟩ S6 a5 (((Ch.of s14 _).trans c5).trans c6) n5 e5 p5
end
end KL

namespace KL
open PySem L2 L2H LX KB
/-! ### the law's own: what a deed on a key comes to -/
def DeedOk : Deed → Prop
  | .put k v _ => TOk 60 k ∧ TOk 60 v
  | .cut k _ => TOk 60 k
  | _ => True
def onKey : Deed → Prop
  | .put _ _ _ => True
  | .cut _ _ => True
  | _ => False
/-- a lease that is there has its ticks -/
def SpanOk (s : Rm) : Prop := ∀ h, s.ends h ≠ none → ∃ t, s.span h = some t
def spDueD (only : Deed → Prop) : Sp := fun vs H Q _ => ∃ (M : Mm) (s : Rm) (dt : Addr) (d : Deed), vs = [.ref M.m, .ref dt] ∧ H dt = some (.tup d.V) ∧ only d ∧ DeedOk d ∧ MdAt H M s ∧ SpanOk s ∧ M.n s ≤ 880 ∧ M.enl.length ≤ 880 ∧ M.spl.length ≤ 880 ∧
  ∀ a s' M' H', DoR s d a s' → MdAt H' M' s' → At5 M M' → Ch H H' M.l → M'.n s' ≤ M.n s + 2 → M'.enl.length ≤ M.enl.length + 1 → M'.spl.length ≤ M.spl.length + 1 → Q a.V H'
theorem MdAt.endsB {H : Hp} {M : Mm} {s : Rm} (S : MdAt H M s) (h : Int) : (valV M.enk (Sum.inl h)).isSome = (s.ends h).isSome := by
  rw [S.fe]
  exact S.re.isSome inl_inj h
theorem MdAt.heldB {H : Hp} {M : Mm} {s : Rm} (S : MdAt H M s) (k : Str) : (valV M.hk (Sum.inr k)).isSome = (s.held k).isSome := by
  rw [S.fh]
  exact S.rh.isSome inr_inj k
theorem MdAt.heldG {H : Hp} {M : Mm} {s : Rm} (S : MdAt H M s) {k v : Str} {j : Int} (e : s.held k = some (v, j)) : ∃ t, DGet H M.he (.str k) (some (.ref t)) ∧ H t = some (.tup [.str v, .int j]) := by
  rw [S.fh] at e
  obtain ⟨x, hx, t, rfl, ht⟩ := S.rh.some_ inr_inj e
  have g := DGet.k (k := Sum.inr k) S.he
  rw [hx] at g
  exact ⟨t, g, ht⟩
section
variable {P : Program} {w : World} {K : PySem.W.Frag} {mg : Str → Option Value} {base : Heap}
theorem ok_due_of_key {f : Addr} {fd : FuncData} (F : Fun K "_law_due_of_key" "_law_due_of_key" s_due_of_key f fd) (DN : Def P w K mg base "_law_note" 1 p_note spNote) : FnOk P w K mg base CX0 2 f fd p_due_of_key (spDueD onKey) := by
  obtain ⟨f1, fd1, g1, k1, b1, G1⟩ := DN.ex
  refine F.ok sc_due_of_key (fun vs H Q E h => ?_) (fun cdv A outer s H vs Q E hr h => ?_)
  · obtain ⟨M, s, dt, d, rfl, _⟩ := h
    rfl
  · obtain ⟨M, r, dt, d, rfl, hd, ho, hok, S, _, hn, hne, _, k⟩ := h
    have hu := hu_of hr
    refine ⟨_, pss_cons (ps_set (i := 2) sc_due_of_key.nd rfl (Or.inl rfl) (pe_ix ix_tup (pv 1) pe_int (fun _ _ => rfl)))
      (pss_cons (ps_set (i := 3) sc_due_of_key.nd rfl (Or.inl rfl) (pe_ix ix_tup (pv 1) (pe_un un_neg pe_int) (fun _ _ => rfl)))
      (C8.pss_cut (ps_if (PW.pt (pw_and (pt_cmpR op_ne (pv 3) pe_int (nomark _)) (pw_and1 (pt_cmp (pc_dnotin hu (pv 3) (pe_dget hu (pv 0) pe_str (fun _ _ => rfl))))))) (pss_one (ps_ret pe_str)) pss_nil)
      (C8.pss_cut (ps_if (PW.pt (pw_and (pt_cmpR op_eq (pe_ix ix_tup (pv 1) pe_int (fun _ _ => rfl)) pe_str (nomark _)) (pw_and1 (pt_cmp (pc_dnotin hu (pv 2) (pe_dget hu (pv 0) pe_str (fun _ _ => rfl))))))) (pss_one (ps_ret pe_str)) pss_nil)
      (C8.pss_cut (ps_if (PW.pt (pw_and (pt_cmp (pc_din hu (pv 2) (pe_dget hu (pv 0) pe_str (fun _ _ => rfl)))) (pw_and (pt_cmpR op_ne (pe_ix ix_tup (pe_dget hu (pe_dget hu (pv 0) pe_str (fun _ _ => rfl)) (pv 2) (fun _ _ => rfl)) pe_int (fun _ _ => rfl)) pe_int (nomark _))
          (pw_and1 (pt_cmpR op_ne (pe_ix ix_tup (pe_dget hu (pe_dget hu (pv 0) pe_str (fun _ _ => rfl)) (pv 2) (fun _ _ => rfl)) pe_int (fun _ _ => rfl)) (pv 3) (nomark _)))))) (pss_one (ps_ret pe_str)) pss_nil)
      (pss_cons (ps_if (pt_cmpR op_eq (pe_ix ix_tup (pv 1) pe_int (fun _ _ => rfl)) pe_str (nomark _))
        (pss_cons (ps_dput hu (pe_dget hu (pv 0) pe_str (fun _ _ => rfl)) (pv 2) (pe_tup (pa_cons (pe_ix ix_tup (pv 1) pe_int (fun _ _ => rfl)) (pa_cons (pv 3) pa_nil))) rfl)
        (pss_one (ps_ret (pe_call G1 hr rfl g1 k1 b1 .nil pass0 (pa_cons (pv 0) (pa_cons (pe_dget hu (pv 0) pe_str (fun _ _ => rfl)) (pa_cons pe_str (pa_cons (pv 2) (pa_cons (pe_ix ix_tup (pv 1) pe_int (fun _ _ => rfl)) pa_nil))))))))) pss_nil)
      (pss_cons (ps_expr (pe_dpop1 (pe_dget hu (pv 0) pe_str (fun _ _ => rfl)) (pv 2) ⟨by rfl, by rfl, by rfl, by rfl⟩))
      (pss_one (ps_ret (pe_call G1 hr rfl g1 k1 b1 .nil pass0 (pa_cons (pv 0) (pa_cons (pe_dget hu (pv 0) pe_str (fun _ _ => rfl)) (pa_cons pe_str (pa_cons (pv 2) (pa_cons pe_str pa_nil)))))))))))))), ?_⟩
    obtain ⟨x0, ky, hh, hdeed, a0, a1, a2, okk⟩ : ∃ (x0 : Str) (ky : Str) (hh : Int), ((x0 = "put" ∧ ∃ v, d = .put ky v hh ∧ TOk 60 v ∧ atI d.V 2 = some (.str v)) ∨ (x0 = "cut" ∧ d = .cut ky hh)) ∧ atI d.V 0 = some (.str x0) ∧ atI d.V 1 = some (.str ky) ∧ atI d.V (-1) = some (.int hh) ∧ TOk 60 ky := by
      cases d with
      | put ky v hh => exact ⟨_, ky, hh, .inl ⟨rfl, v, rfl, hok.2, rfl⟩, rfl, rfl, rfl, hok.1⟩
      | cut ky hh => exact ⟨_, ky, hh, .inr ⟨rfl, rfl⟩, rfl, rfl, rfl, hok⟩
      | grant t => exact absurd ho id
      | wait t => exact absurd ho id
      | renew h => exact absurd ho id
      | drop h => exact absurd ho id
    have stay : ∀ {a : Ans}, DoR r d a r → Q a.V H := fun {a} q => k a r M H q S (At5.refl M) (Ch.refl _ _) (by omega) (by omega) (by omega)
    refine ⟨_, rfl, dt, _, _, _, rfl, rfl, SqT.of hd, a1, ?_⟩
    refine ⟨_, rfl, _, rfl, dt, _, _, _, rfl, rfl, SqT.of hd, a2, ?_⟩
    -- the lease
    refine ⟨fun σ H' => σ = [some (.ref M.m), some (.ref dt), some (.str ky), some (.int hh)] ∧ H = H' ∧ ¬ noLease r hh, ?_, ?_⟩
    · refine ⟨_, rfl, rfl, _, rfl, ?_⟩
      by_cases h0 : hh = 0
      · rw [decide_eq_true (congrArg V.int h0)]
        exact iteF ⟨rfl, rfl, fun z => z.1 h0⟩
      · rw [decide_eq_false (fun e => h0 (V.int.inj e))]
        refine iteT ⟨_, rfl, _, rfl, M.m, _, rfl, S.gE, M.en, _, rfl, DGet.k (k := Sum.inl hh) S.en, _, rfl, ?_⟩
        rw [S.endsB]
        cases e : r.ends hh with
        | some x => exact iteF ⟨rfl, rfl, fun z => by have q := z.2; rw [e] at q; cases q⟩
        | none =>
          refine iteT (stay (a := .bad .lease) ?_)
          rcases hdeed with ⟨_, v, rfl, _⟩ | ⟨_, rfl⟩
          · exact .inl ⟨⟨h0, e⟩, rfl, rfl⟩
          · exact .inl ⟨⟨h0, e⟩, rfl, rfl⟩
    rintro σ H' ⟨rfl, rfl, nl⟩
    -- the key
    refine ⟨fun σ H' => σ = [some (.ref M.m), some (.ref dt), some (.str ky), some (.int hh)] ∧ H = H' ∧ (x0 = "cut" → r.held ky ≠ none), ?_, ?_⟩
    · refine ⟨_, rfl, dt, _, _, _, rfl, rfl, SqT.of hd, a0, rfl, _, rfl, ?_⟩
      by_cases z : x0 = "cut"
      · rw [decide_eq_true (congrArg V.str z)]
        refine iteT ⟨_, rfl, _, rfl, M.m, _, rfl, S.gH, M.he, _, rfl, DGet.k (k := Sum.inr ky) S.he, _, rfl, ?_⟩
        rw [S.heldB]
        cases e : r.held ky with
        | some x => exact iteF ⟨rfl, rfl, fun _ y => by first | (cases y; done) | (rw [e] at y; cases y)⟩
        | none =>
          refine iteT (stay (a := .bad .key) ?_)
          rcases hdeed with ⟨y, _⟩ | ⟨_, rfl⟩
          · rw [z] at y; exact absurd y (by decide +kernel)
          · exact .inr (.inl ⟨nl, e, rfl, rfl⟩)
      · rw [decide_eq_false (fun e => z (V.str.inj e))]
        exact iteF ⟨rfl, rfl, fun y => absurd y z⟩
    rintro σ H' ⟨rfl, rfl, hk⟩
    -- the holder
    refine ⟨fun σ H' => σ = [some (.ref M.m), some (.ref dt), some (.str ky), some (.int hh)] ∧ H = H' ∧ ¬ heldBy r ky hh, ?_, ?_⟩
    · refine ⟨_, rfl, _, rfl, M.m, _, rfl, S.gH, M.he, _, rfl, DGet.k (k := Sum.inr ky) S.he, _, rfl, ?_⟩
      rw [S.heldB]
      cases e : r.held ky with
      | none => exact iteF ⟨rfl, rfl, fun ⟨v, j, y, _⟩ => by rw [e] at y; cases y⟩
      | some x =>
        obtain ⟨v, j⟩ := x
        obtain ⟨th, gh, hth⟩ := S.heldG e
        refine iteT ⟨_, rfl, M.m, _, rfl, S.gH, _, rfl, M.he, _, rfl, gh, th, _, 1, .int j, rfl, rfl, SqT.of hth, rfl, rfl, _, rfl, ?_⟩
        by_cases j0 : j = 0
        · rw [decide_eq_true (congrArg V.int j0)]
          exact iteF ⟨rfl, rfl, fun ⟨v2, j2, y, y2, _⟩ => by rw [e] at y; cases y; exact y2 j0⟩
        · rw [decide_eq_false (fun e => j0 (V.int.inj e))]
          refine iteT ⟨_, rfl, M.m, _, rfl, S.gH, _, rfl, M.he, _, rfl, gh, th, _, 1, .int j, rfl, rfl, SqT.of hth, rfl, _, rfl, rfl, _, rfl, ?_⟩
          by_cases jh : j = hh
          · rw [decide_eq_true (congrArg V.int jh)]
            exact iteF ⟨rfl, rfl, fun ⟨v2, j2, y, _, y2⟩ => by rw [e] at y; cases y; exact y2 jh⟩
          · rw [decide_eq_false (fun e => jh (V.int.inj e))]
            refine iteT (stay (a := .bad .held) ?_)
            have hb : heldBy r ky hh := ⟨v, j, e, j0, jh⟩
            rcases hdeed with ⟨_, v, rfl, _⟩ | ⟨_, rfl⟩
            · exact .inr (.inl ⟨nl, hb, rfl, rfl⟩)
            · exact .inr (.inr (.inl ⟨nl, hb, rfl, rfl⟩))
    rintro σ H' ⟨rfl, rfl, nb⟩
    have nn : M.n r = r.rows.length + M.hl.length := rfl
    refine ⟨_, rfl, dt, _, _, _, rfl, rfl, SqT.of hd, a0, rfl, _, rfl, ?_⟩
    rcases hdeed with ⟨z, v, rfl, okv, a3⟩ | ⟨z, rfl⟩
    · rw [decide_eq_true (congrArg V.str z)]
      refine iteT ⟨_, rfl, dt, _, _, _, rfl, rfl, SqT.of hd, a3, _, rfl, (by show 2 ≤ sizeLine; decide), fun tp htp => ?_⟩
      have s1 := same_new (o := .tup [V.str v, V.int hh]) htp
      have S1 := S.same s1
      have hd1 := s1 _ _ hd
      have htp1 : upd H tp (.tup [V.str v, V.int hh]) tp = some (.tup [V.str v, V.int hh]) := upd_same
      try dsimp only
      generalize upd H tp (.tup [V.str v, V.int hh]) = H1 at s1 S1 hd1 htp1
      refine ⟨_, rfl, M.m, _, rfl, S1.gH, _, rfl, M.he, _, rfl, DPut.k (k := Sum.inr ky) S1.he (by rw [S1.rh.len]; exact small1000 (by omega)), ?_⟩
      have S2 := S1.putKey htp1 okk okv
      have c2 := (ch_one (o := .dK (putK M.hk (Sum.inr ky) (.ref tp))) S1.he (fun xs z => by cases z)).mono (m := M.l) fun x hx => by rw [List.mem_singleton.mp hx]; simp [Mm.l]
      have hd2 := c2.tup _ _ hd1
      have lp := putA_len M.hl ky (v, hh)
      refine ⟨_, rfl, _, rfl, M.m, _, rfl, S2.gN, _, rfl, _, rfl, dt, _, _, _, rfl, rfl, SqT.of hd2, a3, { M with hl := putA M.hl ky (v, hh), hk := putK M.hk (Sum.inr ky) (.ref tp) }, _, r.now, "put", ky, v, rfl, S2, ⟨w_cut.2, okk, okv⟩, by show r.rows.length ≤ 900; omega, fun ts' H' S3 c3 => ?_⟩
      refine k (.num ((r.rows.length : Int) + 1)) _ _ H' (.inr (.inr ⟨nl, nb, rfl, rfl⟩)) S3 ⟨rfl, rfl, rfl, rfl, rfl, rfl⟩ (((Ch.of s1 _).trans c2).trans (c3.mono fun x hx => by rw [List.mem_singleton.mp hx]; simp [Mm.l])) ?_ (Nat.le_succ _) (Nat.le_succ _)
      show (r.rows ++ [_]).length + (putA M.hl ky (v, hh)).length ≤ M.n r + 2
      rw [List.length_append, List.length_cons, List.length_nil]
      omega
    · rw [decide_eq_false (fun e => by rw [z] at e; exact absurd e (by decide +kernel))]
      refine iteF ?_
      cases e : r.held ky with
      | none => exact absurd e (hk z)
      | some x =>
        obtain ⟨v, j⟩ := x
        have e2 := e
        rw [S.fh] at e2
        obtain ⟨v3, hv3, _⟩ := S.rh.some_ inr_inj e2
        have lk := dropA_lt (d := M.hl) (k := ky) (by rw [e2]; intro z; cases z)
        refine ⟨_, rfl, M.m, _, rfl, S.gH, M.he, rfl, .inl ⟨_, .inl S.he⟩, _, rfl, _, Sum.inr ky, v3, S.he, rfl, hv3, ?_⟩
        have S2 := S.dropKey ky
        have c2 := (ch_one (o := .dK (dropK M.hk (Sum.inr ky))) S.he (fun xs z => by cases z)).mono (m := M.l) fun x hx => by rw [List.mem_singleton.mp hx]; simp [Mm.l]
        refine ⟨_, rfl, _, rfl, M.m, _, rfl, S2.gN, _, rfl, { M with hl := dropA M.hl ky, hk := dropK M.hk (Sum.inr ky) }, _, r.now, "cut", ky, "", rfl, S2, ⟨w_cut.1, okk, TOk.nil.mono (by decide)⟩, by show r.rows.length ≤ 900; omega, fun ts' H' S3 c3 => ?_⟩
        refine k (.num ((r.rows.length : Int) + 1)) _ _ H' (.inr (.inr (.inr ⟨nl, hk z, nb, rfl, rfl⟩))) S3 ⟨rfl, rfl, rfl, rfl, rfl, rfl⟩ (c2.trans (c3.mono fun x hx => by rw [List.mem_singleton.mp hx]; simp [Mm.l])) ?_ (Nat.le_succ _) (Nat.le_succ _)
        show (r.rows ++ [_]).length + (dropA M.hl ky).length ≤ M.n r + 2
        rw [List.length_append, List.length_cons, List.length_nil]
        omega
end
end KL

namespace KL
open PySem L2 L2H LX KB
/-! ### the law's own: what a deed comes to -/
section
variable {P : Program} {w : World} {K : PySem.W.Frag} {mg : Str → Option Value} {base : Heap}
theorem ok_due {f : Addr} {fd : FuncData} (F : Fun K "_law_due" "_law_due" s_due f fd) (DG : Def P w K mg base "_law_go" 3 p_go spGo) (DO : Def P w K mg base "_law_over" 2 p_over spOver) (DK : Def P w K mg base "_law_due_of_key" 2 p_due_of_key (spDueD onKey)) :
    FnOk P w K mg base CX0 4 f fd p_due (spDueD fun _ => True) := by
  obtain ⟨f1, fd1, g1, k1, b1, G1⟩ := DG.ex
  obtain ⟨f2, fd2, g2, k2, b2, G2⟩ := DO.ex
  obtain ⟨f3, fd3, g3, k3, b3, G3⟩ := DK.ex
  refine F.ok sc_due (fun vs H Q E h => ?_) (fun cdv A outer s H vs Q E hr h => ?_)
  · obtain ⟨M, s, dt, d, rfl, _⟩ := h
    rfl
  · obtain ⟨M, r, dt, d, rfl, hd, _, hok, S, sok, hn, hne, hsp, k⟩ := h
    have hu := hu_of hr
    have hr2 : Room 2 _ := hr.mono (by decide)
    refine ⟨_, pss_cons (ps_if (pt_cmpR op_eq (pe_ix ix_tup (pv 1) pe_int (fun _ _ => rfl)) pe_str (nomark _))
        (pss_cons (ps_if (PW.pt (pw_or (pt_cmpR op_lt (pe_ix ix_tup (pv 1) pe_int (fun _ _ => rfl)) pe_int (nomark _)) (pw_or1 (pt_cmpR op_gt (pe_ix ix_tup (pv 1) pe_int (fun _ _ => rfl)) pe_int (nomark _))))) (pss_one (ps_ret pe_str)) pss_nil)
        (pss_cons (ps_dput hu (pv 0) pe_str (pe_op op_add (pe_dget hu (pv 0) pe_str (fun _ _ => rfl)) pe_int) rfl)
        (pss_cons (ps_dput hu (pe_dget hu (pv 0) pe_str (fun _ _ => rfl)) (pe_dget hu (pv 0) pe_str (fun _ _ => rfl)) (pe_ix ix_tup (pv 1) pe_int (fun _ _ => rfl)) rfl)
        (pss_cons (ps_dput hu (pe_dget hu (pv 0) pe_str (fun _ _ => rfl)) (pe_dget hu (pv 0) pe_str (fun _ _ => rfl)) (pe_op op_add (pe_dget hu (pv 0) pe_str (fun _ _ => rfl)) (pe_ix ix_tup (pv 1) pe_int (fun _ _ => rfl))) rfl)
        (pss_one (ps_ret (pe_dget hu (pv 0) pe_str (fun _ _ => rfl)))))))) pss_nil)
      (pss_cons (ps_if (pt_cmpR op_eq (pe_ix ix_tup (pv 1) pe_int (fun _ _ => rfl)) pe_str (nomark _))
        (pss_cons (ps_if (PW.pt (pw_or (pt_cmpR op_lt (pe_ix ix_tup (pv 1) pe_int (fun _ _ => rfl)) pe_int (nomark _)) (pw_or1 (pt_cmpR op_gt (pe_ix ix_tup (pv 1) pe_int (fun _ _ => rfl)) pe_int (nomark _))))) (pss_one (ps_ret pe_str)) pss_nil)
        (pss_cons (ps_expr (pe_call G1 hr rfl g1 k1 b1 .nil pass0 (pa_cons (pv 0) (pa_cons (pe_ix ix_tup (pv 1) pe_int (fun _ _ => rfl)) pa_nil))))
        (pss_one (ps_ret pe_non)))) pss_nil)
      (pss_cons (ps_if (PW.pt (pw_or (pt_cmpR op_eq (pe_ix ix_tup (pv 1) pe_int (fun _ _ => rfl)) pe_str (nomark _)) (pw_or1 (pt_cmpR op_eq (pe_ix ix_tup (pv 1) pe_int (fun _ _ => rfl)) pe_str (nomark _)))))
        (pss_cons (ps_if (pt_cmp (pc_dnotin hu (pe_ix ix_tup (pv 1) pe_int (fun _ _ => rfl)) (pe_dget hu (pv 0) pe_str (fun _ _ => rfl)))) (pss_one (ps_ret pe_str)) pss_nil)
        (pss_cons (ps_if (pt_cmpR op_eq (pe_ix ix_tup (pv 1) pe_int (fun _ _ => rfl)) pe_str (nomark _))
          (pss_one (ps_expr (pe_call G2 hr2 rfl g2 k2 b2 .nil pass0 (pa_cons (pv 0) (pa_cons (pe_ix ix_tup (pv 1) pe_int (fun _ _ => rfl)) (pa_cons (pe_dget hu (pv 0) pe_str (fun _ _ => rfl)) pa_nil))))))
          (pss_one (ps_dput hu (pe_dget hu (pv 0) pe_str (fun _ _ => rfl)) (pe_ix ix_tup (pv 1) pe_int (fun _ _ => rfl)) (pe_op op_add (pe_dget hu (pv 0) pe_str (fun _ _ => rfl)) (pe_dget hu (pe_dget hu (pv 0) pe_str (fun _ _ => rfl)) (pe_ix ix_tup (pv 1) pe_int (fun _ _ => rfl)) (fun _ _ => rfl))) rfl)))
        (pss_one (ps_ret pe_non)))) pss_nil)
      (pss_one (ps_ret (pe_call G3 hr2 rfl g3 k3 b3 .nil pass0 (pa_cons (pv 0) (pa_cons (pv 1) pa_nil))))))), ?_⟩
    have stay : ∀ {a : Ans}, DoR r d a r → Q a.V H := fun {a} q => k a r M H q S (At5.refl M) (Ch.refl _ _) (by omega) (by omega) (by omega)
    have nn : M.n r = r.rows.length + M.hl.length := rfl
    have wd : ∀ {a b : Str}, ¬ a = b → decide (V.str a = V.str b) = false := fun h => decide_eq_false fun e => h (V.str.inj e)
    have one : ∀ {x : Addr}, x ∈ M.l → ∀ y ∈ [x], y ∈ M.l := fun h y hy => by rw [List.mem_singleton.mp hy]; exact h
    cases d with
    | grant t =>
      refine ⟨_, rfl, dt, _, 0, .str "grant", rfl, rfl, SqT.of hd, rfl, rfl, _, rfl, ?_⟩
      rw [decide_eq_true rfl]
      refine iteT ⟨_, rfl, dt, _, 1, .int t, rfl, rfl, SqT.of hd, rfl, _, _, rfl, rfl, _, rfl, ?_⟩
      by_cases c1 : t < 1
      · rw [decide_eq_true c1]
        exact iteT (iteT (stay (a := .bad .ticks) (.inl ⟨.inl c1, rfl, rfl⟩)))
      rw [decide_eq_false c1]
      refine iteF ⟨_, rfl, dt, _, 1, .int t, rfl, rfl, SqT.of hd, rfl, _, _, rfl, rfl, _, rfl, ?_⟩
      by_cases c2 : t > 1000000
      · rw [decide_eq_true c2]
        exact iteT (stay (a := .bad .ticks) (.inl ⟨.inr c2, rfl, rfl⟩))
      rw [decide_eq_false c2]
      refine iteF ⟨_, rfl, M.m, _, rfl, S.gG, _, _, rfl, rfl, _, rfl, M.m, _, rfl, DPut.k (k := Sum.inr "given") S.di S.small, ?_⟩
      have S1 := S.setG (r.given + 1)
      have d1 := (ch_one (o := .dK (putK (mX r.now r.given M) (Sum.inr "given") (.int ((r.given + 1 : Nat) : Int)))) S.di (fun xs z => by cases z)).mono (m := M.l) (one (by simp [Mm.l]))
      have h1 := d1.tup _ _ hd
      refine ⟨_, rfl, dt, _, 1, .int t, rfl, rfl, SqT.of h1, rfl, _, rfl, M.m, _, rfl, S1.gS, _, rfl, M.m, _, rfl, S1.gG, M.sp, _, rfl, DPut.k (k := Sum.inl ((r.given + 1 : Nat) : Int)) S1.sp (by rw [S1.rs.len]; exact small1000 (by omega)), ?_⟩
      have S2 := S1.putSpan ((r.given + 1 : Nat) : Int) t
      have d2 := d1.trans ((ch_one (o := .dK (putK M.spk (Sum.inl ((r.given + 1 : Nat) : Int)) (.int t))) S1.sp (fun xs z => by cases z)).mono (m := M.l) (one (by simp [Mm.l])))
      have h2 := d2.tup _ _ hd
      refine ⟨_, rfl, M.m, _, rfl, S2.gN, _, rfl, dt, _, 1, .int t, rfl, rfl, SqT.of h2, rfl, _, _, rfl, rfl, _, rfl, M.m, _, rfl, S2.gE, _, rfl, M.m, _, rfl, S2.gG, M.en, _, rfl, DPut.k (k := Sum.inl ((r.given + 1 : Nat) : Int)) S2.en (by rw [S2.re.len]; exact small1000 (by show M.enl.length ≤ 1000; omega)), ?_⟩
      have S3 := S2.putEnd ((r.given + 1 : Nat) : Int) (r.now + t)
      have d3 := d2.trans ((ch_one (o := .dK (putK M.enk (Sum.inl ((r.given + 1 : Nat) : Int)) (.int (r.now + t)))) S2.en (fun xs z => by cases z)).mono (m := M.l) (one (by simp [Mm.l])))
      refine ⟨_, rfl, M.m, _, rfl, S3.gG, ?_⟩
      exact k (.num ((r.given : Int) + 1)) _ _ _ (.inr ⟨fun z => z.elim c1 c2, rfl, rfl⟩) S3 ⟨rfl, rfl, rfl, rfl, rfl, rfl⟩ d3 (Nat.le_add_right _ _) (putA_len _ _ _) (putA_len _ _ _)
    | wait t =>
      refine ⟨_, rfl, dt, _, 0, .str "wait", rfl, rfl, SqT.of hd, rfl, rfl, _, rfl, ?_⟩
      rw [wd (by decide +kernel)]
      refine iteF ⟨_, rfl, dt, _, 0, .str "wait", rfl, rfl, SqT.of hd, rfl, rfl, _, rfl, ?_⟩
      rw [decide_eq_true rfl]
      refine iteT ⟨_, rfl, dt, _, 1, .int t, rfl, rfl, SqT.of hd, rfl, _, _, rfl, rfl, _, rfl, ?_⟩
      by_cases c1 : t < 0
      · rw [decide_eq_true c1]
        exact iteT (iteT (stay (a := .bad .ticks) (.inl ⟨.inl c1, rfl, rfl⟩)))
      rw [decide_eq_false c1]
      refine iteF ⟨_, rfl, dt, _, 1, .int t, rfl, rfl, SqT.of hd, rfl, _, _, rfl, rfl, _, rfl, ?_⟩
      by_cases c2 : t > 1000000
      · rw [decide_eq_true c2]
        exact iteT (stay (a := .bad .ticks) (.inl ⟨.inr c2, rfl, rfl⟩))
      rw [decide_eq_false c2]
      refine iteF ⟨_, rfl, _, rfl, dt, _, 1, .int t, rfl, rfl, SqT.of hd, rfl, M, r, t, rfl, S, by omega, by omega, fun s' M' H' o S' a' c' n' e' p' => ?_⟩
      exact k .non s' M' H' (.inr ⟨fun z => z.elim c1 c2, rfl, o⟩) S' a' c' (by omega) (by omega) (by rw [p']; omega)
    | renew h =>
      refine ⟨_, rfl, dt, _, 0, .str "renew", rfl, rfl, SqT.of hd, rfl, rfl, _, rfl, ?_⟩
      rw [wd (by decide +kernel)]
      refine iteF ⟨_, rfl, dt, _, 0, .str "renew", rfl, rfl, SqT.of hd, rfl, rfl, _, rfl, ?_⟩
      rw [wd (by decide +kernel)]
      refine iteF ⟨_, rfl, dt, _, 0, .str "renew", rfl, rfl, SqT.of hd, rfl, rfl, _, rfl, ?_⟩
      rw [decide_eq_true rfl]
      refine iteT (iteT ⟨_, rfl, dt, _, 1, .int h, rfl, rfl, SqT.of hd, rfl, _, rfl, M.m, _, rfl, S.gE, M.en, _, rfl, DGet.k (k := Sum.inl h) S.en, _, rfl, ?_⟩)
      rw [S.endsB]
      cases e : r.ends h with
      | none => exact iteT (stay (a := .bad .lease) (.inl ⟨e, rfl, rfl⟩))
      | some x =>
        have ne : r.ends h ≠ none := by rw [e]; intro z; cases z
        obtain ⟨tt, htt⟩ := sok h ne
        have htt2 := htt
        rw [S.fs] at htt2
        obtain ⟨x2, hx2, ex2⟩ := S.rs.some_ inl_inj htt2
        subst ex2
        have gs := DGet.k (k := Sum.inl h) S.sp
        rw [hx2] at gs
        refine iteF ⟨_, rfl, dt, _, 0, .str "renew", rfl, rfl, SqT.of hd, rfl, rfl, _, rfl, ?_⟩
        rw [wd (by decide +kernel)]
        refine iteF ⟨_, rfl, M.m, _, rfl, S.gN, _, rfl, M.m, _, rfl, S.gS, _, rfl, dt, _, 1, .int h, rfl, rfl, SqT.of hd, rfl, M.sp, _, rfl, gs, _, _, rfl, rfl, _, rfl, M.m, _, rfl, S.gE, _, rfl, dt, _, 1, .int h, rfl, rfl, SqT.of hd, rfl, M.en, _, rfl, DPut.k (k := Sum.inl h) S.en (by rw [S.re.len]; exact small1000 (by omega)), ?_⟩
        have S1 := S.putEnd h (r.now + tt)
        have d1 := (ch_one (o := .dK (putK M.enk (Sum.inl h) (.int (r.now + tt)))) S.en (fun xs z => by cases z)).mono (m := M.l) (one (by simp [Mm.l]))
        exact k .non _ _ _ (.inr ⟨ne, rfl, tt, htt, rfl⟩) S1 ⟨rfl, rfl, rfl, rfl, rfl, rfl⟩ d1 (Nat.le_add_right _ _) (putA_len _ _ _) (Nat.le_succ _)
    | drop h =>
      refine ⟨_, rfl, dt, _, 0, .str "drop", rfl, rfl, SqT.of hd, rfl, rfl, _, rfl, ?_⟩
      rw [wd (by decide +kernel)]
      refine iteF ⟨_, rfl, dt, _, 0, .str "drop", rfl, rfl, SqT.of hd, rfl, rfl, _, rfl, ?_⟩
      rw [wd (by decide +kernel)]
      refine iteF ⟨_, rfl, dt, _, 0, .str "drop", rfl, rfl, SqT.of hd, rfl, rfl, _, rfl, ?_⟩
      rw [wd (by decide +kernel)]
      refine iteF ⟨_, rfl, dt, _, 0, .str "drop", rfl, rfl, SqT.of hd, rfl, rfl, _, rfl, ?_⟩
      rw [decide_eq_true rfl]
      refine iteT ⟨_, rfl, dt, _, 1, .int h, rfl, rfl, SqT.of hd, rfl, _, rfl, M.m, _, rfl, S.gE, M.en, _, rfl, DGet.k (k := Sum.inl h) S.en, _, rfl, ?_⟩
      rw [S.endsB]
      cases e : r.ends h with
      | none => exact iteT (stay (a := .bad .lease) (.inl ⟨e, rfl, rfl⟩))
      | some x =>
        have ne : r.ends h ≠ none := by rw [e]; intro z; cases z
        refine iteF ⟨_, rfl, dt, _, 0, .str "drop", rfl, rfl, SqT.of hd, rfl, rfl, _, rfl, ?_⟩
        rw [decide_eq_true rfl]
        refine iteT ⟨_, rfl, _, rfl, dt, _, 1, .int h, rfl, rfl, SqT.of hd, rfl, _, rfl, M.m, _, rfl, S.gN, M, r, h, r.now, rfl, S, ne, by omega, fun s' M' H' o S' a' c' n' e' p' => ?_⟩
        exact k .non s' M' H' (.inr ⟨ne, rfl, o⟩) S' a' c' (by omega) (by omega) (by rw [p']; omega)
    | put ky v h =>
      refine ⟨_, rfl, dt, _, 0, .str "put", rfl, rfl, SqT.of hd, rfl, rfl, _, rfl, ?_⟩
      rw [wd (by decide +kernel)]
      refine iteF ⟨_, rfl, dt, _, 0, .str "put", rfl, rfl, SqT.of hd, rfl, rfl, _, rfl, ?_⟩
      rw [wd (by decide +kernel)]
      refine iteF ⟨_, rfl, dt, _, 0, .str "put", rfl, rfl, SqT.of hd, rfl, rfl, _, rfl, ?_⟩
      rw [wd (by decide +kernel)]
      refine iteF ⟨_, rfl, dt, _, 0, .str "put", rfl, rfl, SqT.of hd, rfl, rfl, _, rfl, ?_⟩
      rw [wd (by decide +kernel)]
      exact iteF ⟨_, rfl, _, rfl, M, r, dt, _, rfl, hd, trivial, hok, S, sok, hn, hne, hsp, k⟩
    | cut ky h =>
      refine ⟨_, rfl, dt, _, 0, .str "cut", rfl, rfl, SqT.of hd, rfl, rfl, _, rfl, ?_⟩
      rw [wd (by decide +kernel)]
      refine iteF ⟨_, rfl, dt, _, 0, .str "cut", rfl, rfl, SqT.of hd, rfl, rfl, _, rfl, ?_⟩
      rw [wd (by decide +kernel)]
      refine iteF ⟨_, rfl, dt, _, 0, .str "cut", rfl, rfl, SqT.of hd, rfl, rfl, _, rfl, ?_⟩
      rw [wd (by decide +kernel)]
      refine iteF ⟨_, rfl, dt, _, 0, .str "cut", rfl, rfl, SqT.of hd, rfl, rfl, _, rfl, ?_⟩
      rw [wd (by decide +kernel)]
      exact iteF ⟨_, rfl, _, rfl, M, r, dt, _, rfl, hd, trivial, hok, S, sok, hn, hne, hsp, k⟩
end
end KL

namespace KL
open PySem L2 L2H LX KB
/-! ### the law's own: alike, ticks, a deed -/
def spAlike : Sp := fun vs H Q _ => ∃ a : Ans, vs = [a.V, a.V] ∧ Q (.bl true) H
def spTicks : Sp := fun vs H Q _ => ∃ (c m : Int), vs = [.int c, .int m] ∧ ∀ t H', Same H H' → Q (.int t) H'
def spDeed : Sp := fun vs H Q _ => ∃ (M : Mm) (s : Rm) (q : Addr) (zs : List Str) (a b c : Int), vs = [.ref M.m, .ref q, .int a, .int b, .int c] ∧ MdAt H M s ∧ H q = some (.lst (zs.map V.str)) ∧ zs.length = 6 ∧ (∀ z ∈ zs, TOk 60 z) ∧
  ∀ dt d H', H dt = none → H' dt = some (.tup d.V) → DeedOk d → Same H H' → Q (.ref dt) H'
section
variable {P : Program} {w : World} {K : PySem.W.Frag} {mg : Str → Option Value} {base : Heap}
theorem ok_alike {f : Addr} {fd : FuncData} (F : Fun K "_law_alike" "_law_alike" s_alike f fd) (DW : Def P w K mg base "_law_whole" 1 p_whole spWhole) : FnOk P w K mg base CX0 2 f fd p_alike spAlike := by
  obtain ⟨fW, fdW, gW, kW, bW, GW⟩ := DW.ex
  refine F.ok sc_alike (fun vs H Q E h => ?_) (fun cdv A outer s H vs Q E hr h => ?_)
  · obtain ⟨a, rfl, _⟩ := h
    rfl
  · obtain ⟨a, rfl, k⟩ := h
    refine ⟨_, pss_cons (ps_if (pt_val (pe_call GW hr rfl gW kW bW .nil pass0 (pa_cons (pv 1) pa_nil))) (pss_one (ps_ret (pe_and (pe_call GW hr rfl gW kW bW .nil pass0 (pa_cons (pv 0) pa_nil)) (pe_one (pe_cmpR op_eq (pv 0) (pv 1) (nomark _)))))) pss_nil)
      (pss_one (ps_ret (pe_cmpR op_eq (pv 0) (pv 1) (nomark _)))), ?_⟩
    cases a with
    | num n =>
      refine ⟨_, rfl, _, true, rfl, .inl ⟨⟨_, rfl⟩, rfl⟩, true, rfl, iteT ?_⟩
      refine ⟨_, rfl, _, true, rfl, .inl ⟨⟨_, rfl⟩, rfl⟩, true, rfl, iteT ?_⟩
      refine ⟨_, rfl, _, rfl, rfl, ?_⟩
      rw [decide_eq_true rfl]
      exact k
    | non =>
      refine ⟨_, rfl, _, false, rfl, .inr ⟨.inl rfl, rfl⟩, false, rfl, iteF ?_⟩
      refine ⟨_, rfl, _, rfl, rfl, ?_⟩
      rw [decide_eq_true rfl]
      exact k
    | bad w =>
      refine ⟨_, rfl, _, false, rfl, .inr ⟨.inr ⟨_, rfl⟩, rfl⟩, false, rfl, iteF ?_⟩
      refine ⟨_, rfl, _, rfl, rfl, ?_⟩
      rw [decide_eq_true rfl]
      exact k
theorem ok_ticks {f : Addr} {fd : FuncData} (F : Fun K "_law_ticks" "_law_ticks" s_ticks f fd) : FnOk P w K mg base CX0 1 f fd p_ticks spTicks := by
  refine F.ok sc_ticks (fun vs H Q E h => ?_) (fun cdv A outer s H vs Q E hr h => ?_)
  · obtain ⟨c, m, rfl, _⟩ := h
    rfl
  · obtain ⟨c, m, rfl, k⟩ := h
    refine ⟨_, pss_cons (ps_if (pt_cmpR op_eq (pe_op op_mod (pv 1) pe_int) pe_int (nomark _)) (pss_one (ps_ret (pe_ix ix_list
          (pe_lst (pa_cons pe_int (pa_cons pe_int (pa_cons pe_int (pa_cons pe_int (pa_cons (pe_un un_neg pe_int) (pa_cons (pe_op op_pow pe_int pe_int) (pa_cons (pe_op op_pow pe_int pe_int) (pa_cons (pe_un un_neg (pe_op op_pow pe_int pe_int)) pa_nil)))))))))
          (pe_op op_mod (pv 0) pe_int) (fun _ _ => rfl)))) pss_nil)
      (pss_cons (ps_if (pt_cmpR op_eq (pe_op op_mod (pv 1) pe_int) pe_int (nomark _)) (pss_one (ps_ret (pe_op op_mod (pv 0) pe_int))) pss_nil)
      (pss_one (ps_ret (pe_op op_add pe_int (pe_op op_mod (pv 0) pe_int))))), ?_⟩
    refine ⟨_, rfl, _, _, rfl, rfl, (by show (0 : Int) < 4; decide), rfl, _, rfl, ?_⟩
    refine ite2 (fun _ => ?_) fun _ => ?_
    · refine ⟨_, rfl, _, _, rfl, rfl, ⟨by decide, by decide, by decide⟩, _, _, rfl, rfl, ⟨by decide, by decide, by decide⟩, _, _, rfl, rfl, ⟨by decide, by decide, by decide⟩, _, rfl, (by show 8 ≤ sizeLine; decide), fun l hl => ?_⟩
      obtain ⟨t, _, e⟩ := at_ints (ns := [0, 1, 1000000, 1000001, -1, 10 ^ 9, 10 ^ 30, -(10 ^ 9)]) (z := c % 8) (by omega) (by show c % 8 < 8; omega)
      refine ⟨_, rfl, _, _, rfl, rfl, (by show (0 : Int) < 8; decide), l, _, _, _, rfl, rfl, SqL.of upd_same, e, ?_⟩
      exact k t _ fun b o e => by rw [upd_ne (ne_of_none e hl)]; exact e
    · refine ⟨_, rfl, _, _, rfl, rfl, (by show (0 : Int) < 4; decide), rfl, _, rfl, ?_⟩
      refine ite2 (fun _ => ?_) fun _ => ?_
      · exact ⟨_, rfl, _, _, rfl, rfl, (by show (0 : Int) < 1000003; decide), k _ _ (Same.refl _)⟩
      · exact ⟨_, rfl, _, _, rfl, rfl, (by show (0 : Int) < 6; decide), _, _, rfl, rfl, k _ _ (Same.refl _)⟩
theorem ok_deed {f : Addr} {fd : FuncData} (F : Fun K "_law_deed" "_law_deed" s_deed f fd) (DT : Def P w K mg base "_law_ticks" 1 p_ticks spTicks) (DX : Def P w K mg base "_law_text" 2 p_text spText) : FnOk P w K mg base CX0 3 f fd p_deed spDeed := by
  obtain ⟨f1, fd1, g1, k1, b1, G1⟩ := DT.ex
  obtain ⟨f2, fd2, g2, k2, b2, G2⟩ := DX.ex
  refine F.ok sc_deed (fun vs H Q E h => ?_) (fun cdv A outer s H vs Q E hr h => ?_)
  · obtain ⟨M, s, q, zs, a, b, c, rfl, _⟩ := h
    rfl
  · obtain ⟨M, r, q, zs, kind, cell, more, rfl, S, hq, hz6, hzs, k⟩ := h
    have hu := hu_of hr
    have hr1 : Room 1 _ := hr.mono (by decide)
    refine ⟨_, pss_cons (ps_set (i := 5) sc_deed.nd rfl (Or.inl rfl) (pe_op op_mod (pv 3) (pe_op op_add (pe_dget hu (pv 0) pe_str (fun _ _ => rfl)) pe_int)))
      (C8.pss_cut (ps_if (pt_cmpR op_eq (pe_op op_mod (pe_op op_fdiv (pv 4) pe_int) pe_int) pe_int (nomark _)) (pss_one (ps_set (i := 5) sc_deed.nd rfl (Or.inl rfl) (pe_ix ix_list (pe_lst (pa_cons (pe_un un_neg pe_int) (pa_cons (pe_un un_neg pe_int) (pa_cons (pe_op op_pow pe_int pe_int) pa_nil)))) (pe_op op_mod (pv 3) pe_int) (fun _ _ => rfl)))) pss_nil)
      (pss_cons (ps_if (pt_cmpR op_lt (pe_op op_mod (pv 2) pe_int) pe_int (nomark _)) (pss_one (ps_ret (pe_tup (pa_cons pe_str (pa_cons (pe_call G1 hr1 rfl g1 k1 b1 .nil pass0 (pa_cons (pv 3) (pa_cons (pv 4) pa_nil))) pa_nil))))) pss_nil)
      (pss_cons (ps_if (pt_cmpR op_eq (pe_op op_mod (pv 2) pe_int) pe_int (nomark _)) (pss_one (ps_ret (pe_tup (pa_cons pe_str (pa_cons (pv 5) pa_nil))))) pss_nil)
      (pss_cons (ps_if (pt_cmpR op_eq (pe_op op_mod (pv 2) pe_int) pe_int (nomark _)) (pss_one (ps_ret (pe_tup (pa_cons pe_str (pa_cons (pv 5) pa_nil))))) pss_nil)
      (pss_cons (ps_if (pt_cmpR op_lt (pe_op op_mod (pv 2) pe_int) pe_int (nomark _)) (pss_one (ps_ret (pe_tup (pa_cons pe_str (pa_cons (pe_op op_sub (pe_call G1 hr1 rfl g1 k1 b1 .nil pass0 (pa_cons (pv 3) (pa_cons (pe_op op_add (pv 4) pe_int) pa_nil))) (pe_op op_mod (pv 4) pe_int)) pa_nil))))) pss_nil)
      (pss_cons (ps_set (i := 6) sc_deed.nd rfl (Or.inl rfl) (pe_ix ix_list (pv 1) (pe_op op_mod (pv 4) pe_int) (fun _ _ => rfl)))
      (pss_cons (ps_if (pt_cmpR op_lt (pe_op op_mod (pv 2) pe_int) pe_int (nomark _)) (pss_one (ps_ret (pe_tup (pa_cons pe_str (pa_cons (pv 6) (pa_cons (pe_call G2 hr rfl g2 k2 b2 .nil pass0 (pa_cons (pv 4) (pa_cons (pe_ix ix_list (pe_lst (pa_cons (pe_op op_mod (pv 3) pe_int) (pa_cons (pe_op op_mod (pv 3) pe_int) pa_nil)))
          (pe_op op_fdiv (pe_op op_mod (pe_op op_fdiv (pv 4) pe_int) pe_int) pe_int) (fun _ _ => rfl)) pa_nil))) (pa_cons (pv 5) pa_nil))))))) pss_nil)
      (pss_one (ps_ret (pe_tup (pa_cons pe_str (pa_cons (pv 6) (pa_cons (pv 5) pa_nil))))))))))))), ?_⟩
    have res : ∀ {H2 : Hp} {tp : Addr} (d : Deed), Same H H2 → H2 tp = none → DeedOk d → Q (.ref tp) (upd H2 tp (.tup d.V)) := fun {H2 tp} d s2 ht o => k tp d _ (s2.free ht) upd_same o (s2.trans (same_new ht))
    refine ⟨_, rfl, _, rfl, M.m, _, rfl, S.gG, _, _, rfl, rfl, _, _, rfl, rfl, (by show (0 : Int) < (r.given : Int) + 2; omega), ?_⟩
    refine ⟨fun σ H' => ∃ hh : Int, σ = [some (.ref M.m), some (.ref q), some (.int kind), some (.int cell), some (.int more), some (.int hh), none] ∧ Same H H', ?_, ?_⟩
    · refine ⟨_, rfl, _, _, rfl, rfl, ⟨by decide, by decide⟩, _, _, rfl, rfl, (by show (0 : Int) < 11; decide), rfl, _, rfl, ?_⟩
      refine ite2 (fun _ => ?_) fun _ => ⟨_, rfl, Same.refl _⟩
      refine ⟨_, rfl, _, rfl, _, _, rfl, rfl, ⟨by decide, by decide, by decide⟩, (by show 3 ≤ sizeLine; decide), fun l hl => ?_⟩
      obtain ⟨t, _, e⟩ := at_ints (ns := [-1, -2, 10 ^ 12]) (z := cell % 3) (by omega) (by show cell % 3 < 3; omega)
      exact ⟨_, rfl, _, _, rfl, rfl, (by show (0 : Int) < 3; decide), l, _, _, _, rfl, rfl, SqL.of upd_same, e, t, rfl, same_new hl⟩
    rintro σ H1 ⟨hh, rfl, s1⟩
    refine ⟨_, rfl, _, _, rfl, rfl, (by show (0 : Int) < 12; decide), _, _, rfl, rfl, _, rfl, ?_⟩
    refine ite2 (fun _ => ?_) fun _ => ?_
    · exact ⟨_, rfl, _, rfl, cell, more, rfl, fun t H2 s2 => ⟨(by show 2 ≤ sizeLine; decide), fun tp htp => res (.grant t) (s1.trans s2) htp trivial⟩⟩
    refine ⟨_, rfl, _, _, rfl, rfl, (by show (0 : Int) < 12; decide), rfl, _, rfl, ?_⟩
    refine ite2 (fun _ => ?_) fun _ => ?_
    · exact ⟨_, rfl, (by show 2 ≤ sizeLine; decide), fun tp htp => res (.renew hh) s1 htp trivial⟩
    refine ⟨_, rfl, _, _, rfl, rfl, (by show (0 : Int) < 12; decide), rfl, _, rfl, ?_⟩
    refine ite2 (fun _ => ?_) fun _ => ?_
    · exact ⟨_, rfl, (by show 2 ≤ sizeLine; decide), fun tp htp => res (.drop hh) s1 htp trivial⟩
    refine ⟨_, rfl, _, _, rfl, rfl, (by show (0 : Int) < 12; decide), _, _, rfl, rfl, _, rfl, ?_⟩
    refine ite2 (fun _ => ?_) fun _ => ?_
    · exact ⟨_, rfl, _, rfl, _, _, rfl, rfl, cell, more + 2, rfl, fun t H2 s2 => ⟨_, rfl, _, _, rfl, rfl, (by show (0 : Int) < 2; decide), _, _, rfl, rfl, (by show 2 ≤ sizeLine; decide), fun tp htp => res (.wait (t - more % 2)) (s1.trans s2) htp trivial⟩⟩
    obtain ⟨ky, hky, e3⟩ := at_strs (ns := zs) (z := more % 6) (by omega) (by rw [hz6]; show more % 6 < 6; omega)
    refine ⟨_, rfl, _, rfl, _, _, rfl, rfl, (by show (0 : Int) < 6; decide), q, _, _, _, rfl, rfl, SqL.of (s1 _ _ hq), e3, ?_⟩
    refine ⟨_, rfl, _, _, rfl, rfl, (by show (0 : Int) < 12; decide), _, _, rfl, rfl, _, rfl, ?_⟩
    refine ite2 (fun _ => ?_) fun _ => ?_
    · refine ⟨_, rfl, _, rfl, _, rfl, _, _, rfl, rfl, (by show (0 : Int) < 5; decide), _, rfl, _, _, rfl, rfl, (by show (0 : Int) < 41; decide), (by show 2 ≤ sizeLine; decide), fun l hl => ?_⟩
      obtain ⟨n1, hn1, e1⟩ := at_ints (ns := [cell % 5, cell % 41]) (z := more / 6 % 5 / 4) (by omega) (by show more / 6 % 5 / 4 < 2; omega)
      have hn : 0 ≤ n1 ∧ n1 ≤ 40 := by
        simp only [List.mem_cons, List.not_mem_nil, or_false] at hn1
        omega
      refine ⟨_, rfl, _, _, rfl, rfl, ⟨by decide, by decide⟩, _, _, rfl, rfl, (by show (0 : Int) < 5; decide), _, _, rfl, rfl, ⟨by decide, by decide⟩, l, _, _, _, rfl, rfl, SqL.of upd_same, e1, more, n1, rfl, hn.1, by omega, fun val H2 tv _ s2 => ?_⟩
      have tv : TOk 60 val := tv.mono (by omega)
      exact ⟨_, rfl, (by show 4 ≤ sizeLine; decide), fun tp htp => res (.put ky val hh) ((s1.trans (same_new hl)).trans s2) htp ⟨hzs _ hky, tv⟩⟩
    · exact ⟨_, rfl, _, rfl, (by show 3 ≤ sizeLine; decide), fun tp htp => res (.cut ky hh) s1 htp (hzs _ hky)⟩
end
end KL

/-! rules of our own: o.m(e, .., k = v) -/
namespace LX
open PySem PySem.Spec PyProof.Rows L2 L2H
def tMethN (C : Addr) (m : Str) (n nk : Nat) (sp : Sp) (gV : List V → List V → List V) (E : XK) (ta : TE) (t tk : TA) : TE := fun σ H Q => ta σ H fun x H1 => ∃ a dx fs, x = .ref a ∧ H1 a = some (.ins C dx fs) ∧ fs.lookup m = none ∧
  t σ H1 fun vs H2 => tk σ H2 fun zs H3 => (x :: vs).length = n ∧ zs.length = nk ∧ sp (gV (x :: vs) zs) H3 Q E
section
variable {X : Cx} {CX : CXT} {k n : Nat} {f C : Addr} {fd : FuncData} {ps ks : List Str} {sp : Sp} {E : XK} {m : Str} {pos apos : Pos} {e o : Expr} {es : List Expr} {kws : List Keyword} {ta : TE} {t tk : TA} {g : List Value → List Value → List Value} {gV : List V → List V → List V}
theorem pe_methN {pl : Sem Bool} (he : PE X o ta) (c : Cls X.K C) (hm : Meth X.K C m f) (F : FnOk X.prog X.w X.K X.mg X.base CX k f fd ps sp) (hr : Room k X.A) (hb : KBn X.K fd ps n ks g gV) (hx : Passes CX X E) (ha : PA X (e :: es) t) (hkw : PK X kws tk)
    (hall : (backToKw pos (keywordEach kws X.env)).all (·.1.isSome) = true := by rfl) (hks : (backToKw pos (keywordEach kws X.env)).filterMap (·.1) = ks := by rfl)
    (hst : starEach (e :: es) X.env = (false, eval e X.env) :: starEach es X.env := by rfl)
    (hpl : ((backTo pos (starEach (e :: es) X.env)).any (·.1) || (backToKw pos (keywordEach kws X.env)).any (·.1.isNone)) = false := by rfl)
    (ht : eval (.Call (.Attribute o m apos) (e :: es) kws pos) X.env = (do
      let ov ← eval o X.env
      standAt apos.atName
      let (f, first) ← holding [ov] (getMethod ov m pl)
      callWith pos f first (backTo pos (starEach (e :: es) X.env)) (backToKw pos (keywordEach kws X.env))) := by rfl) :
    PE X (.Call (.Attribute o m apos) (e :: es) kws pos) (tMethN C m n ks.length sp gV E ta t tk) := by
  refine ⟨fun pins s σ H Q I h => ?_⟩
  refine PySem.W.methodCall_KW (pl := pl) (thn (he.run pins s σ H _ I h) fun u s1 ⟨x, H1, I1, rx, a, dx, fs, ex, ea, l, q⟩ => ?_) ht
  subst ex
  obtain rfl : u = Value.ref a := rx
  refine getmeth_ok I1 ea c hm l ?_
  refine PySem.W.callWith_KW (first := [.ref a]) (h₀ := X.base) I.ok.mod.kin hm.kp hall (thn (ha.run pos pins s1 σ H1 _ I1 q) fun us s2 ⟨vs, H2, I2, r, q2⟩ => ?_) hpl hst
  refine thn (hkw.run pos pins s2 σ H2 _ I2 q2) fun ws s3 ⟨zs, H3, I3, rz, l1, l2, q3⟩ => ⟨I3.kIn, ?_⟩
  rw [hks]
  exact run_fnN (us := .ref a :: us) (vs := .ref a :: vs) F hr hb hx I3 (.cons rfl r) rz l1 l2 q3
end
end LX

namespace KL
open PySem L2 L2H LX KB
/-! ### the law's own: a deed in a room -/
def spCall (kk : Kinds) (Rs : RsT) : Sp := fun vs H Q E => ∃ (F : List Addr) (p : Addr) (s : Rm) (dt : Addr) (d : Deed), vs = [.ref p, .ref dt] ∧ H dt = some (.tup d.V) ∧ DeedOk d ∧ Rs F H p s ∧ Fits s ∧
  ∀ a s' F' H', DoR s d a s' → Rs F' H' p s' → Grow F F' H → Ch H H' F → Out kk Q E H' a
section
variable {P : Program} {w : World} {K : PySem.W.Frag} {mg : Str → Option Value} {base : Heap}
theorem ok_call {f C : Addr} {fd : FuncData} {kk : Kinds} {Rs : RsT} (F : Fun K "_law_call" "_law_call" s_call f fd) (cl : Cls K C) (A1 : RoomApi P w K mg base C kk Rs hsL) : FnOk P w K mg base (L2.CX P w) 9 f fd p_call (spCall kk Rs) := by
  obtain ⟨fG, fdG, psG, mG, bG, GG⟩ := (A1.grant (by decide +kernel)).ex
  obtain ⟨fR, fdR, psR, mR, bR, GR⟩ := (A1.renew (by decide +kernel)).ex
  obtain ⟨fD, fdD, psD, mD', bD, GD⟩ := (A1.drop (by decide +kernel)).ex
  obtain ⟨fW, fdW, psW, mW, bW, GW⟩ := (A1.wait (by decide +kernel)).ex
  obtain ⟨fP, fdP, psP, mP, bP, ⟨dP, vP, b2P⟩, ⟨gP, kP⟩, GP⟩ := A1.put (by decide +kernel)
  obtain ⟨fC, fdC, psC, mC, bC, ⟨dC, vC, b2C⟩, ⟨gC, kC⟩, GC⟩ := A1.cut (by decide +kernel)
  refine F.okX sc_call (fun vs H Q E h => ?_) (fun cdv A outer s H vs Q E hr h => ?_)
  · obtain ⟨F, p, s, dt, d, rfl, _⟩ := h
    rfl
  · obtain ⟨Fo, p, r, dt, d, rfl, hd, hok, S, fit, k⟩ := h
    refine ⟨_, pss_cons (ps_if (pt_cmpR op_eq (pe_ix ix_tup (pv 1) pe_int (fun _ _ => rfl)) pe_str (nomark _)) (pss_one (ps_ret (pe_meth (E := E) (pv 0) cl mG GG hr bG .nil (passes_call (takes_of rfl rfl rfl rfl) (fun _ _ _ _ h => h)) (pa_cons (pe_ix ix_tup (pv 1) pe_int (fun _ _ => rfl)) pa_nil)))) pss_nil)
      (pss_cons (ps_if (pt_cmpR op_eq (pe_ix ix_tup (pv 1) pe_int (fun _ _ => rfl)) pe_str (nomark _)) (pss_one (ps_ret (pe_meth (E := E) (pv 0) cl mW GW hr bW .nil (passes_call (takes_of rfl rfl rfl rfl) (fun _ _ _ _ h => h)) (pa_cons (pe_ix ix_tup (pv 1) pe_int (fun _ _ => rfl)) pa_nil)))) pss_nil)
      (pss_cons (ps_if (pt_cmpR op_eq (pe_ix ix_tup (pv 1) pe_int (fun _ _ => rfl)) pe_str (nomark _)) (pss_one (ps_ret (pe_meth (E := E) (pv 0) cl mR GR hr bR .nil (passes_call (takes_of rfl rfl rfl rfl) (fun _ _ _ _ h => h)) (pa_cons (pe_ix ix_tup (pv 1) pe_int (fun _ _ => rfl)) pa_nil)))) pss_nil)
      (pss_cons (ps_if (pt_cmpR op_eq (pe_ix ix_tup (pv 1) pe_int (fun _ _ => rfl)) pe_str (nomark _)) (pss_one (ps_ret (pe_meth (E := E) (pv 0) cl mD' GD hr bD .nil (passes_call (takes_of rfl rfl rfl rfl) (fun _ _ _ _ h => h)) (pa_cons (pe_ix ix_tup (pv 1) pe_int (fun _ _ => rfl)) pa_nil)))) pss_nil)
      (pss_cons (ps_if (PW.pt (pw_and (pt_cmpR op_eq (pe_ix ix_tup (pv 1) pe_int (fun _ _ => rfl)) pe_str (nomark _)) (pw_and1 (pt_cmpR op_eq (pe_ix ix_tup (pv 1) pe_int (fun _ _ => rfl)) pe_int (nomark _))))) (pss_one (ps_ret (pe_meth (E := E) (pv 0) cl mP GP hr b2P vP (passes_call (takes_of rfl rfl rfl rfl) (fun _ _ _ _ h => h)) (pa_cons (pe_ix ix_tup (pv 1) pe_int (fun _ _ => rfl)) (pa_cons (pe_ix ix_tup (pv 1) pe_int (fun _ _ => rfl)) pa_nil))))) pss_nil)
      (pss_cons (ps_if (PW.pt (pw_and (pt_cmpR op_eq (pe_ix ix_tup (pv 1) pe_int (fun _ _ => rfl)) pe_str (nomark _)) (pw_and1 (pt_cmpR op_eq (pe_op op_mod (pe_ix ix_tup (pv 1) pe_int (fun _ _ => rfl)) pe_int) pe_int (nomark _))))) (pss_one (ps_ret (pe_methN (E := E) (pv 0) cl mP GP hr kP (passes_call (takes_of rfl rfl rfl rfl) (fun _ _ _ _ h => h)) (pa_cons (pe_ix ix_tup (pv 1) pe_int (fun _ _ => rfl)) (pa_cons (pe_ix ix_tup (pv 1) pe_int (fun _ _ => rfl)) pa_nil)) (pk_cons (pe_ix ix_tup (pv 1) pe_int (fun _ _ => rfl)) pk_nil)))) pss_nil)
      (pss_cons (ps_if (pt_cmpR op_eq (pe_ix ix_tup (pv 1) pe_int (fun _ _ => rfl)) pe_str (nomark _)) (pss_one (ps_ret (pe_meth (E := E) (pv 0) cl mP GP hr bP .nil (passes_call (takes_of rfl rfl rfl rfl) (fun _ _ _ _ h => h)) (pa_cons (pe_ix ix_tup (pv 1) pe_int (fun _ _ => rfl)) (pa_cons (pe_ix ix_tup (pv 1) pe_int (fun _ _ => rfl)) (pa_cons (pe_ix ix_tup (pv 1) pe_int (fun _ _ => rfl)) pa_nil)))))) pss_nil)
      (pss_cons (ps_if (pt_cmpR op_eq (pe_op op_mod (pe_ix ix_tup (pv 1) pe_int (fun _ _ => rfl)) pe_int) pe_int (nomark _)) (pss_one (ps_ret (pe_methN (E := E) (pv 0) cl mC GC hr kC (passes_call (takes_of rfl rfl rfl rfl) (fun _ _ _ _ h => h)) (pa_cons (pe_ix ix_tup (pv 1) pe_int (fun _ _ => rfl)) pa_nil) (pk_cons (pe_ix ix_tup (pv 1) pe_int (fun _ _ => rfl)) pk_nil)))) pss_nil)
      (pss_one (ps_ret (pe_meth (E := E) (pv 0) cl mC GC hr bC .nil (passes_call (takes_of rfl rfl rfl rfl) (fun _ _ _ _ h => h)) (pa_cons (pe_ix ix_tup (pv 1) pe_int (fun _ _ => rfl)) (pa_cons (pe_ix ix_tup (pv 1) pe_int (fun _ _ => rfl)) pa_nil)))))))))))), ?_⟩
    obtain ⟨hpF, dx, fs, hob, _, hfs⟩ := A1.inst S
    have wd : ∀ {a b : Str}, ¬ a = b → decide (V.str a = V.str b) = false := fun h => decide_eq_false fun e => h (V.str.inj e)
    have q1 := SqT.of (K := K) hd
    cases d with
    | grant t =>
      refine ⟨_, rfl, dt, _, 0, .str "grant", rfl, rfl, SqT.of hd, rfl, rfl, _, rfl, ?_⟩
      rw [decide_eq_true rfl]
      exact iteT ⟨_, rfl, p, dx, fs, rfl, hob, hfs _ (by simp [roomMs]), _, rfl, dt, _, 1, .int t, rfl, rfl, SqT.of hd, rfl, Fo, p, r, .grant t, [.int t], rfl, ⟨t, rfl, rfl⟩, S, fit, k⟩
    | wait t =>
      refine ⟨_, rfl, dt, _, 0, .str "wait", rfl, rfl, SqT.of hd, rfl, rfl, _, rfl, ?_⟩
      rw [wd (by decide +kernel)]
      refine iteF ⟨_, rfl, dt, _, 0, .str "wait", rfl, rfl, SqT.of hd, rfl, rfl, _, rfl, ?_⟩
      rw [decide_eq_true rfl]
      exact iteT ⟨_, rfl, p, dx, fs, rfl, hob, hfs _ (by simp [roomMs]), _, rfl, dt, _, 1, .int t, rfl, rfl, SqT.of hd, rfl, Fo, p, r, .wait t, [.int t], rfl, ⟨t, rfl, rfl⟩, S, fit, k⟩
    | renew h =>
      refine ⟨_, rfl, dt, _, 0, .str "renew", rfl, rfl, SqT.of hd, rfl, rfl, _, rfl, ?_⟩
      rw [wd (by decide +kernel)]
      refine iteF ⟨_, rfl, dt, _, 0, .str "renew", rfl, rfl, SqT.of hd, rfl, rfl, _, rfl, ?_⟩
      rw [wd (by decide +kernel)]
      refine iteF ⟨_, rfl, dt, _, 0, .str "renew", rfl, rfl, SqT.of hd, rfl, rfl, _, rfl, ?_⟩
      rw [decide_eq_true rfl]
      exact iteT ⟨_, rfl, p, dx, fs, rfl, hob, hfs _ (by simp [roomMs]), _, rfl, dt, _, 1, .int h, rfl, rfl, SqT.of hd, rfl, Fo, p, r, .renew h, [.int h], rfl, ⟨h, rfl, rfl⟩, S, fit, k⟩
    | drop h =>
      refine ⟨_, rfl, dt, _, 0, .str "drop", rfl, rfl, SqT.of hd, rfl, rfl, _, rfl, ?_⟩
      rw [wd (by decide +kernel)]
      refine iteF ⟨_, rfl, dt, _, 0, .str "drop", rfl, rfl, SqT.of hd, rfl, rfl, _, rfl, ?_⟩
      rw [wd (by decide +kernel)]
      refine iteF ⟨_, rfl, dt, _, 0, .str "drop", rfl, rfl, SqT.of hd, rfl, rfl, _, rfl, ?_⟩
      rw [wd (by decide +kernel)]
      refine iteF ⟨_, rfl, dt, _, 0, .str "drop", rfl, rfl, SqT.of hd, rfl, rfl, _, rfl, ?_⟩
      rw [decide_eq_true rfl]
      exact iteT ⟨_, rfl, p, dx, fs, rfl, hob, hfs _ (by simp [roomMs]), _, rfl, dt, _, 1, .int h, rfl, rfl, SqT.of hd, rfl, Fo, p, r, .drop h, [.int h], rfl, ⟨h, rfl, rfl⟩, S, fit, k⟩
    | put ky v h =>
      have sp : argP (.put ky v h) [.str ky, .str v, .int h] := ⟨ky, v, h, rfl, rfl, hok.1, hok.2⟩
      refine ⟨_, rfl, dt, _, 0, .str "put", rfl, rfl, SqT.of hd, rfl, rfl, _, rfl, ?_⟩
      rw [wd (by decide +kernel)]
      refine iteF ⟨_, rfl, dt, _, 0, .str "put", rfl, rfl, SqT.of hd, rfl, rfl, _, rfl, ?_⟩
      rw [wd (by decide +kernel)]
      refine iteF ⟨_, rfl, dt, _, 0, .str "put", rfl, rfl, SqT.of hd, rfl, rfl, _, rfl, ?_⟩
      rw [wd (by decide +kernel)]
      refine iteF ⟨_, rfl, dt, _, 0, .str "put", rfl, rfl, SqT.of hd, rfl, rfl, _, rfl, ?_⟩
      rw [wd (by decide +kernel)]
      refine iteF ⟨_, rfl, dt, _, 0, .str "put", rfl, rfl, SqT.of hd, rfl, rfl, _, rfl, ?_⟩
      rw [decide_eq_true rfl]
      refine iteT ⟨_, rfl, dt, _, 3, .int h, rfl, rfl, SqT.of hd, rfl, rfl, _, rfl, ?_⟩
      by_cases h0 : h = 0
      · rw [decide_eq_true (congrArg V.int h0)]
        subst h0
        exact iteT ⟨_, rfl, p, dx, fs, rfl, hob, hfs _ (by simp [roomMs]), _, rfl, dt, _, 1, .str ky, rfl, rfl, SqT.of hd, rfl, _, rfl, dt, _, 2, .str v, rfl, rfl, SqT.of hd, rfl, Fo, p, r, _, _, rfl, sp, S, fit, k⟩
      rw [decide_eq_false (fun e => h0 (V.int.inj e))]
      refine iteF ⟨_, rfl, dt, _, 0, .str "put", rfl, rfl, SqT.of hd, rfl, rfl, _, rfl, ?_⟩
      rw [decide_eq_true rfl]
      refine iteT ⟨_, rfl, dt, _, 3, .int h, rfl, rfl, SqT.of hd, rfl, _, _, rfl, rfl, (by show (0 : Int) < 2; decide), rfl, _, rfl, ?_⟩
      refine ite2 (fun _ => ?_) fun _ => ?_
      · exact ⟨_, rfl, p, dx, fs, rfl, hob, hfs _ (by simp [roomMs]), _, rfl, dt, _, 1, .str ky, rfl, rfl, SqT.of hd, rfl, _, rfl, dt, _, 2, .str v, rfl, rfl, SqT.of hd, rfl, _, rfl, dt, _, 3, .int h, rfl, rfl, SqT.of hd, rfl, rfl, rfl, Fo, p, r, _, _, rfl, sp, S, fit, k⟩
      refine ⟨_, rfl, dt, _, 0, .str "put", rfl, rfl, SqT.of hd, rfl, rfl, _, rfl, ?_⟩
      rw [decide_eq_true rfl]
      exact iteT ⟨_, rfl, p, dx, fs, rfl, hob, hfs _ (by simp [roomMs]), _, rfl, dt, _, 1, .str ky, rfl, rfl, SqT.of hd, rfl, _, rfl, dt, _, 2, .str v, rfl, rfl, SqT.of hd, rfl, _, rfl, dt, _, 3, .int h, rfl, rfl, SqT.of hd, rfl, Fo, p, r, _, _, rfl, sp, S, fit, k⟩
    | cut ky h =>
      have sp : argC (.cut ky h) [.str ky, .int h] := ⟨ky, h, rfl, rfl, hok⟩
      refine ⟨_, rfl, dt, _, 0, .str "cut", rfl, rfl, SqT.of hd, rfl, rfl, _, rfl, ?_⟩
      rw [wd (by decide +kernel)]
      refine iteF ⟨_, rfl, dt, _, 0, .str "cut", rfl, rfl, SqT.of hd, rfl, rfl, _, rfl, ?_⟩
      rw [wd (by decide +kernel)]
      refine iteF ⟨_, rfl, dt, _, 0, .str "cut", rfl, rfl, SqT.of hd, rfl, rfl, _, rfl, ?_⟩
      rw [wd (by decide +kernel)]
      refine iteF ⟨_, rfl, dt, _, 0, .str "cut", rfl, rfl, SqT.of hd, rfl, rfl, _, rfl, ?_⟩
      rw [wd (by decide +kernel)]
      refine iteF ⟨_, rfl, dt, _, 0, .str "cut", rfl, rfl, SqT.of hd, rfl, rfl, _, rfl, ?_⟩
      rw [wd (by decide +kernel)]
      refine iteF ⟨_, rfl, dt, _, 0, .str "cut", rfl, rfl, SqT.of hd, rfl, rfl, _, rfl, ?_⟩
      rw [wd (by decide +kernel)]
      refine iteF ⟨_, rfl, dt, _, 0, .str "cut", rfl, rfl, SqT.of hd, rfl, rfl, _, rfl, ?_⟩
      rw [wd (by decide +kernel)]
      refine iteF ⟨_, rfl, dt, _, 2, .int h, rfl, rfl, SqT.of hd, rfl, _, _, rfl, rfl, (by show (0 : Int) < 2; decide), rfl, _, rfl, ?_⟩
      refine ite2 (fun _ => ?_) fun _ => ?_
      · exact ⟨_, rfl, p, dx, fs, rfl, hob, hfs _ (by simp [roomMs]), _, rfl, dt, _, 1, .str ky, rfl, rfl, SqT.of hd, rfl, _, rfl, dt, _, 2, .int h, rfl, rfl, SqT.of hd, rfl, rfl, rfl, Fo, p, r, _, _, rfl, sp, S, fit, k⟩
      exact ⟨_, rfl, p, dx, fs, rfl, hob, hfs _ (by simp [roomMs]), _, rfl, dt, _, 1, .str ky, rfl, rfl, SqT.of hd, rfl, _, rfl, dt, _, 2, .int h, rfl, rfl, SqT.of hd, rfl, Fo, p, r, _, _, rfl, sp, S, fit, k⟩
end
end KL

namespace KL
open PySem L2 L2H LX KB
/-! ### the law's own: of which class a refusal is -/
inductive K6
  | ticks
  | lease
  | key
  | held
  | start
  | watch
deriving DecidableEq
def K6.s : K6 → Str
  | .ticks => "BadTicks"
  | .lease => "NoLease"
  | .key => "NoKey"
  | .held => "Held"
  | .start => "NoStart"
  | .watch => "NoWatch"
def K6.at_ (kk : Kinds) : K6 → Addr
  | .ticks => kk.BT
  | .lease => kk.NL
  | .key => kk.NK
  | .held => kk.HE
  | .start => kk.NS
  | .watch => kk.NW
/-- just that one of the six, and a ValueError -/
structure OnlyT (K : PySem.W.Frag) (kk : Kinds) (D : Addr) (i : K6) : Prop where
  C : ExcC K D
  k : ∀ j : K6, PySem.W.kitOne K (.ref D) (.ref (j.at_ kk)) = some (decide (i = j))
  kv : PySem.W.kitOne K (.ref D) (.type "ValueError") = some true
structure Errs (K : PySem.W.Frag) (mg : Str → Option Value) (kk : Kinds) : Prop where
  gL : mg "LeaseError" = some (.ref kk.LE)
  ve : mg "ValueError" = none
  isi : mg "isinstance" = none
  g : ∀ i : K6, mg i.s = some (.ref (i.at_ kk))
  o : ∀ i : K6, OnlyT K kk (i.at_ kk) i
  e : ∀ i : K6, PySem.W.exmOne K (.ref (i.at_ kk)) (.ref kk.LE) = some true
def spO (kk : Kinds) (a : Addr) (cls : Value) (d : Option Addr) : Sp := fun vs H Q _ => ∃ (i : K6) (w : Str) (r : Bool), vs = [.ref a, .str w] ∧ d = none ∧ cls = .ref (i.at_ kk) ∧ SeqAt.shaped (.list [.str w]) = true ∧ PyData.eqv (.list [.str i.s]) (.list [.str w]) = r ∧ ∀ H', Same H H' → Q (.bl r) H'
def spOnly (kk : Kinds) (p : Addr × Obj) : Sp := spO kk p.1 p.2.cls p.2.dict
theorem k6_shaped (i : K6) : SeqAt.shaped (.list [.str i.s]) = true := by cases i <;> decide +kernel
theorem k6_eqv (i j : K6) : PyData.eqv (.list [.str i.s]) (.list [.str j.s]) = decide (i = j) := by cases i <;> cases j <;> decide +kernel
section
variable {P : Program} {w : World} {K : PySem.W.Frag} {mg : Str → Option Value} {base : Heap}
theorem ok_only {f : Addr} {fd : FuncData} {kk : Kinds} (F : Fun K "_law_only" "_law_only" s_only f fd) (M : Errs K mg kk) : FnP P w K mg base 1 f fd p_only (spOnly kk) := by
  refine okP F sc_only (fun p vs H Q E h => ?_) (fun cdv A outer s H vs Q E p hr hf h => ?_)
  · obtain ⟨i, z, r, rfl, _⟩ := h
    rfl
  · obtain ⟨i, z, r, rfl, hd, hc, hsh, hq, k⟩ := h
    have hu : (A.deeper (PyProof.Rows.envOfC "_law_only" (defScope s_only) s.heap.objs.size f cdv)).units + 64 < cLine := by have := hr.un; omega
    have hz : Zc (.ref (i.at_ kk)) none p.2 := ⟨hc, hd⟩
    have oT := M.o i
    have isP : CallR (cxH CX0 P w K mg base n_only "_law_only" (defScope s_only) f cdv A outer s H E p) (.builtin "isinstance") (rIsE K (i.at_ kk) p.1) := call_isP (a := p.1) (oe := p.2) oT.C (List.mem_singleton.mpr rfl) hz hf
    refine ⟨_, pss_cons (ps_set (i := 2) sc_only.nd rfl (Or.inl rfl) (pe_lst pa_nil))
      (pss_cons (ps_if (pt_val (pe_callB isP (by rfl) M.isi (by decide +kernel) (pa_cons (pv 0) (pa_cons (pe_glob (v := V.ref kk.BT) (by rfl) (M.g .ticks) rfl) pa_nil)))) (pss_one (ps_expr (pe_bm PySem.F.plainAttrs_list PySem.F.slot_list_append PySem.F.type_list_append mt_append (pv 2) (pa_cons pe_str pa_nil)))) pss_nil)
      (pss_cons (ps_if (pt_val (pe_callB isP (by rfl) M.isi (by decide +kernel) (pa_cons (pv 0) (pa_cons (pe_glob (v := V.ref kk.NL) (by rfl) (M.g .lease) rfl) pa_nil)))) (pss_one (ps_expr (pe_bm PySem.F.plainAttrs_list PySem.F.slot_list_append PySem.F.type_list_append mt_append (pv 2) (pa_cons pe_str pa_nil)))) pss_nil)
      (pss_cons (ps_if (pt_val (pe_callB isP (by rfl) M.isi (by decide +kernel) (pa_cons (pv 0) (pa_cons (pe_glob (v := V.ref kk.NK) (by rfl) (M.g .key) rfl) pa_nil)))) (pss_one (ps_expr (pe_bm PySem.F.plainAttrs_list PySem.F.slot_list_append PySem.F.type_list_append mt_append (pv 2) (pa_cons pe_str pa_nil)))) pss_nil)
      (pss_cons (ps_if (pt_val (pe_callB isP (by rfl) M.isi (by decide +kernel) (pa_cons (pv 0) (pa_cons (pe_glob (v := V.ref kk.HE) (by rfl) (M.g .held) rfl) pa_nil)))) (pss_one (ps_expr (pe_bm PySem.F.plainAttrs_list PySem.F.slot_list_append PySem.F.type_list_append mt_append (pv 2) (pa_cons pe_str pa_nil)))) pss_nil)
      (pss_cons (ps_if (pt_val (pe_callB isP (by rfl) M.isi (by decide +kernel) (pa_cons (pv 0) (pa_cons (pe_glob (v := V.ref kk.NS) (by rfl) (M.g .start) rfl) pa_nil)))) (pss_one (ps_expr (pe_bm PySem.F.plainAttrs_list PySem.F.slot_list_append PySem.F.type_list_append mt_append (pv 2) (pa_cons pe_str pa_nil)))) pss_nil)
      (pss_cons (ps_if (pt_val (pe_callB isP (by rfl) M.isi (by decide +kernel) (pa_cons (pv 0) (pa_cons (pe_glob (v := V.ref kk.NW) (by rfl) (M.g .watch) rfl) pa_nil)))) (pss_one (ps_expr (pe_bm PySem.F.plainAttrs_list PySem.F.slot_list_append PySem.F.type_list_append mt_append (pv 2) (pa_cons pe_str pa_nil)))) pss_nil)
      (pss_one (ps_ret (pe_and (pe_callB isP (by rfl) M.isi (by decide +kernel) (pa_cons (pv 0) (pa_cons (pe_bltn (v := V.ty "ValueError") (by rfl) M.ve (by decide +kernel) rfl) pa_nil)))
        (pe_one (pe_cmpR (op_eqD hu) (pv 2) (pe_lst (pa_cons (pv 1) pa_nil)) (nomark _)))))))))))), ?_⟩
    refine ⟨(by show 0 ≤ sizeLine; decide), fun l hl => ?_⟩
    have dl : ∀ (H' : Hp) (q : Addr) (y : Str), H' q = some (.lst [V.str y]) → Dp K H' (.ref q) (.list [.str y]) := fun H' q y e => .lst (SqL.of e) (.cons (.str _) .nil)
    have small : ([] : List V).length < sizeLine := by show 0 < sizeLine; decide
    cases i with
    | ticks =>
      refine ⟨_, rfl, _, _, _, rfl, (fun _ e => e), oT.k .ticks, _, rfl, iteT ⟨_, rfl, .inl ⟨rfl, _, SqL.of upd_same⟩, l, _, _, rfl, rfl, upd_same, small, ?_⟩⟩
      refine ⟨_, rfl, _, _, _, rfl, (fun _ e => e), oT.k .lease, _, rfl, iteF ?_⟩
      refine ⟨_, rfl, _, _, _, rfl, (fun _ e => e), oT.k .key, _, rfl, iteF ?_⟩
      refine ⟨_, rfl, _, _, _, rfl, (fun _ e => e), oT.k .held, _, rfl, iteF ?_⟩
      refine ⟨_, rfl, _, _, _, rfl, (fun _ e => e), oT.k .start, _, rfl, iteF ?_⟩
      refine ⟨_, rfl, _, _, _, rfl, (fun _ e => e), oT.k .watch, _, rfl, iteF ?_⟩
      refine ⟨_, rfl, _, _, _, rfl, (fun _ e => e), oT.kv, true, rfl, iteT ?_⟩
      refine ⟨_, rfl, _, rfl, (by show 1 ≤ sizeLine; decide), fun q hq2 => ?_⟩
      have ql : q ≠ l := fun e => by rw [e, upd_same] at hq2; cases hq2
      refine ⟨.list [.str "BadTicks"], .list [.str z], dl _ l _ (by rw [upd_ne ql.symm]; exact upd_same), dl _ q _ upd_same, (by decide +kernel), hsh, ?_⟩
      have hq3 : PyData.eqv (.list [.str "BadTicks"]) (.list [.str z]) = r := hq
      rw [hq3]
      refine k _ fun b o e => ?_
      have h1 : b ≠ l := ne_of_none e hl
      have h2 : b ≠ q := ne_of_none (H := upd (upd H l (.lst [])) l (.lst ([] ++ [V.str "BadTicks"]))) (by rw [upd_ne h1, upd_ne h1]; exact e) hq2
      rw [upd_ne h2, upd_ne h1, upd_ne h1]
      exact e
    | lease =>
      refine ⟨_, rfl, _, _, _, rfl, (fun _ e => e), oT.k .ticks, _, rfl, iteF ?_⟩
      refine ⟨_, rfl, _, _, _, rfl, (fun _ e => e), oT.k .lease, _, rfl, iteT ⟨_, rfl, .inl ⟨rfl, _, SqL.of upd_same⟩, l, _, _, rfl, rfl, upd_same, small, ?_⟩⟩
      refine ⟨_, rfl, _, _, _, rfl, (fun _ e => e), oT.k .key, _, rfl, iteF ?_⟩
      refine ⟨_, rfl, _, _, _, rfl, (fun _ e => e), oT.k .held, _, rfl, iteF ?_⟩
      refine ⟨_, rfl, _, _, _, rfl, (fun _ e => e), oT.k .start, _, rfl, iteF ?_⟩
      refine ⟨_, rfl, _, _, _, rfl, (fun _ e => e), oT.k .watch, _, rfl, iteF ?_⟩
      refine ⟨_, rfl, _, _, _, rfl, (fun _ e => e), oT.kv, true, rfl, iteT ?_⟩
      refine ⟨_, rfl, _, rfl, (by show 1 ≤ sizeLine; decide), fun q hq2 => ?_⟩
      have ql : q ≠ l := fun e => by rw [e, upd_same] at hq2; cases hq2
      refine ⟨.list [.str "NoLease"], .list [.str z], dl _ l _ (by rw [upd_ne ql.symm]; exact upd_same), dl _ q _ upd_same, (by decide +kernel), hsh, ?_⟩
      have hq3 : PyData.eqv (.list [.str "NoLease"]) (.list [.str z]) = r := hq
      rw [hq3]
      refine k _ fun b o e => ?_
      have h1 : b ≠ l := ne_of_none e hl
      have h2 : b ≠ q := ne_of_none (H := upd (upd H l (.lst [])) l (.lst ([] ++ [V.str "NoLease"]))) (by rw [upd_ne h1, upd_ne h1]; exact e) hq2
      rw [upd_ne h2, upd_ne h1, upd_ne h1]
      exact e
    | key =>
      refine ⟨_, rfl, _, _, _, rfl, (fun _ e => e), oT.k .ticks, _, rfl, iteF ?_⟩
      refine ⟨_, rfl, _, _, _, rfl, (fun _ e => e), oT.k .lease, _, rfl, iteF ?_⟩
      refine ⟨_, rfl, _, _, _, rfl, (fun _ e => e), oT.k .key, _, rfl, iteT ⟨_, rfl, .inl ⟨rfl, _, SqL.of upd_same⟩, l, _, _, rfl, rfl, upd_same, small, ?_⟩⟩
      refine ⟨_, rfl, _, _, _, rfl, (fun _ e => e), oT.k .held, _, rfl, iteF ?_⟩
      refine ⟨_, rfl, _, _, _, rfl, (fun _ e => e), oT.k .start, _, rfl, iteF ?_⟩
      refine ⟨_, rfl, _, _, _, rfl, (fun _ e => e), oT.k .watch, _, rfl, iteF ?_⟩
      refine ⟨_, rfl, _, _, _, rfl, (fun _ e => e), oT.kv, true, rfl, iteT ?_⟩
      refine ⟨_, rfl, _, rfl, (by show 1 ≤ sizeLine; decide), fun q hq2 => ?_⟩
      have ql : q ≠ l := fun e => by rw [e, upd_same] at hq2; cases hq2
      refine ⟨.list [.str "NoKey"], .list [.str z], dl _ l _ (by rw [upd_ne ql.symm]; exact upd_same), dl _ q _ upd_same, (by decide +kernel), hsh, ?_⟩
      have hq3 : PyData.eqv (.list [.str "NoKey"]) (.list [.str z]) = r := hq
      rw [hq3]
      refine k _ fun b o e => ?_
      have h1 : b ≠ l := ne_of_none e hl
      have h2 : b ≠ q := ne_of_none (H := upd (upd H l (.lst [])) l (.lst ([] ++ [V.str "NoKey"]))) (by rw [upd_ne h1, upd_ne h1]; exact e) hq2
      rw [upd_ne h2, upd_ne h1, upd_ne h1]
      exact e
    | held =>
      refine ⟨_, rfl, _, _, _, rfl, (fun _ e => e), oT.k .ticks, _, rfl, iteF ?_⟩
      refine ⟨_, rfl, _, _, _, rfl, (fun _ e => e), oT.k .lease, _, rfl, iteF ?_⟩
      refine ⟨_, rfl, _, _, _, rfl, (fun _ e => e), oT.k .key, _, rfl, iteF ?_⟩
      refine ⟨_, rfl, _, _, _, rfl, (fun _ e => e), oT.k .held, _, rfl, iteT ⟨_, rfl, .inl ⟨rfl, _, SqL.of upd_same⟩, l, _, _, rfl, rfl, upd_same, small, ?_⟩⟩
      refine ⟨_, rfl, _, _, _, rfl, (fun _ e => e), oT.k .start, _, rfl, iteF ?_⟩
      refine ⟨_, rfl, _, _, _, rfl, (fun _ e => e), oT.k .watch, _, rfl, iteF ?_⟩
      refine ⟨_, rfl, _, _, _, rfl, (fun _ e => e), oT.kv, true, rfl, iteT ?_⟩
      refine ⟨_, rfl, _, rfl, (by show 1 ≤ sizeLine; decide), fun q hq2 => ?_⟩
      have ql : q ≠ l := fun e => by rw [e, upd_same] at hq2; cases hq2
      refine ⟨.list [.str "Held"], .list [.str z], dl _ l _ (by rw [upd_ne ql.symm]; exact upd_same), dl _ q _ upd_same, (by decide +kernel), hsh, ?_⟩
      have hq3 : PyData.eqv (.list [.str "Held"]) (.list [.str z]) = r := hq
      rw [hq3]
      refine k _ fun b o e => ?_
      have h1 : b ≠ l := ne_of_none e hl
      have h2 : b ≠ q := ne_of_none (H := upd (upd H l (.lst [])) l (.lst ([] ++ [V.str "Held"]))) (by rw [upd_ne h1, upd_ne h1]; exact e) hq2
      rw [upd_ne h2, upd_ne h1, upd_ne h1]
      exact e
    | start =>
      refine ⟨_, rfl, _, _, _, rfl, (fun _ e => e), oT.k .ticks, _, rfl, iteF ?_⟩
      refine ⟨_, rfl, _, _, _, rfl, (fun _ e => e), oT.k .lease, _, rfl, iteF ?_⟩
      refine ⟨_, rfl, _, _, _, rfl, (fun _ e => e), oT.k .key, _, rfl, iteF ?_⟩
      refine ⟨_, rfl, _, _, _, rfl, (fun _ e => e), oT.k .held, _, rfl, iteF ?_⟩
      refine ⟨_, rfl, _, _, _, rfl, (fun _ e => e), oT.k .start, _, rfl, iteT ⟨_, rfl, .inl ⟨rfl, _, SqL.of upd_same⟩, l, _, _, rfl, rfl, upd_same, small, ?_⟩⟩
      refine ⟨_, rfl, _, _, _, rfl, (fun _ e => e), oT.k .watch, _, rfl, iteF ?_⟩
      refine ⟨_, rfl, _, _, _, rfl, (fun _ e => e), oT.kv, true, rfl, iteT ?_⟩
      refine ⟨_, rfl, _, rfl, (by show 1 ≤ sizeLine; decide), fun q hq2 => ?_⟩
      have ql : q ≠ l := fun e => by rw [e, upd_same] at hq2; cases hq2
      refine ⟨.list [.str "NoStart"], .list [.str z], dl _ l _ (by rw [upd_ne ql.symm]; exact upd_same), dl _ q _ upd_same, (by decide +kernel), hsh, ?_⟩
      have hq3 : PyData.eqv (.list [.str "NoStart"]) (.list [.str z]) = r := hq
      rw [hq3]
      refine k _ fun b o e => ?_
      have h1 : b ≠ l := ne_of_none e hl
      have h2 : b ≠ q := ne_of_none (H := upd (upd H l (.lst [])) l (.lst ([] ++ [V.str "NoStart"]))) (by rw [upd_ne h1, upd_ne h1]; exact e) hq2
      rw [upd_ne h2, upd_ne h1, upd_ne h1]
      exact e
    | watch =>
      refine ⟨_, rfl, _, _, _, rfl, (fun _ e => e), oT.k .ticks, _, rfl, iteF ?_⟩
      refine ⟨_, rfl, _, _, _, rfl, (fun _ e => e), oT.k .lease, _, rfl, iteF ?_⟩
      refine ⟨_, rfl, _, _, _, rfl, (fun _ e => e), oT.k .key, _, rfl, iteF ?_⟩
      refine ⟨_, rfl, _, _, _, rfl, (fun _ e => e), oT.k .held, _, rfl, iteF ?_⟩
      refine ⟨_, rfl, _, _, _, rfl, (fun _ e => e), oT.k .start, _, rfl, iteF ?_⟩
      refine ⟨_, rfl, _, _, _, rfl, (fun _ e => e), oT.k .watch, _, rfl, iteT ⟨_, rfl, .inl ⟨rfl, _, SqL.of upd_same⟩, l, _, _, rfl, rfl, upd_same, small, ?_⟩⟩
      refine ⟨_, rfl, _, _, _, rfl, (fun _ e => e), oT.kv, true, rfl, iteT ?_⟩
      refine ⟨_, rfl, _, rfl, (by show 1 ≤ sizeLine; decide), fun q hq2 => ?_⟩
      have ql : q ≠ l := fun e => by rw [e, upd_same] at hq2; cases hq2
      refine ⟨.list [.str "NoWatch"], .list [.str z], dl _ l _ (by rw [upd_ne ql.symm]; exact upd_same), dl _ q _ upd_same, (by decide +kernel), hsh, ?_⟩
      have hq3 : PyData.eqv (.list [.str "NoWatch"]) (.list [.str z]) = r := hq
      rw [hq3]
      refine k _ fun b o e => ?_
      have h1 : b ≠ l := ne_of_none e hl
      have h2 : b ≠ q := ne_of_none (H := upd (upd H l (.lst [])) l (.lst ([] ++ [V.str "NoWatch"]))) (by rw [upd_ne h1, upd_ne h1]; exact e) hq2
      rw [upd_ne h2, upd_ne h1, upd_ne h1]
      exact e
end
end KL

namespace KL
open PySem L2 L2H LX KB
/-! ### the law's own: a deed's answer, or its refusal's word -/
def spDone (Rs : RsT) : Sp := fun vs H Q _ => ∃ (F : List Addr) (p : Addr) (s : Rm) (dt : Addr) (d : Deed), vs = [.ref p, .ref dt] ∧ H dt = some (.tup d.V) ∧ DeedOk d ∧ Rs F H p s ∧ Fits s ∧
  ∀ a s' F' H', DoR s d a s' → Rs F' H' p s' → Grow F F' H → Ch H H' F → Q a.V H'
def Kd.k6 : Kd → K6
  | .ticks => .ticks
  | .lease => .lease
  | .key => .key
  | .held => .held
section
variable {P : Program} {w : World} {K : PySem.W.Frag} {mg : Str → Option Value} {base : Heap}
theorem ok_done {f fO C : Addr} {fd fdO : FuncData} {kk : Kinds} {Rs : RsT} (F : Fun K "_law_done" "_law_done" s_done f fd) (A1 : RoomApi P w K mg base C kk Rs hsL) (M : Errs K mg kk)
    (DC : ∃ f fd, mg (Str.ofString "_law_call") = some (.ref f) ∧ PySem.W.keepIn K (.ref f) = true ∧ Binds K fd p_call [] ∧ FnOk P w K mg base (L2.CX P w) 9 f fd p_call (spCall kk Rs))
    (FO : FnP P w K mg base 1 fO fdO p_only (spOnly kk)) (gO : mg "_law_only" = some (.ref fO)) (kO : PySem.W.keepIn K (.ref fO) = true) (bO : Binds K fdO p_only []) : FnOk P w K mg base CX0 10 f fd p_done (spDone Rs) := by
  obtain ⟨fC, fdC, gC, kC, bC, GC⟩ := DC
  refine F.ok sc_done (fun vs H Q E h => ?_) (fun cdv A outer s H vs Q E hr h => ?_)
  · obtain ⟨F, p, s, dt, d, rfl, _⟩ := h
    rfl
  · obtain ⟨Fo, p, r, dt, d, rfl, hd, hok, S, fit, k⟩ := h
    have hr1 : Room 1 _ := hr.mono (by decide)
    refine ⟨_, pss_one (ps_try_as (i := 2) rfl rfl sc_done.nd rfl rfl ⟨rfl, by decide, .inl M.gL⟩ takes0
      (fun W pn xe tk _ => pss_one (ps_ret (pe_callS (E := WE W) GC hr rfl gC kC bC (fun σ => passAt tk σ) (pa_cons (pv 0) (pa_cons (pv 1) pa_nil)))))
      (ts := fun a cls d => tSeq (tForLP K (tLst (tCons (tC (.str "BadTicks")) (tCons (tC (.str "NoLease")) (tCons (tC (.str "NoKey")) (tCons (tC (.str "Held")) tNil))))) (gName 3) (tIfS (tB (tCallP (spO kk a cls d) (tCons (tVar 2) (tCons (tVar 3) tNil)))) (tRet (tVar 3)) tNext)) (tRet (tC (.str "another refusal"))))
      (fun a oe cls d pn hz hf => ?_)), ?_⟩
    · obtain ⟨rfl, rfl⟩ := hz
      exact pss_cons (ps_forLP PassesOwn.never (pe_lst (pa_cons pe_str (pa_cons pe_str (pa_cons pe_str (pa_cons pe_str pa_nil))))) (pg_name (i := 3) sc_done.nd rfl (Or.inl rfl) (Or.inr rfl))
        (pss_one (ps_if (pt_val (pe_callP (sp := spOnly kk) (p := (a, oe)) FO ⟨hr1.dp, hr1.un⟩ List.mem_cons_self hf (by rfl) gO kO bO (pa_cons (pv 2) (pa_cons (pv 3) pa_nil)))) (pss_one (ps_ret (pv 3))) pss_nil)))
        (pss_one (ps_ret pe_str))
    · have four : (4 : Nat) ≤ sizeLine := by decide
      refine ⟨_, rfl, _, rfl, Fo, p, r, dt, d, rfl, hd, hok, S, fit, fun a s' F' H1 o S' G' C' => ?_⟩
      have q : ∀ {H2 : Hp}, Same H1 H2 → Q a.V H2 := fun {H2} h => k a s' F' H2 o (A1.frame S' (Ch.of h []) (fun _ _ z => nomatch z)) G' (C'.same h)
      cases a with
      | num n => exact q (Same.refl H1)
      | non => exact q (Same.refl H1)
      | bad wk =>
        cases wk with
        | ticks =>
          refine ⟨true, M.e .ticks, fun _ a ha => ?_, fun z => nomatch z⟩
          refine ⟨four, fun l hl => ⟨l, _, rfl, SqL.of upd_same, fun i σ H' => (i = 0) ∧ (∃ y : Option V, σ = [some (.ref p), some (.ref dt), some (.ref a), y]) ∧ Same (upd H1 l (.lst [.str "BadTicks", .str "NoLease", .str "NoKey", .str "Held"])) H', ⟨by simp, ⟨_, rfl⟩, Same.refl _⟩, ?_⟩⟩
          rintro i σ H' ⟨hi, ⟨y, rfl⟩, hs⟩
          refine ⟨SqL.of (hs _ _ upd_same), ?_⟩
          rcases hi with rfl
          · exact ⟨_, rfl, _, rfl, _, rfl, .ticks, _, _, rfl, rfl, rfl, k6_shaped .ticks, k6_eqv .ticks .ticks, fun H2 hs2 => ⟨_, rfl, iteT ⟨_, rfl, q fun b o e => hs2 _ _ (hs _ _ (by rw [upd_ne (ne_of_none e hl)]; exact e))⟩⟩⟩
        | lease =>
          refine ⟨true, M.e .lease, fun _ a ha => ?_, fun z => nomatch z⟩
          refine ⟨four, fun l hl => ⟨l, _, rfl, SqL.of upd_same, fun i σ H' => (i = 0 ∨ i = 1) ∧ (∃ y : Option V, σ = [some (.ref p), some (.ref dt), some (.ref a), y]) ∧ Same (upd H1 l (.lst [.str "BadTicks", .str "NoLease", .str "NoKey", .str "Held"])) H', ⟨by simp, ⟨_, rfl⟩, Same.refl _⟩, ?_⟩⟩
          rintro i σ H' ⟨hi, ⟨y, rfl⟩, hs⟩
          refine ⟨SqL.of (hs _ _ upd_same), ?_⟩
          rcases hi with rfl | rfl
          · exact ⟨_, rfl, _, rfl, _, rfl, .lease, _, _, rfl, rfl, rfl, k6_shaped .ticks, k6_eqv .lease .ticks, fun H2 hs2 => ⟨_, rfl, iteF ⟨by simp, ⟨_, rfl⟩, hs.trans hs2⟩⟩⟩
          · exact ⟨_, rfl, _, rfl, _, rfl, .lease, _, _, rfl, rfl, rfl, k6_shaped .lease, k6_eqv .lease .lease, fun H2 hs2 => ⟨_, rfl, iteT ⟨_, rfl, q fun b o e => hs2 _ _ (hs _ _ (by rw [upd_ne (ne_of_none e hl)]; exact e))⟩⟩⟩
        | key =>
          refine ⟨true, M.e .key, fun _ a ha => ?_, fun z => nomatch z⟩
          refine ⟨four, fun l hl => ⟨l, _, rfl, SqL.of upd_same, fun i σ H' => (i = 0 ∨ i = 1 ∨ i = 2) ∧ (∃ y : Option V, σ = [some (.ref p), some (.ref dt), some (.ref a), y]) ∧ Same (upd H1 l (.lst [.str "BadTicks", .str "NoLease", .str "NoKey", .str "Held"])) H', ⟨by simp, ⟨_, rfl⟩, Same.refl _⟩, ?_⟩⟩
          rintro i σ H' ⟨hi, ⟨y, rfl⟩, hs⟩
          refine ⟨SqL.of (hs _ _ upd_same), ?_⟩
          rcases hi with rfl | rfl | rfl
          · exact ⟨_, rfl, _, rfl, _, rfl, .key, _, _, rfl, rfl, rfl, k6_shaped .ticks, k6_eqv .key .ticks, fun H2 hs2 => ⟨_, rfl, iteF ⟨by simp, ⟨_, rfl⟩, hs.trans hs2⟩⟩⟩
          · exact ⟨_, rfl, _, rfl, _, rfl, .key, _, _, rfl, rfl, rfl, k6_shaped .lease, k6_eqv .key .lease, fun H2 hs2 => ⟨_, rfl, iteF ⟨by simp, ⟨_, rfl⟩, hs.trans hs2⟩⟩⟩
          · exact ⟨_, rfl, _, rfl, _, rfl, .key, _, _, rfl, rfl, rfl, k6_shaped .key, k6_eqv .key .key, fun H2 hs2 => ⟨_, rfl, iteT ⟨_, rfl, q fun b o e => hs2 _ _ (hs _ _ (by rw [upd_ne (ne_of_none e hl)]; exact e))⟩⟩⟩
        | held =>
          refine ⟨true, M.e .held, fun _ a ha => ?_, fun z => nomatch z⟩
          refine ⟨four, fun l hl => ⟨l, _, rfl, SqL.of upd_same, fun i σ H' => (i = 0 ∨ i = 1 ∨ i = 2 ∨ i = 3) ∧ (∃ y : Option V, σ = [some (.ref p), some (.ref dt), some (.ref a), y]) ∧ Same (upd H1 l (.lst [.str "BadTicks", .str "NoLease", .str "NoKey", .str "Held"])) H', ⟨by simp, ⟨_, rfl⟩, Same.refl _⟩, ?_⟩⟩
          rintro i σ H' ⟨hi, ⟨y, rfl⟩, hs⟩
          refine ⟨SqL.of (hs _ _ upd_same), ?_⟩
          rcases hi with rfl | rfl | rfl | rfl
          · exact ⟨_, rfl, _, rfl, _, rfl, .held, _, _, rfl, rfl, rfl, k6_shaped .ticks, k6_eqv .held .ticks, fun H2 hs2 => ⟨_, rfl, iteF ⟨by simp, ⟨_, rfl⟩, hs.trans hs2⟩⟩⟩
          · exact ⟨_, rfl, _, rfl, _, rfl, .held, _, _, rfl, rfl, rfl, k6_shaped .lease, k6_eqv .held .lease, fun H2 hs2 => ⟨_, rfl, iteF ⟨by simp, ⟨_, rfl⟩, hs.trans hs2⟩⟩⟩
          · exact ⟨_, rfl, _, rfl, _, rfl, .held, _, _, rfl, rfl, rfl, k6_shaped .key, k6_eqv .held .key, fun H2 hs2 => ⟨_, rfl, iteF ⟨by simp, ⟨_, rfl⟩, hs.trans hs2⟩⟩⟩
          · exact ⟨_, rfl, _, rfl, _, rfl, .held, _, _, rfl, rfl, rfl, k6_shaped .held, k6_eqv .held .held, fun H2 hs2 => ⟨_, rfl, iteT ⟨_, rfl, q fun b o e => hs2 _ _ (hs _ _ (by rw [upd_ne (ne_of_none e hl)]; exact e))⟩⟩⟩
end
end KL

namespace KL
open PySem L2 L2H LX KB
/-! ### what every deed leaves as it was -/
structure Kp (s s' : Rm) : Prop where
  gone : s'.gone = s.gone
  wat : s'.wat = s.wat
  met : s'.met = s.met
  num : Num s.rows → Num s'.rows
  le : s.rows.length ≤ s'.rows.length
theorem Kp.refl (s : Rm) : Kp s s := ⟨rfl, rfl, rfl, id, Nat.le_refl _⟩
theorem Kp.trans {a b c : Rm} (x : Kp a b) (y : Kp b c) : Kp a c := ⟨y.gone.trans x.gone, y.wat.trans x.wat, y.met.trans x.met, fun h => y.num (x.num h), Nat.le_trans x.le y.le⟩
theorem note_kp (s : Rm) (t : Int) (w k v : Str) : Kp s (noteM s t w k v) := ⟨rfl, rfl, rfl, fun h => h.snoc rfl, by show _ ≤ (s.rows ++ [_]).length; rw [List.length_append]; exact Nat.le_add_right _ _⟩
theorem cut_kp (s : Rm) (t : Int) (k : Str) : Kp s (cutM t s k) := ⟨rfl, rfl, rfl, fun h => h.snoc rfl, by show _ ≤ (s.rows ++ [_]).length; rw [List.length_append]; exact Nat.le_add_right _ _⟩
theorem cuts_kp : ∀ (ks : List Str) (s : Rm) (t : Int), Kp s (cutAll s t ks)
  | [], s, t => Kp.refl s
  | j :: ks, s, t => (cut_kp s t j).trans (cuts_kp ks (cutM t s j) t)
theorem over_kp {s s' : Rm} {h t : Int} (o : OverR s h t s') : Kp s s' := by
  obtain ⟨ks, _, rfl⟩ := o
  have q := cuts_kp ks { s with ends := setF s.ends h none } t
  exact ⟨q.gone, q.wat, q.met, q.num, q.le⟩
theorem overs_kp : ∀ {es : List (Int × Int)} {s s' : Rm}, OversR es s s' → Kp s s'
  | [], s, s', h => by
    have h : s' = s := h
    rw [h]
    exact Kp.refl s
  | e :: r, s, s', ⟨s1, h1, h2⟩ => (over_kp h1).trans (overs_kp h2)
theorem DoR.kp {s s' : Rm} {d : Deed} {a : Ans} (o : DoR s d a s') : Kp s s' := by
  cases d with
  | grant t =>
    rcases o with ⟨_, _, rfl⟩ | ⟨_, _, rfl⟩
    · exact Kp.refl _
    · exact ⟨rfl, rfl, rfl, id, Nat.le_refl _⟩
  | wait t =>
    rcases o with ⟨_, _, rfl⟩ | ⟨_, _, es, s1, _, o1, rfl⟩
    · exact Kp.refl _
    · have c := overs_kp o1
      exact ⟨c.gone, c.wat, c.met, c.num, c.le⟩
  | renew h =>
    rcases o with ⟨_, _, rfl⟩ | ⟨ne, _, t, ht, rfl⟩
    · exact Kp.refl _
    · exact ⟨rfl, rfl, rfl, id, Nat.le_refl _⟩
  | drop h =>
    rcases o with ⟨_, _, rfl⟩ | ⟨_, _, o1⟩
    · exact Kp.refl _
    · exact over_kp o1
  | put ky v h =>
    rcases o with ⟨_, _, rfl⟩ | ⟨_, _, _, rfl⟩ | ⟨_, _, _, rfl⟩
    · exact Kp.refl _
    · exact Kp.refl _
    · exact ⟨rfl, rfl, rfl, fun h => h.snoc rfl, by show _ ≤ (s.rows ++ [_]).length; rw [List.length_append]; exact Nat.le_add_right _ _⟩
  | cut ky h =>
    rcases o with ⟨_, _, rfl⟩ | ⟨_, _, _, rfl⟩ | ⟨_, _, _, rfl⟩ | ⟨_, _, _, _, rfl⟩
    · exact Kp.refl _
    · exact Kp.refl _
    · exact Kp.refl _
    · exact cut_kp _ _ _
end KL

namespace KL
open PySem L2 L2H LX KB
/-! ### what a deed leaves of a table's bounds -/
theorem cutAll_keep : ∀ (ks : List Str) (s : Rm) (t : Int), (cutAll s t ks).span = s.span ∧ (cutAll s t ks).given = s.given ∧ (cutAll s t ks).met = s.met
  | [], s, t => ⟨rfl, rfl, rfl⟩
  | j :: ks, s, t => by
    obtain ⟨h1, h2, h3⟩ := cutAll_keep ks (cutM t s j) t
    exact ⟨h1, h2, h3⟩
structure Kept (s s' : Rm) : Prop where
  span : s'.span = s.span
  ends : ∀ h, s'.ends h ≠ none → s.ends h ≠ none
  given : s'.given = s.given
  met : s'.met = s.met
theorem Kept.refl (s : Rm) : Kept s s := ⟨rfl, fun _ h => h, rfl, rfl⟩
theorem Kept.trans {a b c : Rm} (x : Kept a b) (y : Kept b c) : Kept a c := ⟨y.span.trans x.span, fun h z => x.ends h (y.ends h z), y.given.trans x.given, y.met.trans x.met⟩
theorem OverR.kept {s s' : Rm} {h t : Int} (o : OverR s h t s') : Kept s s' := by
  have e := OverR.ends o
  obtain ⟨ks, _, rfl⟩ := o
  obtain ⟨h1, h2, h3⟩ := cutAll_keep ks { s with ends := setF s.ends h none } t
  refine ⟨h1, fun j z y => ?_, h2, h3⟩
  rw [e] at z
  unfold setF at z
  by_cases c : h = j
  · rw [if_pos c] at z; exact z rfl
  · rw [if_neg c] at z; exact z y
theorem OversR.kept : ∀ {es : List (Int × Int)} {s s' : Rm}, OversR es s s' → Kept s s'
  | [], s, s', h => by
    have h : s' = s := h
    rw [h]
    exact Kept.refl s
  | e :: r, s, s', ⟨s1, h1, h2⟩ => (OverR.kept h1).trans (OversR.kept h2)
theorem DoR.after {s s' : Rm} {d : Deed} {a : Ans} (o : DoR s d a s') (k : SpanOk s) : SpanOk s' ∧ s'.given ≤ s.given + 1 ∧ s'.met = s.met := by
  have kept : ∀ {s' : Rm}, Kept s s' → SpanOk s' ∧ s'.given ≤ s.given + 1 ∧ s'.met = s.met := fun {s'} c => ⟨fun h z => by rw [c.span]; exact k h (c.ends h z), by rw [c.given]; exact Nat.le_succ _, c.met⟩
  cases d with
  | grant t =>
    rcases o with ⟨_, _, rfl⟩ | ⟨_, _, rfl⟩
    · exact kept (Kept.refl _)
    · refine ⟨fun h z => ?_, Nat.le_refl _, rfl⟩
      change setF s.ends ((s.given : Int) + 1) (some (s.now + t)) h ≠ none at z
      show ∃ u, setF s.span ((s.given : Int) + 1) (some t) h = some u
      unfold setF at z ⊢
      by_cases c : (s.given : Int) + 1 = h
      · rw [if_pos c]; exact ⟨t, rfl⟩
      · rw [if_neg c] at z ⊢
        exact k h z
  | wait t =>
    rcases o with ⟨_, _, rfl⟩ | ⟨_, _, es, s1, _, o1, rfl⟩
    · exact kept (Kept.refl _)
    · have c := OversR.kept o1
      exact kept ⟨c.span, c.ends, c.given, c.met⟩
  | renew h =>
    rcases o with ⟨_, _, rfl⟩ | ⟨ne, _, t, ht, rfl⟩
    · exact kept (Kept.refl _)
    · refine ⟨fun j z => ?_, Nat.le_succ _, rfl⟩
      by_cases c : h = j
      · exact ⟨t, c ▸ ht⟩
      · change setF s.ends h (some (s.now + t)) j ≠ none at z
        unfold setF at z
        rw [if_neg c] at z
        exact k j z
  | drop h =>
    rcases o with ⟨_, _, rfl⟩ | ⟨_, _, o1⟩
    · exact kept (Kept.refl _)
    · exact kept (OverR.kept o1)
  | put ky v h =>
    rcases o with ⟨_, _, rfl⟩ | ⟨_, _, _, rfl⟩ | ⟨_, _, _, rfl⟩
    · exact kept (Kept.refl _)
    · exact kept (Kept.refl _)
    · exact kept ⟨rfl, fun _ z => z, rfl, rfl⟩
  | cut ky h =>
    rcases o with ⟨_, _, rfl⟩ | ⟨_, _, _, rfl⟩ | ⟨_, _, _, rfl⟩ | ⟨_, _, _, _, rfl⟩
    · exact kept (Kept.refl _)
    · exact kept (Kept.refl _)
    · exact kept (Kept.refl _)
    · exact kept ⟨rfl, fun _ z => z, rfl, rfl⟩
/-! ### a room and the law's own tables of it -/
structure Ro where
  F : List Addr
  p : Addr
  M : Mm
  s : Rm
def Ro.O (X : Ro) : List Addr := X.F ++ X.M.l
structure RoAt (Rs : RsT) (H : Hp) (n : Nat) (X : Ro) : Prop where
  rs : Rs X.F H X.p X.s
  md : MdAt H X.M X.s
  sp : SpanOk X.s
  dj : ∀ a ∈ X.F, a ∉ X.M.l
  n1 : X.M.n X.s ≤ 2 * n
  n2 : X.M.enl.length ≤ n
  n3 : X.M.spl.length ≤ n
  n4 : X.s.given ≤ n
  n5 : X.s.met ≤ n
theorem RoAt.fits {Rs : RsT} {H : Hp} {n : Nat} {X : Ro} (A : RoAt Rs H n X) (h : n ≤ 400) : Fits X.s := by
  have h1 := A.n1
  have h4 := A.n4
  have h5 := A.n5
  have : X.M.n X.s = X.s.rows.length + X.M.hl.length := rfl
  exact ⟨by omega, by omega, by omega⟩
theorem RoAt.mono {Rs : RsT} {H : Hp} {n m : Nat} {X : Ro} (A : RoAt Rs H n X) (h : n ≤ m) : RoAt Rs H m X := by
  have h1 := A.n1
  have h2 := A.n2
  have h3 := A.n3
  have h4 := A.n4
  have h5 := A.n5
  exact ⟨A.rs, A.md, A.sp, A.dj, by omega, by omega, by omega, by omega, by omega⟩
section
variable {P : Program} {w : World} {K : PySem.W.Frag} {mg : Str → Option Value} {base : Heap} {C : Addr} {kk : Kinds} {Rs : RsT}
theorem RoAt.th (A1 : RoomApi P w K mg base C kk Rs hsL) {H : Hp} {n : Nat} {X : Ro} (A : RoAt Rs H n X) : ∀ a ∈ X.O, ∃ o, H a = some o := fun a ha => by
  rcases List.mem_append.mp ha with h | h
  · exact A1.own A.rs a h
  · have S := A.md
    simp only [Mm.l, List.mem_cons, List.not_mem_nil, or_false] at h
    rcases h with rfl | rfl | rfl | rfl | rfl
    · exact ⟨_, S.di⟩
    · exact ⟨_, S.sp⟩
    · exact ⟨_, S.en⟩
    · exact ⟨_, S.he⟩
    · exact ⟨_, S.ro⟩
theorem RoAt.ch (A1 : RoomApi P w K mg base C kk Rs hsL) {H H' : Hp} {n : Nat} {X : Ro} {l : List Addr} (A : RoAt Rs H n X) (c : Ch H H' l) (d : ∀ a ∈ X.O, a ∉ l) : RoAt Rs H' n X :=
  ⟨A1.frame A.rs c fun a ha => d a (List.mem_append_left _ ha), A.md.ch c fun a ha => d a (List.mem_append_right _ ha), A.sp, A.dj, A.n1, A.n2, A.n3, A.n4, A.n5⟩
end
/-- one room and the law's own tables of it, from a heap on; nobody watches -/
structure A5 (Rs : RsT) (H0 H : Hp) (n : Nat) (X : Ro) : Prop where
  at_ : RoAt Rs H n X
  nu : Num X.s.rows
  g0 : X.s.gone = 0
  w0 : X.s.wat = fun _ => none
  old : Same H0 H
  no : ∀ a ∈ X.O, H0 a = none
/-- the way from one to the next -/
structure Go (H : Hp) (X : Ro) (H' : Hp) (X' : Ro) : Prop where
  p : X'.p = X.p
  m : At5 X.M X'.M
  g : Grow X.O X'.O H
  c : Ch H H' X.O
  me : X'.s.met = X.s.met
theorem Go.refl (H : Hp) (X : Ro) : Go H X H X := ⟨rfl, At5.refl _, Grow.refl _ _, Ch.refl _ _, rfl⟩
theorem Go.trans {H H1 H2 : Hp} {X Y Z : Ro} (a : Go H X H1 Y) (b : Go H1 Y H2 Z) : Go H X H2 Z :=
  ⟨b.p.trans a.p, a.m.trans b.m, a.g.trans b.g a.c.none, a.c.seq a.g b.c, b.me.trans a.me⟩
theorem Go.same {H H1 H2 : Hp} {X Y : Ro} (a : Go H X H1 Y) (s : Same H1 H2) : Go H X H2 Y := ⟨a.p, a.m, a.g, a.c.same s, a.me⟩
theorem Go.pre {H H1 H2 : Hp} {X Y : Ro} (s : Same H H1) (a : Go H1 X H2 Y) : Go H X H2 Y := ⟨a.p, a.m, fun x hx => (a.g x hx).imp id fun e => s.free e, (Ch.of s _).trans a.c, a.me⟩
section
variable {P : Program} {w : World} {K : PySem.W.Frag} {mg : Str → Option Value} {base : Heap} {C : Addr} {kk : Kinds} {Rs : RsT}
theorem A5.ch (A1 : RoomApi P w K mg base C kk Rs hsL) {H0 H H' : Hp} {n : Nat} {X : Ro} {l : List Addr} (A : A5 Rs H0 H n X) (c : Ch H H' l) (d : ∀ a ∈ X.O, a ∉ l) (e : ∀ a ∈ l, H0 a = none) : A5 Rs H0 H' n X :=
  ⟨A.at_.ch A1 c d, A.nu, A.g0, A.w0, c.old A.old e, A.no⟩
theorem A5.same (A1 : RoomApi P w K mg base C kk Rs hsL) {H0 H H' : Hp} {n : Nat} {X : Ro} (A : A5 Rs H0 H n X) (s : Same H H') : A5 Rs H0 H' n X :=
  A.ch A1 (Ch.of s []) (fun _ _ z => nomatch z) (fun _ z => nomatch z)
/-- a deed, by the room and by the tables -/
theorem A5.deed (A1 : RoomApi P w K mg base C kk Rs hsL) {H0 H H1 H2 : Hp} {n : Nat} {X : Ro} {d : Deed} {a : Ans} {s1 : Rm} {F1 : List Addr} {M2 : Mm} (A : A5 Rs H0 H n X) (o : DoR X.s d a s1) (R1 : Rs F1 H1 X.p s1) (g1 : Grow X.F F1 H) (c1 : Ch H H1 X.F)
    (S2 : MdAt H2 M2 s1) (a5 : At5 X.M M2) (c2 : Ch H1 H2 X.M.l) (m1 : M2.n s1 ≤ X.M.n X.s + 2) (m2 : M2.enl.length ≤ X.M.enl.length + 1) (m3 : M2.spl.length ≤ X.M.spl.length + 1) : A5 Rs H0 H2 (n + 1) ⟨F1, X.p, M2, s1⟩ ∧ Go H X H2 ⟨F1, X.p, M2, s1⟩ := by
  have b1 := A.at_.n1
  have b2 := A.at_.n2
  have b3 := A.at_.n3
  have b4 := A.at_.n4
  have b5 := A.at_.n5
  obtain ⟨sp2, gv2, me2⟩ := DoR.after o A.at_.sp
  have kp := DoR.kp o
  have exM : ∀ b ∈ X.M.l, ∃ o, H b = some o := fun b hb => A.at_.th A1 b (List.mem_append_right _ hb)
  have dj1 : ∀ b ∈ F1, b ∉ X.M.l := g1.apart A.at_.dj exM
  have c : Ch H H2 X.O := (c1.mono fun b hb => List.mem_append_left _ hb).trans (c2.mono fun b hb => List.mem_append_right _ hb)
  have g : Grow X.O (Ro.O ⟨F1, X.p, M2, s1⟩) H := fun b hb => by
    rcases List.mem_append.mp hb with h | h
    · rcases g1 b h with z | z
      · exact .inl (List.mem_append_left _ z)
      · exact .inr z
    · have h : b ∈ M2.l := h
      rw [a5.l] at h
      exact .inl (List.mem_append_right _ h)
  refine ⟨⟨⟨A1.frame R1 c2 dj1, S2, sp2, fun b hb y => dj1 b hb (by rw [← a5.l]; exact y), by show M2.n s1 ≤ 2 * (n + 1); omega, by show M2.enl.length ≤ n + 1; omega, by show M2.spl.length ≤ n + 1; omega, by show s1.given ≤ n + 1; omega, by show s1.met ≤ n + 1; omega⟩,
    kp.num A.nu, kp.gone.trans A.g0, kp.wat.trans A.w0, c.old A.old A.no, fun b hb => ?_⟩, ⟨rfl, a5, g, c, me2⟩⟩
  rcases g b hb with z | z
  · exact A.no b z
  · exact A.old.free z
end
end KL

namespace KL
open PySem L2 L2H LX KB
/-! ### the law's own: a crowd's keys -/
def spKey : Sp := fun vs H Q _ => ∃ (c n : Int), vs = [.int c, .int n] ∧ ∀ z H', TOk 60 z → Same H H' → Q (.str z) H'
section
variable {P : Program} {w : World} {K : PySem.W.Frag} {mg : Str → Option Value} {base : Heap}
theorem ok_key {f : Addr} {fd : FuncData} (F : Fun K "_law_key" "_law_key" s_key f fd) (T : LTxt mg) (D1 : Def P w K mg base "_law_sign" 1 p_sign spSign) (D2 : Def P w K mg base "_law_text" 2 p_text spText) : FnOk P w K mg base CX0 3 f fd p_key spKey := by
  obtain ⟨fS, fdS, gS, kS, bS, GS⟩ := D1.ex
  obtain ⟨fT, fdT, gT, kT, bT, GT⟩ := D2.ex
  refine F.ok sc_key (fun vs H Q E h => ?_) (fun cdv A outer s H vs Q E hr h => ?_)
  · obtain ⟨c, o, rfl, _⟩ := h
    rfl
  · obtain ⟨c, n, rfl, k⟩ := h
    have hr1 : Room 1 _ := hr.mono (by decide)
    refine ⟨_, pss_cons (ps_if (pt_cmpR op_eq (pe_op op_mod (pv 0) pe_int) pe_int (nomark _)) (pss_one (ps_ret (pe_op op_add_str (pe_call GS hr1 rfl gS kS bS .nil pass0 (pa_cons (pe_op op_add (pv 0) (pv 1)) pa_nil))
          (pe_call GT hr rfl gT kT bT .nil pass0 (pa_cons (pv 0) (pa_cons (pe_op op_mod (pv 1) pe_int) pa_nil)))))) pss_nil)
      (pss_cons (ps_set (i := 2) sc_key.nd rfl (Or.inl rfl) (pe_call GT hr rfl gT kT bT .nil pass0 (pa_cons (pv 0) (pa_cons (pe_op op_mod (pe_op op_fdiv (pv 0) pe_int) pe_int) pa_nil))))
      (pss_cons (ps_set (i := 3) sc_key.nd rfl (Or.inl rfl) (pe_op op_mod (pe_op op_fdiv (pv 0) pe_int) (pe_op op_add (pe_callB call_len_str (by rfl) T.len PySem.boot_len (pa_cons (pv 2) pa_nil)) pe_int)))
      (pss_one (ps_ret (pe_op op_add_str (pe_op op_add_str (pe_slice sl_str (pv 2) po_none (po_some (pv 3))) (pe_call GS hr1 rfl gS kS bS .nil pass0 (pa_cons (pe_op op_add (pv 0) (pv 1)) pa_nil))) (pe_slice sl_str (pv 2) (po_some (pv 3)) po_none)))))), ?_⟩
    have L1 : ∀ {x y : Str} {n m : Nat}, TOk n x → TOk m y → n + m ≤ 1000 → x.length + y.length ≤ sizeLine := fun {x y n m} a b h => by
      have := a.le
      have := b.le
      exact Nat.le_of_lt (small1000 (by omega))
    refine ⟨_, rfl, _, _, rfl, rfl, (by show (0 : Int) < 2; decide), rfl, _, rfl, ?_⟩
    refine ite2 (fun _ => ?_) fun _ => ?_
    · refine ⟨_, rfl, _, rfl, _, _, rfl, rfl, _, rfl, fun z1 t1 _ => ?_⟩
      refine ⟨_, rfl, _, rfl, _, _, rfl, rfl, (by show (0 : Int) < 17; decide), c, n % 17, rfl, by omega, by omega, fun z2 H1 t2 _ s1 => ?_⟩
      have t2 : TOk 17 z2 := t2.mono (by omega)
      exact ⟨_, _, rfl, rfl, L1 t1 t2 (by decide), k _ _ ((t1.app t2).mono (by decide)) s1⟩
    refine ⟨_, rfl, _, rfl, _, _, rfl, rfl, ⟨by decide, by decide⟩, _, _, rfl, rfl, (by show (0 : Int) < 18; decide), c, c / 2 % 18, rfl, by omega, by omega, fun z1 H1 t1 _ s1 => ?_⟩
    have t1 : TOk 18 z1 := t1.mono (by omega)
    refine ⟨_, rfl, _, _, rfl, rfl, ⟨by decide, by decide⟩, _, rfl, _, rfl, t1.line (by decide), _, _, rfl, rfl, _, _, rfl, rfl, ?_, ?_⟩
    · show (0 : Int) < (z1.length : Int) + 1
      omega
    have c1 := t1.cut none (some (c / 36 % ((z1.length : Int) + 1)))
    have c2 := t1.cut (some (c / 36 % ((z1.length : Int) + 1))) none
    refine ⟨_, rfl, _, rfl, _, rfl, _, rfl, t1.line (by decide), _, rfl, _, rfl, _, _, rfl, rfl, _, rfl, fun z2 t2 _ => ?_⟩
    refine ⟨_, _, rfl, rfl, L1 c1 t2 (by decide), ?_⟩
    refine ⟨_, rfl, _, rfl, _, rfl, _, rfl, t1.line (by decide), _, _, rfl, rfl, L1 (c1.app t2) c2 (by decide), ?_⟩
    exact k _ _ (((c1.app t2).app c2).mono (by decide)) s1
end
end KL

namespace KL
open PySem L2 L2H LX KB
/-! ### law_k08: a crowd -/
abbrev DeedsAt (H : Hp) (ts : List Addr) (ds : List Deed) : Prop := Paired (fun (t : Addr) (d : Deed) => H t = some (.tup d.V) ∧ DeedOk d) ts ds
theorem DeedsAt.keep {H H' : Hp} {ts : List Addr} {ds : List Deed} (m : DeedsAt H ts ds) (k : ∀ b xs, H b = some (.tup xs) → H' b = some (.tup xs)) : DeedsAt H' ts ds := by
  induction m with
  | nil => exact .nil
  | cons r m ih => exact .cons ⟨k _ _ r.1, r.2⟩ ih
theorem DeedsAt.at : ∀ {H : Hp} {ts : List Addr} {ds : List Deed} {i : Nat} {x : V}, DeedsAt H ts ds → (ts.map V.ref)[i]? = some x → ∃ t d, x = V.ref t ∧ H t = some (.tup d.V) ∧ DeedOk d
  | _, _, _, i, x, .nil, h => by simp at h
  | _, _, _, 0, x, .cons r m, h => ⟨_, _, (Option.some.inj h).symm, r.1, r.2⟩
  | _, _, _, i + 1, x, .cons r m, h => DeedsAt.at (i := i) m (by simpa using h)
def spCrowd (Rs : RsT) : Sp := fun vs H Q _ => ∃ (H0 : Hp) (X : Ro) (c : Int), vs = [.ref X.p, .ref X.M.m, .int c] ∧ A5 Rs H0 H 0 X ∧
  ∀ X' H', A5 Rs H0 H' 71 X' → Go H X H' X' → Q (.bl true) H'
section
variable {P : Program} {w : World} {K : PySem.W.Frag} {mg : Str → Option Value} {base : Heap} {C : Addr} {kk : Kinds} {Rs : RsT}
theorem ok_crowd {f : Addr} {fd : FuncData} (F : Fun K "_law_crowd" "_law_crowd" s_crowd f fd) (A1 : RoomApi P w K mg base C kk Rs hsL) (LT : LTxt mg) (D1 : Def P w K mg base "_law_key" 3 p_key spKey) (D2 : Def P w K mg base "_law_text" 2 p_text spText)
    (D4 : Def P w K mg base "_law_alike" 2 p_alike spAlike) (D5 : Def P w K mg base "_law_done" 10 p_done (spDone Rs)) (D6 : Def P w K mg base "_law_due" 4 p_due (spDueD fun _ => True)) : FnOk P w K mg base CX0 11 f fd p_crowd (spCrowd Rs) := by
  obtain ⟨f1, fd1, g1, k1, b1, G1⟩ := D1.ex
  obtain ⟨f2, fd2, g2, k2, b2, G2⟩ := D2.ex
  obtain ⟨f4, fd4, g4, k4, b4, G4⟩ := D4.ex
  obtain ⟨f5, fd5, g5, k5, b5, G5⟩ := D5.ex
  obtain ⟨f6, fd6, g6, k6, b6, G6⟩ := D6.ex
  refine F.ok sc_crowd (fun vs H Q E h => ?_) (fun cdv A outer s H vs Q E hr h => ?_)
  · obtain ⟨H0, X, c, rfl, _⟩ := h
    rfl
  · obtain ⟨H0, X, c, rfl, AX, k⟩ := h
    have hu := hu_of hr
    have R : ∀ j, j ≤ 10 → Room j _ := fun j h => hr.mono (by omega)
    refine ⟨_, pss_cons (ps_set (i := 3) sc_crowd.nd rfl (Or.inl rfl) (pe_op op_add (pe_dget hu (pv 1) pe_str (fun _ _ => rfl)) pe_int))
      (pss_cons (ps_set (i := 4) sc_crowd.nd rfl (Or.inl rfl) (pe_lst (pa_cons (pe_tup (pa_cons pe_str (pa_cons (pe_op op_add pe_int (pe_op op_mod (pv 2) pe_int)) pa_nil))) pa_nil)))
      (pss_cons (ps_for PassesOwn.never rfl (pi_range1 (by rfl) LT.range (pa_cons pe_int pa_nil)) (pg_name (i := 5) sc_crowd.nd rfl (Or.inl rfl))
        (pss_one (ps_expr (pe_bm PySem.F.plainAttrs_list PySem.F.slot_list_append PySem.F.type_list_append mt_append (pv 4)
          (pa_cons (pe_tup (pa_cons pe_str (pa_cons (pe_call G1 (R 3 (by decide)) rfl g1 k1 b1 .nil pass0 (pa_cons (pv 2) (pa_cons (pv 5) pa_nil))) (pa_cons (pe_call G2 (R 2 (by decide)) rfl g2 k2 b2 .nil pass0 (pa_cons (pv 5) (pa_cons (pe_op op_mod (pv 5) pe_int) pa_nil)))
            (pa_cons (pe_ix ix_list (pe_lst (pa_cons (pv 3) (pa_cons pe_int pa_nil))) (pe_op op_fdiv (pe_op op_mod (pv 5) pe_int) pe_int) (fun _ _ => rfl)) pa_nil))))) pa_nil)))))
      (pss_cons (ps_for PassesOwn.never rfl (pi_list (pv 4)) (pg_name (i := 6) sc_crowd.nd rfl (Or.inl rfl))
        (pss_one (ps_if (pt_not (pt_val (pe_call G4 (R 2 (by decide)) rfl g4 k4 b4 .nil pass0 (pa_cons (pe_call G5 (R 10 (by decide)) rfl g5 k5 b5 .nil pass0 (pa_cons (pv 0) (pa_cons (pv 6) pa_nil)))
          (pa_cons (pe_call G6 (R 4 (by decide)) rfl g6 k6 b6 .nil pass0 (pa_cons (pv 1) (pa_cons (pv 6) pa_nil))) pa_nil))))) (pss_one (ps_ret pe_bl)) pss_nil)))
      (pss_one (ps_ret pe_bl))))), ?_⟩
    refine ⟨_, rfl, X.M.m, _, rfl, AX.at_.md.gG, _, _, rfl, rfl, ?_⟩
    refine ⟨_, rfl, _, _, rfl, rfl, (by show (0 : Int) < 9; decide), _, _, rfl, rfl, (by show 2 ≤ sizeLine; decide), fun tg htg => ⟨(by show 1 ≤ sizeLine; decide), fun D hD' => ?_⟩⟩
    have s0 := same_new (o := .tup [V.str "grant", V.int (1 + c % 9)]) htg
    have htg0 : upd H tg (.tup [V.str "grant", V.int (1 + c % 9)]) tg = some (.tup (Deed.grant (1 + c % 9)).V) := upd_same
    try dsimp only at hD' ⊢
    generalize upd H tg (.tup [V.str "grant", V.int (1 + c % 9)]) = Ha at s0 htg0 hD'
    have hD : H D = none := s0.free hD'
    have s1 := s0.trans (same_new (o := .lst [V.ref tg]) hD')
    have hD1 : upd Ha D (.lst [V.ref tg]) D = some (.lst ([tg].map V.ref)) := upd_same
    have htg1 : upd Ha D (.lst [V.ref tg]) tg = some (.tup (Deed.grant (1 + c % 9)).V) := same_new hD' _ _ htg0
    try dsimp only
    generalize upd Ha D (.lst [V.ref tg]) = H1 at s1 hD1 htg1
    refine ⟨70, rfl, by decide, by decide, ?_⟩
    refine for_range (lo := 0) (n := 70) (fun i σ H' => (∃ y5 : Option V, σ = [some (.ref X.p), some (.ref X.M.m), some (.int c), some (.int ((X.s.given : Int) + 1)), some (.ref D), y5, none]) ∧ Ch H1 H' [D] ∧ ∃ ts ds, H' D = some (.lst (ts.map V.ref)) ∧ DeedsAt H' ts ds ∧ ts.length = 1 + i)
      ⟨⟨none, rfl⟩, Ch.refl _ _, [tg], [.grant (1 + c % 9)], hD1, .cons ⟨htg1, trivial⟩ .nil, rfl⟩ ?_ ?_
    · rintro i σ H2 hi ⟨⟨y5, rfl⟩, c2, ts, ds, hD2, m2, len⟩
      refine ⟨_, rfl, .inl ⟨rfl, _, SqL.of hD2⟩, _, rfl, _, rfl, c, (0 : Int) + i, rfl, fun z1 H3 t1 s3 => ?_⟩
      refine ⟨_, rfl, _, rfl, _, _, rfl, rfl, (by show (0 : Int) < 3; decide), (0 : Int) + i, ((0 : Int) + i) % 3, rfl, by omega, by omega, fun z2 H4 t2 _ s4 => ?_⟩
      have t2 : TOk 60 z2 := t2.mono (by omega)
      refine ⟨_, rfl, (by show 2 ≤ sizeLine; decide), fun l hl => ?_⟩
      obtain ⟨hh, _, eh⟩ := at_ints (ns := [(X.s.given : Int) + 1, 0]) (z := ((0 : Int) + i) % 5 / 4) (by omega) (by show ((0 : Int) + i) % 5 / 4 < 2; omega)
      have s5 := s3.trans (s4.trans (same_new (o := .lst [V.int ((X.s.given : Int) + 1), V.int 0]) hl))
      refine ⟨_, rfl, _, _, rfl, rfl, (by show (0 : Int) < 5; decide), _, _, rfl, rfl, ⟨by decide, by decide⟩, l, _, _, _, rfl, rfl, SqL.of upd_same, eh, (by show 4 ≤ sizeLine; decide), fun tp htp => ?_⟩
      have s6 := s5.trans (same_new (o := .tup [V.str "put", V.str z1, V.str z2, V.int hh]) htp)
      have htp2 : upd (upd H4 l (.lst [V.int ((X.s.given : Int) + 1), V.int 0])) tp (.tup [V.str "put", V.str z1, V.str z2, V.int hh]) tp = some (.tup (Deed.put z1 z2 hh).V) := upd_same
      have hok : DeedOk (.put z1 z2 hh) := ⟨t1, t2⟩
      try dsimp only
      generalize upd (upd H4 l (.lst [V.int ((X.s.given : Int) + 1), V.int 0])) tp (.tup [V.str "put", V.str z1, V.str z2, V.int hh]) = H6 at s6 htp2
      generalize Deed.put z1 z2 hh = dd at htp2 hok
      have c3 := c2.same s6
      refine ⟨D, _, _, rfl, rfl, s6 _ _ hD2, by rw [List.length_map]; exact small1000 (by omega), ?_⟩
      have cD : Ch H6 (upd H6 D (.lst (ts.map V.ref ++ [V.ref tp]))) [D] := (Ch.refl _ _).mut (List.mem_singleton.mpr rfl) (s6 _ _ hD2) (fun xs e => by cases e)
      have hd : upd H6 D (.lst (ts.map V.ref ++ [V.ref tp])) tp = some (.tup dd.V) ∧ DeedOk dd := ⟨cD.tup _ _ htp2, hok⟩
      exact ⟨⟨_, rfl⟩, c3.trans cD, ts ++ [tp], ds ++ [dd], by rw [upd_same, List.map_append]; rfl, Paired.snoc ((m2.keep fun b xs e => s6 _ _ e).keep cD.tup) hd, by rw [List.length_append, len]; simp only [List.length_cons, List.length_nil]; omega⟩
    rintro σ H2 ⟨⟨y5, rfl⟩, c2, ts, ds, hD2, m2, len⟩
    have hD0 : H D = none := hD
    have nDO : ∀ a ∈ X.O, a ∉ [D] := fun a ha z => by
      obtain ⟨o, e⟩ := AX.at_.th A1 a ha
      rw [List.mem_singleton.mp z, hD0] at e
      cases e
    have nD0 : ∀ a ∈ [D], H0 a = none := fun a ha => by rw [List.mem_singleton.mp ha]; exact AX.old.free hD0
    have AX2 : A5 Rs H0 H2 0 X := (AX.same A1 s1).ch A1 c2 nDO nD0
    have c02 : Ch H H2 X.O := by
      refine ⟨fun x o e n => c2.st x o (s1 _ _ e) (.inl fun z => ?_), fun x o e => c2.th _ _ (s1 _ _ e)⟩
      rw [List.mem_singleton.mp z, hD0] at e
      cases e
    have Dn : D ∉ X.O := fun y => nDO D y (by simp)
    refine ⟨_, rfl, D, rfl, ⟨_, SqL.of hD2⟩, ?_⟩
    refine for_list (xs := ts.map V.ref) (D := { nx := tRet (tC (V.bl true)) { nx := fun _ H' => Q .non H', rt := Q }, rt := Q }) (fun i σ H' => (∃ y6 : Option V, ∃ y5, σ = [some (.ref X.p), some (.ref X.M.m), some (.int c), some (.int ((X.s.given : Int) + 1)), some (.ref D), y5, y6]) ∧ ∃ X', A5 Rs H0 H' i X' ∧ Go H2 X H' X')
      ⟨⟨_, _, rfl⟩, X, AX2, Go.refl _ _⟩ ?_ ?_ ?_
    · rintro i σ H' _ ⟨_, X', _, G⟩
      exact SqL.of (G.c.at hD2 Dn)
    · rintro i x σ H3 hx ⟨⟨y6, y5, rfl⟩, X3, AX3, G3⟩
      have hi : i < 71 := by
        have q := (List.getElem?_eq_some_iff.mp hx).1
        rw [List.length_map, len] at q
        exact q
      obtain ⟨dt, d, rfl, hdt, dok⟩ := DeedsAt.at m2 hx
      have hdt3 := G3.c.tup _ _ hdt
      have p1 := AX3.at_.n1
      have p2 := AX3.at_.n2
      have p3 := AX3.at_.n3
      rw [← G3.p, ← G3.m.m]
      refine ⟨_, rfl, _, rfl, X3.F, X3.p, X3.s, dt, d, rfl, hdt3, dok, AX3.at_.rs, AX3.at_.fits (by omega), fun a1 r4 F4 H4 o1 R1 gr1 ch1 => ?_⟩
      have dM : ∀ b ∈ X3.M.l, b ∉ X3.F := fun b hb y => AX3.at_.dj b y hb
      refine ⟨_, rfl, _, rfl, X3.M, X3.s, dt, d, rfl, ch1.tup _ _ hdt3, trivial, dok, AX3.at_.md.ch ch1 dM, AX3.at_.sp, by omega, by omega, by omega, fun a2 r5 M5 H5 o2 S5 a5 ch2 m1 m2' m3 => ?_⟩
      obtain ⟨ea, es⟩ := DoR.uniq o1 o2
      subst ea es
      obtain ⟨AX5, G5⟩ := AX3.deed A1 o1 R1 gr1 ch1 S5 a5 ch2 m1 m2' m3
      have G := G3.trans G5
      rw [G3.p, G3.m.m]
      exact ⟨a1, rfl, true, rfl, iteF ⟨⟨_, _, rfl⟩, _, AX5, G⟩⟩
    · rintro σ H3 ⟨⟨y6, y5, rfl⟩, X3, AX3, G3⟩
      rw [List.length_map, len] at AX3
      refine k X3 H3 AX3 ⟨G3.p, G3.m, fun a ha => ?_, c02.trans G3.c, G3.me⟩
      exact (G3.g a ha).imp id fun e => s1.free (c2.none _ e)
end
end KL

namespace KL
open PySem L2 L2H LX KB
/-! ### the law's own table of watchers -/
structure Wm where
  m : Addr
  al : Addr
  wl : List (Int × (Addr × Wt))
  wk : List (Key × V)
  x : List (Key × V)
abbrev wD (met gone : Int) (al : Addr) : List (Key × V) := [(Sum.inr "met", .int met), (Sum.inr "all", .ref al), (Sum.inr "gone", .int gone)]
abbrev isA (b : Addr × Wt) (v : V) : Prop := v = .ref b.1
abbrev wL (w : Wt) : List V := [.str w.pre, .int w.had, .int w.told]
/-- what may change while the table of all is gone over, and all that there is -/
def Wm.v (W : Wm) : List Addr := W.m :: W.wl.map (·.2.1)
def Wm.l (W : Wm) : List Addr := W.al :: W.v
structure WsAt (H : Hp) (W : Wm) (s : Rm) : Prop where
  di : H W.m = some (.dK (wD s.met s.gone W.al ++ W.x))
  al : Rd H W.al (.dK W.wk)
  re : DRel Sum.inl isA W.wl W.wk
  ws : ∀ y ∈ W.wl, H y.2.1 = some (.lst (wL y.2.2))
  fw : s.wat = fun n => (getA W.wl n).map (·.2)
  nw : (W.wl.map (·.1)).Nodup
  nd : W.l.Nodup
  kw : ∀ y ∈ W.wl, y.1 ≤ s.met
  pk : ∀ y ∈ W.wl, TOk 60 y.2.2.pre
  tb : ∀ y ∈ W.wl, (s.gone : Int) ≤ y.2.2.had ∧ y.2.2.had ≤ y.2.2.told ∧ y.2.2.told ≤ s.rows.length
  ln : W.wl.length ≤ s.met
  gl : s.gone ≤ s.rows.length
structure RwAt (H : Hp) (ro : Addr) (ts : List Addr) (rs : List Row) : Prop where
  at_ : H ro = some (.lst (ts.map V.ref))
  rr : RowsAt H ts rs
  ok : ∀ r ∈ rs, r.Ok
  nu : Num rs
theorem RwAt.ch {H H' : Hp} {ro : Addr} {ts : List Addr} {rs : List Row} {l : List Addr} (A : RwAt H ro ts rs) (c : Ch H H' l) (d : ro ∉ l) : RwAt H' ro ts rs := ⟨c.at A.at_ d, A.rr.keep c.tup, A.ok, A.nu⟩
theorem rd_ch {H H' : Hp} {a : Addr} {u : HO} {l : List Addr} (r : Rd H a u) (c : Ch H H' l) (n : a ∉ l) : Rd H' a u := by
  rcases r with r | ⟨o, r⟩
  · exact .inl (c.at r n)
  · exact .inr ⟨o, c.at r n⟩
theorem DGet.rd {H : Hp} {a : Addr} {kvs : List (Key × V)} {k : Key} (e : Rd H a (.dK kvs)) : DGet H a (kV k) (valV kvs k) := .inl ⟨kvs, k, e, rfl, rfl⟩
section
variable {H H' : Hp} {W : Wm} {s : Rm} {l : List Addr}
theorem WsAt.ch (A : WsAt H W s) (c : Ch H H' l) (d : ∀ a ∈ W.l, a ∉ l) : WsAt H' W s :=
  ⟨c.at A.di (d _ (by simp [Wm.l, Wm.v])), rd_ch A.al c (d _ (by simp [Wm.l])), A.re, fun y hy => c.at (A.ws y hy) (d _ (List.mem_cons_of_mem _ (List.mem_cons_of_mem _ (List.mem_map.mpr ⟨y, hy, rfl⟩)))), A.fw, A.nw, A.nd, A.kw, A.pk, A.tb, A.ln, A.gl⟩
theorem WsAt.same (A : WsAt H W s) (c : Same H H') : WsAt H' W s := A.ch (Ch.of c []) fun _ _ z => nomatch z
theorem WsAt.th (A : WsAt H W s) : ∀ a ∈ W.l, ∃ o, H a = some o := fun a ha => by
  rcases List.mem_cons.mp ha with e | ha
  · rw [e]
    rcases A.al with r | ⟨o, r⟩
    · exact ⟨_, r⟩
    · exact ⟨_, r⟩
  · rcases List.mem_cons.mp ha with e | ha
    · rw [e]; exact ⟨_, A.di⟩
    · obtain ⟨y, hy, e⟩ := List.mem_map.mp ha
      rw [← e]; exact ⟨_, A.ws y hy⟩
theorem wD_keys (met gone : Int) (al : Addr) : ((wD met gone al).map (·.1)).Nodup := by
  show [(Sum.inr ("met" : Str) : Key), Sum.inr "all", Sum.inr "gone"].Nodup
  decide +kernel
theorem k_no {a b : Str} (h : ¬ a = b) : ¬ ((Sum.inr a : Key) = Sum.inr b) := fun e => h (Sum.inr.inj e)
theorem WsAt.gM (A : WsAt H W s) : DGet H W.m (.str "met") (some (.int s.met)) := by
  have g := DGet.k (k := Sum.inr "met") A.di
  rw [List.cons_append, valV_pos rfl] at g
  exact g
theorem WsAt.gA (A : WsAt H W s) : DGet H W.m (.str "all") (some (.ref W.al)) := by
  have g := DGet.k (k := Sum.inr "all") A.di
  rw [List.cons_append, valV_neg (k_no (a := "met") (b := "all") (by decide +kernel)), List.cons_append, valV_pos rfl] at g
  exact g
theorem WsAt.gG (A : WsAt H W s) : DGet H W.m (.str "gone") (some (.int s.gone)) := by
  have g := DGet.k (k := Sum.inr "gone") A.di
  rw [List.cons_append, valV_neg (k_no (a := "met") (b := "gone") (by decide +kernel)), List.cons_append, valV_neg (k_no (a := "all") (b := "gone") (by decide +kernel)), List.cons_append, valV_pos rfl] at g
  exact g
theorem WsAt.gT (A : WsAt H W s) : DGet H W.m (.str "told") (valV W.x (Sum.inr "told")) := by
  have g := DGet.k (k := Sum.inr "told") A.di
  rw [List.cons_append, valV_neg (k_no (a := "met") (b := "told") (by decide +kernel)), List.cons_append, valV_neg (k_no (a := "all") (b := "told") (by decide +kernel)), List.cons_append, valV_neg (k_no (a := "gone") (b := "told") (by decide +kernel)), List.nil_append] at g
  exact g
/-- one of the table's entries -/
theorem WsAt.at (A : WsAt H W s) {n : Int} {x : Addr} {w : Wt} (g : getA W.wl n = some (x, w)) : DGet H W.al (.int n) (some (.ref x)) ∧ H x = some (.lst (wL w)) ∧ s.wat n = some w ∧ x ∈ W.v ∧ (n, (x, w)) ∈ W.wl := by
  have m := getA_mem g
  obtain ⟨v, e1, e2⟩ := A.re.some_ inl_inj g
  have gg := DGet.rd (k := Sum.inl n) A.al
  rw [e1, e2] at gg
  refine ⟨gg, A.ws _ m, ?_, List.mem_cons_of_mem _ (List.mem_map.mpr ⟨_, m, rfl⟩), m⟩
  rw [A.fw]
  show (getA W.wl n).map (·.2) = _
  rw [g]
  rfl
theorem WsAt.in_ (A : WsAt H W s) (n : Int) : (valV W.wk (Sum.inl n)).isSome = (s.wat n).isSome := by
  rw [A.re.isSome inl_inj n, A.fw]
  show _ = ((getA W.wl n).map (·.2)).isSome
  cases getA W.wl n <;> rfl
/-- an entry goes on -/
def goW (wl : List (Int × (Addr × Wt))) (n : Int) (w : Wt) : List (Int × (Addr × Wt)) := wl.map fun y => if y.1 = n then (y.1, (y.2.1, w)) else y
theorem goW_addr (wl : List (Int × (Addr × Wt))) (n : Int) (w : Wt) : (goW wl n w).map (·.2.1) = wl.map (·.2.1) := by
  unfold goW
  rw [List.map_map]
  refine List.map_congr_left fun y _ => ?_
  show (if y.1 = n then (y.1, (y.2.1, w)) else y).2.1 = y.2.1
  split <;> rfl
theorem goW_key (wl : List (Int × (Addr × Wt))) (n : Int) (w : Wt) : (goW wl n w).map (·.1) = wl.map (·.1) := by
  unfold goW
  rw [List.map_map]
  refine List.map_congr_left fun y _ => ?_
  show (if y.1 = n then (y.1, (y.2.1, w)) else y).1 = y.1
  split <;> rfl
theorem goW_out {n : Int} {w : Wt} : ∀ {wl : List (Int × (Addr × Wt))} {j : Int}, ¬ n = j → getA (goW wl n w) j = getA wl j
  | [], j, _ => rfl
  | q :: r, j, h => by
    show getA ((if q.1 = n then (q.1, (q.2.1, w)) else q) :: goW r n w) j = _
    by_cases e : q.1 = n
    · rw [if_pos e, getA_neg (show ¬ ((q.1, (q.2.1, w)) : Int × (Addr × Wt)).1 = j from fun z => h (e.symm.trans z)), getA_neg fun z => h (e.symm.trans z), goW_out h]
    · rw [if_neg e]
      by_cases e2 : q.1 = j
      · rw [getA_pos e2, getA_pos e2]
      · rw [getA_neg e2, getA_neg e2, goW_out h]
theorem goW_get {n : Int} {w w0 : Wt} {x : Addr} : ∀ {wl : List (Int × (Addr × Wt))}, getA wl n = some (x, w0) → getA (goW wl n w) n = some (x, w)
  | [], h => by cases h
  | q :: r, h => by
    show getA ((if q.1 = n then (q.1, (q.2.1, w)) else q) :: goW r n w) n = _
    by_cases e : q.1 = n
    · rw [getA_pos e] at h
      rw [if_pos e, getA_pos (show ((q.1, (q.2.1, w)) : Int × (Addr × Wt)).1 = n from e), Option.some.inj h]
    · rw [getA_neg e] at h
      rw [if_neg e, getA_neg e, goW_get h]
theorem WsAt.go (A : WsAt H W s) {n : Int} {x : Addr} {w0 w : Wt} (g : getA W.wl n = some (x, w0)) (c : Ch H H' [x]) (h1 : H' x = some (.lst (wL w))) (ep : w.pre = w0.pre) (tb : (s.gone : Int) ≤ w.had ∧ w.had ≤ w.told ∧ w.told ≤ s.rows.length) :
    WsAt H' { W with wl := goW W.wl n w } { s with wat := setF s.wat n (some w) } := by
  have mx := getA_mem g
  have nd := A.nd
  unfold Wm.l Wm.v at nd
  simp only [List.nodup_cons, List.mem_cons, not_or] at nd
  obtain ⟨⟨n1, n2⟩, n3, an⟩ := nd
  have xin : x ∈ W.wl.map (·.2.1) := List.mem_map.mpr ⟨_, mx, rfl⟩
  have uniq : ∀ y ∈ W.wl, y.2.1 = x → y = (n, (x, w0)) := fun y hy e => by
    obtain ⟨i, hi⟩ := List.mem_iff_getElem?.mp hy
    obtain ⟨j, hj⟩ := List.mem_iff_getElem?.mp mx
    have hi2 : (W.wl.map (·.2.1))[i]? = some x := by rw [List.getElem?_map, hi]; exact congrArg some e
    have hj2 : (W.wl.map (·.2.1))[j]? = some x := by rw [List.getElem?_map, hj]; rfl
    have ij : i = j := (List.getElem?_inj (List.getElem?_eq_some_iff.mp hi2).1 an).mp (hi2.trans hj2.symm)
    subst ij
    rw [hi] at hj
    exact Option.some.inj hj
  have o : ∀ {a}, a ≠ x → a ∉ [x] := fun h z => h (List.mem_singleton.mp z)
  refine ⟨c.at A.di (o fun z => n3 (z ▸ xin)), rd_ch A.al c (o fun z => n2 (z ▸ xin)), ?_, fun y hy => ?_, ?_, by show ((goW W.wl n w).map (·.1)).Nodup; rw [goW_key]; exact A.nw, by show (W.al :: W.m :: (goW W.wl n w).map (·.2.1)).Nodup; rw [goW_addr]; exact A.nd, fun y hy => ?_, fun y hy => ?_, fun y hy => ?_, ?_, A.gl⟩
  · show DRel Sum.inl isA (goW W.wl n w) W.wk
    have go : ∀ {l : List (Int × (Addr × Wt))} {kvs : List (Key × V)}, DRel Sum.inl isA l kvs → DRel Sum.inl isA (goW l n w) kvs := fun m => by
      induction m with
      | nil => exact .nil
      | cons r m ih =>
        rename_i a b l1 l2
        refine .cons ?_ ih
        show b.1 = Sum.inl (if a.1 = n then (a.1, (a.2.1, w)) else a).1 ∧ b.2 = V.ref (if a.1 = n then (a.1, (a.2.1, w)) else a).2.1
        by_cases e : a.1 = n
        · rw [if_pos e]; exact r
        · rw [if_neg e]; exact r
    exact go A.re
  · obtain ⟨y0, hy0, rfl⟩ := List.mem_map.mp hy
    by_cases e : y0.1 = n
    · rw [if_pos e]
      have e2 : y0.2 = (x, w0) := by
        have g2 := getA_of A.nw hy0
        rw [e, g] at g2
        exact (Option.some.inj g2).symm
      show H' y0.2.1 = _
      rw [e2]
      exact h1
    · rw [if_neg e]
      exact c.at (A.ws y0 hy0) (o fun z => e (by rw [uniq y0 hy0 z]))
  · funext j
    show setF s.wat n (some w) j = (getA (goW W.wl n w) j).map (·.2)
    unfold setF
    by_cases e : n = j
    · rw [if_pos e, ← e, goW_get g]; rfl
    · rw [if_neg e, goW_out e, A.fw]
  · obtain ⟨y0, hy0, rfl⟩ := List.mem_map.mp hy
    have q := A.kw y0 hy0
    split <;> exact q
  · obtain ⟨y0, hy0, rfl⟩ := List.mem_map.mp hy
    by_cases e : y0.1 = n
    · rw [if_pos e]
      show TOk 60 w.pre
      rw [ep]
      exact A.pk _ mx
    · rw [if_neg e]
      exact A.pk y0 hy0
  · obtain ⟨y0, hy0, rfl⟩ := List.mem_map.mp hy
    by_cases e : y0.1 = n
    · rw [if_pos e]; exact tb
    · rw [if_neg e]; exact A.tb y0 hy0
  · show (goW W.wl n w).length ≤ _
    unfold goW
    rw [List.length_map]
    exact A.ln
theorem w_other {x : List (Key × V)} {k : Key} (h : k ∉ x.map (·.1)) (v : V) : x.map (fun kv => if kv.1 = k then (kv.1, v) else kv) = x := by
  have e : x.map (fun kv => if kv.1 = k then (kv.1, v) else kv) = x.map id := List.map_congr_left fun q hq => if_neg fun z => h (List.mem_map.mpr ⟨q, hq, z⟩)
  rw [e, List.map_id]
end
end KL

namespace KL
open PySem L2 L2H LX KB
/-! ### a room, its watchers by the law's own table, and its changes by the law's own list -/
structure Rw where
  F : List Addr
  p : Addr
  W : Wm
  ro : Addr
  ts : List Addr
  s : Rm
structure RwSt (Rs : RsT) (H : Hp) (X : Rw) : Prop where
  rs : Rs X.F H X.p X.s
  ws : WsAt H X.W X.s
  rw_ : RwAt H X.ro X.ts X.s.rows
  dj : ∀ a ∈ X.F, a ∉ X.W.l
  r1 : X.ro ∉ X.F
  r2 : X.ro ∉ X.W.l
  to : X.W.x = [] ∨ ∃ t, X.W.x = [((Sum.inr "told" : Key), V.ref t)] ∧ H t = some (.lst []) ∧ t ∉ X.F ∧ t ∉ X.W.l ∧ t ≠ X.ro
  b1 : X.s.rows.length ≤ 500
  b2 : X.s.met ≤ 500
  b3 : X.s.given ≤ 500
theorem RwSt.fits {Rs : RsT} {H : Hp} {X : Rw} (A : RwSt Rs H X) : Fits X.s := ⟨Nat.le_trans A.b1 (by decide), Nat.le_trans A.b3 (by decide), Nat.le_trans A.b2 (by decide)⟩
theorem wanted_law {rs : List Row} (hn : Num rs) {g : Nat} {z : Str} {b m : Int} (hb : (g : Int) ≤ b) : wantedM rs g z b m = (rs.filter fun r => decide (r.n > b) && isPre z r.k).take m.toNat := by
  unfold wantedM
  congr 1
  conv => rhs; rw [← List.take_append_drop g rs, List.filter_append]
  have e : (rs.take g).filter (fun r => decide (r.n > b) && isPre z r.k) = [] := by
    refine List.filter_eq_nil_iff.mpr fun r hr => ?_
    obtain ⟨i, hi⟩ := List.mem_iff_getElem?.mp hr
    rw [List.getElem?_take] at hi
    by_cases c : i < g
    · rw [if_pos c] at hi
      have := hn i r hi
      rw [decide_eq_false (by omega), Bool.false_and]
      decide
    · rw [if_neg c] at hi; cases hi
  rw [e, List.nil_append]
theorem due_in {rs : List Row} (hn : Num rs) {g : Nat} {z : Str} {b m : Int} : ∀ r ∈ wantedM rs g z b m, r ∈ rs ∧ r.n > b ∧ r.n ≤ rs.length := fun r hr => by
  obtain ⟨h, hp⟩ := List.mem_filter.mp (List.mem_of_mem_take hr)
  have h := List.mem_of_mem_drop h
  obtain ⟨i, hi⟩ := List.mem_iff_getElem?.mp h
  have q := hn i r hi
  have l := (List.getElem?_eq_some_iff.mp hi).1
  rw [Bool.and_eq_true] at hp
  exact ⟨h, of_decide_eq_true hp.1, by omega⟩
theorem toldW_le {s : Rm} (hn : Num s.rows) {w : Wt} {m : Int} (h : w.told ≤ s.rows.length) : w.told ≤ toldW s w m ∧ toldW s w m ≤ s.rows.length := by
  unfold toldW
  by_cases c : ((dueW s w m).length : Int) < m
  · rw [if_pos c]; exact ⟨h, Int.le_refl _⟩
  · rw [if_neg c]
    unfold lastN
    cases e : (dueW s w m).getLast? with
    | none =>
      show w.told ≤ w.told + 1 - 1 ∧ w.told + 1 - 1 ≤ _
      omega
    | some r =>
      obtain ⟨_, h1, h2⟩ := due_in hn r (List.mem_of_getLast? e)
      show w.told ≤ r.n ∧ r.n ≤ _
      omega
theorem wD_told {met gone : Int} {al q : Addr} {x : List (Key × V)} (h : x = [] ∨ ∃ t, x = [((Sum.inr "told" : Key), V.ref t)]) : putK (wD met gone al ++ x) (Sum.inr "told") (.ref q) = wD met gone al ++ [((Sum.inr "told" : Key), V.ref q)] := by
  have n1 := k_no (a := "met") (b := "told") (by decide +kernel)
  have n2 := k_no (a := "all") (b := "told") (by decide +kernel)
  have n3 := k_no (a := "gone") (b := "told") (by decide +kernel)
  have ev : ∀ y : List (Key × V), valV (wD met gone al ++ y) (Sum.inr "told") = valV y (Sum.inr "told") := fun y => by
    rw [List.cons_append, valV_neg n1, List.cons_append, valV_neg n2, List.cons_append, valV_neg n3, List.nil_append]
  rcases h with rfl | ⟨t, rfl⟩
  · rw [putK_new _ (by rw [ev]; rfl), List.append_nil]
  · unfold putK
    rw [valV_any, ev, valV_pos rfl, if_pos (show (some (V.ref t)).isSome = true from rfl), List.map_append, List.map_cons, List.map_cons, List.map_cons, List.map_nil, if_neg n1, if_neg n2, if_neg n3, List.map_cons, List.map_nil, if_pos rfl]
theorem WsAt.told {H : Hp} {W : Wm} {s : Rm} {q : Addr} (A : WsAt H W s) (h : W.x = [] ∨ ∃ t, W.x = [((Sum.inr "told" : Key), V.ref t)]) :
    WsAt (upd H W.m (.dK (putK (wD s.met s.gone W.al ++ W.x) (Sum.inr "told") (.ref q)))) { W with x := [((Sum.inr "told" : Key), V.ref q)] } s := by
  have c : Ch H (upd H W.m (.dK (putK (wD s.met s.gone W.al ++ W.x) (Sum.inr "told") (.ref q)))) [W.m] := (Ch.refl _ _).mut (List.mem_singleton.mpr rfl) A.di (fun xs e => by cases e)
  have nd := A.nd
  unfold Wm.l Wm.v at nd
  simp only [List.nodup_cons, List.mem_cons, not_or] at nd
  obtain ⟨⟨n1, n2⟩, n3, an⟩ := nd
  refine ⟨by rw [upd_same, wD_told h], rd_ch A.al c (by simp [n1]), A.re, fun y hy => c.at (A.ws y hy) fun z => n3 ?_, A.fw, A.nw, A.nd, A.kw, A.pk, A.tb, A.ln, A.gl⟩
  rw [← List.mem_singleton.mp z]
  exact List.mem_map.mpr ⟨y, hy, rfl⟩
theorem WsAt.small {H : Hp} {W : Wm} {s : Rm} (A : WsAt H W s) (h : W.x = [] ∨ ∃ t, W.x = [((Sum.inr "told" : Key), V.ref t)]) : (wD s.met s.gone W.al ++ W.x).length < sizeLine := by
  rcases h with e | ⟨t, e⟩
  · rw [e]
    show (3 : Nat) < sizeLine
    decide
  · rw [e]
    show (4 : Nat) < sizeLine
    decide
theorem goW_l (W : Wm) (n : Int) (w : Wt) (x : List (Key × V)) : Wm.l { W with wl := goW W.wl n w, x := x } = W.l := by
  show W.al :: W.m :: (goW W.wl n w).map (·.2.1) = W.al :: W.m :: W.wl.map (·.2.1)
  rw [goW_addr]
def spPulled (Rs : RsT) : Sp := fun vs H Q _ => ∃ (X : Rw) (n most : Int) (x : Addr) (w : Wt), vs = [.ref X.p, .ref X.W.m, .ref X.ro, .int n, .int most] ∧ RwSt Rs H X ∧ 0 ≤ most ∧ getA X.W.wl n = some (x, w) ∧
  ∀ F' t H', RwSt Rs H' ⟨F', X.p, { X.W with wl := goW X.W.wl n { w with told := toldW X.s w most }, x := [((Sum.inr "told" : Key), V.ref t)] }, X.ro, X.ts, pullM X.s n w most⟩ → Grow X.F F' H → Ch H H' (X.F ++ X.W.v) → Q (.bl true) H'
section
variable {P : Program} {w : World} {K : PySem.W.Frag} {mg : Str → Option Value} {base : Heap} {C : Addr} {kk : Kinds} {Rs : RsT}
theorem ok_pulled {f : Addr} {fd : FuncData} (F : Fun K "_law_pulled" "_law_pulled" s_pulled f fd) (cl : Cls K C) (A1 : RoomApi P w K mg base C kk Rs hsL) (LT : LTxt mg) (D1 : Def P w K mg base "_law_changes" 3 p_changes (spChanges K)) : FnOk P w K mg base CX0 9 f fd p_pulled (spPulled Rs) := by
  obtain ⟨f1, fd1, g1, k1, b1, G1⟩ := D1.ex
  obtain ⟨fU, fdU, psU, mU, bU, GU⟩ := (A1.pull (by decide +kernel)).ex
  refine F.ok sc_pulled (fun vs H Q E h => ?_) (fun cdv A outer s H vs Q E hr h => ?_)
  · obtain ⟨X, n, most, x, w, rfl, _⟩ := h
    rfl
  · obtain ⟨X, n, most, x, wt, rfl, S, hm, gx, k⟩ := h
    have hu := hu_of hr
    have hu64 := hr.units
    refine ⟨_, pss_cons (ps_set (i := 5) sc_pulled.nd rfl (Or.inr rfl) (pe_dget hu (pe_dget hu (pv 1) pe_str (fun _ _ => rfl)) (pv 3) (fun _ _ => rfl)))
      (pss_cons (ps_set (i := 6) sc_pulled.nd rfl (Or.inl rfl) (pe_slice sl_list (pe_lc (own := [("_law_row", 8)]) (g := gName 8) (te := tVar 8) rfl sc_pulled.nd (pi_list (pv 2)) (blkOk_by (own := [("_law_row", 8)]) (N := n_pulled) (sc := defScope s_pulled) (by decide +kernel))
          (fun _ _ _ _ _ => pg_name (i := 8) sc_pulled.nd rfl (Or.inl rfl) (Or.inr rfl))
          (fun _ _ _ _ _ => pts_one (PW.pt (pw_and (pt_cmpR op_gt (pe_ix (r := rIxT K) ix_tup (pv 8) pe_int (fun _ _ => rfl)) (pe_ix (r := rIxL K) ix_list (pv 5) pe_int (fun _ _ => rfl)) (nomark _))
            (pw_and1 (pt_cmpR op_eq (pe_slice sl_str (pe_ix (r := rIxT K) ix_tup (pv 8) pe_int (fun _ _ => rfl)) po_none (po_some (pe_callB call_len_str (by rfl) LT.len PySem.boot_len (pa_cons (pe_ix (r := rIxL K) ix_list (pv 5) pe_int (fun _ _ => rfl)) pa_nil)))) (pe_ix (r := rIxL K) ix_list (pv 5) pe_int (fun _ _ => rfl)) (nomark _))))))
          (fun _ _ _ _ _ => pv 8)) po_none (po_some (pv 4))))
      (C8.pss_cut (ps_if (pt_cmpR op_lt (pe_callB call_len_seq (by rfl) LT.len PySem.boot_len (pa_cons (pv 6) pa_nil)) (pv 4) (nomark _)) (pss_one (ps_asg (pe_callB call_len_seq (by rfl) LT.len PySem.boot_len (pa_cons (pv 2) pa_nil)) (pg_sub (pv 5) pe_int set_list)))
        (pss_one (ps_if (pt_cmpR (op_neD hu64) (pv 6) (pe_lst pa_nil) (nomark _)) (pss_one (ps_asg (pe_ix ix_tup (pe_ix ix_list (pv 6) (pe_un un_neg pe_int) (fun _ _ => rfl)) pe_int (fun _ _ => rfl)) (pg_sub (pv 5) pe_int set_list))) pss_nil)))
      (pss_cons (ps_set (i := 7) sc_pulled.nd rfl (Or.inl rfl) (pe_meth (E := E0) (pv 0) cl mU GU (hr.mono (by decide)) bU .nil (passes_call takes0 (fun _ _ _ _ h => h)) (pa_cons (pv 3) (pa_cons (pv 4) pa_nil))))
      (pss_cons (ps_if (pt_cmpR (op_neD hu64) (pe_dget2 hu (pv 1) pe_str (pe_lst pa_nil) ⟨by rfl, by rfl, by rfl, by rfl⟩) (pe_lst pa_nil) (nomark _)) (pss_one (ps_ret pe_bl)) pss_nil)
      (pss_cons (ps_dput hu (pv 1) pe_str (pv 7) rfl)
      (pss_one (ps_ret (pe_call G1 (hr.mono (by decide)) rfl g1 k1 b1 .nil pass0 (pa_cons (pv 7) (pa_cons (pv 6) pa_nil)))))))))), ?_⟩
    have A := S.ws
    obtain ⟨ga, hx, ew, xv, mx⟩ := A.at gx
    have tb := A.tb _ mx
    have tb1 : (X.s.gone : Int) ≤ wt.had := tb.1
    have tb2 : wt.had ≤ wt.told := tb.2.1
    have tb3 : wt.told ≤ X.s.rows.length := tb.2.2
    have oz : TOk 60 wt.pre := A.pk _ mx
    refine ⟨_, rfl, X.W.m, _, rfl, A.gA, _, rfl, X.W.al, _, rfl, ga, ?_⟩
    refine ⟨_, rfl, X.ro, rfl, ⟨_, SqL.of S.rw_.at_⟩, fun D hD => ?_⟩
    have xD : x ≠ D := ne_of_none hx hD
    have roD : X.ro ≠ D := ne_of_none S.rw_.at_ hD
    refine lc_list (xs := X.ts.map V.ref) (fun j H' => Ch (upd H D (.lst [])) H' [D] ∧ ∃ ds, H' D = some (.lst (ds.map V.ref)) ∧ RowsAt H' ds ((X.s.rows.take j).filter fun r => decide (r.n > wt.told) && isPre wt.pre r.k)) ⟨Ch.refl _ _, [], upd_same, .nil⟩ ?_ ?_ ?_
    · rintro j H' _ ⟨c, _⟩
      exact SqL.of (c.at (same_new hD _ _ S.rw_.at_) fun z => roD (List.mem_singleton.mp z))
    · rintro j y H3 hy ⟨c, ds, hd, mds⟩
      obtain ⟨t1, ro, rfl, hro, ht⟩ := RowsAt.at S.rw_.rr hy
      have ht3 := c.tup _ _ (same_new hD _ _ ht)
      have hx3 := c.at (same_new hD _ _ hx) fun z => xD (List.mem_singleton.mp z)
      have okr : ro.Ok := S.rw_.ok ro (List.mem_of_getElem? hro)
      have stp : X.s.rows.take (j + 1) = X.s.rows.take j ++ [ro] := by rw [List.take_add_one, hro]; rfl
      have stay : (decide (ro.n > wt.told) && isPre wt.pre ro.k) = false → Ch (upd H D (.lst [])) H3 [D] ∧ ∃ ds, H3 D = some (.lst (ds.map V.ref)) ∧ RowsAt H3 ds ((X.s.rows.take (j + 1)).filter fun r => decide (r.n > wt.told) && isPre wt.pre r.k) := fun e => by
        refine ⟨c, ds, hd, ?_⟩
        rw [stp, List.filter_append, List.filter_cons_of_neg (by rw [e]; decide), List.filter_nil, List.append_nil]
        exact mds
      refine ⟨rfl, _, rfl, t1, _, 0, .int ro.n, rfl, rfl, SqT.of ht3, rfl, _, rfl, x, _, 2, .int wt.told, rfl, rfl, SqL.of hx3, rfl, _, _, rfl, rfl, _, rfl, ?_⟩
      by_cases c1 : ro.n > wt.told
      · rw [decide_eq_true c1]
        refine iteT ?_
        refine ⟨_, rfl, t1, _, 3, .str ro.k, rfl, rfl, SqT.of ht3, rfl, _, rfl, x, _, 0, .str wt.pre, rfl, rfl, SqL.of hx3, rfl, _, rfl, oz.line (by decide), _, rfl, _, rfl, okr.k.line (by decide), _, rfl, x, _, 0, .str wt.pre, rfl, rfl, SqL.of hx3, rfl, rfl, _, rfl, ?_⟩
        by_cases c2 : isPre wt.pre ro.k = true
        · have c2' : cutS ro.k none (some (wt.pre.length : Int)) = wt.pre := of_decide_eq_true c2
          rw [c2', decide_eq_true rfl]
          refine iteT ?_
          have hlen : ds.length ≤ X.s.rows.length := by
            rw [Paired.length mds]
            refine Nat.le_trans (List.length_filter_le _ _) ?_
            rw [List.length_take]
            omega
          have bb := S.b1
          refine ⟨_, rfl, _, hd, by rw [List.length_map]; exact small1000 (by omega), c.mut (List.mem_singleton.mpr rfl) upd_same (fun xs e => by cases e), ds ++ [t1], by rw [upd_same, List.map_append]; rfl, ?_⟩
          rw [stp, List.filter_append, List.filter_cons_of_pos (by rw [c2, decide_eq_true c1]; rfl), List.filter_nil]
          have nD : ∀ a xs, H3 a = some (.tup xs) → a ≠ D := fun a xs e => ne_of e hd (by intro q; cases q)
          refine Paired.snoc (mds.keep fun a xs e => by rw [upd_ne (nD a xs e)]; exact e) (by rw [upd_ne (nD _ _ ht3)]; exact ht3)
        · have c2' : ¬ cutS ro.k none (some (wt.pre.length : Int)) = wt.pre := fun e => c2 (decide_eq_true e)
          rw [decide_eq_false (fun e => c2' (V.str.inj e))]
          exact iteF (stay (by rw [decide_eq_true c1, Bool.true_and]; exact Bool.eq_false_iff.mpr c2))
      · rw [decide_eq_false c1]
        exact iteF (stay (by rw [decide_eq_false c1]; rfl))
    rintro H3 ⟨c, ds, hd, mds⟩
    rw [List.length_map, Paired.length S.rw_.rr, List.take_length] at mds
    refine ⟨_, rfl, _, rfl, D, _, rfl, SqL.of hd, fun q hq => ?_⟩
    rw [cutV_upto _ hm, ← List.map_take]
    have s3 : Same H H3 := fun b u e => c.at (same_new hD _ _ e) (fun y => (ne_of_none e hD) (List.mem_singleton.mp y))
    have s4 := s3.trans (same_new (o := .lst ((ds.take most.toNat).map V.ref)) hq)
    have hq4 : upd H3 q (.lst ((ds.take most.toNat).map V.ref)) q = some (.lst ((ds.take most.toNat).map V.ref)) := upd_same
    have m4 : RowsAt (upd H3 q (.lst ((ds.take most.toNat).map V.ref))) (ds.take most.toNat) (dueW X.s wt most) := by
      have e : dueW X.s wt most = (X.s.rows.filter fun r => decide (r.n > wt.told) && isPre wt.pre r.k).take most.toNat := wanted_law S.rw_.nu (by omega)
      rw [e]
      exact (mds.take most.toNat).keep fun a xs e => by rw [upd_ne (ne_of_none e hq)]; exact e
    have q0 : H q = none := s3.free hq
    try dsimp only
    generalize upd H3 q (.lst ((ds.take most.toNat).map V.ref)) = H4 at s4 hq4 m4
    generalize ds.take most.toNat = us at hq4 m4 ⊢
    clear mds hd c hq s3
    have hx4 := s4 _ _ hx
    have lu := Paired.length m4
    -- the law's own table of this one
    refine ⟨fun σ H' => σ = [some (.ref X.p), some (.ref X.W.m), some (.ref X.ro), some (.int n), some (.int most), some (.ref x), some (.ref q), none, none] ∧ Ch H4 H' [x] ∧ H' x = some (.lst (wL { wt with told := toldW X.s wt most })), ?_, ?_⟩
    · refine ⟨_, rfl, q, _, rfl, .inl (SqL.of hq4), _, rfl, _, _, rfl, rfl, _, rfl, ?_⟩
      rw [List.length_map]
      by_cases c1 : (us.length : Int) < most
      · rw [decide_eq_true c1]
        refine iteT ⟨_, rfl, X.ro, _, rfl, .inl (SqL.of (s4 _ _ S.rw_.at_)), _, rfl, x, _, 2, 2, rfl, rfl, hx4, rfl, rfl, (Ch.refl _ _).mut (List.mem_singleton.mpr rfl) hx4 (fun xs e => by cases e), ?_⟩
        rw [upd_same, List.length_map, Paired.length S.rw_.rr]
        have et : toldW X.s wt most = X.s.rows.length := by
          unfold toldW
          rw [if_pos (by omega)]
        rw [et]
        rfl
      rw [decide_eq_false c1]
      have et : toldW X.s wt most = lastN (wt.told + 1) (dueW X.s wt most) := by
        unfold toldW
        rw [if_neg (by omega)]
      refine iteF ⟨_, rfl, (by show 0 ≤ sizeLine; decide), fun l2 hl2 => ?_⟩
      have s5 := same_new (o := .lst []) hl2
      have hx5 := s5 _ _ hx4
      refine ⟨.list ((dueW X.s wt most).map Row.D), .list [], .lst (SqL.of (s5 _ _ hq4)) (m4.keep fun a xs e => s5 _ _ e).dp, .lst (SqL.of upd_same) .nil, rows_shaped (fun r hr => (S.rw_.ok r (due_in S.rw_.nu r hr).1)), rfl, ?_⟩
      rw [et]
      cases ed : dueW X.s wt most with
      | nil =>
        refine ⟨_, rfl, iteF ⟨rfl, Ch.of s5 _, ?_⟩⟩
        rw [hx5]
        show _ = some (HO.lst [.str wt.pre, .int wt.had, .int (wt.told + 1 - 1)])
        rw [Int.add_sub_cancel]
      | cons r0 rr =>
        rw [ed] at m4
        obtain ⟨tz, ro, ea, hz, e⟩ := RowsAt.last m4 (by simp)
        refine ⟨_, rfl, iteT ⟨_, rfl, _, rfl, q, _, _, _, rfl, rfl, SqL.of (s5 _ _ hq4), ea, tz, _, 0, .int ro.n, rfl, rfl, SqT.of (s5 _ _ hz), rfl, _, rfl, x, _, 2, 2, rfl, rfl, hx5, rfl, rfl, ?_, ?_⟩⟩
        · exact (Ch.of s5 _).mut (List.mem_singleton.mpr rfl) hx4 (fun xs e => by cases e)
        · rw [upd_same]
          have e2 : lastN (wt.told + 1) (r0 :: rr) = ro.n := by
            unfold lastN
            rw [List.getLast?_eq_getElem?, e]
          rw [e2]
          rfl
    rintro σ H5 ⟨rfl, c5, hx5⟩
    have xl : x ∈ X.W.l := List.mem_cons_of_mem _ xv
    have R5 := A1.frame (A1.frame S.rs (Ch.of s4 []) (fun _ _ z => nomatch z)) c5 fun a ha z => S.dj a ha (by rw [List.mem_singleton.mp z]; exact xl)
    have A5 : WsAt H5 { X.W with wl := goW X.W.wl n { wt with told := toldW X.s wt most } } (pullM X.s n wt most) := (A.same s4).go gx c5 hx5 rfl ⟨tb1, by have := (toldW_le S.rw_.nu (m := most) tb3).1; show wt.had ≤ toldW X.s wt most; omega, (toldW_le S.rw_.nu (m := most) tb3).2⟩
    obtain ⟨_, dx5, fs5, hob5, _, hfs5⟩ := A1.inst R5
    have rox : X.ro ∉ [x] := fun z => S.r2 (by rw [List.mem_singleton.mp z]; exact xl)
    have lq : H4 q = some (.lst (us.map V.ref)) := hq4
    have qx : q ≠ x := fun z => by rw [z, hx] at q0; cases q0
    have hq5 := c5.at hq4 fun z => qx (List.mem_singleton.mp z)
    refine ⟨_, rfl, X.p, dx5, fs5, rfl, hob5, hfs5 _ (by simp [roomMs]), _, rfl, _, rfl, X.F, X.p, n, _, X.s, rfl, ⟨_, rfl⟩, R5, S.fits, (fun e => by rw [ew] at e; cases e), fun w' ew' => ?_⟩
    obtain rfl : w' = wt := by rw [ew] at ew'; exact (Option.some.inj ew').symm
    refine ⟨_, rfl, hm, fun F6 q6 ts6 H6 R6 gr6 c6 hq6 nq6 hqq6 hts6 => ?_⟩
    have lW : ∀ y : List (Key × V), Wm.l { X.W with wl := goW X.W.wl n { w' with told := toldW X.s w' most }, x := y } = X.W.l := fun y => goW_l _ _ _ _
    have lW0 : Wm.l { X.W with wl := goW X.W.wl n { w' with told := toldW X.s w' most } } = X.W.l := goW_l _ _ _ _
    have A6 := A5.ch c6 fun a ha z => S.dj a z (by rw [← lW0]; exact ha)
    have qF : q ∉ X.F := fun z => by
      obtain ⟨o, e⟩ := A1.own S.rs q z
      rw [q0] at e; cases e
    have hqq := c6.at hq5 qF
    have m6 := (m4.keep c5.tup).keep c6.tup
    have B6 : X.W.x = [] ∨ ∃ t, X.W.x = [((Sum.inr "told" : Key), V.ref t)] ∧ H6 t = some (.lst []) := by
      rcases S.to with e | ⟨t, e, h1, h2, h3, h4⟩
      · exact .inl e
      · exact .inr ⟨t, e, c6.at (c5.at (s4 _ _ h1) fun z => h3 (by rw [List.mem_singleton.mp z]; exact xl)) h2⟩
    have B7 : X.W.x = [] ∨ ∃ t, X.W.x = [((Sum.inr "told" : Key), V.ref t)] := B6.imp id fun ⟨t, e, _⟩ => ⟨t, e⟩
    refine ⟨_, rfl, X.W.m, rfl, .inl ⟨_, .inl A6.di⟩, (by show 0 ≤ sizeLine; decide), fun l hl => ?_⟩
    have s7 := same_new (o := .lst []) hl
    have hl7 : upd H6 l (.lst []) l = some (.lst []) := upd_same
    try dsimp only
    generalize upd H6 l (.lst []) = H7 at s7 hl7
    refine ⟨_, (A6.same s7).gT, (by show 0 ≤ sizeLine; decide), fun l2 hl2 => ?_⟩
    have s8 := s7.trans (same_new (o := .lst []) hl2)
    have hl8 : upd H7 l2 (.lst []) l2 = some (.lst []) := upd_same
    have hl78 : upd H7 l2 (.lst []) l = some (.lst []) := same_new hl2 _ _ hl7
    try dsimp only
    generalize upd H7 l2 (.lst []) = H8 at s8 hl8 hl78
    obtain ⟨u, eu, hu8⟩ : ∃ u, (valV X.W.x (Sum.inr "told")).getD (.ref l) = V.ref u ∧ H8 u = some (.lst []) := by
      rcases B6 with e | ⟨t, e, h1⟩
      · rw [e]; exact ⟨l, rfl, hl78⟩
      · rw [e, valV_pos rfl]; exact ⟨t, rfl, s8 _ _ h1⟩
    rw [eu]
    refine ⟨.list [], .list [], .lst (SqL.of hu8) .nil, .lst (SqL.of hl8) .nil, rfl, rfl, _, rfl, iteF ?_⟩
    have A8 := A6.same s8
    refine ⟨_, rfl, _, rfl, X.W.m, _, rfl, DPut.k (k := Sum.inr "told") A8.di (A8.small B7), ?_⟩
    have A9 := A8.told (q := q6) B7
    have wm : X.W.m ∈ X.W.l := by simp [Wm.l, Wm.v]
    have wv : X.W.m ∈ X.W.v := by simp [Wm.v]
    have h06 : H q6 = none := s4.free (c5.none _ hq6)
    have q6m : q6 ≠ X.W.m := fun z => by rw [z, A.di] at h06; cases h06
    have qm : q ≠ X.W.m := fun z => by rw [z, A.di] at q0; cases q0
    have c9 : Ch H8 (upd H8 X.W.m (.dK (putK (wD (pullM X.s n w' most).met (pullM X.s n w' most).gone X.W.al ++ X.W.x) (Sum.inr "told") (.ref q6)))) [X.W.m] := (Ch.refl _ _).mut (List.mem_singleton.mpr rfl) A8.di (fun xs e => by cases e)
    have exW : ∀ a ∈ X.W.l, ∃ o, H5 a = some o := fun a ha => A5.th a (by rw [lW0]; exact ha)
    have dj6 : ∀ a ∈ F6, a ∉ X.W.l := gr6.apart S.dj exW
    have R9 := A1.frame (A1.frame R6 (Ch.of s8 []) (fun _ _ z => nomatch z)) c9 fun a ha z => dj6 a ha (by rw [List.mem_singleton.mp z]; exact wm)
    have hqq9 := c9.at (s8 _ _ hqq6) fun z => q6m (List.mem_singleton.mp z)
    have hq9 := c9.at (s8 _ _ hqq) fun z => qm (List.mem_singleton.mp z)
    have m9 := (m6.keep fun b xs e => s8 _ _ e).keep c9.tup
    have t9 := (hts6.keep fun b xs e => s8 _ _ e).keep c9.tup
    have c05 : Ch H H5 (X.F ++ X.W.v) := (Ch.of s4 _).trans (c5.mono fun a ha => by rw [List.mem_singleton.mp ha]; exact List.mem_append_right _ xv)
    have c09 : Ch H (upd H8 X.W.m (.dK (putK (wD (pullM X.s n w' most).met (pullM X.s n w' most).gone X.W.al ++ X.W.x) (Sum.inr "told") (.ref q6)))) (X.F ++ X.W.v) := ((c05.trans (c6.mono fun a ha => List.mem_append_left _ ha)).same s8).trans (c9.mono fun a ha => by rw [List.mem_singleton.mp ha]; exact List.mem_append_right _ wv)
    try dsimp only at A9 ⊢
    generalize upd H8 X.W.m (.dK (putK (wD (pullM X.s n w' most).met (pullM X.s n w' most).gone X.W.al ++ X.W.x) (Sum.inr "told") (.ref q6))) = H9 at A9 R9 hqq9 hq9 m9 t9 c09 c9 ⊢
    refine ⟨_, rfl, _, rfl, q6, q, ts6, us, dueW X.s w' most, rfl, hqq9, hq9, t9, m9, (fun r hr => S.rw_.ok r (due_in S.rw_.nu r hr).1), ?_⟩
    have c10 : Ch H9 (upd H9 q6 (.lst [])) [q6] := (Ch.refl _ _).mut (List.mem_singleton.mpr rfl) hqq9 (fun xs e => by cases e)
    have far : ∀ {a : Addr} {o : HO}, H a = some o → a ∉ [q6] := fun {a o} e z => by rw [List.mem_singleton.mp z, h06] at e; cases e
    refine k F6 q6 _ ⟨A1.frame R9 c10 fun a ha z => nq6 (by rw [← List.mem_singleton.mp z]; exact ha), A9.ch c10 fun a ha => ?_, (S.rw_.ch c09 ?_).ch c10 (far S.rw_.at_), fun a ha z => dj6 a ha (by rw [← lW]; exact z), fun z => ?_, fun z => S.r2 (by rw [← lW]; exact z), .inr ⟨q6, rfl, upd_same, nq6, fun z => ?_, fun z => ?_⟩, S.b1, S.b2, S.b3⟩ (fun a ha => (gr6 a ha).imp id fun e => s4.free (c5.none _ e)) (c09.new _ h06)
    · have ha : a ∈ X.W.l := by rw [← lW]; exact ha
      obtain ⟨o, e⟩ := A.th a ha
      exact far e
    · intro z
      rcases List.mem_append.mp z with z | z
      · exact S.r1 z
      · exact S.r2 (List.mem_cons_of_mem _ z)
    · rcases gr6 _ z with z | z
      · exact S.r1 z
      · have e := c5.none _ z
        rw [s4 _ _ S.rw_.at_] at e; cases e
    · have z : q6 ∈ X.W.l := by rw [← lW]; exact z
      obtain ⟨o, e⟩ := A.th q6 z
      rw [h06] at e; cases e
    · have z : q6 = X.ro := z
      have e := S.rw_.at_
      rw [← z, h06] at e; cases e
end
end KL

namespace KL
open PySem L2 L2H LX KB
/-! ### the law's own: a watcher is put in -/
def Rw.A (X : Rw) : List Addr := X.F ++ X.W.l
structure RwO (Rs : RsT) (H : Hp) (X : Rw) : Prop where
  st : RwSt Rs H X
  fr : H X.W.al = some (.dK X.W.wk)
structure GoW (d : Nat) (H : Hp) (X : Rw) (H' : Hp) (X' : Rw) : Prop where
  p : X'.p = X.p
  ro : X'.ro = X.ro
  ts : X'.ts = X.ts
  m : X'.W.m = X.W.m
  al : X'.W.al = X.W.al
  g : Grow X.A X'.A H
  c : Ch H H' X.A
  sr : ∃ g m w, X'.s = { X.s with gone := g, met := m, wat := w }
  me : X'.s.met ≤ X.s.met + d
theorem GoW.refl (H : Hp) (X : Rw) : GoW 0 H X H X := ⟨rfl, rfl, rfl, rfl, rfl, Grow.refl _ _, Ch.refl _ _, ⟨X.s.gone, X.s.met, X.s.wat, rfl⟩, Nat.le_refl _⟩
theorem GoW.trans {d e : Nat} {H H1 H2 : Hp} {X Y Z : Rw} (a : GoW d H X H1 Y) (b : GoW e H1 Y H2 Z) : GoW (d + e) H X H2 Z := by
  obtain ⟨g1, m1, w1, e1⟩ := a.sr
  obtain ⟨g2, m2, w2, e2⟩ := b.sr
  have x1 := a.me
  have x2 := b.me
  exact ⟨b.p.trans a.p, b.ro.trans a.ro, b.ts.trans a.ts, b.m.trans a.m, b.al.trans a.al, a.g.trans b.g a.c.none, a.c.seq a.g b.c, ⟨g2, m2, w2, by rw [e2, e1]⟩, by omega⟩
theorem GoW.mono {d e : Nat} {H H1 : Hp} {X Y : Rw} (a : GoW d H X H1 Y) (h : d ≤ e) : GoW e H X H1 Y := ⟨a.p, a.ro, a.ts, a.m, a.al, a.g, a.c, a.sr, Nat.le_trans a.me (Nat.add_le_add_left h _)⟩
theorem RwSt.xk {Rs : RsT} {H : Hp} {X : Rw} (A : RwSt Rs H X) : X.W.x = [] ∨ ∃ t, X.W.x = [((Sum.inr "told" : Key), V.ref t)] := A.to.imp id fun ⟨t, e, _⟩ => ⟨t, e⟩
theorem wD_met {met m' gone : Int} {al : Addr} {x : List (Key × V)} (h : x = [] ∨ ∃ t, x = [((Sum.inr "told" : Key), V.ref t)]) : putK (wD met gone al ++ x) (Sum.inr "met") (.int m') = wD m' gone al ++ x := by
  have n2 := k_no (a := "all") (b := "met") (by decide +kernel)
  have n3 := k_no (a := "gone") (b := "met") (by decide +kernel)
  have n4 := k_no (a := "told") (b := "met") (by decide +kernel)
  have e : ∀ y : List (Key × V), y.map (fun kv => if kv.1 = (Sum.inr ("met" : Str) : Key) then (kv.1, V.int m') else kv) = y → putK (wD met gone al ++ y) (Sum.inr "met") (.int m') = wD m' gone al ++ y := fun y hy => by
    unfold putK
    rw [valV_any, List.cons_append, valV_pos rfl, if_pos (show (some (V.int met)).isSome = true from rfl), List.map_cons, if_pos rfl, List.cons_append, List.map_cons, if_neg n2, List.cons_append, List.map_cons, if_neg n3, List.nil_append, hy]
    rfl
  rcases h with rfl | ⟨t, rfl⟩
  · exact e [] rfl
  · refine e _ ?_
    rw [List.map_cons, if_neg n4, List.map_nil]
theorem WsAt.new {H H' : Hp} {W : Wm} {s : Rm} (A : WsAt H W s) {q : Addr} {w : Wt} (nq : H q = none) (c : Ch H H' [W.m, W.al]) (h1 : H' W.m = some (.dK (wD ((s.met : Int) + 1) s.gone W.al ++ W.x))) (h2 : H' W.al = some (.dK (putK W.wk (Sum.inl ((s.met : Int) + 1)) (.ref q)))) (h3 : H' q = some (.lst (wL w)))
    (ok : TOk 60 w.pre) (tb : (s.gone : Int) ≤ w.had ∧ w.had ≤ w.told ∧ w.told ≤ s.rows.length) :
    WsAt H' { W with wl := W.wl ++ [((s.met : Int) + 1, (q, w))], wk := putK W.wk (Sum.inl ((s.met : Int) + 1)) (.ref q) } { s with met := s.met + 1, wat := setF s.wat ((s.met : Int) + 1) (some w) } := by
  have nd := A.nd
  unfold Wm.l Wm.v at nd
  have nd2 := nd
  simp only [List.nodup_cons, List.mem_cons, not_or] at nd
  obtain ⟨⟨n1, n2⟩, n3, an⟩ := nd
  have g : getA W.wl ((s.met : Int) + 1) = none := by
    refine getA_none.mpr fun m => ?_
    obtain ⟨y, hy, e⟩ := List.mem_map.mp m
    have q := A.kw y hy
    omega
  have nin : q ∉ W.l := fun m => by
    obtain ⟨o, e⟩ := A.th q m
    rw [nq] at e; cases e
  refine ⟨h1, .inl h2, ?_, fun y hy => ?_, ?_, ?_, ?_, fun y hy => ?_, fun y hy => ?_, fun y hy => ?_, ?_, A.gl⟩
  · have r := A.re.put inl_inj (k := (s.met : Int) + 1) (b := (q, w)) (v := .ref q) rfl
    rw [putA_new g] at r
    exact r
  · rcases List.mem_append.mp hy with hy | hy
    · refine c.at (A.ws y hy) fun z => ?_
      have my : y.2.1 ∈ W.wl.map (·.2.1) := List.mem_map.mpr ⟨y, hy, rfl⟩
      simp only [List.mem_cons, List.not_mem_nil, or_false] at z
      rcases z with z | z
      · exact n3 (z ▸ my)
      · exact n2 (z ▸ my)
    · rw [List.mem_singleton.mp hy]; exact h3
  · funext j
    show setF s.wat ((s.met : Int) + 1) (some w) j = (getA (W.wl ++ [((s.met : Int) + 1, (q, w))]) j).map (·.2)
    rw [getA_app g, A.fw]
    unfold setF
    split <;> rfl
  · rw [List.map_append]
    refine List.nodup_append.mpr ⟨A.nw, List.nodup_cons.mpr ⟨by simp, List.nodup_nil⟩, fun a ha b hb z => getA_none.mp g ?_⟩
    have hb : b = (s.met : Int) + 1 := List.mem_singleton.mp hb
    rw [← hb, ← z]
    exact ha
  · show (W.al :: W.m :: (W.wl ++ [((s.met : Int) + 1, (q, w))]).map (·.2.1)).Nodup
    rw [List.map_append]
    show ((W.al :: W.m :: W.wl.map (·.2.1)) ++ [q]).Nodup
    refine List.nodup_append.mpr ⟨nd2, List.nodup_cons.mpr ⟨by simp, List.nodup_nil⟩, fun a ha b hb z => nin ?_⟩
    rw [← List.mem_singleton.mp hb, ← z]
    exact ha
  · show y.1 ≤ (((s.met + 1 : Nat)) : Int)
    rcases List.mem_append.mp hy with hy | hy
    · have q := A.kw y hy
      omega
    · rw [List.mem_singleton.mp hy]
      show (s.met : Int) + 1 ≤ _
      omega
  · rcases List.mem_append.mp hy with hy | hy
    · exact A.pk y hy
    · rw [List.mem_singleton.mp hy]; exact ok
  · rcases List.mem_append.mp hy with hy | hy
    · exact A.tb y hy
    · rw [List.mem_singleton.mp hy]; exact tb
  · show (W.wl ++ [_]).length ≤ s.met + 1
    rw [List.length_append]
    exact Nat.succ_le_succ A.ln
theorem wD_gM {H : Hp} {m al : Addr} {a b : Int} {x : List (Key × V)} (h : H m = some (.dK (wD a b al ++ x))) : DGet H m (.str "met") (some (.int a)) := by
  have g := DGet.k (k := Sum.inr "met") h
  rw [List.cons_append, valV_pos rfl] at g
  exact g
theorem wD_gA {H : Hp} {m al : Addr} {a b : Int} {x : List (Key × V)} (h : H m = some (.dK (wD a b al ++ x))) : DGet H m (.str "all") (some (.ref al)) := by
  have g := DGet.k (k := Sum.inr "all") h
  rw [List.cons_append, valV_neg (k_no (a := "met") (b := "all") (by decide +kernel)), List.cons_append, valV_pos rfl] at g
  exact g
def spWatchL (Rs : RsT) : Sp := fun vs H Q _ => ∃ (X : Rw) (z : Str) (st : Int), vs = [.ref X.p, .ref X.W.m, .int ((X.s.gone : Int) + 1), .int X.s.rows.length, .str z, .int st] ∧ RwO Rs H X ∧ TOk 60 z ∧ X.s.met + 1 ≤ 500 ∧
  ∀ X' H', RwO Rs H' X' → GoW 1 H X H' X' → X'.s.gone = X.s.gone → Q (.bl true) H'
section
variable {P : Program} {w : World} {K : PySem.W.Frag} {mg : Str → Option Value} {base : Heap} {C : Addr} {kk : Kinds} {Rs : RsT}
theorem ok_watch {f fO : Addr} {fd fdO : FuncData} (F : Fun K "_law_watch" "_law_watch" s_watch f fd) (cl : Cls K C) (A1 : RoomApi P w K mg base C kk Rs hsL) (M : Errs K mg kk) (DW : Def P w K mg base "_law_whole" 1 p_whole spWhole)
    (FO : FnP P w K mg base 1 fO fdO p_only (spOnly kk)) (gO : mg "_law_only" = some (.ref fO)) (kO : PySem.W.keepIn K (.ref fO) = true) (bO : Binds K fdO p_only []) : FnOk P w K mg base CX0 9 f fd p_watch (spWatchL Rs) := by
  obtain ⟨f1, fd1, g1, k1, b1, G1⟩ := DW.ex
  obtain ⟨fW, fdW, psW, mW, bW, GW⟩ := (A1.watch (by decide +kernel)).ex
  refine F.ok sc_watch (fun vs H Q E h => ?_) (fun cdv A outer s H vs Q E hr h => ?_)
  · obtain ⟨X, z, st, rfl, _⟩ := h
    rfl
  · obtain ⟨X, z, st, rfl, S, oz, bm, k⟩ := h
    have hu := hu_of hr
    have hr1 : Room 1 _ := hr.mono (by decide)
    refine ⟨_, pss_cons (ps_try_as (i := 7) rfl rfl sc_watch.nd rfl rfl ⟨rfl, by decide, .inl M.gL⟩ takes0
      (fun W pn xe tk _ => pss_one (ps_set (i := 6) sc_watch.nd rfl (Or.inl rfl) (pe_methE (E := WE W) (pv 0) cl mW GW hr bW (fun σ => passAt tk σ) (pa_cons (pv 4) (pa_cons (pv 5) pa_nil)))))
      (ts := fun a cls d => tRet (tAndV (tCallP (spO kk a cls d) (tCons (tVar 7) (tCons (tC (.str "NoStart")) tNil))) (tOrV (tOp (rI0 fun i j => .bl (decide (i < j))) (tVar 5) (tVar 2)) (tOp (rI0 fun i j => .bl (decide (j < i))) (tVar 5) (tOp (rI0 fun i j => .int (i + j)) (tVar 3) (tC (.int 1)))))))
      (fun a oe cls d pn hz hf => ?_))
      (pss_cons (ps_dput hu (pv 1) pe_str (pe_op op_add (pe_dget hu (pv 1) pe_str (fun _ _ => rfl)) pe_int) rfl)
      (pss_cons (ps_dput hu (pe_dget hu (pv 1) pe_str (fun _ _ => rfl)) (pe_dget hu (pv 1) pe_str (fun _ _ => rfl)) (pe_lst (pa_cons (pv 4) (pa_cons (pe_op op_sub (pv 5) pe_int) (pa_cons (pe_op op_sub (pv 5) pe_int) pa_nil)))) rfl)
      (pss_one (ps_ret (pe_and (pe_chain op_le op_le (pv 2) (pv 5) (pe_op op_add (pv 3) pe_int)) (pe_and (pe_call G1 hr1 rfl g1 k1 b1 .nil pass0 (pa_cons (pv 6) pa_nil)) (pe_one (pe_cmpR op_eq (pv 6) (pe_dget hu (pv 1) pe_str (fun _ _ => rfl)) (nomark _)))))))))
      , ?_⟩
    · obtain ⟨rfl, rfl⟩ := hz
      exact pss_one (ps_ret (pe_and (pe_callP (sp := spOnly kk) (p := (a, oe)) FO ⟨hr1.dp, hr1.un⟩ List.mem_cons_self hf (by rfl) gO kO bO (pa_cons (pv 7) (pa_cons pe_str pa_nil)))
        (pe_one (pe_or (pe_cmpR op_lt (pv 5) (pv 2) (nomark _)) (pe_one (pe_cmpR op_gt (pv 5) (pe_op op_add (pv 3) pe_int) (nomark _)))))))
    have AW := S.st.ws
    obtain ⟨_, dx, fs, hob, _, hfs⟩ := A1.inst S.st.rs
    have exW : ∀ a ∈ X.W.l, ∃ o, H a = some o := AW.th
    refine ⟨_, rfl, X.p, dx, fs, rfl, hob, hfs _ (by simp [roomMs]), _, rfl, _, rfl, X.F, X.p, z, st, X.s, rfl, S.st.rs, oz, S.st.fits, fun bad F1 H1 R1 gr1 c1 => ?_, fun h1 h2 F1 H1 R1 gr1 c1 => ?_⟩
    · -- refused
      have dj1 := gr1.apart S.st.dj exW
      have S1 : RwO Rs H1 { X with F := F1 } := by
        refine ⟨⟨R1, AW.ch c1 fun a ha z => S.st.dj a z ha, S.st.rw_.ch c1 S.st.r1, dj1, fun z => ?_, S.st.r2, ?_, S.st.b1, S.st.b2, S.st.b3⟩, c1.at S.fr fun z => S.st.dj _ z (by simp [Wm.l])⟩
        · rcases gr1 _ z with z | z
          · exact S.st.r1 z
          · rw [S.st.rw_.at_] at z; cases z
        · rcases S.st.to with e | ⟨t, e, t1, t2, t3, t4⟩
          · exact .inl e
          · refine .inr ⟨t, e, c1.at t1 t2, fun z => ?_, t3, t4⟩
            rcases gr1 _ z with z | z
            · exact t2 z
            · rw [t1] at z; cases z
      have G1' : GoW 1 H X H1 { X with F := F1 } := ⟨rfl, rfl, rfl, rfl, rfl, fun a ha => by
        rcases List.mem_append.mp ha with h | h
        · rcases gr1 a h with z | z
          · exact .inl (List.mem_append_left _ z)
          · exact .inr z
        · exact .inl (List.mem_append_right _ h), c1.mono fun a ha => List.mem_append_left _ ha, ⟨X.s.gone, X.s.met, X.s.wat, rfl⟩, Nat.le_succ _⟩
      refine ⟨true, M.e .start, fun _ a ha => ?_, fun z => nomatch z⟩
      refine ⟨_, rfl, .start, _, _, rfl, rfl, rfl, k6_shaped .start, k6_eqv .start .start, fun H2 hs2 => ⟨_, rfl, iteT ?_⟩⟩
      have fin : Q (.bl true) H2 := by
        have S2 : RwO Rs H2 { X with F := F1 } := ⟨⟨A1.frame S1.st.rs (Ch.of hs2 []) (fun _ _ z => nomatch z), S1.st.ws.same hs2, S1.st.rw_.ch (Ch.of hs2 []) (fun z => nomatch z), S1.st.dj, S1.st.r1, S1.st.r2, S1.st.to.imp id fun ⟨t, e, t1, t2⟩ => ⟨t, e, hs2 _ _ t1, t2⟩, S1.st.b1, S1.st.b2, S1.st.b3⟩, hs2 _ _ S1.fr⟩
        exact k _ H2 S2 ⟨G1'.p, G1'.ro, G1'.ts, G1'.m, G1'.al, G1'.g, G1'.c.same hs2, G1'.sr, G1'.me⟩ rfl
      refine ⟨_, rfl, _, rfl, _, _, rfl, rfl, _, rfl, ?_⟩
      by_cases b1 : st < (X.s.gone : Int) + 1
      · rw [decide_eq_true b1]
        exact iteT fin
      · rw [decide_eq_false b1]
        refine iteF ⟨_, rfl, _, rfl, _, _, rfl, rfl, _, _, rfl, rfl, ?_⟩
        show Q (.bl (decide ((X.s.rows.length : Int) + 1 < st))) H2
        rw [decide_eq_true (bad.resolve_left b1)]
        exact fin
    have dj1 := gr1.apart S.st.dj exW
    have AW1 := AW.ch c1 fun a ha z => S.st.dj a z ha
    have fr1 := c1.at S.fr fun z => S.st.dj _ z (by simp [Wm.l])
    have xk := S.st.xk
    refine ⟨_, rfl, X.W.m, _, rfl, AW1.gM, _, _, rfl, rfl, _, rfl, X.W.m, _, rfl, DPut.k (k := Sum.inr "met") AW1.di (AW1.small xk), ?_⟩
    rw [wD_met xk]
    have cm : Ch H1 (upd H1 X.W.m (.dK (wD ((X.s.met : Int) + 1) X.s.gone X.W.al ++ X.W.x))) [X.W.m] := (Ch.refl _ _).mut (List.mem_singleton.mpr rfl) AW1.di (fun xs e => by cases e)
    have hm2 : upd H1 X.W.m (.dK (wD ((X.s.met : Int) + 1) X.s.gone X.W.al ++ X.W.x)) X.W.m = some (.dK (wD ((X.s.met : Int) + 1) X.s.gone X.W.al ++ X.W.x)) := upd_same
    have nd := AW.nd
    unfold Wm.l Wm.v at nd
    simp only [List.nodup_cons, List.mem_cons, not_or] at nd
    obtain ⟨⟨n1, n2⟩, n3, an⟩ := nd
    have fr2 := cm.at fr1 fun z => n1 (List.mem_singleton.mp z)
    try dsimp only
    generalize upd H1 X.W.m (.dK (wD ((X.s.met : Int) + 1) X.s.gone X.W.al ++ X.W.x)) = H2 at cm hm2 fr2
    refine ⟨_, rfl, _, rfl, _, _, rfl, rfl, _, rfl, _, _, rfl, rfl, (by show 3 ≤ sizeLine; decide), fun q hq => ?_⟩
    have s3 := same_new (o := .lst [V.str z, V.int (st - 1), V.int (st - 1)]) hq
    have hq3 : upd H2 q (.lst [V.str z, V.int (st - 1), V.int (st - 1)]) q = some (.lst (wL ⟨z, st - 1, st - 1⟩)) := upd_same
    try dsimp only
    generalize upd H2 q (.lst [V.str z, V.int (st - 1), V.int (st - 1)]) = H3 at s3 hq3
    have hm3 := s3 _ _ hm2
    have fr3 := s3 _ _ fr2
    have lk : X.W.wk.length = X.W.wl.length := AW.re.len
    have ln := AW.ln
    refine ⟨_, rfl, X.W.m, _, rfl, wD_gA hm3, _, rfl, X.W.m, _, rfl, wD_gM hm3, X.W.al, _, rfl, DPut.k (k := Sum.inl ((X.s.met : Int) + 1)) fr3 (small1000 (by omega)), ?_⟩
    have q1 : H1 q = none := cm.none _ hq
    have q0 : H q = none := c1.none _ q1
    have exq : ∀ {a : Addr} {o : HO}, H a = some o → a ≠ q := fun {a o} e z => by rw [z, q0] at e; cases e
    have ca : Ch H3 (upd H3 X.W.al (.dK (putK X.W.wk (Sum.inl ((X.s.met : Int) + 1)) (.ref q)))) [X.W.al] := (Ch.refl _ _).mut (List.mem_singleton.mpr rfl) fr3 (fun xs e => by cases e)
    have c13 : Ch H1 (upd H3 X.W.al (.dK (putK X.W.wk (Sum.inl ((X.s.met : Int) + 1)) (.ref q)))) [X.W.m, X.W.al] := ((cm.same s3).mono (by simp)).trans (ca.mono (by simp))
    have qal : q ≠ X.W.al := fun z => exq S.fr z.symm
    have A4 := AW1.new (q := q) (w := ⟨z, st - 1, st - 1⟩) q1 c13 (by rw [upd_ne (fun z => n1 z.symm)]; exact hm3) upd_same (by rw [upd_ne qal]; exact hq3) oz ⟨by show (X.s.gone : Int) ≤ st - 1; omega, Int.le_refl _, by show st - 1 ≤ (X.s.rows.length : Int); omega⟩
    have hm4 : upd H3 X.W.al (.dK (putK X.W.wk (Sum.inl ((X.s.met : Int) + 1)) (.ref q))) X.W.m = some (.dK (wD ((X.s.met : Int) + 1) X.s.gone X.W.al ++ X.W.x)) := by rw [upd_ne (fun z => n1 z.symm)]; exact hm3
    have fr4 : upd H3 X.W.al (.dK (putK X.W.wk (Sum.inl ((X.s.met : Int) + 1)) (.ref q))) X.W.al = some (.dK (putK X.W.wk (Sum.inl ((X.s.met : Int) + 1)) (.ref q))) := upd_same
    try dsimp only
    generalize upd H3 X.W.al (.dK (putK X.W.wk (Sum.inl ((X.s.met : Int) + 1)) (.ref q))) = H4 at ca c13 A4 hm4 fr4
    refine ⟨_, rfl, _, rfl, _, _, rfl, rfl, _, rfl, ?_⟩
    rw [decide_eq_true h1]
    refine iteT ⟨_, rfl, _, _, rfl, rfl, _, _, rfl, rfl, _, rfl, ?_⟩
    rw [decide_eq_true h2]
    refine iteT ⟨_, rfl, _, true, rfl, .inl ⟨⟨_, rfl⟩, rfl⟩, true, rfl, iteT ⟨_, rfl, _, rfl, X.W.m, _, rfl, wD_gM hm4, rfl, ?_⟩⟩
    rw [decide_eq_true rfl]
    have two : ∀ a ∈ [X.W.m, X.W.al], a ∈ X.W.l := fun a ha => by
      simp only [List.mem_cons, List.not_mem_nil, or_false] at ha
      rcases ha with rfl | rfl <;> simp [Wm.l, Wm.v]
    have lW : ∀ a, a ∈ Wm.l { X.W with wl := X.W.wl ++ [((X.s.met : Int) + 1, (q, ⟨z, st - 1, st - 1⟩))], wk := putK X.W.wk (Sum.inl ((X.s.met : Int) + 1)) (.ref q) } → a ∈ X.W.l ∨ a = q := fun a ha => by
      change a ∈ X.W.al :: X.W.m :: (X.W.wl ++ [((X.s.met : Int) + 1, (q, (⟨z, st - 1, st - 1⟩ : Wt)))]).map (·.2.1) at ha
      rw [List.map_append] at ha
      simp only [List.map_cons, List.map_nil, List.mem_cons, List.mem_append, List.not_mem_nil, or_false] at ha
      unfold Wm.l Wm.v
      simp only [List.mem_cons]
      rcases ha with h | h | h | h
      · exact .inl (.inl h)
      · exact .inl (.inr (.inl h))
      · exact .inl (.inr (.inr h))
      · exact .inr h
    have far1 : ∀ {a : Addr} {o : HO}, H a = some o → a ∉ X.F → a ∉ F1 := fun {a o} e n z => by
      rcases gr1 a z with z | z
      · exact n z
      · rw [e] at z; cases z
    refine k ⟨F1, X.p, { X.W with wl := X.W.wl ++ [((X.s.met : Int) + 1, (q, ⟨z, st - 1, st - 1⟩))], wk := putK X.W.wk (Sum.inl ((X.s.met : Int) + 1)) (.ref q) }, X.ro, X.ts, { X.s with met := X.s.met + 1, wat := setF X.s.wat ((X.s.met : Int) + 1) (some ⟨z, st - 1, st - 1⟩) }⟩ H4
      ⟨⟨A1.frame R1 c13 fun a ha z => dj1 a ha (two a z), A4, (S.st.rw_.ch c1 S.st.r1).ch c13 fun z => S.st.r2 (two _ z), fun a ha z => ?_, far1 S.st.rw_.at_ S.st.r1, fun z => ?_, ?_, S.st.b1, bm, S.st.b3⟩, fr4⟩
      ⟨rfl, rfl, rfl, rfl, rfl, fun a ha => ?_, ?_, ⟨X.s.gone, X.s.met + 1, _, rfl⟩, Nat.le_refl _⟩ rfl
    · rcases lW a z with z | z
      · exact dj1 a ha z
      · obtain ⟨o, e⟩ := A1.own R1 a ha
        rw [z, q1] at e; cases e
    · rcases lW _ z with z | z
      · exact S.st.r2 z
      · exact exq S.st.rw_.at_ z
    · rcases S.st.to with e | ⟨t, e, t1, t2, t3, t4⟩
      · exact .inl e
      · refine .inr ⟨t, e, c13.at (c1.at t1 t2) fun z => t3 (two _ z), far1 t1 t2, fun z => ?_, t4⟩
        rcases lW _ z with z | z
        · exact t3 z
        · exact exq t1 z
    · rcases List.mem_append.mp ha with h | h
      · rcases gr1 a h with z | z
        · exact .inl (List.mem_append_left _ z)
        · exact .inr z
      · rcases lW a h with z | z
        · exact .inl (List.mem_append_right _ z)
        · exact .inr (z ▸ q0)
    · exact (c1.mono fun a ha => List.mem_append_left _ ha).trans (c13.mono fun a ha => List.mem_append_right _ (two a ha))
end
end KL

namespace KL
open PySem L2 L2H LX KB
/-! ### the law's own: a stranger, and a trimming -/
section
variable {P : Program} {w : World} {K : PySem.W.Frag} {mg : Str → Option Value} {base : Heap} {C : Addr} {kk : Kinds} {Rs : RsT}
/-- the room went on alone, and nothing that is told of it changed -/
theorem RwO.grow (A1 : RoomApi P w K mg base C kk Rs hsL) {H H1 : Hp} {X : Rw} {F1 : List Addr} (S : RwO Rs H X) (R1 : Rs F1 H1 X.p X.s) (gr1 : Grow X.F F1 H) (c1 : Ch H H1 X.F) : RwO Rs H1 { X with F := F1 } ∧ GoW 0 H X H1 { X with F := F1 } := by
  have AW := S.st.ws
  have dj1 := gr1.apart S.st.dj AW.th
  refine ⟨⟨⟨R1, AW.ch c1 fun a ha z => S.st.dj a z ha, S.st.rw_.ch c1 S.st.r1, dj1, fun z => ?_, S.st.r2, ?_, S.st.b1, S.st.b2, S.st.b3⟩, c1.at S.fr fun z => S.st.dj _ z (by simp [Wm.l])⟩, ⟨rfl, rfl, rfl, rfl, rfl, fun a ha => ?_, c1.mono fun a ha => List.mem_append_left _ ha, ⟨X.s.gone, X.s.met, X.s.wat, rfl⟩, Nat.le_refl _⟩⟩
  · rcases gr1 _ z with z | z
    · exact S.st.r1 z
    · rw [S.st.rw_.at_] at z; cases z
  · rcases S.st.to with e | ⟨t, e, t1, t2, t3, t4⟩
    · exact .inl e
    · refine .inr ⟨t, e, c1.at t1 t2, fun z => ?_, t3, t4⟩
      rcases gr1 _ z with z | z
      · exact t2 z
      · rw [t1] at z; cases z
  · rcases List.mem_append.mp ha with h | h
    · rcases gr1 a h with z | z
      · exact .inl (List.mem_append_left _ z)
      · exact .inr z
    · exact .inl (List.mem_append_right _ h)
theorem RwO.same (A1 : RoomApi P w K mg base C kk Rs hsL) {H H2 : Hp} {X : Rw} (S : RwO Rs H X) (hs : Same H H2) : RwO Rs H2 X :=
  ⟨⟨A1.frame S.st.rs (Ch.of hs []) (fun _ _ z => nomatch z), S.st.ws.same hs, S.st.rw_.ch (Ch.of hs []) (fun z => nomatch z), S.st.dj, S.st.r1, S.st.r2, S.st.to.imp id fun ⟨t, e, t1, t2⟩ => ⟨t, e, hs _ _ t1, t2⟩, S.st.b1, S.st.b2, S.st.b3⟩, hs _ _ S.fr⟩
theorem GoW.same {d : Nat} {H H1 H2 : Hp} {X Y : Rw} (a : GoW d H X H1 Y) (s : Same H1 H2) : GoW d H X H2 Y := ⟨a.p, a.ro, a.ts, a.m, a.al, a.g, a.c.same s, a.sr, a.me⟩
def spStranger (Rs : RsT) : Sp := fun vs H Q _ => ∃ (X : Rw) (n kind : Int), vs = [.ref X.p, .int n, .int kind] ∧ RwO Rs H X ∧ X.s.wat n = none ∧ ∀ X' H', RwO Rs H' X' → GoW 0 H X H' X' → Q (.bl true) H'
theorem ok_stranger {f fO : Addr} {fd fdO : FuncData} (F : Fun K "_law_stranger" "_law_stranger" s_stranger f fd) (cl : Cls K C) (A1 : RoomApi P w K mg base C kk Rs hsL) (M : Errs K mg kk)
    (FO : FnP P w K mg base 1 fO fdO p_only (spOnly kk)) (gO : mg "_law_only" = some (.ref fO)) (kO : PySem.W.keepIn K (.ref fO) = true) (bO : Binds K fdO p_only []) : FnOk P w K mg base CX0 9 f fd p_stranger (spStranger Rs) := by
  obtain ⟨fU, fdU, psU, mU, bU, GU⟩ := (A1.pull (by decide +kernel)).ex
  obtain ⟨fC, fdC, psC, mC, bC, GC⟩ := (A1.confirm (by decide +kernel)).ex
  obtain ⟨fB, fdB, psB, mB, bB, GB⟩ := (A1.broken (by decide +kernel)).ex
  obtain ⟨fV, fdV, psV, mV, bV, GV⟩ := (A1.leave (by decide +kernel)).ex
  refine F.ok sc_stranger (fun vs H Q E h => ?_) (fun cdv A outer s H vs Q E hr h => ?_)
  · obtain ⟨X, n, kind, rfl, _⟩ := h
    rfl
  · obtain ⟨X, n, kind, rfl, S, nw, k⟩ := h
    have hr1 : Room 1 _ := hr.mono (by decide)
    refine ⟨_, pss_cons (ps_try_as (i := 3) rfl rfl sc_stranger.nd rfl rfl ⟨rfl, by decide, .inl M.gL⟩ takes0
      (fun W pn xe tk _ => pss_one (ps_if (pt_cmpR op_eq (pe_op op_mod (pv 2) pe_int) pe_int (nomark _)) (pss_one (ps_expr (pe_methE (E := WE W) (pv 0) cl mU GU hr bU (fun σ => passAt tk σ) (pa_cons (pv 1) (pa_cons pe_int pa_nil)))))
        (pss_one (ps_if (pt_cmpR op_eq (pe_op op_mod (pv 2) pe_int) pe_int (nomark _)) (pss_one (ps_expr (pe_methE (E := WE W) (pv 0) cl mC GC hr bC (fun σ => passAt tk σ) (pa_cons (pv 1) pa_nil))))
        (pss_one (ps_if (pt_cmpR op_eq (pe_op op_mod (pv 2) pe_int) pe_int (nomark _)) (pss_one (ps_expr (pe_methE (E := WE W) (pv 0) cl mB GB hr bB (fun σ => passAt tk σ) (pa_cons (pv 1) pa_nil))))
        (pss_one (ps_expr (pe_methE (E := WE W) (pv 0) cl mV GV hr bV (fun σ => passAt tk σ) (pa_cons (pv 1) pa_nil))))))))))
      (ts := fun a cls d => tRet (tCallP (spO kk a cls d) (tCons (tVar 3) (tCons (tC (.str "NoWatch")) tNil))))
      (fun a oe cls d pn hz hf => ?_))
      (pss_one (ps_ret pe_bl)), ?_⟩
    · obtain ⟨rfl, rfl⟩ := hz
      exact pss_one (ps_ret (pe_callP (sp := spOnly kk) (p := (a, oe)) FO ⟨hr1.dp, hr1.un⟩ List.mem_cons_self hf (by rfl) gO kO bO (pa_cons (pv 3) (pa_cons pe_str pa_nil))))
    obtain ⟨_, dx, fs, hob, _, hfs⟩ := A1.inst S.st.rs
    have refused : ∀ {D : Ends} {σ : L2.St} {F1 : List Addr} {H1 : Hp}, D.rt = Q → Rs F1 H1 X.p X.s → Grow X.F F1 H → Ch H H1 X.F → σ.length = 4 → ∃ b, PySem.W.exmOne K (.ref kk.NW) (.ref kk.LE) = some b ∧ (b = true → ∀ a, H1 a = none → tRet (tCallP (spO kk a (.ref kk.NW) none) (tCons (tVar 3) (tCons (tC (.str "NoWatch")) tNil))) { nx := fun σ' H' => D.nx (σ'.set 3 none) H', rt := D.rt, bk := fun σ' H' => D.bk (σ'.set 3 none) H', ct := fun σ' H' => D.ct (σ'.set 3 none) H' } (σ.set 3 (some (.ref a))) H1) ∧ (b = false → False) := fun {D σ F1 H1} hD R1 gr1 c1 hl => by
      refine ⟨true, M.e .watch, fun _ a ha => ?_, fun z => nomatch z⟩
      obtain ⟨S1, G1⟩ := S.grow A1 R1 gr1 c1
      refine ⟨_, ?_, .watch, _, _, rfl, rfl, rfl, k6_shaped .watch, k6_eqv .watch .watch, fun H2 hs2 => ?_⟩
      · rw [List.getElem?_set_self (by omega)]
      · show D.rt (.bl true) H2
        rw [hD]
        exact k _ H2 (S1.same A1 hs2) (G1.same hs2)
    refine ⟨_, rfl, _, _, rfl, rfl, (by show (0 : Int) < 4; decide), rfl, _, rfl, ?_⟩
    refine ite2 (fun _ => ?_) fun _ => ?_
    · exact ⟨_, rfl, X.p, dx, fs, rfl, hob, hfs _ (by simp [roomMs]), _, rfl, X.F, X.p, n, _, X.s, rfl, ⟨_, rfl⟩, S.st.rs, S.st.fits, fun _ F1 H1 R1 gr1 c1 => refused rfl R1 gr1 c1 rfl, fun w' ew => by rw [nw] at ew; cases ew⟩
    refine ⟨_, rfl, _, _, rfl, rfl, (by show (0 : Int) < 4; decide), rfl, _, rfl, ?_⟩
    refine ite2 (fun _ => ?_) fun _ => ?_
    · exact ⟨_, rfl, X.p, dx, fs, rfl, hob, hfs _ (by simp [roomMs]), _, rfl, X.F, X.p, n, _, X.s, rfl, rfl, S.st.rs, S.st.fits, fun _ F1 H1 R1 gr1 c1 => refused rfl R1 gr1 c1 rfl, fun w' ew => by rw [nw] at ew; cases ew⟩
    refine ⟨_, rfl, _, _, rfl, rfl, (by show (0 : Int) < 4; decide), rfl, _, rfl, ?_⟩
    refine ite2 (fun _ => ?_) fun _ => ?_
    · exact ⟨_, rfl, X.p, dx, fs, rfl, hob, hfs _ (by simp [roomMs]), _, rfl, X.F, X.p, n, _, X.s, rfl, rfl, S.st.rs, S.st.fits, fun _ F1 H1 R1 gr1 c1 => refused rfl R1 gr1 c1 rfl, fun w' ew => by rw [nw] at ew; cases ew⟩
    · exact ⟨_, rfl, X.p, dx, fs, rfl, hob, hfs _ (by simp [roomMs]), _, rfl, X.F, X.p, n, _, X.s, rfl, rfl, S.st.rs, S.st.fits, fun _ F1 H1 R1 gr1 c1 => refused rfl R1 gr1 c1 rfl, fun w' ew => by rw [nw] at ew; cases ew⟩
end
end KL

namespace KL
open PySem L2 L2H LX KB
/-! ### the law's own: a trimming -/
theorem dRel_at {α β : Type} {inj : α → Key} {R : β → V → Prop} : ∀ {d : List (α × β)} {kvs : List (Key × V)} {i : Nat} {q : Key × V}, DRel inj R d kvs → kvs[i]? = some q → ∃ p, d[i]? = some p ∧ q.1 = inj p.1 ∧ R p.2 q.2
  | _, _, i, q, .nil, h => by simp at h
  | _, _, 0, q, .cons r m, h => by
    have e := Option.some.inj h
    subst e
    exact ⟨_, rfl, r⟩
  | _, _, i + 1, q, .cons r m, h => dRel_at (i := i) m h
theorem WsAt.swap {H : Hp} {W : Wm} {s : Rm} (A : WsAt H W s) {u u0 : HO} (h0 : H W.al = some u0) (n0 : ∀ xs, u0 ≠ .tup xs) (hu : u = .dK W.wk ∨ ∃ o, u = .frz o (.dK W.wk)) : WsAt (upd H W.al u) W s := by
  have c : Ch H (upd H W.al u) [W.al] := (Ch.refl _ _).mut (List.mem_singleton.mpr rfl) h0 n0
  have nd := A.nd
  unfold Wm.l Wm.v at nd
  simp only [List.nodup_cons, List.mem_cons, not_or] at nd
  obtain ⟨⟨n1, n2⟩, n3, an⟩ := nd
  refine ⟨c.at A.di (by simp only [List.mem_singleton]; exact fun z => n1 z.symm), ?_, A.re, fun y hy => c.at (A.ws y hy) fun z => n2 ?_, A.fw, A.nw, A.nd, A.kw, A.pk, A.tb, A.ln, A.gl⟩
  · rcases hu with e | ⟨o, e⟩
    · exact .inl (by rw [upd_same, e])
    · exact .inr ⟨o, by rw [upd_same, e]⟩
  · rw [← List.mem_singleton.mp z]
    exact List.mem_map.mpr ⟨y, hy, rfl⟩
theorem wD_gone {met gone g' : Int} {al : Addr} {x : List (Key × V)} (h : x = [] ∨ ∃ t, x = [((Sum.inr "told" : Key), V.ref t)]) : putK (wD met gone al ++ x) (Sum.inr "gone") (.int g') = wD met g' al ++ x := by
  have n1 := k_no (a := "met") (b := "gone") (by decide +kernel)
  have n2 := k_no (a := "all") (b := "gone") (by decide +kernel)
  have n4 := k_no (a := "told") (b := "gone") (by decide +kernel)
  have e : ∀ y : List (Key × V), y.map (fun kv => if kv.1 = (Sum.inr ("gone" : Str) : Key) then (kv.1, V.int g') else kv) = y → putK (wD met gone al ++ y) (Sum.inr "gone") (.int g') = wD met g' al ++ y := fun y hy => by
    unfold putK
    rw [valV_any, List.cons_append, valV_neg n1, List.cons_append, valV_neg n2, List.cons_append, valV_pos rfl, if_pos (show (some (V.int gone)).isSome = true from rfl), List.map_cons, if_neg n1, List.map_cons, if_neg n2, List.map_cons, if_pos rfl, List.nil_append, hy]
    rfl
  rcases h with rfl | ⟨t, rfl⟩
  · exact e [] rfl
  · refine e _ ?_
    rw [List.map_cons, if_neg n4, List.map_nil]
theorem WsAt.gone {H H' : Hp} {W : Wm} {s : Rm} (A : WsAt H W s) {g : Nat} (c : Ch H H' [W.m]) (h1 : H' W.m = some (.dK (wD s.met g W.al ++ W.x))) (hg : ∀ y ∈ W.wl, (g : Int) ≤ y.2.2.had) (hl : g ≤ s.rows.length) : WsAt H' W { s with gone := g } := by
  have nd := A.nd
  unfold Wm.l Wm.v at nd
  simp only [List.nodup_cons, List.mem_cons, not_or] at nd
  obtain ⟨⟨n1, n2⟩, n3, an⟩ := nd
  refine ⟨h1, rd_ch A.al c (by simp [n1]), A.re, fun y hy => c.at (A.ws y hy) fun z => n3 ?_, A.fw, A.nw, A.nd, A.kw, A.pk, fun y hy => ⟨hg y hy, (A.tb y hy).2⟩, A.ln, hl⟩
  rw [← List.mem_singleton.mp z]
  exact List.mem_map.mpr ⟨y, hy, rfl⟩
theorem WsAt.wat_of {H : Hp} {W : Wm} {s : Rm} (A : WsAt H W s) {y : Int × (Addr × Wt)} (h : y ∈ W.wl) : s.wat y.1 = some y.2.2 := by
  rw [A.fw]
  show (getA W.wl y.1).map (·.2) = _
  rw [getA_of A.nw h]
  rfl
theorem WsAt.of_wat {H : Hp} {W : Wm} {s : Rm} (A : WsAt H W s) {n : Int} {w : Wt} (h : s.wat n = some w) : ∃ x, (n, (x, w)) ∈ W.wl ∧ getA W.wl n = some (x, w) := by
  rw [A.fw] at h
  change (getA W.wl n).map (·.2) = some w at h
  cases e : getA W.wl n with
  | none => rw [e] at h; cases h
  | some x =>
    rw [e] at h
    cases h
    exact ⟨x.1, getA_mem e, rfl⟩
/-- the least of them -/
def leastH (b : Int) (l : List (Int × (Addr × Wt))) : Int := l.foldl (fun a y => if y.2.2.had < a then y.2.2.had else a) b
theorem leastH_snoc (b : Int) (l : List (Int × (Addr × Wt))) (y : Int × (Addr × Wt)) : leastH b (l ++ [y]) = if y.2.2.had < leastH b l then y.2.2.had else leastH b l := by
  unfold leastH
  rw [List.foldl_append]
  rfl
theorem leastH_le : ∀ (l : List (Int × (Addr × Wt))) (b : Int), leastH b l ≤ b ∧ (∀ y ∈ l, leastH b l ≤ y.2.2.had) ∧ (leastH b l = b ∨ ∃ y ∈ l, leastH b l = y.2.2.had)
  | [], b => ⟨Int.le_refl _, (fun _ h => nomatch h), .inl rfl⟩
  | y :: l, b => by
    obtain ⟨h1, h2, h3⟩ := leastH_le l (if y.2.2.had < b then y.2.2.had else b)
    have e : leastH b (y :: l) = leastH (if y.2.2.had < b then y.2.2.had else b) l := rfl
    rw [e]
    have hb : (if y.2.2.had < b then y.2.2.had else b) ≤ b ∧ (if y.2.2.had < b then y.2.2.had else b) ≤ y.2.2.had := by split <;> omega
    refine ⟨Int.le_trans h1 hb.1, fun z hz => ?_, ?_⟩
    · rcases List.mem_cons.mp hz with rfl | hz
      · exact Int.le_trans h1 hb.2
      · exact h2 z hz
    · rcases h3 with h3 | ⟨z, hz, h3⟩
      · by_cases c : y.2.2.had < b
        · rw [if_pos c] at h3 ⊢
          exact .inr ⟨y, List.mem_cons_self, h3⟩
        · rw [if_neg c] at h3 ⊢
          exact .inl h3
      · exact .inr ⟨z, List.mem_cons_of_mem _ hz, h3⟩
theorem WsAt.trim {H : Hp} {W : Wm} {s : Rm} (A : WsAt H W s) : TrimTo s (leastH s.rows.length W.wl) ∧ (s.gone : Int) ≤ leastH s.rows.length W.wl ∧ leastH s.rows.length W.wl ≤ s.rows.length := by
  obtain ⟨h1, h2, h3⟩ := leastH_le W.wl s.rows.length
  have gl := A.gl
  have lo : (s.gone : Int) ≤ leastH s.rows.length W.wl := by
    rcases h3 with e | ⟨y, hy, e⟩
    · rw [e]; omega
    · rw [e]; exact (A.tb y hy).1
  refine ⟨⟨fun n w h => ?_, ?_⟩, lo, h1⟩
  · obtain ⟨x, m, _⟩ := A.of_wat h
    exact h2 _ m
  · cases e : W.wl with
    | nil =>
      right
      refine ⟨fun n => ?_, ?_⟩
      · rw [A.fw]
        show (getA W.wl n).map (·.2) = none
        rw [e]; rfl
      · rfl
    | cons y l =>
      left
      have my : y ∈ W.wl := by rw [e]; exact List.mem_cons_self
      rw [← e]
      rcases h3 with e3 | ⟨z, hz, e3⟩
      · have t := A.tb y my
        have q := h2 y my
        exact ⟨y.1, y.2.2, A.wat_of my, by omega⟩
      · exact ⟨z.1, z.2.2, A.wat_of hz, e3.symm⟩
section
variable {P : Program} {w : World} {K : PySem.W.Frag} {mg : Str → Option Value} {base : Heap} {C : Addr} {kk : Kinds} {Rs : RsT}
theorem RwSt.swap (A1 : RoomApi P w K mg base C kk Rs hsL) {H : Hp} {X : Rw} (S : RwSt Rs H X) {u u0 : HO} (h0 : H X.W.al = some u0) (n0 : ∀ xs, u0 ≠ .tup xs) (hu : u = .dK X.W.wk ∨ ∃ o, u = .frz o (.dK X.W.wk)) : RwSt Rs (upd H X.W.al u) X := by
  have c : Ch H (upd H X.W.al u) [X.W.al] := (Ch.refl _ _).mut (List.mem_singleton.mpr rfl) h0 n0
  have al : X.W.al ∈ X.W.l := by simp [Wm.l]
  refine ⟨A1.frame S.rs c fun a ha z => S.dj a ha (by rw [List.mem_singleton.mp z]; exact al), S.ws.swap h0 n0 hu, S.rw_.ch c fun z => S.r2 (by rw [List.mem_singleton.mp z]; exact al), S.dj, S.r1, S.r2, S.to.imp id fun ⟨t, e, t1, t2, t3, t4⟩ => ⟨t, e, c.at t1 fun z => t3 (by rw [List.mem_singleton.mp z]; exact al), t2, t3, t4⟩, S.b1, S.b2, S.b3⟩
def spTrimmed (Rs : RsT) : Sp := fun vs H Q _ => ∃ (X : Rw), vs = [.ref X.p, .ref X.W.m, .ref X.ro] ∧ RwO Rs H X ∧ ∀ X' H', RwO Rs H' X' → GoW 0 H X H' X' → Q (.bl true) H'
theorem ok_trimmed {f : Addr} {fd : FuncData} (F : Fun K "_law_trimmed" "_law_trimmed" s_trimmed f fd) (cl : Cls K C) (A1 : RoomApi P w K mg base C kk Rs hsL) (LT : LTxt mg) (mx : mg "max" = none) (mn : mg "min" = none) (DW : Def P w K mg base "_law_whole" 1 p_whole spWhole) : FnOk P w K mg base CX0 9 f fd p_trimmed (spTrimmed Rs) := by
  obtain ⟨f1, fd1, g1, k1, b1, G1⟩ := DW.ex
  obtain ⟨fT, fdT, psT, mT, bT, GT⟩ := (A1.trim (by decide +kernel)).ex
  obtain ⟨fF, fdF, psF, mF, bF, GF⟩ := (A1.first (by decide +kernel)).ex
  refine F.ok sc_trimmed (fun vs H Q E h => ?_) (fun cdv A outer s H vs Q E hr h => ?_)
  · obtain ⟨X, rfl, _⟩ := h
    rfl
  · obtain ⟨X, rfl, S, k⟩ := h
    have hu := hu_of hr
    have hr1 : Room 1 _ := hr.mono (by decide)
    refine ⟨_, pss_cons (ps_set (i := 3) sc_trimmed.nd rfl (Or.inl rfl) (pe_callB call_len_seq (by rfl) LT.len PySem.boot_len (pa_cons (pv 2) pa_nil)))
      (pss_cons (ps_lock (ps_for PassesOwn.never rfl (pi_keys (pe_dget hu (pv 1) pe_str (fun _ _ => rfl))) (pg_name (i := 4) sc_trimmed.nd rfl (Or.inl rfl))
        (pss_one (ps_set (i := 3) sc_trimmed.nd rfl (Or.inl rfl) (pe_callB (call_min2 rfl) (by rfl) mn (by decide +kernel) (pa_cons (pv 3) (pa_cons (pe_ix ix_list (pe_dget hu (pe_dget hu (pv 1) pe_str (fun _ _ => rfl)) (pv 4) (fun _ _ => rfl)) pe_int (fun _ _ => rfl)) pa_nil)))))))
      (pss_cons (ps_set (i := 5) sc_trimmed.nd rfl (Or.inl rfl) (pe_callB (call_max2 rfl) (by rfl) mx (by decide +kernel) (pa_cons pe_int (pa_cons (pe_op op_sub (pv 3) (pe_dget hu (pv 1) pe_str (fun _ _ => rfl))) pa_nil))))
      (pss_cons (ps_dput hu (pv 1) pe_str (pe_op op_add (pe_dget hu (pv 1) pe_str (fun _ _ => rfl)) (pv 5)) rfl)
      (pss_cons (ps_set (i := 6) sc_trimmed.nd rfl (Or.inl rfl) (pe_meth0 (E := E0) (pv 0) cl mT GT hr bT .nil pass0))
      (pss_cons (ps_set (i := 7) sc_trimmed.nd rfl (Or.inl rfl) (pe_meth0 (E := E0) (pv 0) cl mF GF hr bF .nil pass0))
      (pss_one (ps_ret (pe_and (pe_call G1 hr1 rfl g1 k1 b1 .nil pass0 (pa_cons (pv 6) pa_nil)) (pe_and (pe_cmpR op_eq (pv 6) (pv 5) (nomark _)) (pe_and (pe_call G1 hr1 rfl g1 k1 b1 .nil pass0 (pa_cons (pv 7) pa_nil))
        (pe_one (pe_cmpR op_eq (pv 7) (pe_op op_add (pe_dget hu (pv 1) pe_str (fun _ _ => rfl)) pe_int) (nomark _)))))))))))))
      , ?_⟩
    have AW := S.st.ws
    have xk := S.st.xk
    refine ⟨_, rfl, X.ro, _, rfl, .inl (SqL.of S.st.rw_.at_), ?_⟩
    rw [List.length_map, Paired.length S.st.rw_.rr]
    refine ⟨X.W.al, _, S.fr, trivial, fun od => ?_⟩
    have SL := S.st.swap A1 (u := .frz od (.dK X.W.wk)) S.fr (fun xs e => by cases e) (.inr ⟨od, rfl⟩)
    have AL := SL.ws
    have hL : upd H X.W.al (.frz od (.dK X.W.wk)) X.W.al = some (.frz od (.dK X.W.wk)) := upd_same
    have back : upd (upd H X.W.al (.frz od (.dK X.W.wk))) X.W.al (.dK X.W.wk) = H := by
      funext a
      by_cases e : a = X.W.al
      · rw [e, upd_same, S.fr]
      · rw [upd_ne e, upd_ne e]
    generalize upd H X.W.al (.frz od (.dK X.W.wk)) = HL at SL AL hL back
    have lv : X.W.wk.length = X.W.wl.length := AW.re.len
    refine ⟨_, rfl, X.W.m, _, rfl, AL.gA, X.W.al, od, rfl, .inl ⟨_, hL, ?_⟩⟩
    refine for_it walk_keys (fun i σ H' => (∃ y4 : Option V, σ = [some (.ref X.p), some (.ref X.W.m), some (.ref X.ro), some (.int (leastH X.s.rows.length (X.W.wl.take i))), y4, none, none, none]) ∧ H' = HL) ⟨⟨none, rfl⟩, rfl⟩ ?_ ?_ ?_
    · rintro i σ H' _ ⟨_, rfl⟩
      exact hL
    · rintro i x σ H1 H2 hi ⟨⟨y4, rfl⟩, rfl⟩ ⟨rfl, ky, vv, ek, rfl⟩
      have hi' : i < X.W.wl.length := by rw [← lv]; exact hi
      obtain ⟨y, hy⟩ : ∃ y, X.W.wl[i]? = some y := ⟨X.W.wl[i], by simp [hi']⟩
      obtain ⟨y0, e0, e1, _⟩ := dRel_at AW.re ek
      rw [hy] at e0
      cases e0
      subst e1
      have my := List.mem_of_getElem? hy
      obtain ⟨gn, hx, _⟩ := AL.at (getA_of AW.nw my)
      have tk : X.W.wl.take (i + 1) = X.W.wl.take i ++ [y] := by rw [List.take_add_one, hy]; rfl
      refine ⟨_, rfl, _, rfl, X.W.m, _, rfl, AL.gA, _, rfl, X.W.al, _, rfl, gn, y.2.1, _, 1, .int y.2.2.had, rfl, rfl, SqL.of hx, rfl, _, _, rfl, ⟨some (.int y.1), ?_⟩, rfl⟩
      rw [tk, leastH_snoc]
      rfl
    rintro σ H1 ⟨⟨y4, rfl⟩, rfl⟩
    refine ⟨hL, ?_⟩
    rw [back, lv, List.take_length]
    obtain ⟨tt, lo, hi⟩ := AW.trim
    generalize leastH X.s.rows.length X.W.wl = u at tt lo hi
    clear AL SL hL back
    refine ⟨_, rfl, _, rfl, X.W.m, _, rfl, AW.gG, _, _, rfl, rfl, _, _, rfl, ?_⟩
    have e1 : (if u - (X.s.gone : Int) > 0 then u - (X.s.gone : Int) else 0) = u - X.s.gone := by split <;> omega
    rw [e1]
    have e2 : goneM X.s.rows.length X.s.gone u = u.toNat := by
      unfold goneM
      have q : min u.toNat X.s.rows.length = u.toNat := Nat.min_eq_left (by omega)
      rw [q]
      exact Nat.max_eq_right (by omega)
    have e3 : ((u.toNat : Nat) : Int) = u := Int.toNat_of_nonneg (by omega)
    refine ⟨_, rfl, X.W.m, _, rfl, AW.gG, _, rfl, _, _, rfl, rfl, _, rfl, X.W.m, _, rfl, DPut.k (k := Sum.inr "gone") AW.di (AW.small xk), ?_⟩
    have e4 : (X.s.gone : Int) + (u - X.s.gone) = ((u.toNat : Nat) : Int) := by omega
    dsimp only
    rw [e4, wD_gone xk]
    have cm : Ch H (upd H X.W.m (.dK (wD X.s.met ((u.toNat : Nat) : Int) X.W.al ++ X.W.x))) [X.W.m] := (Ch.refl _ _).mut (List.mem_singleton.mpr rfl) AW.di (fun xs e => by cases e)
    have A2 : WsAt (upd H X.W.m (.dK (wD X.s.met ((u.toNat : Nat) : Int) X.W.al ++ X.W.x))) X.W { X.s with gone := u.toNat } := AW.gone cm upd_same (fun y hy => by rw [e3]; exact tt.le _ _ (AW.wat_of hy)) (by omega)
    have wm : X.W.m ∈ X.W.l := by simp [Wm.l, Wm.v]
    have mal : X.W.al ≠ X.W.m := by
      have nd := AW.nd
      unfold Wm.l Wm.v at nd
      simp only [List.nodup_cons, List.mem_cons, not_or] at nd
      exact nd.1.1
    have one : ∀ {a : Addr}, a ∉ X.W.l → a ∉ [X.W.m] := fun {a} n z => n (by rw [List.mem_singleton.mp z]; exact wm)
    have R2 := A1.frame S.st.rs cm fun a ha => one (S.st.dj a ha)
    have rw2 := S.st.rw_.ch cm (one S.st.r2)
    have fr2 := cm.at S.fr fun z => mal (List.mem_singleton.mp z)
    have to2 : X.W.x = [] ∨ ∃ t, X.W.x = [((Sum.inr "told" : Key), V.ref t)] ∧ upd H X.W.m (.dK (wD X.s.met ((u.toNat : Nat) : Int) X.W.al ++ X.W.x)) t = some (.lst []) ∧ t ∉ X.F ∧ t ∉ X.W.l ∧ t ≠ X.ro := S.st.to.imp id fun ⟨t, e, t1, t2, t3, t4⟩ => ⟨t, e, cm.at t1 (one t3), t2, t3, t4⟩
    try dsimp only
    generalize upd H X.W.m (.dK (wD X.s.met ((u.toNat : Nat) : Int) X.W.al ++ X.W.x)) = H2 at cm A2 R2 rw2 fr2 to2
    obtain ⟨_, dx, fs, hob, _, hfs⟩ := A1.inst R2
    refine ⟨_, rfl, X.p, dx, fs, rfl, hob, hfs _ (by simp [roomMs]), X.F, X.p, X.s, rfl, R2, S.st.fits, fun u' F3 H3 tu R3 gr3 c3 => ?_⟩
    obtain rfl : u' = u := tu.uniq tt
    rw [e2] at R3 ⊢
    rw [e3]
    obtain ⟨_, dx3, fs3, hob3, _, hfs3⟩ := A1.inst R3
    refine ⟨_, rfl, X.p, dx3, fs3, rfl, hob3, hfs3 _ (by simp [roomMs]), F3, X.p, _, rfl, R3, fun F4 H4 R4 gr4 c4' => ?_⟩
    have c4 : Ch H2 H4 X.F := c3.seq gr3 c4'
    have gr04 : Grow X.F F4 H2 := gr3.trans gr4 fun x e => c3.none x e
    have A4 := A2.ch c4 fun a ha z => S.st.dj a z ha
    refine ⟨_, rfl, _, true, rfl, .inl ⟨⟨_, rfl⟩, rfl⟩, true, rfl, iteT ⟨_, rfl, _, rfl, rfl, ?_⟩⟩
    rw [decide_eq_true rfl]
    refine ⟨true, rfl, iteT ⟨_, rfl, _, true, rfl, .inl ⟨⟨_, rfl⟩, rfl⟩, true, rfl, iteT ⟨_, rfl, _, rfl, X.W.m, _, rfl, A4.gG, _, _, rfl, rfl, rfl, ?_⟩⟩⟩
    rw [decide_eq_true rfl]
    have far : ∀ {a : Addr} {o : HO}, H2 a = some o → a ∉ X.F → a ∉ F4 := fun {a o} e n z => by
      rcases gr04 a z with z | z
      · exact n z
      · rw [e] at z; cases z
    refine k ⟨F4, X.p, X.W, X.ro, X.ts, { X.s with gone := u'.toNat }⟩ H4
      ⟨⟨R4, A4, rw2.ch c4 S.st.r1, gr04.apart S.st.dj A2.th, far rw2.at_ S.st.r1, S.st.r2, to2.imp id fun ⟨t, e, t1, t2, t3, t4⟩ => ⟨t, e, c4.at t1 t2, far t1 t2, t3, t4⟩, S.st.b1, S.st.b2, S.st.b3⟩, c4.at fr2 fun z => S.st.dj _ z (by simp [Wm.l])⟩
      ⟨rfl, rfl, rfl, rfl, rfl, fun a ha => ?_, (cm.mono fun a ha => by rw [List.mem_singleton.mp ha]; exact List.mem_append_right _ wm).trans (c4.mono fun a ha => List.mem_append_left _ ha), ⟨_, X.s.met, X.s.wat, rfl⟩, Nat.le_refl _⟩
    rcases List.mem_append.mp ha with h | h
    · rcases gr04 a h with z | z
      · exact .inl (List.mem_append_left _ z)
      · exact .inr (cm.none a z)
    · exact .inl (List.mem_append_right _ h)
end
end KL

namespace KL
open PySem L2 L2H LX KB
/-! ### the law's own: what is done to watchers -/
theorem WsAt.drop {H H' : Hp} {W : Wm} {s : Rm} (A : WsAt H W s) (n : Int) (c : Ch H H' [W.al]) (h1 : H' W.al = some (.dK (dropK W.wk (Sum.inl n)))) :
    WsAt H' { W with wl := dropA W.wl n, wk := dropK W.wk (Sum.inl n) } { s with wat := setF s.wat n none } := by
  have nd := A.nd
  unfold Wm.l Wm.v at nd
  have nd2 := nd
  simp only [List.nodup_cons, List.mem_cons, not_or] at nd
  obtain ⟨⟨n1, n2⟩, n3, an⟩ := nd
  have sub : ((dropA W.wl n).map (·.2.1)).Sublist (W.wl.map (·.2.1)) := List.filter_sublist.map _
  refine ⟨c.at A.di (by simp only [List.mem_singleton]; exact fun z => n1 z.symm), .inl h1, A.re.drop inl_inj n, fun y hy => ?_, ?_, dropA_nodup A.nw, nd2.sublist ((sub.cons₂ W.m).cons₂ W.al), fun y hy => A.kw y (List.mem_filter.mp hy).1, fun y hy => A.pk y (List.mem_filter.mp hy).1, fun y hy => A.tb y (List.mem_filter.mp hy).1, Nat.le_trans (dropA_len _ _) A.ln, A.gl⟩
  · have hy := (List.mem_filter.mp hy).1
    refine c.at (A.ws y hy) fun z => n2 ?_
    rw [← List.mem_singleton.mp z]
    exact List.mem_map.mpr ⟨y, hy, rfl⟩
  · funext j
    show setF s.wat n none j = (getA (dropA W.wl n) j).map (·.2)
    rw [getA_dropA, A.fw]
    unfold setF
    split <;> rfl
section
variable {P : Program} {w : World} {K : PySem.W.Frag} {mg : Str → Option Value} {base : Heap} {C : Addr} {kk : Kinds} {Rs : RsT}
theorem pull_go {H H' : Hp} {X : Rw} {F' : List Addr} {t : Addr} {n most : Int} {w1 w2 : Wt} (gr : Grow X.F F' H) (c : Ch H H' (X.F ++ X.W.v)) : GoW 0 H X H' ⟨F', X.p, { X.W with wl := goW X.W.wl n w1, x := [((Sum.inr "told" : Key), V.ref t)] }, X.ro, X.ts, pullM X.s n w2 most⟩ := by
  refine ⟨rfl, rfl, rfl, rfl, rfl, fun a ha => ?_, c.mono fun a ha => ?_, ⟨X.s.gone, X.s.met, _, rfl⟩, Nat.le_refl _⟩
  · rcases List.mem_append.mp ha with h | h
    · rcases gr a h with z | z
      · exact .inl (List.mem_append_left _ z)
      · exact .inr z
    · have h : a ∈ X.W.l := by
        have e := goW_l X.W n w1 [((Sum.inr "told" : Key), V.ref t)]
        rw [← e]; exact h
      exact .inl (List.mem_append_right _ h)
  · rcases List.mem_append.mp ha with h | h
    · exact List.mem_append_left _ h
    · exact List.mem_append_right _ (List.mem_cons_of_mem _ h)
/-- an entry is set, by the law and by the room -/
theorem RwSt.set (A1 : RoomApi P w K mg base C kk Rs hsL) {H H1 H2 : Hp} {X : Rw} {n : Int} {x : Addr} {w0 wn : Wt} {F' : List Addr} (S : RwSt Rs H X) (g : getA X.W.wl n = some (x, w0)) (c : Ch H H1 [x]) (hx : H1 x = some (.lst (wL wn))) (ep : wn.pre = w0.pre)
    (tb : (X.s.gone : Int) ≤ wn.had ∧ wn.had ≤ wn.told ∧ wn.told ≤ X.s.rows.length) (R2 : Rs F' H2 X.p { X.s with wat := setF X.s.wat n (some wn) }) (gr : Grow X.F F' H1) (c2 : Ch H1 H2 X.F) :
    RwSt Rs H2 ⟨F', X.p, { X.W with wl := goW X.W.wl n wn }, X.ro, X.ts, { X.s with wat := setF X.s.wat n (some wn) }⟩ ∧ GoW 0 H X H2 ⟨F', X.p, { X.W with wl := goW X.W.wl n wn }, X.ro, X.ts, { X.s with wat := setF X.s.wat n (some wn) }⟩ ∧ Ch H H2 (X.F ++ X.W.v) := by
  obtain ⟨_, _, _, xv, _⟩ := S.ws.at g
  have xl : x ∈ X.W.l := List.mem_cons_of_mem _ xv
  have lW : Wm.l { X.W with wl := goW X.W.wl n wn } = X.W.l := goW_l X.W n wn X.W.x
  have A1' := S.ws.go g c hx ep tb
  have A2 := A1'.ch c2 fun a ha z => S.dj a z (by rw [← lW]; exact ha)
  have one : ∀ {a : Addr}, a ∉ X.W.l → a ∉ [x] := fun {a} n z => n (by rw [List.mem_singleton.mp z]; exact xl)
  have rw2 := (S.rw_.ch c (one S.r2)).ch c2 S.r1
  have cc : Ch H H2 (X.F ++ X.W.v) := (c.mono fun a ha => by rw [List.mem_singleton.mp ha]; exact List.mem_append_right _ xv).trans (c2.mono fun a ha => List.mem_append_left _ ha)
  have exW : ∀ a ∈ X.W.l, ∃ o, H1 a = some o := fun a ha => A1'.th a (by rw [lW]; exact ha)
  have far : ∀ {a : Addr} {o : HO}, H a = some o → a ∉ X.F → a ∉ F' := fun {a o} e n z => by
    rcases gr a z with z | z
    · exact n z
    · have e2 := c.none a z
      rw [e] at e2; cases e2
  refine ⟨⟨R2, A2, rw2, fun a ha z => gr.apart S.dj exW a ha (by rw [← lW]; exact z), far S.rw_.at_ S.r1, fun z => S.r2 (by rw [← lW]; exact z), S.to.imp id fun ⟨t, e, t1, t2, t3, t4⟩ => ⟨t, e, c2.at (c.at t1 (one t3)) t2, far t1 t2, fun z => t3 (by rw [← lW]; exact z), t4⟩, S.b1, S.b2, S.b3⟩,
    ⟨rfl, rfl, rfl, rfl, rfl, fun a ha => ?_, cc.mono fun a ha => ?_, ⟨X.s.gone, X.s.met, _, rfl⟩, Nat.le_refl _⟩, cc⟩
  · rcases List.mem_append.mp ha with h | h
    · rcases gr a h with z | z
      · exact .inl (List.mem_append_left _ z)
      · exact .inr (c.none a z)
    · exact .inl (List.mem_append_right _ (by rw [← lW]; exact h))
  · rcases List.mem_append.mp ha with h | h
    · exact List.mem_append_left _ h
    · exact List.mem_append_right _ (List.mem_cons_of_mem _ h)
theorem al_far {Rs : RsT} {H : Hp} {X : Rw} (S : RwSt Rs H X) : X.W.al ∉ X.F ++ X.W.v := fun z => by
  rcases List.mem_append.mp z with z | z
  · exact S.dj _ z (by simp [Wm.l])
  · have nd := S.ws.nd
    unfold Wm.l at nd
    exact (List.nodup_cons.mp nd).1 z
theorem RwSt.after {Rs : RsT} {H H' : Hp} {X : Rw} {F' : List Addr} {t x : Addr} {n most : Int} {w0 : Wt} {u : HO} (S : RwSt Rs H X) (g : getA X.W.wl n = some (x, w0))
    (S' : RwSt Rs H' ⟨F', X.p, { X.W with wl := goW X.W.wl n { w0 with told := toldW X.s w0 most }, x := [((Sum.inr "told" : Key), V.ref t)] }, X.ro, X.ts, pullM X.s n w0 most⟩) (gr : Grow X.F F' H) (c : Ch H H' (X.F ++ X.W.v)) (hu : H X.W.al = some u) :
    ∃ X', RwSt Rs H' X' ∧ GoW 0 H X H' X' ∧ X'.W.wk = X.W.wk ∧ X'.W.wl.map (·.1) = X.W.wl.map (·.1) ∧ H' X.W.al = some u ∧ ∃ w', getA X'.W.wl n = some (x, w') :=
  ⟨_, S', pull_go gr c, rfl, goW_key _ _ _, c.at hu (al_far S), _, goW_get g⟩
def spWatchingL (Rs : RsT) : Sp := fun vs H Q _ => ∃ (X : Rw) (kind cell : Int), vs = [.ref X.p, .ref X.W.m, .ref X.ro, .int kind, .int cell] ∧ RwO Rs H X ∧ ∀ X' H', RwO Rs H' X' → GoW 0 H X H' X' → Q (.bl true) H'
theorem ok_watching {f : Addr} {fd : FuncData} (F : Fun K "_law_watching" "_law_watching" s_watching f fd) (cl : Cls K C) (A1 : RoomApi P w K mg base C kk Rs hsL) (LT : LTxt mg) (D1 : Def P w K mg base "_law_pulled" 9 p_pulled (spPulled Rs)) (D2 : Def P w K mg base "_law_trimmed" 9 p_trimmed (spTrimmed Rs)) (D3 : Def P w K mg base "_law_stranger" 9 p_stranger (spStranger Rs)) :
    FnOk P w K mg base CX0 10 f fd p_watching (spWatchingL Rs) := by
  obtain ⟨f1, fd1, g1, k1, b1, G1⟩ := D1.ex
  obtain ⟨f2, fd2, g2, k2, b2, G2⟩ := D2.ex
  obtain ⟨f3, fd3, g3, k3, b3, G3⟩ := D3.ex
  obtain ⟨fC, fdC, psC, mC, bC, GC⟩ := (A1.confirm (by decide +kernel)).ex
  obtain ⟨fB, fdB, psB, mB, bB, GB⟩ := (A1.broken (by decide +kernel)).ex
  obtain ⟨fV, fdV, psV, mV, bV, GV⟩ := (A1.leave (by decide +kernel)).ex
  refine F.ok sc_watching (fun vs H Q E h => ?_) (fun cdv A outer s H vs Q E hr h => ?_)
  · obtain ⟨X, kind, cell, rfl, _⟩ := h
    rfl
  · obtain ⟨X, kind, cell, rfl, S, k⟩ := h
    have hu := hu_of hr
    have R : ∀ j, j ≤ 9 → Room j _ := fun j h => hr.mono h
    refine ⟨_, pss_cons (ps_set (i := 5) sc_watching.nd rfl (Or.inl rfl) (pe_op op_mod (pv 4) (pe_op op_add (pe_dget hu (pv 1) pe_str (fun _ _ => rfl)) pe_int)))
      (C8.pss_cut (ps_if (pt_cmpR op_eq (pe_op op_mod (pe_op op_fdiv (pv 3) pe_int) pe_int) pe_int (nomark _)) (pss_one (ps_set (i := 5) sc_watching.nd rfl (Or.inl rfl) (pe_ix ix_list (pe_lst (pa_cons (pe_un un_neg pe_int) (pa_cons (pe_un un_neg pe_int) (pa_cons (pe_op op_pow pe_int pe_int) pa_nil)))) (pe_op op_mod (pv 4) pe_int) (fun _ _ => rfl)))) pss_nil)
      (C8.pss_cut (ps_if (PW.pt (pw_and (pt_cmpR op_eq (pe_op op_mod (pv 3) pe_int) pe_int (nomark _)) (pw_and1 (pt_cmpR op_lt (pe_op op_mod (pe_op op_fdiv (pv 3) pe_int) pe_int) pe_int (nomark _)))))
        (pss_one (ps_lock (ps_for PassesOwn.never rfl (pi_keys (pe_dget hu (pv 1) pe_str (fun _ _ => rfl))) (pg_name (i := 6) sc_watching.nd rfl (Or.inl rfl))
          (pss_cons (ps_if (pt_not (pt_val (pe_call G1 (R 9 (by decide)) rfl g1 k1 b1 .nil pass0 (pa_cons (pv 0) (pa_cons (pv 1) (pa_cons (pv 2) (pa_cons (pv 6) (pa_cons (pe_op op_add (pe_callB call_len_seq (by rfl) LT.len PySem.boot_len (pa_cons (pv 2) pa_nil)) pe_int) pa_nil)))))))) (pss_one (ps_ret pe_bl)) pss_nil)
          (pss_one (ps_if (pt_cmpR op_eq (pe_op op_mod (pe_op op_fdiv (pv 3) pe_int) pe_int) pe_int (nomark _))
            (pss_cons (ps_asg (pe_ix ix_list (pe_dget hu (pe_dget hu (pv 1) pe_str (fun _ _ => rfl)) (pv 6) (fun _ _ => rfl)) pe_int (fun _ _ => rfl)) (pg_sub (pe_dget hu (pe_dget hu (pv 1) pe_str (fun _ _ => rfl)) (pv 6) (fun _ _ => rfl)) pe_int set_list))
            (pss_one (ps_expr (pe_meth (E := E0) (pv 0) cl mC GC (R 8 (by decide)) bC .nil (passes_call takes0 (fun _ _ _ _ h => h)) (pa_cons (pv 6) pa_nil))))) pss_nil)))))) pss_nil)
      (pss_cons (ps_if (pt_cmpR op_eq (pe_op op_mod (pv 3) pe_int) pe_int (nomark _)) (pss_one (ps_ret (pe_call G2 (R 9 (by decide)) rfl g2 k2 b2 .nil pass0 (pa_cons (pv 0) (pa_cons (pv 1) (pa_cons (pv 2) pa_nil)))))) pss_nil)
      (pss_cons (ps_if (pt_cmp (pc_dnotin hu (pv 5) (pe_dget hu (pv 1) pe_str (fun _ _ => rfl)))) (pss_one (ps_ret (pe_call G3 (R 9 (by decide)) rfl g3 k3 b3 .nil pass0 (pa_cons (pv 0) (pa_cons (pv 5) (pa_cons (pv 3) pa_nil)))))) pss_nil)
      (pss_cons (ps_if (pt_cmpR op_lt (pe_op op_mod (pv 3) pe_int) pe_int (nomark _)) (pss_one (ps_ret (pe_call G1 (R 9 (by decide)) rfl g1 k1 b1 .nil pass0 (pa_cons (pv 0) (pa_cons (pv 1) (pa_cons (pv 2) (pa_cons (pv 5)
          (pa_cons (pe_ix ix_list (pe_lst (pa_cons (pe_op op_mod (pe_op op_fdiv (pv 3) pe_int) pe_int) (pa_cons (pe_op op_mod (pe_op op_fdiv (pv 3) pe_int) pe_int) pa_nil))) (pe_op op_mod (pe_op op_fdiv (pv 4) pe_int) pe_int) (fun _ _ => rfl)) pa_nil)))))))) pss_nil)
      (pss_cons (ps_set (i := 6) sc_watching.nd rfl (Or.inl rfl) (pe_dget hu (pe_dget hu (pv 1) pe_str (fun _ _ => rfl)) (pv 5) (fun _ _ => rfl)))
      (C8.pss_cut (ps_if (PW.pt (pw_and (pt_cmpR op_eq (pe_op op_mod (pv 3) pe_int) pe_int (nomark _)) (pw_and1 (pt_cmpR op_eq (pe_op op_mod (pe_op op_fdiv (pv 3) pe_int) pe_int) pe_int (nomark _)))))
        (pss_cons (ps_expr (pe_dpop1 (pe_dget hu (pv 1) pe_str (fun _ _ => rfl)) (pv 5) ⟨by rfl, by rfl, by rfl, by rfl⟩)) (pss_one (ps_ret (pe_cmp (pc_isN (pe_meth (E := E0) (pv 0) cl mV GV (R 8 (by decide)) bV .nil (passes_call takes0 (fun _ _ _ _ h => h)) (pa_cons (pv 5) pa_nil))))))) pss_nil)
      (pss_cons (ps_if (pt_cmpR op_eq (pe_op op_mod (pv 3) pe_int) pe_int (nomark _))
        (pss_cons (ps_asg (pe_ix ix_list (pv 6) pe_int (fun _ _ => rfl)) (pg_sub (pv 6) pe_int set_list)) (pss_one (ps_ret (pe_cmp (pc_isN (pe_meth (E := E0) (pv 0) cl mB GB (R 8 (by decide)) bB .nil (passes_call takes0 (fun _ _ _ _ h => h)) (pa_cons (pv 5) pa_nil))))))) pss_nil)
      (pss_cons (ps_asg (pe_ix ix_list (pv 6) pe_int (fun _ _ => rfl)) (pg_sub (pv 6) pe_int set_list))
      (pss_one (ps_ret (pe_cmp (pc_isN (pe_meth (E := E0) (pv 0) cl mC GC (R 8 (by decide)) bC .nil (passes_call takes0 (fun _ _ _ _ h => h)) (pa_cons (pv 5) pa_nil))))))))))))))), ?_⟩
    have AW0 := S.st.ws
    refine ⟨_, rfl, _, rfl, X.W.m, _, rfl, AW0.gM, _, _, rfl, rfl, _, _, rfl, rfl, (by show (0 : Int) < (X.s.met : Int) + 2; omega), ?_⟩
    refine ⟨fun σ H' => ∃ n : Int, σ = [some (.ref X.p), some (.ref X.W.m), some (.ref X.ro), some (.int kind), some (.int cell), some (.int n), none] ∧ Same H H', ?_, ?_⟩
    · refine ⟨_, rfl, _, _, rfl, rfl, ⟨by decide, by decide⟩, _, _, rfl, rfl, (by show (0 : Int) < 11; decide), rfl, _, rfl, ?_⟩
      refine ite2 (fun _ => ?_) fun _ => ⟨_, rfl, Same.refl _⟩
      refine ⟨_, rfl, _, rfl, _, _, rfl, rfl, ⟨by decide, by decide, by decide⟩, (by show 3 ≤ sizeLine; decide), fun l hl => ?_⟩
      obtain ⟨t, _, e⟩ := at_ints (ns := [-1, -2, 10 ^ 12]) (z := cell % 3) (by omega) (by show cell % 3 < 3; omega)
      exact ⟨_, rfl, _, _, rfl, rfl, (by show (0 : Int) < 3; decide), l, _, _, _, rfl, rfl, SqL.of upd_same, e, t, rfl, same_new hl⟩
    rintro σ H1 ⟨n, rfl, s1⟩
    have S1 : RwO Rs H1 X := S.same A1 s1
    have G1' : GoW 0 H X H1 X := (GoW.refl H X).same s1
    clear AW0
    -- all of them pull, and perhaps confirm
    refine ⟨fun σ H' => ∃ (X' : Rw) (y6 : Option V), σ = [some (.ref X'.p), some (.ref X'.W.m), some (.ref X'.ro), some (.int kind), some (.int cell), some (.int n), y6] ∧ RwO Rs H' X' ∧ GoW 0 H X H' X', ?_, ?_⟩
    · refine ⟨_, rfl, _, _, rfl, rfl, (by show (0 : Int) < 5; decide), rfl, _, rfl, ?_⟩
      refine ite2 (fun _ => ?_) fun _ => ⟨X, none, rfl, S1, G1'⟩
      refine ⟨_, rfl, _, _, rfl, rfl, ⟨by decide, by decide⟩, _, _, rfl, rfl, (by show (0 : Int) < 3; decide), _, _, rfl, rfl, _, rfl, ?_⟩
      refine ite2 (fun _ => ?_) fun _ => ⟨X, none, rfl, S1, G1'⟩
      have al : X.W.al ∈ X.A := List.mem_append_right _ (by simp [Wm.l])
      refine ⟨X.W.al, _, S1.fr, trivial, fun od => ?_⟩
      have SL := S1.st.swap A1 (u := .frz od (.dK X.W.wk)) S1.fr (fun xs e => by cases e) (.inr ⟨od, rfl⟩)
      have hL : upd H1 X.W.al (.frz od (.dK X.W.wk)) X.W.al = some (.frz od (.dK X.W.wk)) := upd_same
      have cL : Ch H1 (upd H1 X.W.al (.frz od (.dK X.W.wk))) X.A := (Ch.refl _ _).mut al S1.fr (fun xs e => by cases e)
      generalize upd H1 X.W.al (.frz od (.dK X.W.wk)) = HL at SL hL cL
      have lv : X.W.wk.length = X.W.wl.length := SL.ws.re.len
      refine ⟨_, rfl, X.W.m, _, rfl, SL.ws.gA, X.W.al, od, rfl, .inl ⟨_, hL, ?_⟩⟩
      refine for_it walk_keys (fun i σ H' => ∃ (X' : Rw) (y6 : Option V), σ = [some (.ref X'.p), some (.ref X'.W.m), some (.ref X'.ro), some (.int kind), some (.int cell), some (.int n), y6] ∧ RwSt Rs H' X' ∧ GoW 0 HL X H' X' ∧ H' X.W.al = some (.frz od (.dK X.W.wk)) ∧ X'.W.wk = X.W.wk ∧ X'.W.wl.map (·.1) = X.W.wl.map (·.1)) ⟨X, none, rfl, SL, GoW.refl _ _, hL, rfl, rfl⟩ ?_ ?_ ?_
      · rintro i σ H' _ ⟨_, _, _, _, _, h, _⟩
        exact h
      · rintro i x σ H2a H2 hi ⟨X2, y6, rfl, S2, G2', h2, ew2, ek2⟩ ⟨rfl, ky, vv, ek, rfl⟩
        obtain ⟨y, ey, e1, _⟩ := dRel_at SL.ws.re ek
        dsimp only at e1
        subst e1
        obtain ⟨y2, hy2, ey2⟩ : ∃ y2 ∈ X2.W.wl, y2.1 = y.1 := by
          have m : y.1 ∈ X2.W.wl.map (·.1) := by
            rw [ek2]
            exact List.mem_map.mpr ⟨y, List.mem_of_getElem? ey, rfl⟩
          obtain ⟨z, hz, e⟩ := List.mem_map.mp m
          exact ⟨z, hz, e⟩
        have g2 := getA_of S2.ws.nw hy2
        rw [ey2] at g2
        have b1' := S2.b1
        refine ⟨_, rfl, _, rfl, _, rfl, _, rfl, _, rfl, X2.ro, _, rfl, .inl (SqL.of S2.rw_.at_), _, _, rfl, rfl, X2, y.1, _, y2.2.1, y2.2.2, rfl, S2, ?_, g2, fun F3 t3 H3 S3 gr3 c3 => ⟨true, rfl, iteF ?_⟩⟩
        · rw [List.length_map]
          omega
        have h2' : H2 X2.W.al = some (.frz od (.dK X.W.wk)) := by rw [G2'.al]; exact h2
        obtain ⟨X3, S3', G3', ew3, ek3, h3, w3, g3⟩ := S2.after g2 S3 gr3 c3 h2'
        rw [ew2] at ew3
        rw [ek2] at ek3
        rw [G2'.al] at h3
        rw [← G3'.p, ← G3'.m, ← G3'.ro]
        have G3 := G2'.trans G3'
        have S3 := S3'
        generalize y2.2.1 = x3 at g3
        clear hy2 ey2 g2 S2 G2' G3' h2 h2' ew2 ek2 gr3 c3 S3'
        refine ⟨_, rfl, _, _, rfl, rfl, ⟨by decide, by decide⟩, _, _, rfl, rfl, (by show (0 : Int) < 3; decide), rfl, _, rfl, ?_⟩
        refine ite2 (fun _ => ?_) fun _ => ⟨X3, _, rfl, S3, G3, h3, ew3, ek3⟩
        obtain ⟨ga, hx, ew, xv, mx⟩ := S3.ws.at g3
        have tb := S3.ws.tb _ mx
        refine ⟨_, rfl, X3.W.m, _, rfl, S3.ws.gA, _, rfl, X3.W.al, _, rfl, ga, x3, _, 2, .int w3.told, rfl, rfl, SqL.of hx, rfl, _, rfl, X3.W.m, _, rfl, S3.ws.gA, _, rfl, X3.W.al, _, rfl, ga, x3, _, 1, 1, rfl, rfl, hx, rfl, ?_⟩
        have cx : Ch H3 (upd H3 x3 (.lst (wL { w3 with had := w3.told }))) [x3] := (Ch.refl _ _).mut (List.mem_singleton.mpr rfl) hx (fun xs e => by cases e)
        have hx4 : upd H3 x3 (.lst (wL { w3 with had := w3.told })) x3 = some (.lst (wL { w3 with had := w3.told })) := upd_same
        have R4 := A1.frame S3.rs cx fun a ha z => S3.dj a ha (by rw [List.mem_singleton.mp z]; exact List.mem_cons_of_mem _ xv)
        obtain ⟨_, dx4, fs4, hob4, _, hfs4⟩ := A1.inst R4
        refine ⟨_, rfl, X3.p, dx4, fs4, rfl, hob4, hfs4 _ (by simp [roomMs]), _, rfl, X3.F, X3.p, y.1, _, X3.s, rfl, rfl, R4, S3.fits, (fun e => by rw [ew] at e; cases e), fun w' ew' F5 H5 R5 gr5 c5 => ?_⟩
        obtain rfl : w' = w3 := by rw [ew] at ew'; exact (Option.some.inj ew').symm
        obtain ⟨S5, G5, cc⟩ := S3.set A1 (wn := { w' with had := w'.told }) g3 cx hx4 rfl ⟨Int.le_trans tb.1 tb.2.1, Int.le_refl _, tb.2.2⟩ R5 gr5 c5
        refine ⟨⟨F5, X3.p, { X3.W with wl := goW X3.W.wl y.1 { w' with had := w'.told } }, X3.ro, X3.ts, { X3.s with wat := setF X3.s.wat y.1 (some { w' with had := w'.told }) }⟩, _, rfl, S5, G3.trans G5, ?_, ew3, ?_⟩
        · rw [← G3.al] at h3 ⊢
          exact cc.at h3 (al_far S3)
        · show (goW X3.W.wl y.1 _).map (·.1) = _
          rw [goW_key, ek3]
      · rintro σ H2 ⟨X2, y6, rfl, S2, G2', h2, ew2, ek2⟩
        refine ⟨h2, X2, y6, rfl, ⟨?_, ?_⟩, G2'.p, G2'.ro, G2'.ts, G2'.m, G2'.al, fun a ha => ?_, ?_, G2'.sr, G2'.me⟩
        · have q := S2.swap A1 (u := .dK X2.W.wk) (u0 := .frz od (.dK X.W.wk)) (by rw [G2'.al]; exact h2) (fun xs e => by cases e) (.inl rfl)
          rw [G2'.al, ew2] at q
          exact q
        · rw [G2'.al, ew2]
          exact upd_same
        · exact (G2'.g a ha).imp id fun e => s1.free (cL.none _ e)
        · exact (((Ch.of s1 _).trans cL).trans G2'.c).trans ((Ch.refl _ _).mut al h2 (fun xs e => by cases e))
    rintro σ H2 ⟨X2, y6, rfl, S2, G2'⟩
    have AW := S2.st.ws
    have fin : ∀ {X' H'}, RwO Rs H' X' → GoW 0 H2 X2 H' X' → Q (.bl true) H' := fun S' G' => k _ _ S' (G2'.trans G')
    clear k S1 G1' s1 S G2'
    refine ⟨_, rfl, _, _, rfl, rfl, (by show (0 : Int) < 5; decide), rfl, _, rfl, ?_⟩
    refine ite2 (fun _ => ?_) fun _ => ?_
    · exact ⟨_, rfl, _, rfl, _, rfl, X2, rfl, S2, fun X' H' S' G' => fin S' G'⟩
    refine ⟨_, rfl, _, rfl, X2.W.m, _, rfl, AW.gA, X2.W.al, _, rfl, DGet.k (k := Sum.inl n) S2.fr, _, rfl, ?_⟩
    rw [AW.in_]
    cases ew : X2.s.wat n with
    | none => exact iteT ⟨_, rfl, _, rfl, _, rfl, X2, n, kind, rfl, S2, ew, fun X' H' S' G' => fin S' G'⟩
    | some w2 =>
      obtain ⟨x, mx, gx⟩ := AW.of_wat ew
      obtain ⟨ga, hx, _, xv, _⟩ := AW.at gx
      have tb := AW.tb _ mx
      obtain ⟨_, dx2, fs2, hob2, _, hfs2⟩ := A1.inst S2.st.rs
      refine iteF ⟨_, rfl, _, _, rfl, rfl, (by show (0 : Int) < 5; decide), _, _, rfl, rfl, _, rfl, ?_⟩
      refine ite2 (fun _ => ?_) fun _ => ?_
      · refine ⟨_, rfl, _, rfl, _, rfl, _, rfl, _, rfl, _, _, rfl, rfl, ⟨by decide, by decide⟩, _, _, rfl, rfl, (by show (0 : Int) < 4; decide), _, rfl, _, _, rfl, rfl, ⟨by decide, by decide⟩, _, _, rfl, rfl, (by show (0 : Int) < 97; decide), (by show 2 ≤ sizeLine; decide), fun l hl => ?_⟩
        obtain ⟨mo, hmo, e⟩ := at_ints (ns := [kind / 5 % 4, kind / 5 % 97]) (z := cell / 3 % 2) (by omega) (by show cell / 3 % 2 < 2; omega)
        have m0 : 0 ≤ mo := by
          simp only [List.mem_cons, List.not_mem_nil, or_false] at hmo
          omega
        have s3 := same_new (o := .lst [V.int (kind / 5 % 4), V.int (kind / 5 % 97)]) hl
        have S3 := S2.same A1 s3
        refine ⟨_, rfl, _, _, rfl, rfl, ⟨by decide, by decide⟩, _, _, rfl, rfl, (by show (0 : Int) < 2; decide), l, _, _, _, rfl, rfl, SqL.of upd_same, e, X2, n, mo, x, w2, rfl, S3.st, m0, gx, fun F' t H' S' gr c => ?_⟩
        obtain ⟨X4, S4, G4, ew4, _, h4, _⟩ := S3.st.after gx S' gr c S3.fr
        refine fin ⟨S4, by rw [G4.al, ew4]; exact h4⟩ ?_
        exact ((GoW.refl H2 X2).same s3).trans G4
      refine ⟨_, rfl, X2.W.m, _, rfl, AW.gA, _, rfl, X2.W.al, _, rfl, ga, ?_⟩
      refine ⟨fun σ H' => σ = [some (.ref X2.p), some (.ref X2.W.m), some (.ref X2.ro), some (.int kind), some (.int cell), some (.int n), some (.ref x)] ∧ H2 = H', ?_, ?_⟩
      · refine ⟨_, rfl, _, _, rfl, rfl, (by show (0 : Int) < 5; decide), rfl, _, rfl, ?_⟩
        refine ite2 (fun _ => ?_) fun _ => ⟨rfl, rfl⟩
        refine ⟨_, rfl, _, _, rfl, rfl, ⟨by decide, by decide⟩, _, _, rfl, rfl, (by show (0 : Int) < 4; decide), rfl, _, rfl, ?_⟩
        refine ite2 (fun _ => ?_) fun _ => ⟨rfl, rfl⟩
        obtain ⟨v, e1, e2⟩ := AW.re.some_ inl_inj gx
        refine ⟨_, rfl, X2.W.m, _, rfl, AW.gA, X2.W.al, rfl, .inl ⟨_, .inl S2.fr⟩, _, rfl, X2.W.wk, Sum.inl n, v, S2.fr, rfl, e1, ?_⟩
        have al : X2.W.al ∈ X2.W.l := by simp [Wm.l]
        have ca : Ch H2 (upd H2 X2.W.al (.dK (dropK X2.W.wk (Sum.inl n)))) [X2.W.al] := (Ch.refl _ _).mut (List.mem_singleton.mpr rfl) S2.fr (fun xs e => by cases e)
        have A3 := AW.drop n ca upd_same
        have fr3 : upd H2 X2.W.al (.dK (dropK X2.W.wk (Sum.inl n))) X2.W.al = some (.dK (dropK X2.W.wk (Sum.inl n))) := upd_same
        have one : ∀ {a : Addr}, a ∉ X2.W.l → a ∉ [X2.W.al] := fun {a} n z => n (by rw [List.mem_singleton.mp z]; exact al)
        have R3 := A1.frame S2.st.rs ca fun a ha => one (S2.st.dj a ha)
        have rw3 := S2.st.rw_.ch ca (one S2.st.r2)
        generalize upd H2 X2.W.al (.dK (dropK X2.W.wk (Sum.inl n))) = H3 at ca A3 fr3 R3 rw3
        obtain ⟨_, dx3, fs3, hob3, _, hfs3⟩ := A1.inst R3
        refine ⟨_, rfl, X2.p, dx3, fs3, rfl, hob3, hfs3 _ (by simp [roomMs]), _, rfl, X2.F, X2.p, n, _, X2.s, rfl, rfl, R3, S2.st.fits, (fun e => by rw [ew] at e; cases e), fun w' ew' F4 H4 R4 gr4 c4 => ?_⟩
        have sub : ∀ a, a ∈ Wm.l { X2.W with wl := dropA X2.W.wl n, wk := dropK X2.W.wk (Sum.inl n) } → a ∈ X2.W.l := fun a ha => by
          have sb : ((dropA X2.W.wl n).map (·.2.1)).Sublist (X2.W.wl.map (·.2.1)) := List.filter_sublist.map _
          exact ((sb.cons₂ X2.W.m).cons₂ X2.W.al).subset ha
        have exW : ∀ a ∈ X2.W.l, ∃ o, H3 a = some o := fun a ha => let ⟨o, e⟩ := AW.th a ha; ca.th a o e
        have far : ∀ {a : Addr} {o : HO}, H2 a = some o → a ∉ X2.F → a ∉ F4 := fun {a o} e n z => by
          rcases gr4 a z with z | z
          · exact n z
          · have e2 := ca.none a z
            rw [e] at e2; cases e2
        show Q (.bl true) H4
        refine fin (X' := ⟨F4, X2.p, { X2.W with wl := dropA X2.W.wl n, wk := dropK X2.W.wk (Sum.inl n) }, X2.ro, X2.ts, { X2.s with wat := setF X2.s.wat n none }⟩)
          ⟨⟨R4, A3.ch c4 fun a ha z => S2.st.dj a z (sub a ha), rw3.ch c4 S2.st.r1, fun a ha z => gr4.apart S2.st.dj exW a ha (sub a z), far S2.st.rw_.at_ S2.st.r1, fun z => S2.st.r2 (sub _ z), S2.st.to.imp id fun ⟨t, e, t1, t2, t3, t4⟩ => ⟨t, e, c4.at (ca.at t1 (one t3)) t2, far t1 t2, fun z => t3 (sub _ z), t4⟩, S2.st.b1, S2.st.b2, S2.st.b3⟩, c4.at fr3 fun z => S2.st.dj _ z al⟩
          ⟨rfl, rfl, rfl, rfl, rfl, fun a ha => ?_, (ca.mono fun a ha => by rw [List.mem_singleton.mp ha]; exact List.mem_append_right _ al).trans (c4.mono fun a ha => List.mem_append_left _ ha), ⟨X2.s.gone, X2.s.met, _, rfl⟩, Nat.le_refl _⟩
        rcases List.mem_append.mp ha with h | h
        · rcases gr4 a h with z | z
          · exact .inl (List.mem_append_left _ z)
          · exact .inr (ca.none a z)
        · exact .inl (List.mem_append_right _ (sub a h))
      rintro σ H3 ⟨rfl, rfl⟩
      have step : ∀ (wn : Wt) {H3 : Hp}, Ch H2 H3 [x] → H3 x = some (.lst (wL wn)) → wn.pre = w2.pre → ((X2.s.gone : Int) ≤ wn.had ∧ wn.had ≤ wn.told ∧ wn.told ≤ X2.s.rows.length) → Rs X2.F H3 X2.p X2.s ∧
          ∀ {F4 H4}, Rs F4 H4 X2.p { X2.s with wat := setF X2.s.wat n (some wn) } → Grow X2.F F4 H3 → Ch H3 H4 X2.F → Q (.bl true) H4 := fun wn {H3} cx hx3 ep tbn => by
        refine ⟨A1.frame S2.st.rs cx fun a ha z => S2.st.dj a ha (by rw [List.mem_singleton.mp z]; exact List.mem_cons_of_mem _ xv), fun {F4 H4} R4 gr4 c4 => ?_⟩
        obtain ⟨S5, G5, cc⟩ := S2.st.set A1 gx cx hx3 ep tbn R4 gr4 c4
        exact fin ⟨S5, cc.at S2.fr (al_far S2.st)⟩ G5
      refine ⟨_, rfl, _, _, rfl, rfl, (by show (0 : Int) < 5; decide), rfl, _, rfl, ?_⟩
      refine ite2 (fun _ => ?_) fun _ => ?_
      · refine ⟨_, rfl, x, _, 1, .int w2.had, rfl, rfl, SqL.of hx, rfl, _, rfl, x, _, 2, 2, rfl, rfl, hx, rfl, ?_⟩
        have cx : Ch H2 (upd H2 x (.lst (wL { w2 with told := w2.had }))) [x] := (Ch.refl _ _).mut (List.mem_singleton.mpr rfl) hx (fun xs e => by cases e)
        obtain ⟨R3, go⟩ := step { w2 with told := w2.had } cx upd_same rfl ⟨tb.1, Int.le_refl _, Int.le_trans tb.2.1 tb.2.2⟩
        obtain ⟨_, dx3, fs3, hob3, _, hfs3⟩ := A1.inst R3
        refine ⟨_, rfl, X2.p, dx3, fs3, rfl, hob3, hfs3 _ (by simp [roomMs]), _, rfl, X2.F, X2.p, n, _, X2.s, rfl, rfl, R3, S2.st.fits, (fun e => by rw [ew] at e; cases e), fun w' ew' F4 H4 R4 gr4 c4 => ?_⟩
        obtain rfl : w' = w2 := by rw [ew] at ew'; exact (Option.some.inj ew').symm
        exact go R4 gr4 c4
      · refine ⟨_, rfl, x, _, 2, .int w2.told, rfl, rfl, SqL.of hx, rfl, _, rfl, x, _, 1, 1, rfl, rfl, hx, rfl, ?_⟩
        have cx : Ch H2 (upd H2 x (.lst (wL { w2 with had := w2.told }))) [x] := (Ch.refl _ _).mut (List.mem_singleton.mpr rfl) hx (fun xs e => by cases e)
        obtain ⟨R3, go⟩ := step { w2 with had := w2.told } cx upd_same rfl ⟨Int.le_trans tb.1 tb.2.1, Int.le_refl _, tb.2.2⟩
        obtain ⟨_, dx3, fs3, hob3, _, hfs3⟩ := A1.inst R3
        refine ⟨_, rfl, X2.p, dx3, fs3, rfl, hob3, hfs3 _ (by simp [roomMs]), _, rfl, X2.F, X2.p, n, _, X2.s, rfl, rfl, R3, S2.st.fits, (fun e => by rw [ew] at e; cases e), fun w' ew' F4 H4 R4 gr4 c4 => ?_⟩
        obtain rfl : w' = w2 := by rw [ew] at ew'; exact (Option.some.inj ew').symm
        exact go R4 gr4 c4
end
end KL

namespace KL
open PySem L2 L2H LX KB
/-! ### law_k08: a room, its tables and its watchers' table, and another room beside -/
structure Pool8 (H : Hp) (q : Addr) (zs : List Str) : Prop where
  at_ : H q = some (.lst (zs.map V.str))
  six : zs.length = 6
  ok : ∀ z ∈ zs, TOk 60 z
structure R8 (Rs : RsT) (H0 H : Hp) (n : Nat) (Y : Ro) (W : Wm) (q : Addr) (zs : List Str) (Fo : List Addr) (po : Addr) (so : Rm) : Prop where
  at_ : RoAt Rs H n Y
  nu : Num Y.s.rows
  ws : WsAt H W Y.s
  fr : H W.al = some (.dK W.wk)
  d1 : ∀ a ∈ Y.O, a ∉ W.l
  to : W.x = [] ∨ ∃ t, W.x = [((Sum.inr "told" : Key), V.ref t)] ∧ H t = some (.lst []) ∧ t ∉ Y.O ∧ t ∉ W.l
  pl : Pool8 H q zs
  q1 : q ∉ Y.O
  q2 : q ∉ W.l
  ot : Rs Fo H po so
  d2 : ∀ a ∈ Fo, a ∉ Y.O ∧ a ∉ W.l
  old : Same H0 H
  no : ∀ a ∈ Y.O, H0 a = none
  nw : ∀ a ∈ W.l, H0 a = none
def X8 (Y : Ro) (W : Wm) : Rw := ⟨Y.F, Y.p, W, Y.M.ro, Y.M.ts, Y.s⟩
theorem ro_in (M : Mm) : M.ro ∈ M.l := by simp [Mm.l]
section
variable {P : Program} {w : World} {K : PySem.W.Frag} {mg : Str → Option Value} {base : Heap} {C : Addr} {kk : Kinds} {Rs : RsT} {H0 H : Hp} {n : Nat} {Y : Ro} {W : Wm} {q : Addr} {zs : List Str} {Fo : List Addr} {po : Addr} {so : Rm}
theorem R8.rw_ (A : R8 Rs H0 H n Y W q zs Fo po so) (hn : n ≤ 200) : RwO Rs H (X8 Y W) := by
  have b1 := A.at_.n1
  have b4 := A.at_.n4
  have b5 := A.at_.n5
  have bn : Y.M.n Y.s = Y.s.rows.length + Y.M.hl.length := rfl
  have ror : Y.M.ro ∈ Y.O := List.mem_append_right _ (ro_in _)
  refine ⟨⟨A.at_.rs, A.ws, ⟨A.at_.md.ro, A.at_.md.rr, A.at_.md.ok, A.nu⟩, fun a ha => A.d1 a (List.mem_append_left _ ha), fun z => A.at_.dj _ z (ro_in _), A.d1 _ ror, A.to.imp id fun ⟨t, e, t1, t2, t3⟩ => ⟨t, e, t1, fun z => t2 (List.mem_append_left _ z), t3, fun z => t2 (by rw [z]; exact ror)⟩, by show Y.s.rows.length ≤ 500; omega, by show Y.s.met ≤ 500; omega, by show Y.s.given ≤ 500; omega⟩, A.fr⟩
theorem R8.goW (A1 : RoomApi P w K mg base C kk Rs hsL) {H' : Hp} {X' : Rw} {d : Nat} (A : R8 Rs H0 H n Y W q zs Fo po so) (S' : RwO Rs H' X') (G : GoW d H (X8 Y W) H' X') : R8 Rs H0 H' (n + d) ⟨X'.F, Y.p, Y.M, X'.s⟩ X'.W q zs Fo po so := by
  obtain ⟨g, m, wt, es⟩ := G.sr
  have es : X'.s = { Y.s with gone := g, met := m, wat := wt } := es
  have me := G.me
  have inA : ∀ {a : Addr}, a ∈ (X8 Y W).A → a ∈ Y.F ∨ a ∈ W.l := fun {a} h => List.mem_append.mp h
  have MA : ∀ {a : Addr}, a ∈ Y.M.l → a ∉ (X8 Y W).A := fun {a} ha z => by
    rcases inA z with z | z
    · exact A.at_.dj a z ha
    · exact A.d1 a (List.mem_append_right _ ha) z
  have far : ∀ {a : Addr} {o : HO}, H a = some o → a ∉ (X8 Y W).A → a ∉ X'.A := fun {a o} e n z => by
    rcases G.g a z with z | z
    · exact n z
    · rw [e] at z; cases z
  have exM : ∀ {a : Addr}, a ∈ Y.M.l → ∃ o, H a = some o := fun {a} ha => A.at_.th A1 a (List.mem_append_right _ ha)
  have MA' : ∀ {a : Addr}, a ∈ Y.M.l → a ∉ X'.A := fun {a} ha => let ⟨o, e⟩ := exM ha; far e (MA ha)
  have md0 := A.at_.md.ch G.c fun a ha => MA ha
  have md : MdAt H' Y.M X'.s := by
    rw [es]
    exact ⟨md0.di, md0.sp, md0.en, md0.he, md0.ro, md0.rs, md0.re, md0.rh, md0.rr, md0.fs, md0.fe, md0.fh, md0.ne, md0.nh, md0.nd, md0.ok, md0.kv, md0.nx, md0.lx⟩
  have rs : Rs X'.F H' Y.p X'.s := by
    have q := S'.st.rs
    rw [G.p] at q
    exact q
  have b5 := A.at_.n5
  have me2 : X'.s.met ≤ Y.s.met + d := me
  have e1 : X'.s.rows = Y.s.rows := by rw [es]
  have qA : q ∉ (X8 Y W).A := fun z => by
    rcases inA z with z | z
    · exact A.q1 (List.mem_append_left _ z)
    · exact A.q2 z
  have FoA : ∀ {a : Addr}, a ∈ Fo → a ∉ (X8 Y W).A := fun {a} ha z => by
    rcases inA z with z | z
    · exact (A.d2 a ha).1 (List.mem_append_left _ z)
    · exact (A.d2 a ha).2 z
  have H0A : ∀ a ∈ (X8 Y W).A, H0 a = none := fun a ha => by
    rcases inA ha with z | z
    · exact A.no a (List.mem_append_left _ z)
    · exact A.nw a z
  have no' : ∀ a ∈ X'.A, H0 a = none := fun a ha => by
    rcases G.g a ha with z | z
    · exact H0A a z
    · exact A.old.free z
  have to' : X'.W.x = [] ∨ ∃ t, X'.W.x = [((Sum.inr "told" : Key), V.ref t)] ∧ H' t = some (.lst []) ∧ t ∉ Ro.O ⟨X'.F, Y.p, Y.M, X'.s⟩ ∧ t ∉ X'.W.l := by
    rcases S'.st.to with e | ⟨t, e, t1, t2, t3, t4⟩
    · exact .inl e
    · refine .inr ⟨t, e, t1, fun z => ?_, t3⟩
      rcases List.mem_append.mp z with h | h
      · exact t2 h
      · have h : t ∈ Y.M.l := h
        simp only [Mm.l, List.mem_cons, List.not_mem_nil, or_false] at h
        rcases h with h | h | h | h | h
        · rw [h, md.di] at t1; cases t1
        · rw [h, md.sp] at t1; cases t1
        · rw [h, md.en] at t1; cases t1
        · rw [h, md.he] at t1; cases t1
        · exact t4 (h.trans G.ro.symm)
  refine ⟨⟨rs, md, ?_, fun a ha z => MA' z (List.mem_append_left _ ha), ?_, ?_, ?_, ?_, by show X'.s.met ≤ n + d; omega⟩, by show Num X'.s.rows; rw [e1]; exact A.nu, S'.st.ws, S'.fr, fun a ha => ?_, to', ⟨G.c.at A.pl.at_ qA, A.pl.six, A.pl.ok⟩, fun z => ?_, fun z => far A.pl.at_ qA (List.mem_append_right _ z), A1.frame A.ot G.c fun a ha => FoA ha, fun a ha => ?_, G.c.old A.old H0A, fun a ha => ?_, fun a ha => no' a (List.mem_append_right _ ha)⟩
  · show SpanOk X'.s
    rw [es]; exact A.at_.sp
  · have := A.at_.n1
    show Y.M.n X'.s ≤ 2 * (n + d)
    have e2 : Y.M.n X'.s = Y.M.n Y.s := by unfold Mm.n; rw [e1]
    rw [e2]; omega
  · have := A.at_.n2
    show Y.M.enl.length ≤ n + d
    omega
  · have := A.at_.n3
    show Y.M.spl.length ≤ n + d
    omega
  · have := A.at_.n4
    show X'.s.given ≤ n + d
    rw [es]
    show Y.s.given ≤ n + d
    omega
  · rcases List.mem_append.mp ha with h | h
    · exact S'.st.dj a h
    · exact fun z => MA' h (List.mem_append_right _ z)
  · rcases List.mem_append.mp z with h | h
    · exact far A.pl.at_ qA (List.mem_append_left _ h)
    · exact A.q1 (List.mem_append_right _ h)
  · obtain ⟨o, e⟩ := A1.own A.ot a ha
    have q := far e (FoA ha)
    refine ⟨fun z => ?_, fun z => q (List.mem_append_right _ z)⟩
    rcases List.mem_append.mp z with h | h
    · exact q (List.mem_append_left _ h)
    · exact (A.d2 a ha).1 (List.mem_append_right _ h)
  · rcases List.mem_append.mp ha with h | h
    · exact no' a (List.mem_append_left _ h)
    · exact A.no a (List.mem_append_right _ h)
/-- a deed, by the room and by the tables -/
theorem R8.deed (A1 : RoomApi P w K mg base C kk Rs hsL) {H1 H2 : Hp} {d : Deed} {a : Ans} {s1 : Rm} {F1 : List Addr} {M2 : Mm} (A : R8 Rs H0 H n Y W q zs Fo po so) (o : DoR Y.s d a s1) (R1 : Rs F1 H1 Y.p s1) (g1 : Grow Y.F F1 H) (c1 : Ch H H1 Y.F)
    (S2 : MdAt H2 M2 s1) (a5 : At5 Y.M M2) (c2 : Ch H1 H2 Y.M.l) (m1 : M2.n s1 ≤ Y.M.n Y.s + 2) (m2 : M2.enl.length ≤ Y.M.enl.length + 1) (m3 : M2.spl.length ≤ Y.M.spl.length + 1) : R8 Rs H0 H2 (n + 1) ⟨F1, Y.p, M2, s1⟩ W q zs Fo po so := by
  have b1 := A.at_.n1
  have b2 := A.at_.n2
  have b3 := A.at_.n3
  have b4 := A.at_.n4
  have b5 := A.at_.n5
  obtain ⟨sp2, gv2, me2⟩ := DoR.after o A.at_.sp
  have kp := DoR.kp o
  have hr : Y.s.rows.length ≤ s1.rows.length := kp.le
  have exM : ∀ b ∈ Y.M.l, ∃ o, H b = some o := fun b hb => A.at_.th A1 b (List.mem_append_right _ hb)
  have dj1 : ∀ b ∈ F1, b ∉ Y.M.l := g1.apart A.at_.dj exM
  have c : Ch H H2 Y.O := (c1.mono fun b hb => List.mem_append_left _ hb).trans (c2.mono fun b hb => List.mem_append_right _ hb)
  have inO : ∀ {b : Addr}, b ∈ Ro.O ⟨F1, Y.p, M2, s1⟩ → b ∈ Y.O ∨ H b = none := fun {b} hb => by
    rcases List.mem_append.mp hb with h | h
    · rcases g1 b h with z | z
      · exact .inl (List.mem_append_left _ z)
      · exact .inr z
    · have h : b ∈ M2.l := h
      rw [a5.l] at h
      exact .inl (List.mem_append_right _ h)
  have far : ∀ {b : Addr} {u : HO}, H b = some u → b ∉ Y.O → b ∉ Ro.O ⟨F1, Y.p, M2, s1⟩ := fun {b u} e n z => by
    rcases inO z with z | z
    · exact n z
    · rw [e] at z; cases z
  have WO : ∀ {b : Addr}, b ∈ W.l → b ∉ Y.O := fun {b} hb z => A.d1 b z hb
  have AW := (A.ws.ch c fun b hb => WO hb)
  refine ⟨⟨A1.frame R1 c2 dj1, S2, sp2, fun b hb y => dj1 b hb (by rw [← a5.l]; exact y), by show M2.n s1 ≤ 2 * (n + 1); omega, by show M2.enl.length ≤ n + 1; omega, by show M2.spl.length ≤ n + 1; omega, by show s1.given ≤ n + 1; omega, by show s1.met ≤ n + 1; omega⟩,
    kp.num A.nu, ⟨by show H2 W.m = some (.dK (wD s1.met s1.gone W.al ++ W.x)); rw [kp.met, kp.gone]; exact AW.di, AW.al, AW.re, AW.ws, kp.wat.trans AW.fw, AW.nw, AW.nd, fun y hy => by show y.1 ≤ s1.met; rw [kp.met]; exact AW.kw y hy, AW.pk, fun y hy => by have := AW.tb y hy; show (s1.gone : Int) ≤ _ ∧ _ ∧ _ ≤ (s1.rows.length : Int); rw [kp.gone]; omega, by show _ ≤ s1.met; rw [kp.met]; exact AW.ln, by show s1.gone ≤ s1.rows.length; rw [kp.gone]; exact Nat.le_trans AW.gl kp.le⟩,
    c.at A.fr (WO (by simp [Wm.l])), fun b hb => ?_, A.to.imp id fun ⟨t, e, t1, t2, t3⟩ => ⟨t, e, c.at t1 t2, far t1 t2, t3⟩, ⟨c.at A.pl.at_ A.q1, A.pl.six, A.pl.ok⟩, far A.pl.at_ A.q1, A.q2, A1.frame A.ot c fun b hb => (A.d2 b hb).1, fun b hb => ⟨?_, (A.d2 b hb).2⟩, c.old A.old A.no, fun b hb => ?_, A.nw⟩
  · intro z
    obtain ⟨u, e⟩ := A.ws.th b z
    exact far e (WO z) hb
  · obtain ⟨u, e⟩ := A1.own A.ot b hb
    exact far e (A.d2 b hb).1
  · rcases inO hb with z | z
    · exact A.no b z
    · exact A.old.free z
theorem R8.same (A1 : RoomApi P w K mg base C kk Rs hsL) {H' : Hp} (A : R8 Rs H0 H n Y W q zs Fo po so) (s : Same H H') : R8 Rs H0 H' n Y W q zs Fo po so :=
  ⟨A.at_.ch A1 (Ch.of s []) (fun _ _ z => nomatch z), A.nu, A.ws.same s, s _ _ A.fr, A.d1, A.to.imp id fun ⟨t, e, t1, t2⟩ => ⟨t, e, s _ _ t1, t2⟩, ⟨s _ _ A.pl.at_, A.pl.six, A.pl.ok⟩, A.q1, A.q2, A1.frame A.ot (Ch.of s []) (fun _ _ z => nomatch z), A.d2, A.old.trans s, A.no, A.nw⟩
end
end KL

namespace KL
open PySem L2 L2H LX KB
/-! ### the pairs that stand, by a comprehension over the law's own table -/
theorem byPre_told {s : Rm} {l : List (Str × (Str × Int))} (fh : s.held = getA l) (n : (l.map (·.1)).Nodup) {ys : List Str} (p : ys.Perm (l.map (·.1))) (sr : PyProof.Rows.sortedS ys = true) (z : Str) :
    Told (byPre s z) ((ys.filter fun k => isPre z k).map fun k => (k, ((s.held k).map (·.1)).getD ("" : Str))) := by
  have e : ((ys.filter fun k => isPre z k).map fun k => (k, ((s.held k).map (·.1)).getD ("" : Str))).map (·.1) = ys.filter fun k => isPre z k := by
    rw [List.map_map]
    exact (List.map_congr_left fun _ _ => rfl).trans (List.map_id _)
  have nd : (ys.filter fun k => isPre z k).Nodup := (p.nodup_iff.mpr n).sublist List.filter_sublist
  refine ⟨?_, by rw [e]; exact nd, fun k => ?_⟩
  · rw [e]
    exact PyProof.Rows.sortedS_of_pairwise _ ((sortedS_pw sr).sublist List.filter_sublist)
  · unfold byPre
    by_cases h : k ∈ ys.filter fun k => isPre z k
    · obtain ⟨h1, h2⟩ := List.mem_filter.mp h
      rw [getP_of (by rw [e]; exact nd) (List.mem_map.mpr ⟨k, h, rfl⟩), if_pos h2]
      cases g : s.held k with
      | some v => rfl
      | none =>
        rw [fh] at g
        exact absurd (p.mem_iff.mp h1) (getA_none.mp g)
    · rw [getP_none.mpr (by rw [e]; exact h)]
      by_cases c : isPre z k = true
      · rw [if_pos c]
        have : k ∉ ys := fun y => h (List.mem_filter.mpr ⟨y, c⟩)
        rw [fh, getA_none.mpr fun y => this (p.mem_iff.mpr y)]
        rfl
      · rw [if_neg c]
theorem Ch.app4 {H H1 H2 : Hp} {L F1 : List Addr} (a : Ch H H1 L) (g : ∀ x ∈ F1, x ∈ L ∨ H x = none) (b : Ch H1 H2 F1) : Ch H H2 L := by
  refine ⟨fun x o e n => b.st x o (a.st x o e n) (n.imp (fun z y => ?_) id), fun x o e => let ⟨_, z⟩ := a.th x o e; b.th _ _ z⟩
  rcases g x y with h | h
  · exact z h
  · rw [e] at h
    cases h
abbrev hV (r : Rm) (k : Str) : Str × Str := (k, ((r.held k).map (·.1)).getD ("" : Str))
structure LcAt (H3 H' : Hp) (R : Addr) (r : Rm) (z : Str) (ys : List Str) (i : Nat) : Prop where
  ch : Ch H3 H' [R]
  at_ : ∃ ts, H' R = some (.lst (ts.map V.ref)) ∧ PairsAt H' ts (((ys.take i).filter fun k => isPre z k).map (hV r))
theorem LcAt.init {H3 : Hp} {R : Addr} {r : Rm} {z : Str} {ys : List Str} (h : H3 R = some (.lst [])) : LcAt H3 H3 R r z ys 0 := ⟨Ch.refl _ _, [], h, .nil⟩
theorem LcAt.filt {z ky : Str} {ys : List Str} {i : Nat} (ey : ys[i]? = some ky) : (ys.take (i + 1)).filter (fun k => isPre z k) = (ys.take i).filter (fun k => isPre z k) ++ (if isPre z ky = true then [ky] else []) := by
  rw [List.take_add_one, ey, List.filter_append]
  congr 1
  show List.filter _ [ky] = _
  by_cases c : isPre z ky = true
  · rw [List.filter_cons_of_pos c, if_pos c]; rfl
  · rw [List.filter_cons_of_neg c, if_neg c]; rfl
theorem LcAt.pass {H3 H' : Hp} {R : Addr} {r : Rm} {z ky : Str} {ys : List Str} {i : Nat} (A : LcAt H3 H' R r z ys i) (ey : ys[i]? = some ky) (c : ¬ isPre z ky = true) : LcAt H3 H' R r z ys (i + 1) := by
  obtain ⟨c5, ts, h, m⟩ := A
  refine ⟨c5, ts, h, ?_⟩
  rw [LcAt.filt ey, if_neg c, List.append_nil]
  exact m
theorem LcAt.take {H3 H5 : Hp} {R tp : Addr} {r : Rm} {z ky v : Str} {j : Int} {ys : List Str} {i : Nat} (A : LcAt H3 H5 R r z ys i) (hR : ∃ o, H3 R = some (.lst o)) (ey : ys[i]? = some ky) (c : isPre z ky = true) (gk : r.held ky = some (v, j)) (ly : ys.length ≤ 890) (htp : H5 tp = none) :
    ∃ acc, upd H5 tp (.tup [V.str ky, V.str v]) R = some (.lst acc) ∧ acc.length < sizeLine ∧ LcAt H3 (upd (upd H5 tp (.tup [V.str ky, V.str v])) R (.lst (acc ++ [V.ref tp]))) R r z ys (i + 1) := by
  obtain ⟨c5, ts, hR5, m5⟩ := A
  obtain ⟨o3, hR3⟩ := hR
  have ntR : tp ≠ R := (ne_of_none hR5 htp).symm
  have s6 := same_new (o := .tup [V.str ky, V.str v]) htp
  refine ⟨_, s6 _ _ hR5, ?_, (c5.same s6).mut (List.mem_singleton.mpr rfl) hR3 (fun xs e => by cases e), ts ++ [tp], by rw [upd_same, List.map_append]; rfl, ?_⟩
  · rw [List.length_map, Paired.length m5, List.length_map]
    have l1 := List.length_filter_le (fun k => isPre z k) (ys.take i)
    rw [List.length_take] at l1
    exact small1000 (by omega)
  · have nR : ∀ a xs, upd H5 tp (.tup [V.str ky, V.str v]) a = some (.tup xs) → a ≠ R := fun a xs e => ne_of e (s6 _ _ hR5) (by intro q; cases q)
    rw [LcAt.filt ey, if_pos c, List.map_append]
    have el : (([ky] : List Str).map (hV r)) = [(ky, v)] := by
      show [(ky, ((r.held ky).map (·.1)).getD ("" : Str))] = _
      rw [gk]
      rfl
    rw [el]
    exact Paired.snoc (m5.keep fun a xs e => by rw [upd_ne (nR a xs (s6 _ _ e))]; exact s6 _ _ e) (by rw [upd_ne ntR]; exact upd_same)
/-- the texts of what stands are texts -/
theorem byPre_ok {H : Hp} {M : Mm} {r : Rm} (S : MdAt H M r) (z : Str) : PairOkF (byPre r z) := fun k2 v2 e => by
  unfold byPre at e
  by_cases c : isPre z k2 = true
  · rw [if_pos c] at e
    cases g : r.held k2 with
    | none => rw [g] at e; cases e
    | some vj =>
      rw [g] at e
      obtain ⟨v3, j3⟩ := vj
      cases e
      exact S.kv _ _ _ g
  · rw [if_neg c] at e; cases e
/-! ### what stands beside the six -/
theorem valV_right {κ : Type} [DecidableEq κ] : ∀ {a x : List (κ × V)} {k : κ}, k ∉ a.map (·.1) → valV (a ++ x) k = valV x k
  | [], x, k, _ => rfl
  | q :: a, x, k, h => by
    rw [List.map_cons, List.mem_cons, not_or] at h
    rw [List.cons_append, valV_neg fun z => h.1 z.symm]
    exact valV_right h.2
theorem putK_right {a x : List (Key × V)} {k : Key} {v : V} (h : k ∉ a.map (·.1)) : putK (a ++ x) k v = a ++ putK x k v := by
  unfold putK
  rw [valV_any, valV_any, valV_right h]
  by_cases c : (valV x k).isSome = true
  · rw [if_pos c, if_pos c, List.map_append, map_other h]
  · rw [if_neg c, if_neg c, List.append_assoc]
theorem MdAt.getX {H : Hp} {M : Mm} {s : Rm} (S : MdAt H M s) {k : Str} (h : (Sum.inr k : Key) ∉ mK) : DGet H M.m (.str k) (valV M.x (Sum.inr k)) := by
  have g := DGet.k (k := Sum.inr k) S.di
  unfold mX at g
  rw [valV_right h] at g
  exact g
theorem MdAt.putX {H : Hp} {M : Mm} {s : Rm} (S : MdAt H M s) {k : Str} {v : V} {x : List (Key × V)} (h : (Sum.inr k : Key) ∉ mK) (ex : putK M.x (Sum.inr k) v = x) (nx : (mK ++ x.map (·.1)).Nodup) (lx : x.length ≤ 4) :
    MdAt (upd H M.m (.dK (putK (mX s.now s.given M) (Sum.inr k) v))) { M with x := x } s := by
  obtain ⟨⟨n1, n2, n3, n4⟩, ⟨n5, n6, n7⟩, ⟨n8, n9⟩, n10⟩ := S.nes
  have c := ch_one (o := .dK (putK (mX s.now s.given M) (Sum.inr k) v)) S.di (fun xs z => by cases z)
  refine ⟨?_, c.at S.sp (by simp [n1.symm]), c.at S.en (by simp [n2.symm]), c.at S.he (by simp [n3.symm]), c.at S.ro (by simp [n4.symm]), S.rs, S.re, S.rh.mono fun b v h => isH_keep c.tup h, S.rr.keep c.tup, S.fs, S.fe, S.fh, S.ne, S.nh, S.nd, S.ok, S.kv, nx, lx⟩
  rw [upd_same]
  unfold mX
  rw [putK_right h, ex]
end KL

namespace KL
open PySem L2 L2H LX KB
/-! ### the law's own: the keys of the last changes -/
theorem cutV_mem {xs : List V} {lo hi : Option Int} {x : V} (h : x ∈ cutV xs lo hi) : x ∈ xs := List.mem_of_mem_drop (List.mem_of_mem_take h)
theorem RowsAt.mem {H : Hp} : ∀ {ts : List Addr} {rs : List Row}, RowsAt H ts rs → ∀ {x : V}, x ∈ ts.map V.ref → ∃ t r, x = V.ref t ∧ r ∈ rs ∧ H t = some (.tup r.V)
  | _, _, .nil, x, h => nomatch h
  | _, _, .cons r m, x, h => by
    rcases List.mem_cons.mp h with e | h
    · exact ⟨_, _, e, List.mem_cons_self, r⟩
    · obtain ⟨t, r, e, m2, q⟩ := RowsAt.mem m h
      exact ⟨t, r, e, List.mem_cons_of_mem _ m2, q⟩
def spValues (Rs : RsT) : Sp := fun vs H Q _ => ∃ (F : List Addr) (p : Addr) (M : Mm) (s : Rm), vs = [.ref p, .ref M.m] ∧ Rs F H p s ∧ MdAt H M s ∧ (∀ a ∈ F, a ∉ M.l) ∧
  ∀ F' H', Rs F' H' p s → Grow F F' H → Ch H H' F → Q (.bl true) H'
section
variable {P : Program} {w : World} {K : PySem.W.Frag} {mg : Str → Option Value} {base : Heap}
theorem ok_values {f C : Addr} {fd : FuncData} {kk : Kinds} {Rs : RsT} (F : Fun K "_law_values" "_law_values" s_values f fd) (cl : Cls K C) (A1 : RoomApi P w K mg base C kk Rs hsL) (LT : LTxt mg)
    (DA : Def P w K mg base "_law_alike" 2 p_alike spAlike) : FnOk P w K mg base CX0 9 f fd p_values (spValues Rs) := by
  obtain ⟨f1, fd1, g1, k1, b1, G1⟩ := DA.ex
  obtain ⟨fV, fdV, psV, mV, bV, GV⟩ := (A1.value (by decide +kernel)).ex
  obtain ⟨fH, fdH, psH, mH, bH, GH⟩ := (A1.holder (by decide +kernel)).ex
  refine F.ok sc_values (fun vs H Q E h => ?_) (fun cdv A outer s H vs Q E hr h => ?_)
  · obtain ⟨F, p, M, s, rfl, _⟩ := h
    rfl
  · obtain ⟨Fo, p, M, r, rfl, R0, S, dj, k⟩ := h
    have hu := hu_of hr
    have hr2 : Room 2 _ := hr.mono (by decide)
    refine ⟨_, pss_cons (ps_for PassesOwn.never rfl (pi_list (pe_slice sl_list (pe_dget hu (pv 1) pe_str (fun _ _ => rfl)) (po_some (pe_un un_neg pe_int)) po_none)) (pg_name (i := 2) sc_values.nd rfl (Or.inl rfl))
        (pss_cons (ps_set (i := 3) sc_values.nd rfl (Or.inl rfl) (pe_meth (E := E0) (pv 0) cl mV GV hr bV .nil pass0 (pa_cons (pe_ix ix_tup (pv 2) pe_int (fun _ _ => rfl)) pa_nil)))
        (pss_one (ps_if (pt_cmp (pc_dnotin hu (pe_ix (r := rIxT K) ix_tup (pv 2) pe_int (fun _ _ => rfl)) (pe_dget hu (pv 1) pe_str (fun _ _ => rfl))))
          (pss_one (ps_if (PW.pt (pw_or (pt_cmp (pc_notN (pv 3))) (pw_or1 (pt_not (pt_val (pe_call G1 hr2 rfl g1 k1 b1 .nil pass0 (pa_cons (pe_meth (E := E0) (pv 0) cl mH GH hr bH .nil pass0 (pa_cons (pe_ix ix_tup (pv 2) pe_int (fun _ _ => rfl)) pa_nil)) (pa_cons pe_int pa_nil)))))))) (pss_one (ps_ret pe_bl)) pss_nil))
          (pss_one (ps_if (PW.pt (pw_or (pt_not (pt_val (pe_callB call_isi (by rfl) LT.isi (by decide +kernel) (pa_cons (pv 3) (pa_cons (pe_bltn (v := V.ty "str") (by rfl) LT.str (by decide +kernel) rfl) pa_nil)))))
              (pw_or1 (pt_cmpR op_ne (pv 3) (pe_ix ix_tup (pe_dget hu (pe_dget hu (pv 1) pe_str (fun _ _ => rfl)) (pe_ix (r := rIxT K) ix_tup (pv 2) pe_int (fun _ _ => rfl)) (fun _ _ => rfl)) pe_int (fun _ _ => rfl)) (nomark _))))) (pss_one (ps_ret pe_bl))
            (pss_one (ps_if (pt_not (pt_val (pe_call G1 hr2 rfl g1 k1 b1 .nil pass0 (pa_cons (pe_meth (E := E0) (pv 0) cl mH GH hr bH .nil pass0 (pa_cons (pe_ix ix_tup (pv 2) pe_int (fun _ _ => rfl)) pa_nil))
              (pa_cons (pe_ix ix_tup (pe_dget hu (pe_dget hu (pv 1) pe_str (fun _ _ => rfl)) (pe_ix (r := rIxT K) ix_tup (pv 2) pe_int (fun _ _ => rfl)) (fun _ _ => rfl)) pe_int (fun _ _ => rfl)) pa_nil))))) (pss_one (ps_ret pe_bl)) pss_nil))))))))
      (pss_one (ps_ret pe_bl)), ?_⟩
    refine ⟨_, rfl, M.m, _, rfl, S.gR, _, rfl, _, rfl, M.ro, _, rfl, SqL.of S.ro, fun q hq => ?_⟩
    have s1 := same_new (o := .lst (cutV (M.ts.map V.ref) (some (-14)) none)) hq
    have hq1 : upd H q (.lst (cutV (M.ts.map V.ref) (some (-14)) none)) q = some (.lst (cutV (M.ts.map V.ref) (some (-14)) none)) := upd_same
    have hmem : ∀ x ∈ cutV (M.ts.map V.ref) (some (-14)) none, x ∈ M.ts.map V.ref := fun x h => cutV_mem h
    try dsimp only
    generalize cutV (M.ts.map V.ref) (some (-14)) none = xs at hq1 hmem s1 ⊢
    generalize upd H q (.lst xs) = H1 at s1 hq1
    have S1 := S.same s1
    have R1 := A1.frame R0 (Ch.of s1 []) (fun _ _ z => nomatch z)
    have nq : q ∉ Fo := fun y => by
      obtain ⟨o, e⟩ := A1.own R0 q y
      rw [hq] at e
      cases e
    have dM : ∀ a ∈ M.l, a ∉ Fo := fun a ha y => dj a y ha
    refine ⟨q, rfl, ⟨_, SqL.of hq1⟩, ?_⟩
    refine for_list (xs := xs) (D := { nx := tRet (tC (V.bl true)) { nx := fun _ H' => Q .non H', rt := Q }, rt := Q }) (fun i σ H' => (∃ y2 y3 : Option V, σ = [some (.ref p), some (.ref M.m), y2, y3]) ∧ ∃ F', Rs F' H' p r ∧ Grow Fo F' H1 ∧ Ch H1 H' Fo)
      ⟨⟨none, none, rfl⟩, Fo, R1, Grow.refl _ _, Ch.refl _ _⟩ ?_ ?_ ?_
    · rintro i σ H' _ ⟨_, F', _, _, c⟩
      exact SqL.of (c.at hq1 nq)
    · rintro i x σ H2 hx ⟨⟨y2, y3, rfl⟩, F2, R2, gr2, c2⟩
      obtain ⟨t, ro, rfl, hro, ht⟩ := RowsAt.mem S1.rr (hmem x (List.mem_of_getElem? hx))
      have oky := (S.ok ro hro).k
      obtain ⟨_, dx2, fs2, hob2, _, hfs2⟩ := A1.inst R2
      have ht2 := c2.tup _ _ ht
      refine ⟨_, rfl, p, dx2, fs2, rfl, hob2, hfs2 _ (by simp [roomMs]), _, rfl, t, _, 3, .str ro.k, rfl, rfl, SqT.of ht2, rfl, F2, p, ro.k, r, rfl, R2, oky, fun F3 H3 R3 g3' c3' => ?_⟩
      have c3 : Ch H1 H3 Fo := c2.seq gr2 c3'
      have gr3 : Grow Fo F3 H1 := gr2.trans g3' fun x e => c2.none x e
      have S3 := S1.ch c3 dM
      have ht3 := c3.tup _ _ ht
      obtain ⟨_, dx3, fs3, hob3, _, hfs3⟩ := A1.inst R3
      refine ⟨_, rfl, t, _, 3, .str ro.k, rfl, rfl, SqT.of ht3, rfl, _, rfl, M.m, _, rfl, S3.gH, M.he, _, rfl, DGet.k (k := Sum.inr ro.k) S3.he, _, rfl, ?_⟩
      rw [S3.heldB]
      cases e : r.held ro.k with
      | none =>
        refine iteT ⟨_, rfl, _, rfl, iteF ⟨_, rfl, p, dx3, fs3, rfl, hob3, hfs3 _ (by simp [roomMs]), _, rfl, t, _, 3, .str ro.k, rfl, rfl, SqT.of ht3, rfl, F3, p, ro.k, r, rfl, R3, oky, fun F4 H4 R4 g4' c4' => ?_⟩⟩
        rw [e]
        exact ⟨.num 0, rfl, true, rfl, iteF ⟨⟨_, _, rfl⟩, F4, R4, gr3.trans g4' fun x e => c3.none x e, c3.seq gr3 c4'⟩⟩
      | some v =>
        obtain ⟨v, j⟩ := v
        obtain ⟨th, gh, hth⟩ := S3.heldG e
        refine iteF ⟨_, rfl, _, _, _, _, true, rfl, .ty _, .base (.str v), kit_ty (by decide +kernel), true, rfl, iteF ?_⟩
        refine ⟨_, rfl, _, rfl, M.m, _, rfl, S3.gH, _, rfl, t, _, 3, .str ro.k, rfl, rfl, SqT.of ht3, rfl, M.he, _, rfl, gh, th, _, 0, .str v, rfl, rfl, SqT.of hth, rfl, rfl, _, rfl, ?_⟩
        rw [decide_eq_true rfl]
        refine iteF ⟨_, rfl, p, dx3, fs3, rfl, hob3, hfs3 _ (by simp [roomMs]), _, rfl, t, _, 3, .str ro.k, rfl, rfl, SqT.of ht3, rfl, F3, p, ro.k, r, rfl, R3, oky, fun F4 H4 R4 g4' c4' => ?_⟩
        have c4 : Ch H1 H4 Fo := c3.seq gr3 c4'
        have S4 := S1.ch c4 dM
        obtain ⟨th4, gh4, hth4⟩ := S4.heldG e
        refine ⟨_, rfl, M.m, _, rfl, S4.gH, _, rfl, t, _, 3, .str ro.k, rfl, rfl, SqT.of (c4.tup _ _ ht), rfl, M.he, _, rfl, gh4, th4, _, 1, .int j, rfl, rfl, SqT.of hth4, rfl, ?_⟩
        rw [e]
        exact ⟨.num j, rfl, true, rfl, iteF ⟨⟨_, _, rfl⟩, F4, R4, gr3.trans g4' fun x e => c3.none x e, c4⟩⟩
    · rintro σ H2 ⟨⟨y2, y3, rfl⟩, F2, R2, gr2, c2⟩
      exact k F2 H2 R2 (fun a ha => (gr2 a ha).imp id fun e => s1.free e) ((Ch.of s1 _).trans c2)
end
end KL

namespace KL
open PySem L2 L2H LX KB
/-! ### law_k08: what stands -/
def spStands8 (Rs : RsT) : Sp := fun vs H Q _ => ∃ (H0 : Hp) (n : Nat) (Y : Ro) (W : Wm) (q : Addr) (zs : List Str) (Fo : List Addr) (po : Addr) (so : Rm), vs = [.ref Y.p, .ref Y.M.m, .ref W.m] ∧ R8 Rs H0 H n Y W q zs Fo po so ∧ n ≤ 200 ∧
  ∀ F' H', R8 Rs H0 H' n ⟨F', Y.p, Y.M, Y.s⟩ W q zs Fo po so → Q (.bl true) H'
section
variable {P : Program} {w : World} {K : PySem.W.Frag} {mg : Str → Option Value} {base : Heap} {C : Addr} {kk : Kinds} {Rs : RsT}
theorem ok_stands {f : Addr} {fd : FuncData} (F : Fun K "_law_stands" "_law_stands" s_stands f fd) (cl : Cls K C) (nN : NoAttr K C "now") (A1 : RoomApi P w K mg base C kk Rs hsL) (LT : LTxt mg) (D2 : Def P w K mg base "_law_alike" 2 p_alike spAlike)
    (D3 : Def P w K mg base "_law_values" 9 p_values (spValues Rs)) (D4 : Def P w K mg base "_law_pairs" 1 p_pairs (spPairs K)) : FnOk P w K mg base CX0 10 f fd p_stands (spStands8 Rs) := by
  obtain ⟨f2, fd2, g2, k2, b2, G2⟩ := D2.ex
  obtain ⟨f3, fd3, g3, k3, b3, G3⟩ := D3.ex
  obtain ⟨f4, fd4, g4, k4, b4, G4⟩ := D4.ex
  obtain ⟨fH, fdH, psH, mH, bH, GH⟩ := (A1.holder (by decide +kernel)).ex
  obtain ⟨fL, fdL, psL, mL, bL, GL⟩ := (A1.last (by decide +kernel)).ex
  obtain ⟨fF, fdF, psF, mF, bF, GF⟩ := (A1.first (by decide +kernel)).ex
  obtain ⟨fP, fdP, psP, mP, bP, GP⟩ := (A1.pairs (by decide +kernel)).ex
  refine F.ok sc_stands (fun vs H Q E h => ?_) (fun cdv A outer s H vs Q E hr h => ?_)
  · obtain ⟨H0, n, Y, W, q, zs, Fo, po, so, rfl, _⟩ := h
    rfl
  · obtain ⟨H0, n, Y, W, q, zs, Fo, po, so, rfl, A, hn, k⟩ := h
    have hu := hu_of hr
    have R : ∀ j, j ≤ 9 → Room j _ := fun j h => hr.mono h
    refine ⟨_, pss_cons (ps_lock (ps_for PassesOwn.never rfl (pi_keys (pe_dget hu (pv 1) pe_str (fun _ _ => rfl))) (pg_name (i := 3) sc_stands.nd rfl (Or.inl rfl))
        (pss_one (ps_if (pt_not (pt_val (pe_call G2 (R 2 (by decide)) rfl g2 k2 b2 .nil pass0 (pa_cons (pe_meth (E := E0) (pv 0) cl mH GH (R 8 (by decide)) bH .nil pass0 (pa_cons (pv 3) pa_nil))
          (pa_cons (pe_ix ix_tup (pe_dget hu (pe_dget hu (pv 1) pe_str (fun _ _ => rfl)) (pv 3) (fun _ _ => rfl)) pe_int (fun _ _ => rfl)) pa_nil))))) (pss_one (ps_ret pe_bl)) pss_nil))))
      (pss_cons (ps_if (PW.pt (pw_or (pt_not (pt_val (pe_call G2 (R 2 (by decide)) rfl g2 k2 b2 .nil pass0 (pa_cons (pe_fld (pv 0) rfl) (pa_cons (pe_dget hu (pv 1) pe_str (fun _ _ => rfl)) pa_nil)))))
          (pw_or1 (pt_not (pt_val (pe_call G2 (R 2 (by decide)) rfl g2 k2 b2 .nil pass0 (pa_cons (pe_meth0 (E := E0) (pv 0) cl mL GL (R 8 (by decide)) bL .nil pass0) (pa_cons (pe_callB call_len_seq (by rfl) LT.len PySem.boot_len (pa_cons (pe_dget hu (pv 1) pe_str (fun _ _ => rfl)) pa_nil)) pa_nil)))))))) (pss_one (ps_ret pe_bl)) pss_nil)
      (pss_cons (ps_if (PW.pt (pw_or (pt_not (pt_val (pe_call G2 (R 2 (by decide)) rfl g2 k2 b2 .nil pass0 (pa_cons (pe_meth0 (E := E0) (pv 0) cl mF GF (R 8 (by decide)) bF .nil pass0) (pa_cons (pe_op op_add (pe_dget hu (pv 2) pe_str (fun _ _ => rfl)) pe_int) pa_nil)))))
          (pw_or1 (pt_not (pt_val (pe_call G3 (R 9 (by decide)) rfl g3 k3 b3 .nil pass0 (pa_cons (pv 0) (pa_cons (pv 1) pa_nil)))))))) (pss_one (ps_ret pe_bl)) pss_nil)
      (pss_one (ps_ret (pe_call G4 (R 1 (by decide)) rfl g4 k4 b4 .nil pass0 (pa_cons (pe_meth (E := E0) (pv 0) cl mP GP (R 8 (by decide)) bP .nil pass0 (pa_cons pe_str pa_nil)) (pa_cons
          (pe_lc (own := [("_law_key_here", 3)]) (g := gName 3) rfl sc_stands.nd (pi_list (pe_callB (cr_sortedDL (by rfl)) (by rfl) LT.sorted (by decide +kernel) (pa_cons (pe_dget hu (pv 1) pe_str (fun _ _ => rfl)) pa_nil)))
            (blkOk_by (own := [("_law_key_here", 3)]) (N := n_stands) (sc := defScope s_stands) (by decide +kernel))
            (fun _ _ _ _ _ => pg_name (i := 3) sc_stands.nd rfl (Or.inl rfl) (Or.inr rfl)) (fun _ _ _ _ _ => pts_nil)
            (fun _ _ _ _ _ => pe_tup (pa_cons (pv 3) (pa_cons (pe_ix (r := rIxT K) ix_tup (pe_dget hu (pe_dget hu (pv 1) pe_str (fun _ _ => rfl)) (pv 3) (fun _ _ => rfl)) pe_int (fun _ _ => rfl)) pa_nil)))) pa_nil))))))), ?_⟩
    have S := A.at_.md
    have fit : Fits Y.s := (A.rw_ hn).st.fits
    have bn : Y.M.n Y.s = Y.s.rows.length + Y.M.hl.length := rfl
    have b1 := A.at_.n1
    have dM : ∀ {a : Addr}, a ∈ Y.M.l → a ∉ Y.F := fun {a} ha y => A.at_.dj a y ha
    have he_in : Y.M.he ∈ Y.M.l := by simp [Mm.l]
    have m_in : Y.M.m ∈ Y.M.l := by simp [Mm.l]
    have ro_in' : Y.M.ro ∈ Y.M.l := ro_in _
    obtain ⟨⟨n1, n2, n3, n4⟩, ⟨n5, n6, n7⟩, ⟨n8, n9⟩, n10⟩ := S.nes
    have exM : ∀ a ∈ Y.M.l, ∃ o, H a = some o := fun a ha => A.at_.th A1 a (List.mem_append_right _ ha)
    -- each key's holder, while the table is gone over
    refine ⟨Y.M.he, _, S.he, trivial, fun od => ?_⟩
    have hL : upd H Y.M.he (.frz od (.dK Y.M.hk)) Y.M.he = some (.frz od (.dK Y.M.hk)) := upd_same
    have cL : Ch H (upd H Y.M.he (.frz od (.dK Y.M.hk))) [Y.M.he] := (Ch.refl _ _).mut (List.mem_singleton.mpr rfl) S.he (fun xs e => by cases e)
    have mL' : upd H Y.M.he (.frz od (.dK Y.M.hk)) Y.M.m = some (.dK (mX Y.s.now Y.s.given Y.M)) := cL.at S.di (by simp [n3])
    have outL : ∀ {a : Addr}, a ≠ Y.M.he → upd H Y.M.he (.frz od (.dK Y.M.hk)) a = H a := fun h => upd_ne h
    generalize upd H Y.M.he (.frz od (.dK Y.M.hk)) = HL at hL cL mL' outL
    have RL := A1.frame A.at_.rs cL fun a ha z => dM he_in (by rw [← List.mem_singleton.mp z]; exact ha)
    have lv : Y.M.hk.length = Y.M.hl.length := S.rh.len
    have gHl : ∀ {H' : Hp}, H' Y.M.m = some (.dK (mX Y.s.now Y.s.given Y.M)) → DGet H' Y.M.m (.str "held") (some (.ref Y.M.he)) := fun {H'} e => by
      have g := DGet.k (k := Sum.inr "held") e
      rw [valV_of (mX_keys S.nx _ _) (v := .ref Y.M.he) (by simp [mX, mD])] at g
      exact g
    refine ⟨_, rfl, Y.M.m, _, rfl, gHl mL', Y.M.he, od, rfl, .inl ⟨_, hL, ?_⟩⟩
    refine for_it walk_keys (fun i σ H' => (∃ y3 : Option V, σ = [some (.ref Y.p), some (.ref Y.M.m), some (.ref W.m), y3]) ∧ ∃ F', Rs F' H' Y.p Y.s ∧ Grow Y.F F' HL ∧ Ch HL H' Y.F) ⟨⟨none, rfl⟩, Y.F, RL, Grow.refl _ _, Ch.refl _ _⟩ ?_ ?_ ?_
    · rintro i σ H' _ ⟨_, F', _, _, c⟩
      exact c.at hL (dM he_in)
    · rintro i x σ H2a H2 hi ⟨⟨y3, rfl⟩, F2, R2, gr2, c2⟩ ⟨rfl, ky, vv, ek, rfl⟩
      obtain ⟨y, ey, e1, ⟨t, e2, ht⟩⟩ := dRel_at S.rh ek
      dsimp only at e1 e2
      subst e1 e2
      have gk : Y.s.held y.1 = some y.2 := by
        rw [S.fh]
        exact getA_of S.nh (List.mem_of_getElem? ey)
      have oky := (S.kv _ _ _ gk).1
      obtain ⟨_, dx2, fs2, hob2, _, hfs2⟩ := A1.inst R2
      refine ⟨_, rfl, Y.p, dx2, fs2, rfl, hob2, hfs2 _ (by simp [roomMs]), _, rfl, F2, Y.p, y.1, Y.s, rfl, R2, oky, fun F3 H3 R3 gr3 c3' => ?_⟩
      have c3 : Ch HL H3 Y.F := c2.seq gr2 c3'
      have ht3 := c3.tup _ _ (cL.tup _ _ ht)
      have gv : valV Y.M.hk (Sum.inr y.1) = some (.ref t) := by
        obtain ⟨v, x1, t2, x2, x3⟩ := S.rh.some_ inr_inj (getA_of S.nh (List.mem_of_getElem? ey))
        have nk : (Y.M.hk.map (·.1)).Nodup := by
          rw [S.rh.keys]
          exact List.Pairwise.map _ (fun a b h e => h (inr_inj a b e)) S.nh
        exact valV_of nk (List.mem_of_getElem? ek)
      have gh : DGet H3 Y.M.he (.str y.1) (some (.ref t)) := by
        rw [← gv]
        exact .inl ⟨Y.M.hk, Sum.inr y.1, .inr ⟨od, c3.at hL (dM he_in)⟩, rfl, rfl⟩
      refine ⟨_, rfl, Y.M.m, _, rfl, gHl (c3.at mL' (dM m_in)), _, rfl, Y.M.he, _, rfl, gh, t, _, 1, .int y.2.2, rfl, rfl, SqT.of ht3, rfl, ?_⟩
      rw [gk]
      exact ⟨.num y.2.2, rfl, true, rfl, iteF ⟨⟨_, rfl⟩, F3, R3, gr2.trans gr3 fun x e => c2.none x e, c3⟩⟩
    rintro σ H2 ⟨⟨y3, rfl⟩, F2, R2, gr2, c2⟩
    refine ⟨c2.at hL (dM he_in), ?_⟩
    have c02 : Ch H (upd H2 Y.M.he (.dK Y.M.hk)) Y.F := by
      refine ⟨fun x o e nn => ?_, fun x o e => ?_⟩
      · by_cases hx : x = Y.M.he
        · subst hx
          rw [S.he] at e
          cases e
          exact upd_same
        · rw [upd_ne hx]
          exact c2.st x o (by rw [outL hx]; exact e) nn
      · by_cases hx : x = Y.M.he
        · exact ⟨_, by rw [hx]; exact upd_same⟩
        · rw [upd_ne hx]
          exact c2.th x o (by rw [outL hx]; exact e)
    have R02 := A1.frame R2 ((Ch.refl H2 [Y.M.he]).mut (o := .dK Y.M.hk) (List.mem_singleton.mpr rfl) (c2.at hL (dM he_in)) (fun xs e => by cases e)) fun a ha z => by
      rw [List.mem_singleton.mp z] at ha
      rcases gr2 _ ha with z | z
      · exact dM he_in z
      · rw [hL] at z; cases z
    have gr02 : Grow Y.F F2 H := fun a ha => (gr2 a ha).imp id fun e => cL.none a e
    generalize upd H2 Y.M.he (.dK Y.M.hk) = H3 at c02 R02
    clear R2 gr2 c2 RL hL cL mL' outL
    have lts : (Y.M.ts.map V.ref).length = Y.s.rows.length := by rw [List.length_map, Paired.length S.rr]
    have S3 := S.ch c02 fun a ha => dM ha
    obtain ⟨_, dx3, fs3, hob3, hnow3, hfs3⟩ := A1.inst R02
    refine ⟨_, rfl, Y.p, C, dx3, fs3, _, rfl, hob3, cl, nN, hnow3, _, rfl, Y.M.m, _, rfl, S3.gN, .num Y.s.now, rfl, true, rfl, iteF ?_⟩
    refine ⟨_, rfl, Y.p, dx3, fs3, rfl, hob3, hfs3 _ (by simp [roomMs]), F2, Y.p, Y.s, rfl, R02, fun F4 H4 R4 gr4' c4' => ?_⟩
    have c4 : Ch H H4 Y.F := c02.seq gr02 c4'
    have gr4 : Grow Y.F F4 H := gr02.trans gr4' fun x e => c02.none x e
    have S4 := S.ch c4 fun a ha => dM ha
    clear R02 c02 gr02 c4' gr4' hob3 hnow3 hfs3 S3
    refine ⟨_, rfl, Y.M.m, _, rfl, S4.gR, Y.M.ro, _, rfl, .inl (SqL.of S4.ro), ?_⟩
    rw [lts]
    refine ⟨.num Y.s.rows.length, rfl, true, rfl, iteF ?_⟩
    obtain ⟨_, dx4, fs4, hob4, _, hfs4⟩ := A1.inst R4
    refine ⟨_, rfl, Y.p, dx4, fs4, rfl, hob4, hfs4 _ (by simp [roomMs]), F4, Y.p, Y.s, rfl, R4, fun F5 H5 R5 gr5' c5' => ?_⟩
    have c5 : Ch H H5 Y.F := c4.seq gr4 c5'
    have gr5 : Grow Y.F F5 H := gr4.trans gr5' fun x e => c4.none x e
    have S5 := S.ch c5 fun a ha => dM ha
    have W5 := A.ws.ch c5 fun a ha z => A.d1 a (List.mem_append_left _ z) ha
    clear R4 c4 gr4 c5' gr5' hob4 hfs4 S4
    refine ⟨_, rfl, W.m, _, rfl, W5.gG, _, _, rfl, rfl, .num ((Y.s.gone : Int) + 1), rfl, true, rfl, iteF ?_⟩
    refine ⟨_, rfl, _, rfl, F5, Y.p, Y.M, Y.s, rfl, R5, S5, gr5.apart A.at_.dj exM, fun F6 H6 R6 gr6' c6' => ⟨true, rfl, iteF ?_⟩⟩
    have c6 : Ch H H6 Y.F := c5.seq gr5 c6'
    have gr6 : Grow Y.F F6 H := gr5.trans gr6' fun x e => c5.none x e
    clear R5 c5 gr5 c6' gr6' S5 W5
    obtain ⟨_, dx6, fs6, hob6, _, hfs6⟩ := A1.inst R6
    refine ⟨_, rfl, Y.p, dx6, fs6, rfl, hob6, hfs6 _ (by simp [roomMs]), F6, Y.p, "", Y.s, rfl, R6, TOk.nil.mono (by decide), fit, fun F7 f7 us7 ps7 H7 R7 gr7' c7' n7 nf7 h7 m7 T7 => ?_⟩
    have c7 : Ch H H7 Y.F := c6.seq gr6 c7'
    have gr7 : Grow Y.F F7 H := gr6.trans gr7' fun x e => c6.none x e
    have f70 : H f7 = none := c6.none _ n7
    have S7 := S.ch c7 fun a ha => dM ha
    clear R6 c6 gr6 c7' gr7' hob6 hfs6
    refine ⟨_, rfl, Y.M.m, _, rfl, S7.gH, Y.M.he, Y.M.hk, Y.M.hl.map (·.1), rfl, .inl S7.he, S7.rh.keys, fun ys L0 pe sr hL0 => ?_⟩
    have TD := byPre_told S7.fh S7.nh pe sr ""
    have s10 := same_new (o := .lst (ys.map V.str)) hL0
    have hL10 : upd H7 L0 (.lst (ys.map V.str)) L0 = some (.lst (ys.map V.str)) := upd_same
    try dsimp only
    generalize upd H7 L0 (.lst (ys.map V.str)) = H10 at s10 hL10
    refine ⟨L0, rfl, ⟨_, SqL.of hL10⟩, fun Rr hR => ?_⟩
    have SR : L0 ≠ Rr := ne_of_none hL10 hR
    have s11 := same_new (o := .lst []) hR
    have s711 := s10.trans s11
    have R7n : H7 Rr = none := s10.free hR
    have hR11 : upd H10 Rr (.lst []) Rr = some (.lst []) := upd_same
    have hL11 := s11 _ _ hL10
    obtain ⟨H11, eH⟩ : ∃ h, upd H10 Rr (.lst []) = h := ⟨_, rfl⟩
    rw [eH] at s11 s711 hR11 hL11
    have S11 := S7.same s711
    have fR : ∀ {a : Addr}, (∃ o, H7 a = some o) → a ∉ [Rr] := fun {a} ⟨o, e⟩ y => by rw [List.mem_singleton.mp y, R7n] at e; cases e
    have nMR : ∀ a ∈ Y.M.l, a ∉ [Rr] := fun a ha => fR (let ⟨o, e⟩ := exM a ha; c7.th a o e)
    refine lc_list (xs := ys.map V.str) (fun i H' => LcAt H11 H' Rr Y.s "" ys i) (by rw [eH]; exact LcAt.init hR11) ?_ ?_ ?_
    · rintro i H' _ L
      exact SqL.of (L.ch.at hL11 fun y => SR (List.mem_singleton.mp y))
    · rintro i x H12 hx L
      rw [List.getElem?_map] at hx
      obtain ⟨ky, ey, rfl⟩ : ∃ ky, ys[i]? = some ky ∧ V.str ky = x := by
        cases e : ys[i]? with
        | none => rw [e] at hx; cases hx
        | some ky => rw [e] at hx; exact ⟨ky, rfl, Option.some.inj hx⟩
      have S12 := S11.ch L.ch nMR
      obtain ⟨v, j, e⟩ : ∃ v j, Y.s.held ky = some (v, j) := by
        have mem : ky ∈ Y.M.hl.map (·.1) := pe.mem_iff.mp (List.mem_of_getElem? ey)
        rw [S.fh]
        cases g : getA Y.M.hl ky with
        | none => exact absurd mem (getA_none.mp g)
        | some v => exact ⟨v.1, v.2, rfl⟩
      obtain ⟨th, gh, hth⟩ := S12.heldG e
      exact ⟨rfl, _, rfl, _, rfl, Y.M.m, _, rfl, S12.gH, _, rfl, Y.M.he, _, rfl, gh, th, _, 0, .str v, rfl, rfl, SqT.of hth, rfl, (by show 2 ≤ sizeLine; decide), fun tp htp => L.take ⟨_, hR11⟩ ey (isPre_nil ky) e (by rw [pe.length_eq, List.length_map]; omega) htp⟩
    rintro H12 L
    rw [List.length_map] at L
    obtain ⟨cA, ts, hR12, m12⟩ := L
    rw [List.take_length] at m12
    have h712 := cA.at (s711 _ _ h7) (fR ⟨_, h7⟩)
    have m712 := (m7.keep fun b xs e => s711 _ _ e).keep cA.tup
    have R12 := A1.frame (A1.frame R7 (Ch.of s711 []) (fun _ _ z => nomatch z)) cA fun a ha => fR (A1.own R7 a ha)
    have c012 : Ch H H12 Y.F := Ch.app4 (c7.same s711) (fun x hx => .inr (by rw [List.mem_singleton.mp hx]; exact c7.none _ R7n)) cA
    refine ⟨f7, Rr, us7, ts, ps7, rfl, h712, hR12, m712, by rw [T7.uniq TD]; exact m12, T7.ok (byPre_ok S7 ""), ?_⟩
    have R13 := A1.frame R12 ((Ch.refl H12 [f7]).mut (o := .lst []) (List.mem_singleton.mpr rfl) h712 (fun xs e => by cases e)) fun a ha y => nf7 (by rw [← List.mem_singleton.mp y]; exact ha)
    obtain ⟨S', G'⟩ := (A.rw_ hn).grow A1 R13 gr7 (c012.new _ f70)
    exact k F7 _ (A.goW A1 S' G')
end
end KL

namespace KL
open PySem L2 L2H LX KB
/-! ### law_k08: a step -/
def spStep8 (Rs : RsT) : Sp := fun vs H Q _ => ∃ (H0 : Hp) (n : Nat) (Y : Ro) (W : Wm) (q : Addr) (zs : List Str) (Fo : List Addr) (po : Addr) (so : Rm) (l : Addr) (a b c : Int), vs = [.ref Y.p, .ref Y.M.m, .ref W.m, .ref q, .ref l] ∧ H l = some (.lst [.int a, .int b, .int c]) ∧ R8 Rs H0 H n Y W q zs Fo po so ∧ n ≤ 190 ∧
  ∀ Y' W' H', Y'.p = Y.p → Y'.M.m = Y.M.m → W'.m = W.m → R8 Rs H0 H' (n + 1) Y' W' q zs Fo po so → Q (.bl true) H'
theorem R8.mono {Rs : RsT} {H0 H : Hp} {n k : Nat} {Y : Ro} {W : Wm} {q : Addr} {zs : List Str} {Fo : List Addr} {po : Addr} {so : Rm} (A : R8 Rs H0 H n Y W q zs Fo po so) (h : n ≤ k) : R8 Rs H0 H k Y W q zs Fo po so :=
  ⟨A.at_.mono h, A.nu, A.ws, A.fr, A.d1, A.to, A.pl, A.q1, A.q2, A.ot, A.d2, A.old, A.no, A.nw⟩
section
variable {P : Program} {w : World} {K : PySem.W.Frag} {mg : Str → Option Value} {base : Heap} {C : Addr} {kk : Kinds} {Rs : RsT}
theorem ok_step {f : Addr} {fd : FuncData} (F : Fun K "_law_step" "_law_step" s_step f fd) (A1 : RoomApi P w K mg base C kk Rs hsL) (LT : LTxt mg) (D3 : Def P w K mg base "_law_deed" 3 p_deed spDeed) (D4 : Def P w K mg base "_law_alike" 2 p_alike spAlike)
    (D5 : Def P w K mg base "_law_done" 10 p_done (spDone Rs)) (D6 : Def P w K mg base "_law_due" 4 p_due (spDueD fun _ => True)) (D7 : Def P w K mg base "_law_watch" 9 p_watch (spWatchL Rs)) (D8 : Def P w K mg base "_law_prefix" 1 p_prefix spPrefix) (D9 : Def P w K mg base "_law_watching" 10 p_watching (spWatchingL Rs)) :
    FnOk P w K mg base CX0 11 f fd p_step (spStep8 Rs) := by
  obtain ⟨f3, fd3, g3, k3, b3, G3⟩ := D3.ex
  obtain ⟨f4, fd4, g4, k4, b4, G4⟩ := D4.ex
  obtain ⟨f5, fd5, g5, k5, b5, G5⟩ := D5.ex
  obtain ⟨f6, fd6, g6, k6, b6, G6⟩ := D6.ex
  obtain ⟨f7, fd7, g7, k7, b7, G7⟩ := D7.ex
  obtain ⟨f8, fd8, g8, k8, b8, G8⟩ := D8.ex
  obtain ⟨f9, fd9, g9, k9, b9, G9⟩ := D9.ex
  refine F.ok sc_step (fun vs H Q E h => ?_) (fun cdv A outer s H vs Q E hr h => ?_)
  · obtain ⟨H0, n, Y, W, q, zs, Fo, po, so, l, a, b, c, rfl, _⟩ := h
    rfl
  · obtain ⟨H0, n, Y, W, q, zs, Fo, po, so, l, a, b, c, rfl, hl, A, hn, k⟩ := h
    have hu := hu_of hr
    have R : ∀ j, j ≤ 10 → Room j _ := fun j h => hr.mono h
    refine ⟨_, pss_cons (ps_if (pt_cmpR op_gt (pe_op op_mod (pe_ix ix_list (pv 4) pe_int (fun _ _ => rfl)) pe_int) pe_int (nomark _))
        (pss_cons (ps_set (i := 5) sc_step.nd rfl (Or.inl rfl) (pe_call G3 (R 3 (by decide)) rfl g3 k3 b3 .nil pass0 (pa_cons (pv 1) (pa_cons (pv 3) (pa_cons (pe_op op_fdiv (pe_ix ix_list (pv 4) pe_int (fun _ _ => rfl)) pe_int) (pa_cons (pe_ix ix_list (pv 4) pe_int (fun _ _ => rfl)) (pa_cons (pe_ix ix_list (pv 4) pe_int (fun _ _ => rfl)) pa_nil)))))))
        (pss_one (ps_ret (pe_call G4 (R 2 (by decide)) rfl g4 k4 b4 .nil pass0 (pa_cons (pe_call G5 (R 10 (by decide)) rfl g5 k5 b5 .nil pass0 (pa_cons (pv 0) (pa_cons (pv 5) pa_nil))) (pa_cons (pe_call G6 (R 4 (by decide)) rfl g6 k6 b6 .nil pass0 (pa_cons (pv 1) (pa_cons (pv 5) pa_nil))) pa_nil)))))) pss_nil)
      (pss_cons (ps_if (pt_cmpR op_eq (pe_op op_mod (pe_op op_fdiv (pe_ix ix_list (pv 4) pe_int (fun _ _ => rfl)) pe_int) pe_int) pe_int (nomark _))
        (pss_cons (ps_set (i := 6) sc_step.nd rfl (Or.inl rfl) (pe_op op_add (pe_dget hu (pv 2) pe_str (fun _ _ => rfl)) pe_int))
        (pss_cons (ps_set (i := 7) sc_step.nd rfl (Or.inl rfl) (pe_callB call_len_seq (by rfl) LT.len PySem.boot_len (pa_cons (pe_dget hu (pv 1) pe_str (fun _ _ => rfl)) pa_nil)))
        (pss_cons (ps_set (i := 8) sc_step.nd rfl (Or.inl rfl) (pe_ix ix_list (pe_lst (pa_cons (pe_op op_mod (pe_ix ix_list (pv 4) pe_int (fun _ _ => rfl)) (pe_op op_add (pv 7) pe_int)) (pa_cons (pv 6) (pa_cons (pe_op op_add (pv 7) pe_int) pa_nil)))) (pe_op op_mod (pe_op op_fdiv (pe_ix ix_list (pv 4) pe_int (fun _ _ => rfl)) pe_int) pe_int) (fun _ _ => rfl)))
        (pss_one (ps_ret (pe_call G7 (R 9 (by decide)) rfl g7 k7 b7 .nil pass0 (pa_cons (pv 0) (pa_cons (pv 2) (pa_cons (pv 6) (pa_cons (pv 7) (pa_cons (pe_call G8 (R 1 (by decide)) rfl g8 k8 b8 .nil pass0 (pa_cons (pv 3) (pa_cons (pe_ix ix_list (pv 4) pe_int (fun _ _ => rfl)) pa_nil))) (pa_cons (pv 8) pa_nil)))))))))))) pss_nil)
      (pss_one (ps_ret (pe_call G9 (R 10 (by decide)) rfl g9 k9 b9 .nil pass0 (pa_cons (pv 0) (pa_cons (pv 2) (pa_cons (pe_dget hu (pv 1) pe_str (fun _ _ => rfl)) (pa_cons (pe_ix ix_list (pv 4) pe_int (fun _ _ => rfl)) (pa_cons (pe_ix ix_list (pv 4) pe_int (fun _ _ => rfl)) pa_nil))))))))), ?_⟩
    have p1 := A.at_.n1
    have p2 := A.at_.n2
    have p3 := A.at_.n3
    have p5 := A.at_.n5
    have SO := A.rw_ (by omega)
    have lts : (Y.M.ts.map V.ref).length = Y.s.rows.length := by rw [List.length_map, Paired.length A.at_.md.rr]
    have i0 : atI [V.int a, V.int b, V.int c] 0 = some (.int a) := rfl
    have i1 : atI [V.int a, V.int b, V.int c] 1 = some (.int b) := rfl
    have i2 : atI [V.int a, V.int b, V.int c] 2 = some (.int c) := rfl
    refine ⟨_, rfl, l, _, 0, _, rfl, rfl, SqL.of hl, i0, _, _, rfl, rfl, (by show (0 : Int) < 3; decide), _, _, rfl, rfl, _, rfl, ?_⟩
    refine ite2 (fun _ => ?_) fun _ => ?_
    · refine ⟨_, rfl, _, rfl, _, rfl, l, _, 0, _, rfl, rfl, SqL.of hl, i0, _, _, rfl, rfl, ⟨by decide, by decide⟩, _, rfl, l, _, 1, _, rfl, rfl, SqL.of hl, i1, _, rfl, l, _, 2, _, rfl, rfl, SqL.of hl, i2, Y.M, Y.s, q, zs, _, b, c, rfl, A.at_.md, A.pl.at_, A.pl.six, A.pl.ok, fun dt d H3 hdt0 hdt dok s3 => ?_⟩
      have A3 := A.same A1 s3
      refine ⟨_, rfl, _, rfl, Y.F, Y.p, Y.s, dt, d, rfl, hdt, dok, A3.at_.rs, SO.st.fits, fun a1' r4 F4 H4 o1 R1 gr1 ch1 => ?_⟩
      have dM : ∀ b ∈ Y.M.l, b ∉ Y.F := fun b hb y => A3.at_.dj b y hb
      refine ⟨_, rfl, _, rfl, Y.M, Y.s, dt, d, rfl, ch1.tup _ _ hdt, trivial, dok, A3.at_.md.ch ch1 dM, A3.at_.sp, by omega, by omega, by omega, fun a2' r5 M5 H5 o2 S5 a5 ch2 m1 m2' m3 => ?_⟩
      obtain ⟨ea, es⟩ := DoR.uniq o1 o2
      subst ea es
      exact ⟨a1', rfl, k ⟨F4, Y.p, M5, r4⟩ W H5 rfl a5.m rfl (A3.deed A1 o1 R1 gr1 ch1 S5 a5 ch2 m1 m2' m3)⟩
    refine ⟨_, rfl, l, _, 0, _, rfl, rfl, SqL.of hl, i0, _, _, rfl, rfl, ⟨by decide, by decide⟩, _, _, rfl, rfl, (by show (0 : Int) < 3; decide), rfl, _, rfl, ?_⟩
    refine ite2 (fun _ => ?_) fun _ => ?_
    · refine ⟨_, rfl, W.m, _, rfl, A.ws.gG, _, _, rfl, rfl, _, rfl, Y.M.m, _, rfl, A.at_.md.gR, Y.M.ro, _, rfl, .inl (SqL.of A.at_.md.ro), ?_⟩
      rw [lts]
      refine ⟨_, rfl, l, _, 1, _, rfl, rfl, SqL.of hl, i1, _, rfl, _, _, rfl, rfl, _, _, rfl, rfl, (by show (0 : Int) < (Y.s.rows.length : Int) + 3; omega), _, rfl, _, rfl, _, _, rfl, rfl, (by show 3 ≤ sizeLine; decide), fun l2 hl2 => ?_⟩
      obtain ⟨st, _, e⟩ := at_ints (ns := [b % ((Y.s.rows.length : Int) + 3), (Y.s.gone : Int) + 1, (Y.s.rows.length : Int) + 1]) (z := c / 7 % 3) (by omega) (by show c / 7 % 3 < 3; omega)
      have s3 := same_new (o := .lst ([b % ((Y.s.rows.length : Int) + 3), (Y.s.gone : Int) + 1, (Y.s.rows.length : Int) + 1].map V.int)) hl2
      refine ⟨_, rfl, l, _, 2, _, rfl, rfl, SqL.of (s3 _ _ hl), i2, _, _, rfl, rfl, ⟨by decide, by decide⟩, _, _, rfl, rfl, (by show (0 : Int) < 3; decide), l2, _, _, _, rfl, rfl, SqL.of upd_same, e, ?_⟩
      refine ⟨_, rfl, _, rfl, _, rfl, _, rfl, _, rfl, _, rfl, l, _, 2, _, rfl, rfl, SqL.of (s3 _ _ hl), i2, q, zs, c, rfl, s3 _ _ A.pl.at_, A.pl.six, A.pl.ok, fun z H4 oz s4 => ?_⟩
      have s5 := s3.trans s4
      refine ⟨_, rfl, X8 Y W, z, st, rfl, SO.same A1 s5, oz, by show Y.s.met + 1 ≤ 500; omega, fun X' H' S' G' _ => ?_⟩
      exact k ⟨X'.F, Y.p, Y.M, X'.s⟩ X'.W H' rfl rfl G'.m ((A.same A1 s5).goW A1 S' G')
    · refine ⟨_, rfl, _, rfl, _, rfl, Y.M.m, _, rfl, A.at_.md.gR, _, rfl, l, _, 2, _, rfl, rfl, SqL.of hl, i2, _, rfl, l, _, 1, _, rfl, rfl, SqL.of hl, i1, X8 Y W, c, b, rfl, SO, fun X' H' S' G' => ?_⟩
      exact k ⟨X'.F, Y.p, Y.M, X'.s⟩ X'.W H' rfl rfl G'.m (((A.goW A1 S' G')).mono (by omega))
end
end KL

namespace KL
open PySem L2 L2H LX KB
/-! ### a law over one script, and what it begins with -/
def spLaw (K : PySem.W.Frag) : Sp := fun vs H Q _ => ∃ (a : Addr) (ns : List Int), vs = [.ref a] ∧ SqL K H a (ns.map V.int) ∧ ns.length ≤ 63 ∧ ∀ H', Q (.bl true) H'
theorem rg3 : ∀ m : Fin 64, Builtin.Range.small 2 ((m.val : Int) - 2) 3 = true ∧ Builtin.Range.rangeSize 2 ((m.val : Int) - 2) 3 = (((m.val - 2) / 3 : Nat) : Int) := by decide +kernel
theorem rg3_of {m : Nat} (h : m ≤ 63) : RgC 2 ((m : Int) - 2) 3 ((m - 2) / 3) := by
  have q := rg3 ⟨m, by omega⟩
  exact ⟨by decide, by decide, q.1, q.2⟩
theorem room_made {C : Addr} {H H' : Hp} {x dx : Addr} {F : List Addr} (nx : H x = none) (ndx : H dx = none) (f : ∀ a ∈ F, a = x ∨ upd (upd H dx (.own x)) x (.ins C dx []) a = none) (c : Ch (upd (upd H dx (.own x)) x (.ins C dx [])) H' [x]) :
    Same H H' ∧ ∀ a ∈ F, H a = none := by
  have s0 : Same H (upd (upd H dx (.own x)) x (.ins C dx [])) := fun b o e => by
    rw [upd_ne (ne_of_none e nx), upd_ne (ne_of_none e ndx)]; exact e
  refine ⟨fun b o e => c.at (s0 _ _ e) fun z => ne_of_none e nx (List.mem_singleton.mp z), fun a ha => ?_⟩
  rcases f a ha with rfl | h
  · exact nx
  · exact s0.free h
theorem ex_no {H : Hp} {a b : Addr} (x : ∃ o, H a = some o) (n : H b = none) : a ≠ b := fun z => by
  obtain ⟨o, e⟩ := x
  rw [z, n] at e
  cases e
end KL

namespace KL
open PySem L2 L2H LX KB
theorem nil_of {α β : Type} [DecidableEq α] {l : List (α × β)} (h : (fun _ => none) = getA l) : l = [] := by
  cases l with
  | nil => rfl
  | cons p r =>
    have := congrFun h p.1
    rw [getA_pos rfl] at this
    cases this
theorem MdAt.nil {H : Hp} {M : Mm} (S : MdAt H M .init) : M.hl = [] ∧ M.enl = [] ∧ M.spl = [] := ⟨nil_of S.fh, nil_of S.fe, nil_of S.fs⟩
theorem A5.mono {Rs : RsT} {H0 H : Hp} {n m : Nat} {X : Ro} (A : A5 Rs H0 H n X) (h : n ≤ m) : A5 Rs H0 H m X := ⟨A.at_.mono h, A.nu, A.g0, A.w0, A.old, A.no⟩
end KL

namespace KL
open PySem L2 L2H LX KB
/-! ### law_k08 -/
def W8 (Rs : RsT) (H0 : Hp) (p m wm q : Addr) (Fo : List Addr) (po : Addr) (so : Rm) (n : Nat) (H : Hp) : Prop := ∃ Y W zs, Y.p = p ∧ Y.M.m = m ∧ W.m = wm ∧ R8 Rs H0 H n Y W q zs Fo po so
theorem merge_w8 {al : Addr} : mergeK [] (wD 0 0 al) = wD 0 0 al := by
  have n1 := k_no (a := "met") (b := "all") (by decide +kernel)
  have n2 := k_no (a := "met") (b := "gone") (by decide +kernel)
  have n3 := k_no (a := "all") (b := "gone") (by decide +kernel)
  show putK (putK (putK ([] : List (Key × V)) (Sum.inr ("met" : Str)) (.int 0)) (Sum.inr ("all" : Str)) (.ref al)) (Sum.inr ("gone" : Str)) (.int 0) = _
  have e1 : putK ([] : List (Key × V)) (Sum.inr ("met" : Str)) (.int 0) = [(Sum.inr ("met" : Str), .int 0)] := rfl
  have e2 : putK ([(Sum.inr ("met" : Str), .int 0)] : List (Key × V)) (Sum.inr ("all" : Str)) (.ref al) = [(Sum.inr ("met" : Str), .int 0), (Sum.inr ("all" : Str), .ref al)] := putK_new _ (by rw [valV_neg n1]; rfl)
  have e3 : putK ([(Sum.inr ("met" : Str), .int 0), (Sum.inr ("all" : Str), .ref al)] : List (Key × V)) (Sum.inr ("gone" : Str)) (.int 0) = wD 0 0 al := putK_new _ (by rw [valV_neg n2, valV_neg n3]; rfl)
  rw [e1, e2, e3]
theorem cut3 {ns : List Int} {i : Nat} (h : i + 3 ≤ ns.length) : ∃ a b c, cutV (ns.map V.int) (some (i : Int)) (some ((i : Int) + 3)) = [V.int a, V.int b, V.int c] := by
  have e1 : HT.sIx ns.length 0 (some (i : Int)) = i := by
    have q := HT.sIx_nat ns.length 0 i
    rw [Nat.min_eq_left (by omega)] at q
    exact q
  have e2 : HT.sIx ns.length ns.length (some ((i : Int) + 3)) = i + 3 := by
    have q := HT.sIx_nat ns.length ns.length (i + 3)
    rw [Nat.min_eq_left (by omega)] at q
    exact q
  unfold cutV
  rw [List.length_map, e1, e2, ← List.map_drop, ← List.map_take]
  have e3 : i + 3 - i = 3 := by omega
  rw [e3]
  have hl : ((ns.drop i).take 3).length = 3 := by rw [List.length_take, List.length_drop]; omega
  match (ns.drop i).take 3, hl with
  | [a, b, c], _ => exact ⟨a, b, c, rfl⟩
/-- the other room: one change, and a watcher of all -/
def other8 : Rm := { putM .init "a" "b" 0 with met := 1, wat := setF (fun _ => none) 1 (some ⟨"", 0, 0⟩) }
section
variable {P : Program} {w : World} {K : PySem.W.Frag} {mg : Str → Option Value} {base : Heap} {C : Addr} {kk : Kinds} {Rs : RsT}
theorem ok_law {f : Addr} {fd : FuncData} (F : Fun K "law" "law" s_law f fd) (cl : Cls K C) (mgC : mg (Str.ofString "Room") = some (Value.ref C)) (A1 : RoomApi P w K mg base C kk Rs hsL) (LT : LTxt mg)
    (D0 : Def P w K mg base "_law_cell_at" 1 p_cell_at (spCellA K)) (D1 : Def P w K mg base "_law_pool" 3 p_pool spPool) (D2 : Def P w K mg base "_law_new" 1 p_new spNew) (D3 : Def P w K mg base "_law_crowd" 11 p_crowd (spCrowd Rs)) (D4 : Def P w K mg base "_law_step" 11 p_step (spStep8 Rs)) (D5 : Def P w K mg base "_law_stands" 10 p_stands (spStands8 Rs))
    (D6 : Def P w K mg base "_law_pulled" 9 p_pulled (spPulled Rs)) (D7 : Def P w K mg base "_law_alike" 2 p_alike spAlike) (D8 : Def P w K mg base "_law_changes" 3 p_changes (spChanges K)) : FnOk P w K mg base CX0 12 f fd p_law (spLaw K) := by
  obtain ⟨f0, fd0, g0, k0, b0, G0⟩ := D0.ex
  obtain ⟨f1, fd1, g1, k1, b1, G1⟩ := D1.ex
  obtain ⟨f2, fd2, g2, k2, b2, G2⟩ := D2.ex
  obtain ⟨f3, fd3, g3, k3, b3, G3⟩ := D3.ex
  obtain ⟨f4, fd4, g4, k4, b4, G4⟩ := D4.ex
  obtain ⟨f5, fd5, g5, k5, b5, G5⟩ := D5.ex
  obtain ⟨f6, fd6, g6, k6, b6, G6⟩ := D6.ex
  obtain ⟨f7, fd7, g7, k7, b7, G7⟩ := D7.ex
  obtain ⟨f8, fd8, g8, k8, b8, G8⟩ := D8.ex
  obtain ⟨fI, fdI, psI, MI, bI, GI⟩ := A1.make
  obtain ⟨fP, fdP, psP, mP, bP, ⟨dP, vP, b2P⟩, ⟨gP, kP⟩, GP⟩ := A1.put (by decide +kernel)
  obtain ⟨fW, fdW, psW, mW, bW, GW⟩ := (A1.watch (by decide +kernel)).ex
  obtain ⟨fL, fdL, psL, mL, bL, GL⟩ := (A1.last (by decide +kernel)).ex
  obtain ⟨fU, fdU, psU, mU, bU, GU⟩ := (A1.pull (by decide +kernel)).ex
  refine F.ok sc_law (fun vs H Q E h => ?_) (fun cdv A outer s H vs Q E hr h => ?_)
  · obtain ⟨a, ns, rfl, _⟩ := h
    rfl
  · obtain ⟨a, ns, rfl, hs, hlen, k⟩ := h
    have hu := hu_of hr
    have R : ∀ j, j ≤ 11 → Room j _ := fun j h => hr.mono h
    refine ⟨_, pss_cons (ps_set (i := 1) sc_law.nd rfl (Or.inl rfl) (pe_make0 MI GI (R 5 (by decide)) rfl mgC bI .nil pass0))
      (pss_cons (ps_set (i := 2) sc_law.nd rfl (Or.inl rfl) (pe_meth (E := E0) (pv 1) cl mW GW (R 8 (by decide)) bW .nil (passes_call takes0 (fun _ _ _ _ h => h)) (pa_cons pe_str (pa_cons (pe_meth (E := E0) (pv 1) cl mP GP (R 8 (by decide)) b2P vP (passes_call takes0 (fun _ _ _ _ h => h)) (pa_cons pe_str (pa_cons pe_str pa_nil))) pa_nil))))
      (pss_cons (ps_set (i := 3) sc_law.nd rfl (Or.inl rfl) (pe_make0 MI GI (R 5 (by decide)) rfl mgC bI .nil pass0))
      (pss_cons (ps_set (i := 4) sc_law.nd rfl (Or.inl rfl) (pe_call0 G2 (R 1 (by decide)) rfl g2 k2 b2 .nil pass0))
      (pss_cons (ps_set (i := 5) sc_law.nd rfl (Or.inl rfl) (pe_disp (pps_cons pe_str pe_int (pps_cons pe_str pe_dnewK (pps_cons pe_str pe_int pps_nil))) (by rfl) (by rfl) (fun z => by cases z) (by decide)))
      (pss_cons (ps_set (i := 6) sc_law.nd rfl (Or.inl rfl) (pe_call G1 (R 3 (by decide)) rfl g1 k1 b1 .nil pass0 (pa_cons (pe_call G0 (R 1 (by decide)) rfl g0 k0 b0 .nil pass0 (pa_cons (pv 0) (pa_cons pe_int pa_nil))) (pa_cons (pe_call G0 (R 1 (by decide)) rfl g0 k0 b0 .nil pass0 (pa_cons (pv 0) (pa_cons pe_int pa_nil))) pa_nil))))
      (C8.pss_cut (ps_if (PW.pt (pw_and (pt_cmpR op_eq (pe_op op_mod (pe_call G0 (R 1 (by decide)) rfl g0 k0 b0 .nil pass0 (pa_cons (pv 0) (pa_cons pe_int pa_nil))) pe_int) pe_int (nomark _))
          (pw_and1 (pt_not (pt_val (pe_call G3 (R 11 (by decide)) rfl g3 k3 b3 .nil pass0 (pa_cons (pv 3) (pa_cons (pv 4) (pa_cons (pe_call G0 (R 1 (by decide)) rfl g0 k0 b0 .nil pass0 (pa_cons (pv 0) (pa_cons pe_int pa_nil))) pa_nil))))))))) (pss_one (ps_ret pe_bl)) pss_nil)
      (pss_cons (ps_for PassesOwn.never rfl (pi_range3 (by rfl) LT.range (pa_cons pe_int (pa_cons (pe_op op_sub (pe_callB call_len_seq (by rfl) LT.len PySem.boot_len (pa_cons (pv 0) pa_nil)) pe_int) (pa_cons pe_int pa_nil)))) (pg_name (i := 7) sc_law.nd rfl (Or.inl rfl))
        (pss_one (ps_if (PW.pt (pw_or (pt_not (pt_val (pe_call G4 (R 11 (by decide)) rfl g4 k4 b4 .nil pass0 (pa_cons (pv 3) (pa_cons (pv 4) (pa_cons (pv 5) (pa_cons (pv 6) (pa_cons (pe_slice sl_list (pv 0) (po_some (pv 7)) (po_some (pe_op op_add (pv 7) pe_int))) pa_nil))))))))
          (pw_or1 (pt_not (pt_val (pe_call G5 (R 10 (by decide)) rfl g5 k5 b5 .nil pass0 (pa_cons (pv 3) (pa_cons (pv 4) (pa_cons (pv 5) pa_nil))))))))) (pss_one (ps_ret pe_bl)) pss_nil)))
      (pss_cons (ps_lock (ps_for PassesOwn.never rfl (pi_keys (pe_dget hu (pv 5) pe_str (fun _ _ => rfl))) (pg_name (i := 8) sc_law.nd rfl (Or.inl rfl))
        (pss_one (ps_if (pt_not (pt_val (pe_call G6 (R 9 (by decide)) rfl g6 k6 b6 .nil pass0 (pa_cons (pv 3) (pa_cons (pv 5) (pa_cons (pe_dget hu (pv 4) pe_str (fun _ _ => rfl)) (pa_cons (pv 8) (pa_cons (pe_op op_add (pe_callB call_len_seq (by rfl) LT.len PySem.boot_len (pa_cons (pe_dget hu (pv 4) pe_str (fun _ _ => rfl)) pa_nil)) pe_int) pa_nil)))))))) (pss_one (ps_ret pe_bl)) pss_nil))))
      (pss_one (ps_ret (pe_and (pe_call G7 (R 2 (by decide)) rfl g7 k7 b7 .nil pass0 (pa_cons (pe_meth0 (E := E0) (pv 1) cl mL GL (R 8 (by decide)) bL .nil pass0) (pa_cons pe_int pa_nil)))
        (pe_one (pe_call G8 (R 3 (by decide)) rfl g8 k8 b8 .nil pass0 (pa_cons (pe_meth (E := E0) (pv 1) cl mU GU (R 8 (by decide)) bU .nil (passes_call takes0 (fun _ _ _ _ h => h)) (pa_cons (pv 2) (pa_cons pe_int pa_nil)))
          (pa_cons (pe_lst (pa_cons (pe_tup (pa_cons pe_int (pa_cons pe_int (pa_cons pe_str (pa_cons pe_str (pa_cons pe_str pa_nil)))))) pa_nil)) pa_nil))))))))))))))), ?_⟩
    intro p1 dx1 nx1 nd1 ne1
    refine ⟨p1, dx1, rfl, upd_same, fun Fo Ha Lo fo Co => ⟨rfl, ?_⟩⟩
    obtain ⟨so, no_⟩ := room_made nx1 nd1 fo Co
    obtain ⟨_, dxo, fso, hobo, _, hfso⟩ := A1.inst Lo
    have ta : TOk 60 "a" := (TOk.one (c := 97) (by decide)).mono (by decide)
    have tb : TOk 60 "b" := (TOk.one (c := 98) (by decide)).mono (by decide)
    refine ⟨_, rfl, p1, dxo, fso, rfl, hobo, hfso _ (by simp [roomMs]), _, rfl, p1, dxo, fso, rfl, hobo, hfso _ (by simp [roomMs]), Fo, p1, .init, .put "a" "b" 0, _, rfl, ⟨"a", "b", 0, rfl, rfl, ta, tb⟩, Lo, ⟨Nat.zero_le _, Nat.zero_le _, Nat.zero_le _⟩, fun a1 s1 F1 H1 o1 R1 gr1 c1 => ?_⟩
    rcases o1 with ⟨⟨n0, _⟩, _, _⟩ | ⟨_, ⟨v, j, e, _⟩, _, _⟩ | ⟨_, _, rfl, rfl⟩
    · exact absurd rfl n0
    · cases e
    refine ⟨F1, p1, "", _, _, rfl, R1, TOk.nil.mono (by decide), ⟨by show 1 ≤ 900; decide, Nat.zero_le _, Nat.zero_le _⟩, fun bad => ?_, fun _ _ F2 H2 R2 gr2 c2' => ?_⟩
    · exfalso
      change (0 : Int) + 1 < (0 : Int) + 1 ∨ (1 : Int) + 1 < (0 : Int) + 1 at bad
      omega
    have R2 : Rs F2 H2 p1 other8 := R2
    have c2 : Ch Ha H2 Fo := c1.seq gr1 c2'
    have gr02 : Grow Fo F2 Ha := gr1.trans gr2 fun x e => c1.none x e
    have z2 : Same H H2 := c2.old so no_
    have nF2 : ∀ x ∈ F2, H x = none := fun x hx => by
      rcases gr02 x hx with z | z
      · exact no_ x z
      · exact so.free z
    clear c2 c2' gr2 gr02 R1 gr1 c1 hobo hfso Lo fo Co nx1 nd1 ne1 so no_
    intro p0 dx nx ndx nex
    refine ⟨p0, dx, rfl, upd_same, fun F0 Hb Lb fb Cb => ⟨rfl, ?_⟩⟩
    obtain ⟨sb, nb⟩ := room_made nx ndx fb Cb
    refine ⟨rfl, fun M0 Hd A0 ex0 n0 sd => ?_⟩
    intro m hm al hal
    have s3 : Same Hd (upd Hd m (.dK [])) := same_new hm
    have m3 : upd Hd m (.dK []) m = some (.dK []) := upd_same
    have nma : m ≠ al := ne_of_none m3 hal
    have s4 := same_new (o := .dK []) hal
    have m4 := s4 _ _ m3
    have al4 : upd (upd Hd m (.dK [])) al (.dK []) al = some (.dK []) := upd_same
    have hal0 : Hd al = none := s3.free hal
    try dsimp only
    have s34 := s3.trans s4
    generalize upd (upd Hd m (.dK [])) al (.dK []) = Hx at s34 m4 al4
    refine ⟨m4, wD 0 0 al, rfl, (by show 3 ≤ 15; decide), ?_⟩
    rw [merge_w8]
    have m5 : upd Hx m (.dK (wD 0 0 al)) m = some (.dK (wD 0 0 al)) := upd_same
    have al5 : upd Hx m (.dK (wD 0 0 al)) al = some (.dK []) := by rw [upd_ne nma.symm]; exact al4
    have s5 : Same Hd (upd Hx m (.dK (wD 0 0 al))) := fun b o e => by rw [upd_ne (ne_of_none e hm)]; exact s34 _ _ e
    generalize upd Hx m (.dK (wD 0 0 al)) = He at m5 al5 s5
    clear m4 al4 s34 m3 s3 s4 hal
    have z1 : Same H He := z2.trans (sb.trans (sd.trans s5))
    refine ⟨_, rfl, a, ns, 0, rfl, z1.seq hs, fun c0 => ⟨_, rfl, a, ns, 1, rfl, z1.seq hs, fun c1 => ⟨c0, c1, rfl, fun q zs Hg hq hqz hz6 hzs _ sg => ?_⟩⟩⟩
    have eF0 : ∀ x ∈ F0, ∃ o, Hb x = some o := A1.own Lb
    have eF2 : ∀ x ∈ F2, ∃ o, H2 x = some o := A1.own R2
    have up : ∀ {h1 h2 : Hp} {x : Addr}, Same h1 h2 → (∃ o, h1 x = some o) → ∃ o, h2 x = some o := fun s ⟨o, e⟩ => ⟨o, s _ _ e⟩
    have nil0 := MdAt.nil A0
    have AX0 : A5 Rs H Hg 0 ⟨F0, p0, M0, .init⟩ := by
      refine ⟨⟨A1.frame Lb (Ch.of (sd.trans (s5.trans sg)) []) (fun _ _ z => nomatch z), (A0.same s5).same sg, (fun h z => absurd rfl z), fun x hx z => ex_no (eF0 x hx) (n0 x z) rfl, by show 0 + M0.hl.length ≤ 0; rw [nil0.1]; exact Nat.le_refl _, by show M0.enl.length ≤ 0; rw [nil0.2.1]; exact Nat.le_refl _, by show M0.spl.length ≤ 0; rw [nil0.2.2]; exact Nat.le_refl _, Nat.le_refl _, Nat.le_refl _⟩,
        Num.nil, rfl, rfl, z1.trans sg, fun x hx => ?_⟩
      rcases List.mem_append.mp hx with hx | hx
      · exact z2.free (nb x hx)
      · exact (z2.trans sb).free (n0 x hx)
    -- the rooms' and the tables' places are there ahead of the watchers' table
    have exO : ∀ x ∈ Ro.O ⟨F0, p0, M0, .init⟩, ∃ o, Hd x = some o := fun x hx => by
      rcases List.mem_append.mp hx with hx | hx
      · exact up sd (eF0 x hx)
      · have S := A0
        have hx : x ∈ M0.l := hx
        simp only [Mm.l, List.mem_cons, List.not_mem_nil, or_false] at hx
        rcases hx with rfl | rfl | rfl | rfl | rfl
        · exact ⟨_, S.di⟩
        · exact ⟨_, S.sp⟩
        · exact ⟨_, S.en⟩
        · exact ⟨_, S.he⟩
        · exact ⟨_, S.ro⟩
    have O_m : m ∉ Ro.O ⟨F0, p0, M0, .init⟩ := fun z => ex_no (exO _ z) hm rfl
    have O_al : al ∉ Ro.O ⟨F0, p0, M0, .init⟩ := fun z => ex_no (exO _ z) hal0 rfl
    have O_q : q ∉ Ro.O ⟨F0, p0, M0, .init⟩ := fun z => ex_no (up s5 (exO _ z)) hq rfl
    have F2O : ∀ x ∈ F2, x ∉ Ro.O ⟨F0, p0, M0, .init⟩ := fun x hx z => by
      rcases List.mem_append.mp z with z | z
      · exact ex_no (eF2 x hx) (nb x z) rfl
      · exact ex_no (up sb (eF2 x hx)) (n0 x z) rfl
    have F2_m : m ∉ F2 := fun z => ex_no (up (sb.trans sd) (eF2 _ z)) hm rfl
    have F2_al : al ∉ F2 := fun z => ex_no (up (sb.trans sd) (eF2 _ z)) hal0 rfl
    have m_q : m ≠ q := ne_of_none m5 hq
    have al_q : al ≠ q := ne_of_none al5 hq
    have H_m : H m = none := (z2.trans (sb.trans sd)).free hm
    have H_al : H al = none := (z2.trans (sb.trans sd)).free hal0
    have hmg := sg _ _ m5
    have halg := sg _ _ al5
    have R2g := A1.frame R2 (Ch.of (sb.trans (sd.trans (s5.trans sg))) []) (fun _ _ z => nomatch z)
    clear eF0 up nil0 exO Lb fb Cb nb nx ndx nex sb A0 n0 sd hm hal0 m5 al5 s5 sg hq z1
    refine ⟨fun σ H' => σ = [some (.ref a), some (.ref p1), some (.int 1), some (.ref p0), some (.ref M0.m), some (.ref m), some (.ref q), none, none] ∧ W8 Rs H p0 M0.m m q F2 p1 other8 71 H', ?_, ?_⟩
    · have put : ∀ {Y : Ro} {H' : Hp}, A5 Rs H H' 71 Y → Go Hg ⟨F0, p0, M0, .init⟩ H' Y → W8 Rs H p0 M0.m m q F2 p1 other8 71 H' := fun {Y H'} A G => by
        have far : ∀ {x : Addr} {o : HO}, Hg x = some o → x ∉ Ro.O ⟨F0, p0, M0, .init⟩ → x ∉ Y.O := fun {x o} e n z => by
          rcases G.g x z with z | z
          · exact n z
          · rw [e] at z; cases z
        have met0 : Y.s.met = 0 := G.me
        refine ⟨Y, ⟨m, al, [], [], []⟩, zs, G.p, G.m.m, rfl, A.at_, A.nu, ⟨?_, .inl (G.c.at halg O_al), .nil, (fun _ z => nomatch z), A.w0, .nil, ?_, (fun _ z => nomatch z), (fun _ z => nomatch z), (fun _ z => nomatch z), Nat.zero_le _, by rw [A.g0]; exact Nat.zero_le _⟩, G.c.at halg O_al, fun x hx z => ?_, .inl rfl, ⟨G.c.at hqz O_q, hz6, hzs⟩, far hqz O_q, fun z => ?_, A1.frame R2g G.c F2O, fun x hx => ⟨?_, fun z => ?_⟩, A.old, A.no, fun x hx => ?_⟩
        · show H' m = some (.dK (wD Y.s.met Y.s.gone al ++ []))
          rw [met0, A.g0]
          exact G.c.at hmg O_m
        · show [al, m].Nodup
          exact List.nodup_cons.mpr ⟨by simp [nma.symm], List.nodup_cons.mpr ⟨by simp, List.nodup_nil⟩⟩
        · change x ∈ [al, m] at z
          simp only [List.mem_cons, List.not_mem_nil, or_false] at z
          rcases z with rfl | rfl
          · exact far halg O_al hx
          · exact far hmg O_m hx
        · change q ∈ [al, m] at z
          simp only [List.mem_cons, List.not_mem_nil, or_false] at z
          rcases z with z | z
          · exact al_q z.symm
          · exact m_q z.symm
        · obtain ⟨o, e⟩ := A1.own R2g x hx
          exact far e (F2O x hx)
        · change x ∈ [al, m] at z
          simp only [List.mem_cons, List.not_mem_nil, or_false] at z
          rcases z with rfl | rfl
          · exact F2_al hx
          · exact F2_m hx
        · change x ∈ [al, m] at hx
          simp only [List.mem_cons, List.not_mem_nil, or_false] at hx
          rcases hx with rfl | rfl
          · exact H_al
          · exact H_m
      refine ⟨_, rfl, a, ns, 1, rfl, AX0.old.seq hs, fun cc => ⟨_, _, rfl, rfl, (by show (0 : Int) < 4; decide), rfl, _, rfl, ?_⟩⟩
      refine ite2 (fun _ => ?_) fun _ => ⟨rfl, put (AX0.mono (by decide)) (Go.refl _ _)⟩
      exact ⟨_, rfl, _, rfl, _, rfl, a, ns, 0, rfl, AX0.old.seq hs, fun cc => ⟨H, ⟨F0, p0, M0, .init⟩, cc, rfl, AX0, fun X' H' A' G => ⟨true, rfl, iteF ⟨rfl, put A' G⟩⟩⟩⟩
    rintro σ H1 ⟨rfl, W0⟩
    clear AX0 O_m O_al O_q F2O F2_m F2_al m_q al_q H_m H_al hmg halg R2g hqz hz6 hzs ex0 nma eF2 R2 z2 nF2
    generalize M0.m = mm at W0 ⊢
    clear M0 F0
    have seq : ∀ {n H'}, W8 Rs H p0 mm m q F2 p1 other8 n H' → SqL K H' a (ns.map V.int) := fun {n H'} ⟨_, _, _, _, _, _, A⟩ => A.old.seq hs
    have hlm : (ns.map V.int).length ≤ 63 := by rw [List.length_map]; exact hlen
    refine ⟨_, rfl, a, _, rfl, .inl (seq W0), _, _, rfl, rfl, 2, _, 3, ((ns.map V.int).length - 2) / 3, rfl, rg3_of hlm, ?_⟩
    refine for_rangeC (n := ((ns.map V.int).length - 2) / 3) (fun i σ H' => (∃ y7 : Option V, σ = [some (.ref a), some (.ref p1), some (.int 1), some (.ref p0), some (.ref mm), some (.ref m), some (.ref q), y7, none]) ∧ W8 Rs H p0 mm m q F2 p1 other8 (71 + i) H') ⟨⟨_, rfl⟩, W0⟩ ?_ ?_
    · rintro i σ H1 hi ⟨⟨y7, rfl⟩, W1⟩
      rw [List.length_map] at hi
      have i20 : i ≤ 20 := by omega
      obtain ⟨x1, x2, x3, ex⟩ := cut3 (ns := ns) (i := 2 + i * 3) (by omega)
      have ei : ((2 + i * 3 : Nat) : Int) = 2 + (i : Int) * 3 := by omega
      rw [ei] at ex
      obtain ⟨Y, W, zs, rfl, rfl, rfl, A⟩ := W1
      refine ⟨_, rfl, _, rfl, _, rfl, _, rfl, _, rfl, _, rfl, _, rfl, _, rfl, _, _, rfl, rfl, _, rfl, a, _, rfl, A.old.seq hs, fun l hl => ?_⟩
      rw [ex]
      have s2 := same_new (o := .lst [V.int x1, V.int x2, V.int x3]) hl
      refine ⟨H, 71 + i, Y, W, q, zs, F2, p1, other8, l, x1, x2, x3, rfl, upd_same, A.same A1 s2, by omega, fun Y' W' H' e1 e2 e3 A' => ⟨true, rfl, iteF ?_⟩⟩
      refine ⟨_, rfl, _, rfl, _, rfl, H, 71 + i + 1, Y', W', q, zs, F2, p1, other8, by show [V.ref Y.p, V.ref Y.M.m, V.ref W.m] = [V.ref Y'.p, V.ref Y'.M.m, V.ref W'.m]; rw [e1, e2, e3], A', by omega, fun F' H'' A'' => ⟨true, rfl, iteF ⟨⟨_, rfl⟩, ⟨F', Y'.p, Y'.M, Y'.s⟩, W', zs, e1, e2, e3, A''⟩⟩⟩
    · rintro σ H1 ⟨⟨y7, rfl⟩, Y, W, zs, rfl, rfl, rfl, A⟩
      have hn : 71 + ((ns.map V.int).length - 2) / 3 ≤ 200 := by omega
      have SO := A.rw_ hn
      have fr : H1 W.al = some (.dK W.wk) := A.fr
      have S := A.at_.md
      refine ⟨W.al, _, fr, trivial, fun od => ?_⟩
      have SL : RwSt Rs (upd H1 W.al (.frz od (.dK W.wk))) (X8 Y W) := SO.st.swap A1 (u := .frz od (.dK W.wk)) fr (fun xs e => by cases e) (.inr ⟨od, rfl⟩)
      have hL : upd H1 W.al (.frz od (.dK W.wk)) W.al = some (.frz od (.dK W.wk)) := upd_same
      have cL : Ch H1 (upd H1 W.al (.frz od (.dK W.wk))) [W.al] := (Ch.refl _ _).mut (List.mem_singleton.mpr rfl) fr (fun xs e => by cases e)
      have alW : W.al ∈ W.l := by simp [Wm.l]
      have ML := S.ch cL fun b hb z => A.d1 b (List.mem_append_right _ hb) (by rw [List.mem_singleton.mp z]; exact alW)
      have OL := A1.frame A.ot cL fun b hb z => (A.d2 b hb).2 (by rw [List.mem_singleton.mp z]; exact alW)
      generalize upd H1 W.al (.frz od (.dK W.wk)) = HL at SL hL ML OL
      clear cL
      have lts : (Y.M.ts.map V.ref).length = Y.s.rows.length := by rw [List.length_map, Paired.length S.rr]
      have MA : ∀ b ∈ Y.M.l, b ∉ (X8 Y W).A := fun b hb z => by
        rcases List.mem_append.mp z with z | z
        · exact A.at_.dj b z hb
        · exact A.d1 b (List.mem_append_right _ hb) z
      have OA : ∀ b ∈ F2, b ∉ (X8 Y W).A := fun b hb z => by
        rcases List.mem_append.mp z with z | z
        · exact (A.d2 b hb).1 (List.mem_append_left _ z)
        · exact (A.d2 b hb).2 z
      have b1' := SO.st.b1
      have b1' : Y.s.rows.length ≤ 500 := b1'
      refine ⟨_, rfl, W.m, _, rfl, SL.ws.gA, W.al, od, rfl, .inl ⟨_, hL, ?_⟩⟩
      refine for_it walk_keys (fun i σ H' => ∃ (X' : Rw) (y7 y8 : Option V), σ = [some (.ref a), some (.ref p1), some (.int 1), some (.ref X'.p), some (.ref Y.M.m), some (.ref X'.W.m), some (.ref q), y7, y8] ∧ RwSt Rs H' X' ∧ GoW 0 HL (X8 Y W) H' X' ∧ H' W.al = some (.frz od (.dK W.wk)) ∧ X'.W.wl.map (·.1) = W.wl.map (·.1)) ⟨X8 Y W, _, none, rfl, SL, GoW.refl _ _, hL, rfl⟩ ?_ ?_ ?_
      · rintro i σ H' _ ⟨_, _, _, _, _, _, h, _⟩
        exact h
      · rintro i x σ H2a H2 hi ⟨X2, z7, z8, rfl, S2, G2', h2, ek2⟩ ⟨rfl, ky, vv, ek, rfl⟩
        obtain ⟨y, ey, e1, _⟩ := dRel_at SL.ws.re ek
        dsimp only at e1
        subst e1
        obtain ⟨y2, hy2, ey2⟩ : ∃ y2 ∈ X2.W.wl, y2.1 = y.1 := by
          have m : y.1 ∈ X2.W.wl.map (·.1) := by
            rw [ek2]
            exact List.mem_map.mpr ⟨y, List.mem_of_getElem? ey, rfl⟩
          obtain ⟨z, hz, e⟩ := List.mem_map.mp m
          exact ⟨z, hz, e⟩
        have g2 := getA_of S2.ws.nw hy2
        rw [ey2] at g2
        have M2 := ML.ch G2'.c MA
        have er : X2.ro = Y.M.ro := G2'.ro
        have ea : X2.W.al = W.al := G2'.al
        refine ⟨_, rfl, _, rfl, _, rfl, Y.M.m, _, rfl, M2.gR, _, rfl, _, rfl, Y.M.m, _, rfl, M2.gR, Y.M.ro, _, rfl, .inl (SqL.of M2.ro), _, _, rfl, rfl, X2, y.1, (((Y.M.ts.map V.ref).length : Nat) : Int) + 1, y2.2.1, y2.2.2, by show [V.ref X2.p, V.ref X2.W.m, V.ref Y.M.ro, V.int y.1, V.int ((((Y.M.ts.map V.ref).length : Nat) : Int) + 1)] = [V.ref X2.p, V.ref X2.W.m, V.ref X2.ro, V.int y.1, V.int ((((Y.M.ts.map V.ref).length : Nat) : Int) + 1)]; rw [er], S2, ?_, g2, fun F3 t3 H3 S3 gr3 c3 => ⟨true, rfl, iteF ?_⟩⟩
        · rw [List.length_map]
          omega
        obtain ⟨X3, S3', G3', ew3, ek3, h3, _⟩ := S2.after g2 S3 gr3 c3 (by rw [ea]; exact h2)
        rw [← G3'.p, ← G3'.m]
        exact ⟨X3, _, _, rfl, S3', G2'.trans G3', by rw [← ea]; exact h3, ek3.trans ek2⟩
      · rintro σ H2 ⟨X2, z7, z8, rfl, S2, G2', h2, ek2⟩
        refine ⟨h2, ?_⟩
        have O2 := A1.frame OL G2'.c OA
        have O3 := A1.frame O2 ((Ch.refl H2 [W.al]).mut (o := .dK W.wk) (List.mem_singleton.mpr rfl) h2 (fun xs e => by cases e)) fun b hb z => (A.d2 b hb).2 (by rw [List.mem_singleton.mp z]; exact alW)
        generalize upd H2 W.al (.dK W.wk) = H3 at O3
        clear O2 G2' S2 h2
        obtain ⟨_, dx3, fs3, hob3, _, hfs3⟩ := A1.inst O3
        refine ⟨_, rfl, p1, dx3, fs3, rfl, hob3, hfs3 _ (by simp [roomMs]), F2, p1, other8, rfl, O3, fun F4 H4 R4 gr4 c4 => ⟨.num 1, rfl, true, rfl, iteT ?_⟩⟩
        obtain ⟨_, dx4, fs4, hob4, _, hfs4⟩ := A1.inst R4
        have ow : other8.wat 1 = some (⟨"", 0, 0⟩ : Wt) := by
          show setF (fun _ : Int => (none : Option Wt)) 1 (some (⟨"", 0, 0⟩ : Wt)) 1 = _
          unfold setF
          rw [if_pos rfl]
        refine ⟨_, rfl, p1, dx4, fs4, rfl, hob4, hfs4 _ (by simp [roomMs]), _, rfl, F4, p1, 1, _, other8, rfl, ⟨_, rfl⟩, R4, ⟨by show 1 ≤ 900; decide, Nat.zero_le _, by show 1 ≤ 900; decide⟩, (fun e => by rw [ow] at e; cases e), fun w' ew' => ?_⟩
        obtain rfl : w' = (⟨"", 0, 0⟩ : Wt) := by rw [ow] at ew'; exact (Option.some.inj ew').symm
        refine ⟨_, rfl, by decide, fun F5 q5 ts5 H5 R5 gr5 c5 hq5 nq5 hqq5 hts5 => ?_⟩
        have due : dueW other8 ⟨"", 0, 0⟩ 9 = [⟨1, 0, "put", "a", "b"⟩] := by
          have nu : Num other8.rows := Num.nil.snoc rfl
          have e := wantedM_all nu 0 (most := 9) (by show ((1 : Nat) : Int) ≤ 9; decide)
          exact e
        rw [due] at hts5
        refine ⟨(by show 5 ≤ sizeLine; decide), fun tp htp => ⟨(by show 1 ≤ sizeLine; decide), fun l hl => ?_⟩⟩
        have s6 := same_new (o := .tup [V.int 1, V.int 0, V.str "put", V.str "a", V.str "b"]) htp
        have s7 := s6.trans (same_new (o := .lst [V.ref tp]) hl)
        have ht : upd (upd H5 tp (.tup [V.int 1, V.int 0, V.str "put", V.str "a", V.str "b"])) l (.lst [V.ref tp]) tp = some (.tup (Row.mk 1 0 "put" "a" "b").V) := same_new hl _ _ upd_same
        exact ⟨q5, l, ts5, [tp], _, rfl, s7 _ _ hqq5, upd_same, hts5.keep fun b xs e => s7 _ _ e, .cons ht .nil, (fun r hr => by rw [List.mem_singleton.mp hr]; exact ⟨(by show PyData.strOk ("put" : Str) = true; decide +kernel), ta, tb⟩), k _⟩
end
end KL

namespace KL
open PySem
theorem kit_own {K : PySem.W.Frag} {D B : Addr} {b : Bool} (hd : PySem.W.hasDictIn K B = true) (ht : PySem.W.typeIn K (.ref B) = some (.type "type")) (self : PySem.W.subIn K (.ref D) (.ref D) = some true) (h : PySem.W.subIn K (.ref D) (.ref B) = some b) :
    PySem.W.kitOne K (.ref D) (.ref B) = some b := by
  by_cases e : D = B
  · subst e
    rw [self] at h
    rw [← h]
    exact if_pos (beq_self_eq_true _)
  · obtain ⟨cd, hc, _⟩ := PySem.W.any_some hd
    have n : ¬ ((Value.ref D == Value.ref B) = true) := fun z => e (Value.ref.inj (beq_iff_eq.mp z))
    have y : ((PySem.W.clsIn K B).isSome && PySem.W.typeIn K (.ref B) == some (.type "type")) = true := by rw [hc, ht]; rfl
    unfold PySem.W.kitOne PySem.W.kitCls
    rw [if_neg n]
    dsimp only
    rw [if_pos y]
    exact h
theorem kit_type {K : PySem.W.Frag} {D : Addr} {T : String} {b : Bool} (m : PySem.W.kitMeta T = true) (h : PySem.W.subIn K (.ref D) (.type T) = some b) : PySem.W.kitOne K (.ref D) (.type T) = some b := by
  have n : ¬ ((Value.ref D == Value.type T) = true) := fun z => by cases beq_iff_eq.mp z
  unfold PySem.W.kitOne PySem.W.kitCls
  rw [if_neg n]
  dsimp only
  rw [if_pos m]
  exact h
end KL
namespace KL
open PySem L2 L2H
theorem vals_app {a b : List V} {c d : List Value} (h : Vals a c) (k : Vals b d) : Vals (a ++ b) (c ++ d) := by
  induction h with
  | nil => exact k
  | cons r m ih => exact .cons r ih
theorem vals_rev {a : List V} {c : List Value} (h : Vals a c) : Vals a.reverse c.reverse := by
  induction h with
  | nil => exact .nil
  | cons r m ih =>
    rw [List.reverse_cons, List.reverse_cons]
    exact vals_app ih (.cons r .nil)
theorem vals_appR {a b : List V} {c d : List Value} (h : Vals a c) (k : Vals b d) : Vals (a ++ b.reverse) (c ++ d.reverse) := vals_app h (vals_rev k)
end KL

namespace KL
open PySem L2 L2H LX KB

theorem all_mk {l : PySem.W.OpenLaw} {w : World} {K : PySem.W.Frag} {h : Heap} {mg : Str → Option Value} {fa C_Leases C_Log C_Watcher C_Room f_Leases_init f_Leases_grant f_Leases_renew f_Leases_drop f_Leases_due f_Leases_refuse_unknown f_Log_init f_Log_note f_Log_last f_Log_first f_Log_wanted f_Log_forget f_Watcher_init f_Room_init f_Room_grant f_Room_renew f_Room_drop f_Room_wait f_Room_put dT_Room_put f_Room_cut dT_Room_cut f_Room_value f_Room_holder f_Room_pairs f_Room_last f_Room_first f_Room_watch f_Room_pull f_Room_confirm f_Room_broken f_Room_leave f_Room_trim f_Room_u_end f_Room_u_take_out f_Room_u_refuse_lease f_Room_u_refuse_held f_Room_u_watching f_Room_u_refuse_watcher f_whole f_cell_at f_sign f_text f_pool f_prefix f_new f_note f_over f_go f_due_of_key f_due f_only f_call f_done f_alike f_ticks f_deed f_change f_changes f_pairs f_watch f_pulled f_trimmed f_stranger f_watching f_key f_crowd f_values f_stands f_step f_law E_LeaseError E_BadTicks E_NoLease E_NoKey E_Held E_NoStart E_NoWatch : Addr} {dt0_Room_put dt0_Room_cut tm_MOST_TICKS : Tok} (X : K.In h) (G : h.Ns mainGlobals mg) (hfa : mg "law" = some (.ref fa))
    {od_Leases_init an_Leases_init od_Leases_grant an_Leases_grant od_Leases_renew an_Leases_renew od_Leases_drop an_Leases_drop od_Leases_due an_Leases_due od_Leases_refuse_unknown an_Leases_refuse_unknown od_Log_init an_Log_init od_Log_note an_Log_note od_Log_last an_Log_last od_Log_first an_Log_first od_Log_wanted an_Log_wanted od_Log_forget an_Log_forget od_Watcher_init an_Watcher_init od_Room_init an_Room_init od_Room_grant an_Room_grant od_Room_renew an_Room_renew od_Room_drop an_Room_drop od_Room_wait an_Room_wait od_Room_put an_Room_put do_Room_put od_Room_cut an_Room_cut do_Room_cut od_Room_value an_Room_value od_Room_holder an_Room_holder od_Room_pairs an_Room_pairs od_Room_last an_Room_last od_Room_first an_Room_first od_Room_watch an_Room_watch od_Room_pull an_Room_pull od_Room_confirm an_Room_confirm od_Room_broken an_Room_broken od_Room_leave an_Room_leave od_Room_trim an_Room_trim od_Room_u_end an_Room_u_end od_Room_u_take_out an_Room_u_take_out od_Room_u_refuse_lease an_Room_u_refuse_lease od_Room_u_refuse_held an_Room_u_refuse_held od_Room_u_watching an_Room_u_watching od_Room_u_refuse_watcher an_Room_u_refuse_watcher od_whole an_whole od_cell_at an_cell_at od_sign an_sign od_text an_text od_pool an_pool od_prefix an_prefix od_new an_new od_note an_note od_over an_over od_go an_go od_due_of_key an_due_of_key od_due an_due od_only an_only od_call an_call od_done an_done od_alike an_alike od_ticks an_ticks od_deed an_deed od_change an_change od_changes an_changes od_pairs an_pairs od_watch an_watch od_pulled an_pulled od_trimmed an_trimmed od_stranger an_stranger od_watching an_watching od_key an_key od_crowd an_crowd od_values an_values od_stands an_stands od_step an_step od_law an_law : Option Addr} {sl_Leases_init sl_Leases_grant sl_Leases_renew sl_Leases_drop sl_Leases_due sl_Leases_refuse_unknown sl_Log_init sl_Log_note sl_Log_last sl_Log_first sl_Log_wanted sl_Log_forget sl_Watcher_init sl_Room_init sl_Room_grant sl_Room_renew sl_Room_drop sl_Room_wait sl_Room_put ds_Room_put sl_Room_cut ds_Room_cut sl_Room_value sl_Room_holder sl_Room_pairs sl_Room_last sl_Room_first sl_Room_watch sl_Room_pull sl_Room_confirm sl_Room_broken sl_Room_leave sl_Room_trim sl_Room_u_end sl_Room_u_take_out sl_Room_u_refuse_lease sl_Room_u_refuse_held sl_Room_u_watching sl_Room_u_refuse_watcher sl_whole sl_cell_at sl_sign sl_text sl_pool sl_prefix sl_new sl_note sl_over sl_go sl_due_of_key sl_due sl_only sl_call sl_done sl_alike sl_ticks sl_deed sl_change sl_changes sl_pairs sl_watch sl_pulled sl_trimmed sl_stranger sl_watching sl_key sl_crowd sl_values sl_stands sl_step sl_law : Array (Option Value)} {oc_Leases_init kV_Leases_init dc_Leases_init pm_Leases_init cd_Leases_init ct_Leases_init oc_Leases_grant kV_Leases_grant dc_Leases_grant pm_Leases_grant cd_Leases_grant ct_Leases_grant oc_Leases_renew kV_Leases_renew dc_Leases_renew pm_Leases_renew cd_Leases_renew ct_Leases_renew oc_Leases_drop kV_Leases_drop dc_Leases_drop pm_Leases_drop cd_Leases_drop ct_Leases_drop oc_Leases_due kV_Leases_due dc_Leases_due pm_Leases_due cd_Leases_due ct_Leases_due oc_Leases_refuse_unknown kV_Leases_refuse_unknown dc_Leases_refuse_unknown pm_Leases_refuse_unknown cd_Leases_refuse_unknown ct_Leases_refuse_unknown oc_Log_init kV_Log_init dc_Log_init pm_Log_init cd_Log_init ct_Log_init oc_Log_note kV_Log_note dc_Log_note pm_Log_note cd_Log_note ct_Log_note oc_Log_last kV_Log_last dc_Log_last pm_Log_last cd_Log_last ct_Log_last oc_Log_first kV_Log_first dc_Log_first pm_Log_first cd_Log_first ct_Log_first oc_Log_wanted kV_Log_wanted dc_Log_wanted pm_Log_wanted cd_Log_wanted ct_Log_wanted oc_Log_forget kV_Log_forget dc_Log_forget pm_Log_forget cd_Log_forget ct_Log_forget oc_Watcher_init kV_Watcher_init dc_Watcher_init pm_Watcher_init cd_Watcher_init ct_Watcher_init oc_Room_init kV_Room_init dc_Room_init pm_Room_init cd_Room_init ct_Room_init oc_Room_grant kV_Room_grant dc_Room_grant pm_Room_grant cd_Room_grant ct_Room_grant oc_Room_renew kV_Room_renew dc_Room_renew pm_Room_renew cd_Room_renew ct_Room_renew oc_Room_drop kV_Room_drop dc_Room_drop pm_Room_drop cd_Room_drop ct_Room_drop oc_Room_wait kV_Room_wait dc_Room_wait pm_Room_wait cd_Room_wait ct_Room_wait oc_Room_put kV_Room_put dc_Room_put pm_Room_put cd_Room_put ct_Room_put dcl_Room_put oc_Room_cut kV_Room_cut dc_Room_cut pm_Room_cut cd_Room_cut ct_Room_cut dcl_Room_cut oc_Room_value kV_Room_value dc_Room_value pm_Room_value cd_Room_value ct_Room_value oc_Room_holder kV_Room_holder dc_Room_holder pm_Room_holder cd_Room_holder ct_Room_holder oc_Room_pairs kV_Room_pairs dc_Room_pairs pm_Room_pairs cd_Room_pairs ct_Room_pairs oc_Room_last kV_Room_last dc_Room_last pm_Room_last cd_Room_last ct_Room_last oc_Room_first kV_Room_first dc_Room_first pm_Room_first cd_Room_first ct_Room_first oc_Room_watch kV_Room_watch dc_Room_watch pm_Room_watch cd_Room_watch ct_Room_watch oc_Room_pull kV_Room_pull dc_Room_pull pm_Room_pull cd_Room_pull ct_Room_pull oc_Room_confirm kV_Room_confirm dc_Room_confirm pm_Room_confirm cd_Room_confirm ct_Room_confirm oc_Room_broken kV_Room_broken dc_Room_broken pm_Room_broken cd_Room_broken ct_Room_broken oc_Room_leave kV_Room_leave dc_Room_leave pm_Room_leave cd_Room_leave ct_Room_leave oc_Room_trim kV_Room_trim dc_Room_trim pm_Room_trim cd_Room_trim ct_Room_trim oc_Room_u_end kV_Room_u_end dc_Room_u_end pm_Room_u_end cd_Room_u_end ct_Room_u_end oc_Room_u_take_out kV_Room_u_take_out dc_Room_u_take_out pm_Room_u_take_out cd_Room_u_take_out ct_Room_u_take_out oc_Room_u_refuse_lease kV_Room_u_refuse_lease dc_Room_u_refuse_lease pm_Room_u_refuse_lease cd_Room_u_refuse_lease ct_Room_u_refuse_lease oc_Room_u_refuse_held kV_Room_u_refuse_held dc_Room_u_refuse_held pm_Room_u_refuse_held cd_Room_u_refuse_held ct_Room_u_refuse_held oc_Room_u_watching kV_Room_u_watching dc_Room_u_watching pm_Room_u_watching cd_Room_u_watching ct_Room_u_watching oc_Room_u_refuse_watcher kV_Room_u_refuse_watcher dc_Room_u_refuse_watcher pm_Room_u_refuse_watcher cd_Room_u_refuse_watcher ct_Room_u_refuse_watcher oc_whole kV_whole dc_whole pm_whole cd_whole ct_whole oc_cell_at kV_cell_at dc_cell_at pm_cell_at cd_cell_at ct_cell_at oc_sign kV_sign dc_sign pm_sign cd_sign ct_sign oc_text kV_text dc_text pm_text cd_text ct_text oc_pool kV_pool dc_pool pm_pool cd_pool ct_pool oc_prefix kV_prefix dc_prefix pm_prefix cd_prefix ct_prefix oc_new kV_new dc_new pm_new cd_new ct_new oc_note kV_note dc_note pm_note cd_note ct_note oc_over kV_over dc_over pm_over cd_over ct_over oc_go kV_go dc_go pm_go cd_go ct_go oc_due_of_key kV_due_of_key dc_due_of_key pm_due_of_key cd_due_of_key ct_due_of_key oc_due kV_due dc_due pm_due cd_due ct_due oc_only kV_only dc_only pm_only cd_only ct_only oc_call kV_call dc_call pm_call cd_call ct_call oc_done kV_done dc_done pm_done cd_done ct_done oc_alike kV_alike dc_alike pm_alike cd_alike ct_alike oc_ticks kV_ticks dc_ticks pm_ticks cd_ticks ct_ticks oc_deed kV_deed dc_deed pm_deed cd_deed ct_deed oc_change kV_change dc_change pm_change cd_change ct_change oc_changes kV_changes dc_changes pm_changes cd_changes ct_changes oc_pairs kV_pairs dc_pairs pm_pairs cd_pairs ct_pairs oc_watch kV_watch dc_watch pm_watch cd_watch ct_watch oc_pulled kV_pulled dc_pulled pm_pulled cd_pulled ct_pulled oc_trimmed kV_trimmed dc_trimmed pm_trimmed cd_trimmed ct_trimmed oc_stranger kV_stranger dc_stranger pm_stranger cd_stranger ct_stranger oc_watching kV_watching dc_watching pm_watching cd_watching ct_watching oc_key kV_key dc_key pm_key cd_key ct_key oc_crowd kV_crowd dc_crowd pm_crowd cd_crowd ct_crowd oc_values kV_values dc_values pm_values cd_values ct_values oc_stands kV_stands dc_stands pm_stands cd_stands ct_stands oc_step kV_step dc_step pm_step cd_step ct_step oc_law kV_law dc_law pm_law cd_law ct_law : Value} {dn_Room_put dn_Room_cut : Nat}
    (aC_Leases : PySem.W.nsIn K mainGlobals "Leases" = some (some (.ref C_Leases)))
    (aC_Log : PySem.W.nsIn K mainGlobals "Log" = some (some (.ref C_Log)))
    (aC_Watcher : PySem.W.nsIn K mainGlobals "Watcher" = some (some (.ref C_Watcher)))
    (aC_Room : PySem.W.nsIn K mainGlobals "Room" = some (some (.ref C_Room)))
    (a_Leases_init : PySem.W.findIn K (.ref C_Leases) "__init__" = some (some (.ref f_Leases_init)))
    (i_Leases_init : PySem.W.isFn K (.ref f_Leases_init) = true)
    (l_Leases_init : K.lookup f_Leases_init = some ⟨oc_Leases_init, od_Leases_init, .func (PySem.W.fnOf "__init__" "Leases.__init__" (defArgs s_Leases_init) (defBody s_Leases_init) (defScope s_Leases_init) .none kV_Leases_init dc_Leases_init pm_Leases_init an_Leases_init cd_Leases_init ct_Leases_init), sl_Leases_init⟩)
    (c_Leases_init : PySem.W.codeIn K cd_Leases_init "Leases.__init__" = true)
    (k_Leases_init : PySem.W.keepIn K (.ref f_Leases_init) = true)
    (a_Leases_grant : PySem.W.findIn K (.ref C_Leases) "grant" = some (some (.ref f_Leases_grant)))
    (i_Leases_grant : PySem.W.isFn K (.ref f_Leases_grant) = true)
    (l_Leases_grant : K.lookup f_Leases_grant = some ⟨oc_Leases_grant, od_Leases_grant, .func (PySem.W.fnOf "grant" "Leases.grant" (defArgs s_Leases_grant) (defBody s_Leases_grant) (defScope s_Leases_grant) .none kV_Leases_grant dc_Leases_grant pm_Leases_grant an_Leases_grant cd_Leases_grant ct_Leases_grant), sl_Leases_grant⟩)
    (c_Leases_grant : PySem.W.codeIn K cd_Leases_grant "Leases.grant" = true)
    (k_Leases_grant : PySem.W.keepIn K (.ref f_Leases_grant) = true)
    (a_Leases_renew : PySem.W.findIn K (.ref C_Leases) "renew" = some (some (.ref f_Leases_renew)))
    (i_Leases_renew : PySem.W.isFn K (.ref f_Leases_renew) = true)
    (l_Leases_renew : K.lookup f_Leases_renew = some ⟨oc_Leases_renew, od_Leases_renew, .func (PySem.W.fnOf "renew" "Leases.renew" (defArgs s_Leases_renew) (defBody s_Leases_renew) (defScope s_Leases_renew) .none kV_Leases_renew dc_Leases_renew pm_Leases_renew an_Leases_renew cd_Leases_renew ct_Leases_renew), sl_Leases_renew⟩)
    (c_Leases_renew : PySem.W.codeIn K cd_Leases_renew "Leases.renew" = true)
    (k_Leases_renew : PySem.W.keepIn K (.ref f_Leases_renew) = true)
    (a_Leases_drop : PySem.W.findIn K (.ref C_Leases) "drop" = some (some (.ref f_Leases_drop)))
    (i_Leases_drop : PySem.W.isFn K (.ref f_Leases_drop) = true)
    (l_Leases_drop : K.lookup f_Leases_drop = some ⟨oc_Leases_drop, od_Leases_drop, .func (PySem.W.fnOf "drop" "Leases.drop" (defArgs s_Leases_drop) (defBody s_Leases_drop) (defScope s_Leases_drop) .none kV_Leases_drop dc_Leases_drop pm_Leases_drop an_Leases_drop cd_Leases_drop ct_Leases_drop), sl_Leases_drop⟩)
    (c_Leases_drop : PySem.W.codeIn K cd_Leases_drop "Leases.drop" = true)
    (k_Leases_drop : PySem.W.keepIn K (.ref f_Leases_drop) = true)
    (a_Leases_due : PySem.W.findIn K (.ref C_Leases) "due" = some (some (.ref f_Leases_due)))
    (i_Leases_due : PySem.W.isFn K (.ref f_Leases_due) = true)
    (l_Leases_due : K.lookup f_Leases_due = some ⟨oc_Leases_due, od_Leases_due, .func (PySem.W.fnOf "due" "Leases.due" (defArgs s_Leases_due) (defBody s_Leases_due) (defScope s_Leases_due) .none kV_Leases_due dc_Leases_due pm_Leases_due an_Leases_due cd_Leases_due ct_Leases_due), sl_Leases_due⟩)
    (c_Leases_due : PySem.W.codeIn K cd_Leases_due "Leases.due" = true)
    (k_Leases_due : PySem.W.keepIn K (.ref f_Leases_due) = true)
    (a_Leases_refuse_unknown : PySem.W.findIn K (.ref C_Leases) "refuse_unknown" = some (some (.ref f_Leases_refuse_unknown)))
    (i_Leases_refuse_unknown : PySem.W.isFn K (.ref f_Leases_refuse_unknown) = true)
    (l_Leases_refuse_unknown : K.lookup f_Leases_refuse_unknown = some ⟨oc_Leases_refuse_unknown, od_Leases_refuse_unknown, .func (PySem.W.fnOf "refuse_unknown" "Leases.refuse_unknown" (defArgs s_Leases_refuse_unknown) (defBody s_Leases_refuse_unknown) (defScope s_Leases_refuse_unknown) .none kV_Leases_refuse_unknown dc_Leases_refuse_unknown pm_Leases_refuse_unknown an_Leases_refuse_unknown cd_Leases_refuse_unknown ct_Leases_refuse_unknown), sl_Leases_refuse_unknown⟩)
    (c_Leases_refuse_unknown : PySem.W.codeIn K cd_Leases_refuse_unknown "Leases.refuse_unknown" = true)
    (k_Leases_refuse_unknown : PySem.W.keepIn K (.ref f_Leases_refuse_unknown) = true)
    (a_Log_init : PySem.W.findIn K (.ref C_Log) "__init__" = some (some (.ref f_Log_init)))
    (i_Log_init : PySem.W.isFn K (.ref f_Log_init) = true)
    (l_Log_init : K.lookup f_Log_init = some ⟨oc_Log_init, od_Log_init, .func (PySem.W.fnOf "__init__" "Log.__init__" (defArgs s_Log_init) (defBody s_Log_init) (defScope s_Log_init) .none kV_Log_init dc_Log_init pm_Log_init an_Log_init cd_Log_init ct_Log_init), sl_Log_init⟩)
    (c_Log_init : PySem.W.codeIn K cd_Log_init "Log.__init__" = true)
    (k_Log_init : PySem.W.keepIn K (.ref f_Log_init) = true)
    (a_Log_note : PySem.W.findIn K (.ref C_Log) "note" = some (some (.ref f_Log_note)))
    (i_Log_note : PySem.W.isFn K (.ref f_Log_note) = true)
    (l_Log_note : K.lookup f_Log_note = some ⟨oc_Log_note, od_Log_note, .func (PySem.W.fnOf "note" "Log.note" (defArgs s_Log_note) (defBody s_Log_note) (defScope s_Log_note) .none kV_Log_note dc_Log_note pm_Log_note an_Log_note cd_Log_note ct_Log_note), sl_Log_note⟩)
    (c_Log_note : PySem.W.codeIn K cd_Log_note "Log.note" = true)
    (k_Log_note : PySem.W.keepIn K (.ref f_Log_note) = true)
    (a_Log_last : PySem.W.findIn K (.ref C_Log) "last" = some (some (.ref f_Log_last)))
    (i_Log_last : PySem.W.isFn K (.ref f_Log_last) = true)
    (l_Log_last : K.lookup f_Log_last = some ⟨oc_Log_last, od_Log_last, .func (PySem.W.fnOf "last" "Log.last" (defArgs s_Log_last) (defBody s_Log_last) (defScope s_Log_last) .none kV_Log_last dc_Log_last pm_Log_last an_Log_last cd_Log_last ct_Log_last), sl_Log_last⟩)
    (c_Log_last : PySem.W.codeIn K cd_Log_last "Log.last" = true)
    (k_Log_last : PySem.W.keepIn K (.ref f_Log_last) = true)
    (a_Log_first : PySem.W.findIn K (.ref C_Log) "first" = some (some (.ref f_Log_first)))
    (i_Log_first : PySem.W.isFn K (.ref f_Log_first) = true)
    (l_Log_first : K.lookup f_Log_first = some ⟨oc_Log_first, od_Log_first, .func (PySem.W.fnOf "first" "Log.first" (defArgs s_Log_first) (defBody s_Log_first) (defScope s_Log_first) .none kV_Log_first dc_Log_first pm_Log_first an_Log_first cd_Log_first ct_Log_first), sl_Log_first⟩)
    (c_Log_first : PySem.W.codeIn K cd_Log_first "Log.first" = true)
    (k_Log_first : PySem.W.keepIn K (.ref f_Log_first) = true)
    (a_Log_wanted : PySem.W.findIn K (.ref C_Log) "wanted" = some (some (.ref f_Log_wanted)))
    (i_Log_wanted : PySem.W.isFn K (.ref f_Log_wanted) = true)
    (l_Log_wanted : K.lookup f_Log_wanted = some ⟨oc_Log_wanted, od_Log_wanted, .func (PySem.W.fnOf "wanted" "Log.wanted" (defArgs s_Log_wanted) (defBody s_Log_wanted) (defScope s_Log_wanted) .none kV_Log_wanted dc_Log_wanted pm_Log_wanted an_Log_wanted cd_Log_wanted ct_Log_wanted), sl_Log_wanted⟩)
    (c_Log_wanted : PySem.W.codeIn K cd_Log_wanted "Log.wanted" = true)
    (k_Log_wanted : PySem.W.keepIn K (.ref f_Log_wanted) = true)
    (a_Log_forget : PySem.W.findIn K (.ref C_Log) "forget" = some (some (.ref f_Log_forget)))
    (i_Log_forget : PySem.W.isFn K (.ref f_Log_forget) = true)
    (l_Log_forget : K.lookup f_Log_forget = some ⟨oc_Log_forget, od_Log_forget, .func (PySem.W.fnOf "forget" "Log.forget" (defArgs s_Log_forget) (defBody s_Log_forget) (defScope s_Log_forget) .none kV_Log_forget dc_Log_forget pm_Log_forget an_Log_forget cd_Log_forget ct_Log_forget), sl_Log_forget⟩)
    (c_Log_forget : PySem.W.codeIn K cd_Log_forget "Log.forget" = true)
    (k_Log_forget : PySem.W.keepIn K (.ref f_Log_forget) = true)
    (a_Watcher_init : PySem.W.findIn K (.ref C_Watcher) "__init__" = some (some (.ref f_Watcher_init)))
    (i_Watcher_init : PySem.W.isFn K (.ref f_Watcher_init) = true)
    (l_Watcher_init : K.lookup f_Watcher_init = some ⟨oc_Watcher_init, od_Watcher_init, .func (PySem.W.fnOf "__init__" "Watcher.__init__" (defArgs s_Watcher_init) (defBody s_Watcher_init) (defScope s_Watcher_init) .none kV_Watcher_init dc_Watcher_init pm_Watcher_init an_Watcher_init cd_Watcher_init ct_Watcher_init), sl_Watcher_init⟩)
    (c_Watcher_init : PySem.W.codeIn K cd_Watcher_init "Watcher.__init__" = true)
    (k_Watcher_init : PySem.W.keepIn K (.ref f_Watcher_init) = true)
    (a_Room_init : PySem.W.findIn K (.ref C_Room) "__init__" = some (some (.ref f_Room_init)))
    (i_Room_init : PySem.W.isFn K (.ref f_Room_init) = true)
    (l_Room_init : K.lookup f_Room_init = some ⟨oc_Room_init, od_Room_init, .func (PySem.W.fnOf "__init__" "Room.__init__" (defArgs s_Room_init) (defBody s_Room_init) (defScope s_Room_init) .none kV_Room_init dc_Room_init pm_Room_init an_Room_init cd_Room_init ct_Room_init), sl_Room_init⟩)
    (c_Room_init : PySem.W.codeIn K cd_Room_init "Room.__init__" = true)
    (k_Room_init : PySem.W.keepIn K (.ref f_Room_init) = true)
    (a_Room_grant : PySem.W.findIn K (.ref C_Room) "grant" = some (some (.ref f_Room_grant)))
    (i_Room_grant : PySem.W.isFn K (.ref f_Room_grant) = true)
    (l_Room_grant : K.lookup f_Room_grant = some ⟨oc_Room_grant, od_Room_grant, .func (PySem.W.fnOf "grant" "Room.grant" (defArgs s_Room_grant) (defBody s_Room_grant) (defScope s_Room_grant) .none kV_Room_grant dc_Room_grant pm_Room_grant an_Room_grant cd_Room_grant ct_Room_grant), sl_Room_grant⟩)
    (c_Room_grant : PySem.W.codeIn K cd_Room_grant "Room.grant" = true)
    (k_Room_grant : PySem.W.keepIn K (.ref f_Room_grant) = true)
    (a_Room_renew : PySem.W.findIn K (.ref C_Room) "renew" = some (some (.ref f_Room_renew)))
    (i_Room_renew : PySem.W.isFn K (.ref f_Room_renew) = true)
    (l_Room_renew : K.lookup f_Room_renew = some ⟨oc_Room_renew, od_Room_renew, .func (PySem.W.fnOf "renew" "Room.renew" (defArgs s_Room_renew) (defBody s_Room_renew) (defScope s_Room_renew) .none kV_Room_renew dc_Room_renew pm_Room_renew an_Room_renew cd_Room_renew ct_Room_renew), sl_Room_renew⟩)
    (c_Room_renew : PySem.W.codeIn K cd_Room_renew "Room.renew" = true)
    (k_Room_renew : PySem.W.keepIn K (.ref f_Room_renew) = true)
    (a_Room_drop : PySem.W.findIn K (.ref C_Room) "drop" = some (some (.ref f_Room_drop)))
    (i_Room_drop : PySem.W.isFn K (.ref f_Room_drop) = true)
    (l_Room_drop : K.lookup f_Room_drop = some ⟨oc_Room_drop, od_Room_drop, .func (PySem.W.fnOf "drop" "Room.drop" (defArgs s_Room_drop) (defBody s_Room_drop) (defScope s_Room_drop) .none kV_Room_drop dc_Room_drop pm_Room_drop an_Room_drop cd_Room_drop ct_Room_drop), sl_Room_drop⟩)
    (c_Room_drop : PySem.W.codeIn K cd_Room_drop "Room.drop" = true)
    (k_Room_drop : PySem.W.keepIn K (.ref f_Room_drop) = true)
    (a_Room_wait : PySem.W.findIn K (.ref C_Room) "wait" = some (some (.ref f_Room_wait)))
    (i_Room_wait : PySem.W.isFn K (.ref f_Room_wait) = true)
    (l_Room_wait : K.lookup f_Room_wait = some ⟨oc_Room_wait, od_Room_wait, .func (PySem.W.fnOf "wait" "Room.wait" (defArgs s_Room_wait) (defBody s_Room_wait) (defScope s_Room_wait) .none kV_Room_wait dc_Room_wait pm_Room_wait an_Room_wait cd_Room_wait ct_Room_wait), sl_Room_wait⟩)
    (c_Room_wait : PySem.W.codeIn K cd_Room_wait "Room.wait" = true)
    (k_Room_wait : PySem.W.keepIn K (.ref f_Room_wait) = true)
    (a_Room_put : PySem.W.findIn K (.ref C_Room) "put" = some (some (.ref f_Room_put)))
    (i_Room_put : PySem.W.isFn K (.ref f_Room_put) = true)
    (l_Room_put : K.lookup f_Room_put = some ⟨oc_Room_put, od_Room_put, .func (PySem.W.fnOf "put" "Room.put" (defArgs s_Room_put) (defBody s_Room_put) (defScope s_Room_put) (.ref dT_Room_put) kV_Room_put dc_Room_put pm_Room_put an_Room_put cd_Room_put ct_Room_put), sl_Room_put⟩)
    (d_Room_put : K.lookup dT_Room_put = some ⟨dcl_Room_put, do_Room_put, .seq #[.int 0 dt0_Room_put] dn_Room_put, ds_Room_put⟩)
    (c_Room_put : PySem.W.codeIn K cd_Room_put "Room.put" = true)
    (k_Room_put : PySem.W.keepIn K (.ref f_Room_put) = true)
    (a_Room_cut : PySem.W.findIn K (.ref C_Room) "cut" = some (some (.ref f_Room_cut)))
    (i_Room_cut : PySem.W.isFn K (.ref f_Room_cut) = true)
    (l_Room_cut : K.lookup f_Room_cut = some ⟨oc_Room_cut, od_Room_cut, .func (PySem.W.fnOf "cut" "Room.cut" (defArgs s_Room_cut) (defBody s_Room_cut) (defScope s_Room_cut) (.ref dT_Room_cut) kV_Room_cut dc_Room_cut pm_Room_cut an_Room_cut cd_Room_cut ct_Room_cut), sl_Room_cut⟩)
    (d_Room_cut : K.lookup dT_Room_cut = some ⟨dcl_Room_cut, do_Room_cut, .seq #[.int 0 dt0_Room_cut] dn_Room_cut, ds_Room_cut⟩)
    (c_Room_cut : PySem.W.codeIn K cd_Room_cut "Room.cut" = true)
    (k_Room_cut : PySem.W.keepIn K (.ref f_Room_cut) = true)
    (a_Room_value : PySem.W.findIn K (.ref C_Room) "value" = some (some (.ref f_Room_value)))
    (i_Room_value : PySem.W.isFn K (.ref f_Room_value) = true)
    (l_Room_value : K.lookup f_Room_value = some ⟨oc_Room_value, od_Room_value, .func (PySem.W.fnOf "value" "Room.value" (defArgs s_Room_value) (defBody s_Room_value) (defScope s_Room_value) .none kV_Room_value dc_Room_value pm_Room_value an_Room_value cd_Room_value ct_Room_value), sl_Room_value⟩)
    (c_Room_value : PySem.W.codeIn K cd_Room_value "Room.value" = true)
    (k_Room_value : PySem.W.keepIn K (.ref f_Room_value) = true)
    (a_Room_holder : PySem.W.findIn K (.ref C_Room) "holder" = some (some (.ref f_Room_holder)))
    (i_Room_holder : PySem.W.isFn K (.ref f_Room_holder) = true)
    (l_Room_holder : K.lookup f_Room_holder = some ⟨oc_Room_holder, od_Room_holder, .func (PySem.W.fnOf "holder" "Room.holder" (defArgs s_Room_holder) (defBody s_Room_holder) (defScope s_Room_holder) .none kV_Room_holder dc_Room_holder pm_Room_holder an_Room_holder cd_Room_holder ct_Room_holder), sl_Room_holder⟩)
    (c_Room_holder : PySem.W.codeIn K cd_Room_holder "Room.holder" = true)
    (k_Room_holder : PySem.W.keepIn K (.ref f_Room_holder) = true)
    (a_Room_pairs : PySem.W.findIn K (.ref C_Room) "pairs" = some (some (.ref f_Room_pairs)))
    (i_Room_pairs : PySem.W.isFn K (.ref f_Room_pairs) = true)
    (l_Room_pairs : K.lookup f_Room_pairs = some ⟨oc_Room_pairs, od_Room_pairs, .func (PySem.W.fnOf "pairs" "Room.pairs" (defArgs s_Room_pairs) (defBody s_Room_pairs) (defScope s_Room_pairs) .none kV_Room_pairs dc_Room_pairs pm_Room_pairs an_Room_pairs cd_Room_pairs ct_Room_pairs), sl_Room_pairs⟩)
    (c_Room_pairs : PySem.W.codeIn K cd_Room_pairs "Room.pairs" = true)
    (k_Room_pairs : PySem.W.keepIn K (.ref f_Room_pairs) = true)
    (a_Room_last : PySem.W.findIn K (.ref C_Room) "last" = some (some (.ref f_Room_last)))
    (i_Room_last : PySem.W.isFn K (.ref f_Room_last) = true)
    (l_Room_last : K.lookup f_Room_last = some ⟨oc_Room_last, od_Room_last, .func (PySem.W.fnOf "last" "Room.last" (defArgs s_Room_last) (defBody s_Room_last) (defScope s_Room_last) .none kV_Room_last dc_Room_last pm_Room_last an_Room_last cd_Room_last ct_Room_last), sl_Room_last⟩)
    (c_Room_last : PySem.W.codeIn K cd_Room_last "Room.last" = true)
    (k_Room_last : PySem.W.keepIn K (.ref f_Room_last) = true)
    (a_Room_first : PySem.W.findIn K (.ref C_Room) "first" = some (some (.ref f_Room_first)))
    (i_Room_first : PySem.W.isFn K (.ref f_Room_first) = true)
    (l_Room_first : K.lookup f_Room_first = some ⟨oc_Room_first, od_Room_first, .func (PySem.W.fnOf "first" "Room.first" (defArgs s_Room_first) (defBody s_Room_first) (defScope s_Room_first) .none kV_Room_first dc_Room_first pm_Room_first an_Room_first cd_Room_first ct_Room_first), sl_Room_first⟩)
    (c_Room_first : PySem.W.codeIn K cd_Room_first "Room.first" = true)
    (k_Room_first : PySem.W.keepIn K (.ref f_Room_first) = true)
    (a_Room_watch : PySem.W.findIn K (.ref C_Room) "watch" = some (some (.ref f_Room_watch)))
    (i_Room_watch : PySem.W.isFn K (.ref f_Room_watch) = true)
    (l_Room_watch : K.lookup f_Room_watch = some ⟨oc_Room_watch, od_Room_watch, .func (PySem.W.fnOf "watch" "Room.watch" (defArgs s_Room_watch) (defBody s_Room_watch) (defScope s_Room_watch) .none kV_Room_watch dc_Room_watch pm_Room_watch an_Room_watch cd_Room_watch ct_Room_watch), sl_Room_watch⟩)
    (c_Room_watch : PySem.W.codeIn K cd_Room_watch "Room.watch" = true)
    (k_Room_watch : PySem.W.keepIn K (.ref f_Room_watch) = true)
    (a_Room_pull : PySem.W.findIn K (.ref C_Room) "pull" = some (some (.ref f_Room_pull)))
    (i_Room_pull : PySem.W.isFn K (.ref f_Room_pull) = true)
    (l_Room_pull : K.lookup f_Room_pull = some ⟨oc_Room_pull, od_Room_pull, .func (PySem.W.fnOf "pull" "Room.pull" (defArgs s_Room_pull) (defBody s_Room_pull) (defScope s_Room_pull) .none kV_Room_pull dc_Room_pull pm_Room_pull an_Room_pull cd_Room_pull ct_Room_pull), sl_Room_pull⟩)
    (c_Room_pull : PySem.W.codeIn K cd_Room_pull "Room.pull" = true)
    (k_Room_pull : PySem.W.keepIn K (.ref f_Room_pull) = true)
    (a_Room_confirm : PySem.W.findIn K (.ref C_Room) "confirm" = some (some (.ref f_Room_confirm)))
    (i_Room_confirm : PySem.W.isFn K (.ref f_Room_confirm) = true)
    (l_Room_confirm : K.lookup f_Room_confirm = some ⟨oc_Room_confirm, od_Room_confirm, .func (PySem.W.fnOf "confirm" "Room.confirm" (defArgs s_Room_confirm) (defBody s_Room_confirm) (defScope s_Room_confirm) .none kV_Room_confirm dc_Room_confirm pm_Room_confirm an_Room_confirm cd_Room_confirm ct_Room_confirm), sl_Room_confirm⟩)
    (c_Room_confirm : PySem.W.codeIn K cd_Room_confirm "Room.confirm" = true)
    (k_Room_confirm : PySem.W.keepIn K (.ref f_Room_confirm) = true)
    (a_Room_broken : PySem.W.findIn K (.ref C_Room) "broken" = some (some (.ref f_Room_broken)))
    (i_Room_broken : PySem.W.isFn K (.ref f_Room_broken) = true)
    (l_Room_broken : K.lookup f_Room_broken = some ⟨oc_Room_broken, od_Room_broken, .func (PySem.W.fnOf "broken" "Room.broken" (defArgs s_Room_broken) (defBody s_Room_broken) (defScope s_Room_broken) .none kV_Room_broken dc_Room_broken pm_Room_broken an_Room_broken cd_Room_broken ct_Room_broken), sl_Room_broken⟩)
    (c_Room_broken : PySem.W.codeIn K cd_Room_broken "Room.broken" = true)
    (k_Room_broken : PySem.W.keepIn K (.ref f_Room_broken) = true)
    (a_Room_leave : PySem.W.findIn K (.ref C_Room) "leave" = some (some (.ref f_Room_leave)))
    (i_Room_leave : PySem.W.isFn K (.ref f_Room_leave) = true)
    (l_Room_leave : K.lookup f_Room_leave = some ⟨oc_Room_leave, od_Room_leave, .func (PySem.W.fnOf "leave" "Room.leave" (defArgs s_Room_leave) (defBody s_Room_leave) (defScope s_Room_leave) .none kV_Room_leave dc_Room_leave pm_Room_leave an_Room_leave cd_Room_leave ct_Room_leave), sl_Room_leave⟩)
    (c_Room_leave : PySem.W.codeIn K cd_Room_leave "Room.leave" = true)
    (k_Room_leave : PySem.W.keepIn K (.ref f_Room_leave) = true)
    (a_Room_trim : PySem.W.findIn K (.ref C_Room) "trim" = some (some (.ref f_Room_trim)))
    (i_Room_trim : PySem.W.isFn K (.ref f_Room_trim) = true)
    (l_Room_trim : K.lookup f_Room_trim = some ⟨oc_Room_trim, od_Room_trim, .func (PySem.W.fnOf "trim" "Room.trim" (defArgs s_Room_trim) (defBody s_Room_trim) (defScope s_Room_trim) .none kV_Room_trim dc_Room_trim pm_Room_trim an_Room_trim cd_Room_trim ct_Room_trim), sl_Room_trim⟩)
    (c_Room_trim : PySem.W.codeIn K cd_Room_trim "Room.trim" = true)
    (k_Room_trim : PySem.W.keepIn K (.ref f_Room_trim) = true)
    (a_Room_u_end : PySem.W.findIn K (.ref C_Room) "_end" = some (some (.ref f_Room_u_end)))
    (i_Room_u_end : PySem.W.isFn K (.ref f_Room_u_end) = true)
    (l_Room_u_end : K.lookup f_Room_u_end = some ⟨oc_Room_u_end, od_Room_u_end, .func (PySem.W.fnOf "_end" "Room._end" (defArgs s_Room_u_end) (defBody s_Room_u_end) (defScope s_Room_u_end) .none kV_Room_u_end dc_Room_u_end pm_Room_u_end an_Room_u_end cd_Room_u_end ct_Room_u_end), sl_Room_u_end⟩)
    (c_Room_u_end : PySem.W.codeIn K cd_Room_u_end "Room._end" = true)
    (k_Room_u_end : PySem.W.keepIn K (.ref f_Room_u_end) = true)
    (a_Room_u_take_out : PySem.W.findIn K (.ref C_Room) "_take_out" = some (some (.ref f_Room_u_take_out)))
    (i_Room_u_take_out : PySem.W.isFn K (.ref f_Room_u_take_out) = true)
    (l_Room_u_take_out : K.lookup f_Room_u_take_out = some ⟨oc_Room_u_take_out, od_Room_u_take_out, .func (PySem.W.fnOf "_take_out" "Room._take_out" (defArgs s_Room_u_take_out) (defBody s_Room_u_take_out) (defScope s_Room_u_take_out) .none kV_Room_u_take_out dc_Room_u_take_out pm_Room_u_take_out an_Room_u_take_out cd_Room_u_take_out ct_Room_u_take_out), sl_Room_u_take_out⟩)
    (c_Room_u_take_out : PySem.W.codeIn K cd_Room_u_take_out "Room._take_out" = true)
    (k_Room_u_take_out : PySem.W.keepIn K (.ref f_Room_u_take_out) = true)
    (a_Room_u_refuse_lease : PySem.W.findIn K (.ref C_Room) "_refuse_lease" = some (some (.ref f_Room_u_refuse_lease)))
    (i_Room_u_refuse_lease : PySem.W.isFn K (.ref f_Room_u_refuse_lease) = true)
    (l_Room_u_refuse_lease : K.lookup f_Room_u_refuse_lease = some ⟨oc_Room_u_refuse_lease, od_Room_u_refuse_lease, .func (PySem.W.fnOf "_refuse_lease" "Room._refuse_lease" (defArgs s_Room_u_refuse_lease) (defBody s_Room_u_refuse_lease) (defScope s_Room_u_refuse_lease) .none kV_Room_u_refuse_lease dc_Room_u_refuse_lease pm_Room_u_refuse_lease an_Room_u_refuse_lease cd_Room_u_refuse_lease ct_Room_u_refuse_lease), sl_Room_u_refuse_lease⟩)
    (c_Room_u_refuse_lease : PySem.W.codeIn K cd_Room_u_refuse_lease "Room._refuse_lease" = true)
    (k_Room_u_refuse_lease : PySem.W.keepIn K (.ref f_Room_u_refuse_lease) = true)
    (a_Room_u_refuse_held : PySem.W.findIn K (.ref C_Room) "_refuse_held" = some (some (.ref f_Room_u_refuse_held)))
    (i_Room_u_refuse_held : PySem.W.isFn K (.ref f_Room_u_refuse_held) = true)
    (l_Room_u_refuse_held : K.lookup f_Room_u_refuse_held = some ⟨oc_Room_u_refuse_held, od_Room_u_refuse_held, .func (PySem.W.fnOf "_refuse_held" "Room._refuse_held" (defArgs s_Room_u_refuse_held) (defBody s_Room_u_refuse_held) (defScope s_Room_u_refuse_held) .none kV_Room_u_refuse_held dc_Room_u_refuse_held pm_Room_u_refuse_held an_Room_u_refuse_held cd_Room_u_refuse_held ct_Room_u_refuse_held), sl_Room_u_refuse_held⟩)
    (c_Room_u_refuse_held : PySem.W.codeIn K cd_Room_u_refuse_held "Room._refuse_held" = true)
    (k_Room_u_refuse_held : PySem.W.keepIn K (.ref f_Room_u_refuse_held) = true)
    (a_Room_u_watching : PySem.W.findIn K (.ref C_Room) "_watching" = some (some (.ref f_Room_u_watching)))
    (i_Room_u_watching : PySem.W.isFn K (.ref f_Room_u_watching) = true)
    (l_Room_u_watching : K.lookup f_Room_u_watching = some ⟨oc_Room_u_watching, od_Room_u_watching, .func (PySem.W.fnOf "_watching" "Room._watching" (defArgs s_Room_u_watching) (defBody s_Room_u_watching) (defScope s_Room_u_watching) .none kV_Room_u_watching dc_Room_u_watching pm_Room_u_watching an_Room_u_watching cd_Room_u_watching ct_Room_u_watching), sl_Room_u_watching⟩)
    (c_Room_u_watching : PySem.W.codeIn K cd_Room_u_watching "Room._watching" = true)
    (k_Room_u_watching : PySem.W.keepIn K (.ref f_Room_u_watching) = true)
    (a_Room_u_refuse_watcher : PySem.W.findIn K (.ref C_Room) "_refuse_watcher" = some (some (.ref f_Room_u_refuse_watcher)))
    (i_Room_u_refuse_watcher : PySem.W.isFn K (.ref f_Room_u_refuse_watcher) = true)
    (l_Room_u_refuse_watcher : K.lookup f_Room_u_refuse_watcher = some ⟨oc_Room_u_refuse_watcher, od_Room_u_refuse_watcher, .func (PySem.W.fnOf "_refuse_watcher" "Room._refuse_watcher" (defArgs s_Room_u_refuse_watcher) (defBody s_Room_u_refuse_watcher) (defScope s_Room_u_refuse_watcher) .none kV_Room_u_refuse_watcher dc_Room_u_refuse_watcher pm_Room_u_refuse_watcher an_Room_u_refuse_watcher cd_Room_u_refuse_watcher ct_Room_u_refuse_watcher), sl_Room_u_refuse_watcher⟩)
    (c_Room_u_refuse_watcher : PySem.W.codeIn K cd_Room_u_refuse_watcher "Room._refuse_watcher" = true)
    (k_Room_u_refuse_watcher : PySem.W.keepIn K (.ref f_Room_u_refuse_watcher) = true)
    (a_whole : PySem.W.nsIn K mainGlobals "_law_whole" = some (some (.ref f_whole)))
    (l_whole : K.lookup f_whole = some ⟨oc_whole, od_whole, .func (PySem.W.fnOf "_law_whole" "_law_whole" (defArgs s_whole) (defBody s_whole) (defScope s_whole) .none kV_whole dc_whole pm_whole an_whole cd_whole ct_whole), sl_whole⟩)
    (c_whole : PySem.W.codeIn K cd_whole "_law_whole" = true)
    (k_whole : PySem.W.keepIn K (.ref f_whole) = true)
    (a_cell_at : PySem.W.nsIn K mainGlobals "_law_cell_at" = some (some (.ref f_cell_at)))
    (l_cell_at : K.lookup f_cell_at = some ⟨oc_cell_at, od_cell_at, .func (PySem.W.fnOf "_law_cell_at" "_law_cell_at" (defArgs s_cell_at) (defBody s_cell_at) (defScope s_cell_at) .none kV_cell_at dc_cell_at pm_cell_at an_cell_at cd_cell_at ct_cell_at), sl_cell_at⟩)
    (c_cell_at : PySem.W.codeIn K cd_cell_at "_law_cell_at" = true)
    (k_cell_at : PySem.W.keepIn K (.ref f_cell_at) = true)
    (a_sign : PySem.W.nsIn K mainGlobals "_law_sign" = some (some (.ref f_sign)))
    (l_sign : K.lookup f_sign = some ⟨oc_sign, od_sign, .func (PySem.W.fnOf "_law_sign" "_law_sign" (defArgs s_sign) (defBody s_sign) (defScope s_sign) .none kV_sign dc_sign pm_sign an_sign cd_sign ct_sign), sl_sign⟩)
    (c_sign : PySem.W.codeIn K cd_sign "_law_sign" = true)
    (k_sign : PySem.W.keepIn K (.ref f_sign) = true)
    (a_text : PySem.W.nsIn K mainGlobals "_law_text" = some (some (.ref f_text)))
    (l_text : K.lookup f_text = some ⟨oc_text, od_text, .func (PySem.W.fnOf "_law_text" "_law_text" (defArgs s_text) (defBody s_text) (defScope s_text) .none kV_text dc_text pm_text an_text cd_text ct_text), sl_text⟩)
    (c_text : PySem.W.codeIn K cd_text "_law_text" = true)
    (k_text : PySem.W.keepIn K (.ref f_text) = true)
    (a_pool : PySem.W.nsIn K mainGlobals "_law_pool" = some (some (.ref f_pool)))
    (l_pool : K.lookup f_pool = some ⟨oc_pool, od_pool, .func (PySem.W.fnOf "_law_pool" "_law_pool" (defArgs s_pool) (defBody s_pool) (defScope s_pool) .none kV_pool dc_pool pm_pool an_pool cd_pool ct_pool), sl_pool⟩)
    (c_pool : PySem.W.codeIn K cd_pool "_law_pool" = true)
    (k_pool : PySem.W.keepIn K (.ref f_pool) = true)
    (a_prefix : PySem.W.nsIn K mainGlobals "_law_prefix" = some (some (.ref f_prefix)))
    (l_prefix : K.lookup f_prefix = some ⟨oc_prefix, od_prefix, .func (PySem.W.fnOf "_law_prefix" "_law_prefix" (defArgs s_prefix) (defBody s_prefix) (defScope s_prefix) .none kV_prefix dc_prefix pm_prefix an_prefix cd_prefix ct_prefix), sl_prefix⟩)
    (c_prefix : PySem.W.codeIn K cd_prefix "_law_prefix" = true)
    (k_prefix : PySem.W.keepIn K (.ref f_prefix) = true)
    (a_new : PySem.W.nsIn K mainGlobals "_law_new" = some (some (.ref f_new)))
    (l_new : K.lookup f_new = some ⟨oc_new, od_new, .func (PySem.W.fnOf "_law_new" "_law_new" (defArgs s_new) (defBody s_new) (defScope s_new) .none kV_new dc_new pm_new an_new cd_new ct_new), sl_new⟩)
    (c_new : PySem.W.codeIn K cd_new "_law_new" = true)
    (k_new : PySem.W.keepIn K (.ref f_new) = true)
    (a_note : PySem.W.nsIn K mainGlobals "_law_note" = some (some (.ref f_note)))
    (l_note : K.lookup f_note = some ⟨oc_note, od_note, .func (PySem.W.fnOf "_law_note" "_law_note" (defArgs s_note) (defBody s_note) (defScope s_note) .none kV_note dc_note pm_note an_note cd_note ct_note), sl_note⟩)
    (c_note : PySem.W.codeIn K cd_note "_law_note" = true)
    (k_note : PySem.W.keepIn K (.ref f_note) = true)
    (a_over : PySem.W.nsIn K mainGlobals "_law_over" = some (some (.ref f_over)))
    (l_over : K.lookup f_over = some ⟨oc_over, od_over, .func (PySem.W.fnOf "_law_over" "_law_over" (defArgs s_over) (defBody s_over) (defScope s_over) .none kV_over dc_over pm_over an_over cd_over ct_over), sl_over⟩)
    (c_over : PySem.W.codeIn K cd_over "_law_over" = true)
    (k_over : PySem.W.keepIn K (.ref f_over) = true)
    (a_go : PySem.W.nsIn K mainGlobals "_law_go" = some (some (.ref f_go)))
    (l_go : K.lookup f_go = some ⟨oc_go, od_go, .func (PySem.W.fnOf "_law_go" "_law_go" (defArgs s_go) (defBody s_go) (defScope s_go) .none kV_go dc_go pm_go an_go cd_go ct_go), sl_go⟩)
    (c_go : PySem.W.codeIn K cd_go "_law_go" = true)
    (k_go : PySem.W.keepIn K (.ref f_go) = true)
    (a_due_of_key : PySem.W.nsIn K mainGlobals "_law_due_of_key" = some (some (.ref f_due_of_key)))
    (l_due_of_key : K.lookup f_due_of_key = some ⟨oc_due_of_key, od_due_of_key, .func (PySem.W.fnOf "_law_due_of_key" "_law_due_of_key" (defArgs s_due_of_key) (defBody s_due_of_key) (defScope s_due_of_key) .none kV_due_of_key dc_due_of_key pm_due_of_key an_due_of_key cd_due_of_key ct_due_of_key), sl_due_of_key⟩)
    (c_due_of_key : PySem.W.codeIn K cd_due_of_key "_law_due_of_key" = true)
    (k_due_of_key : PySem.W.keepIn K (.ref f_due_of_key) = true)
    (a_due : PySem.W.nsIn K mainGlobals "_law_due" = some (some (.ref f_due)))
    (l_due : K.lookup f_due = some ⟨oc_due, od_due, .func (PySem.W.fnOf "_law_due" "_law_due" (defArgs s_due) (defBody s_due) (defScope s_due) .none kV_due dc_due pm_due an_due cd_due ct_due), sl_due⟩)
    (c_due : PySem.W.codeIn K cd_due "_law_due" = true)
    (k_due : PySem.W.keepIn K (.ref f_due) = true)
    (a_only : PySem.W.nsIn K mainGlobals "_law_only" = some (some (.ref f_only)))
    (l_only : K.lookup f_only = some ⟨oc_only, od_only, .func (PySem.W.fnOf "_law_only" "_law_only" (defArgs s_only) (defBody s_only) (defScope s_only) .none kV_only dc_only pm_only an_only cd_only ct_only), sl_only⟩)
    (c_only : PySem.W.codeIn K cd_only "_law_only" = true)
    (k_only : PySem.W.keepIn K (.ref f_only) = true)
    (a_call : PySem.W.nsIn K mainGlobals "_law_call" = some (some (.ref f_call)))
    (l_call : K.lookup f_call = some ⟨oc_call, od_call, .func (PySem.W.fnOf "_law_call" "_law_call" (defArgs s_call) (defBody s_call) (defScope s_call) .none kV_call dc_call pm_call an_call cd_call ct_call), sl_call⟩)
    (c_call : PySem.W.codeIn K cd_call "_law_call" = true)
    (k_call : PySem.W.keepIn K (.ref f_call) = true)
    (a_done : PySem.W.nsIn K mainGlobals "_law_done" = some (some (.ref f_done)))
    (l_done : K.lookup f_done = some ⟨oc_done, od_done, .func (PySem.W.fnOf "_law_done" "_law_done" (defArgs s_done) (defBody s_done) (defScope s_done) .none kV_done dc_done pm_done an_done cd_done ct_done), sl_done⟩)
    (c_done : PySem.W.codeIn K cd_done "_law_done" = true)
    (k_done : PySem.W.keepIn K (.ref f_done) = true)
    (a_alike : PySem.W.nsIn K mainGlobals "_law_alike" = some (some (.ref f_alike)))
    (l_alike : K.lookup f_alike = some ⟨oc_alike, od_alike, .func (PySem.W.fnOf "_law_alike" "_law_alike" (defArgs s_alike) (defBody s_alike) (defScope s_alike) .none kV_alike dc_alike pm_alike an_alike cd_alike ct_alike), sl_alike⟩)
    (c_alike : PySem.W.codeIn K cd_alike "_law_alike" = true)
    (k_alike : PySem.W.keepIn K (.ref f_alike) = true)
    (a_ticks : PySem.W.nsIn K mainGlobals "_law_ticks" = some (some (.ref f_ticks)))
    (l_ticks : K.lookup f_ticks = some ⟨oc_ticks, od_ticks, .func (PySem.W.fnOf "_law_ticks" "_law_ticks" (defArgs s_ticks) (defBody s_ticks) (defScope s_ticks) .none kV_ticks dc_ticks pm_ticks an_ticks cd_ticks ct_ticks), sl_ticks⟩)
    (c_ticks : PySem.W.codeIn K cd_ticks "_law_ticks" = true)
    (k_ticks : PySem.W.keepIn K (.ref f_ticks) = true)
    (a_deed : PySem.W.nsIn K mainGlobals "_law_deed" = some (some (.ref f_deed)))
    (l_deed : K.lookup f_deed = some ⟨oc_deed, od_deed, .func (PySem.W.fnOf "_law_deed" "_law_deed" (defArgs s_deed) (defBody s_deed) (defScope s_deed) .none kV_deed dc_deed pm_deed an_deed cd_deed ct_deed), sl_deed⟩)
    (c_deed : PySem.W.codeIn K cd_deed "_law_deed" = true)
    (k_deed : PySem.W.keepIn K (.ref f_deed) = true)
    (a_change : PySem.W.nsIn K mainGlobals "_law_change" = some (some (.ref f_change)))
    (l_change : K.lookup f_change = some ⟨oc_change, od_change, .func (PySem.W.fnOf "_law_change" "_law_change" (defArgs s_change) (defBody s_change) (defScope s_change) .none kV_change dc_change pm_change an_change cd_change ct_change), sl_change⟩)
    (c_change : PySem.W.codeIn K cd_change "_law_change" = true)
    (k_change : PySem.W.keepIn K (.ref f_change) = true)
    (a_changes : PySem.W.nsIn K mainGlobals "_law_changes" = some (some (.ref f_changes)))
    (l_changes : K.lookup f_changes = some ⟨oc_changes, od_changes, .func (PySem.W.fnOf "_law_changes" "_law_changes" (defArgs s_changes) (defBody s_changes) (defScope s_changes) .none kV_changes dc_changes pm_changes an_changes cd_changes ct_changes), sl_changes⟩)
    (c_changes : PySem.W.codeIn K cd_changes "_law_changes" = true)
    (k_changes : PySem.W.keepIn K (.ref f_changes) = true)
    (a_pairs : PySem.W.nsIn K mainGlobals "_law_pairs" = some (some (.ref f_pairs)))
    (l_pairs : K.lookup f_pairs = some ⟨oc_pairs, od_pairs, .func (PySem.W.fnOf "_law_pairs" "_law_pairs" (defArgs s_pairs) (defBody s_pairs) (defScope s_pairs) .none kV_pairs dc_pairs pm_pairs an_pairs cd_pairs ct_pairs), sl_pairs⟩)
    (c_pairs : PySem.W.codeIn K cd_pairs "_law_pairs" = true)
    (k_pairs : PySem.W.keepIn K (.ref f_pairs) = true)
    (a_watch : PySem.W.nsIn K mainGlobals "_law_watch" = some (some (.ref f_watch)))
    (l_watch : K.lookup f_watch = some ⟨oc_watch, od_watch, .func (PySem.W.fnOf "_law_watch" "_law_watch" (defArgs s_watch) (defBody s_watch) (defScope s_watch) .none kV_watch dc_watch pm_watch an_watch cd_watch ct_watch), sl_watch⟩)
    (c_watch : PySem.W.codeIn K cd_watch "_law_watch" = true)
    (k_watch : PySem.W.keepIn K (.ref f_watch) = true)
    (a_pulled : PySem.W.nsIn K mainGlobals "_law_pulled" = some (some (.ref f_pulled)))
    (l_pulled : K.lookup f_pulled = some ⟨oc_pulled, od_pulled, .func (PySem.W.fnOf "_law_pulled" "_law_pulled" (defArgs s_pulled) (defBody s_pulled) (defScope s_pulled) .none kV_pulled dc_pulled pm_pulled an_pulled cd_pulled ct_pulled), sl_pulled⟩)
    (c_pulled : PySem.W.codeIn K cd_pulled "_law_pulled" = true)
    (k_pulled : PySem.W.keepIn K (.ref f_pulled) = true)
    (a_trimmed : PySem.W.nsIn K mainGlobals "_law_trimmed" = some (some (.ref f_trimmed)))
    (l_trimmed : K.lookup f_trimmed = some ⟨oc_trimmed, od_trimmed, .func (PySem.W.fnOf "_law_trimmed" "_law_trimmed" (defArgs s_trimmed) (defBody s_trimmed) (defScope s_trimmed) .none kV_trimmed dc_trimmed pm_trimmed an_trimmed cd_trimmed ct_trimmed), sl_trimmed⟩)
    (c_trimmed : PySem.W.codeIn K cd_trimmed "_law_trimmed" = true)
    (k_trimmed : PySem.W.keepIn K (.ref f_trimmed) = true)
    (a_stranger : PySem.W.nsIn K mainGlobals "_law_stranger" = some (some (.ref f_stranger)))
    (l_stranger : K.lookup f_stranger = some ⟨oc_stranger, od_stranger, .func (PySem.W.fnOf "_law_stranger" "_law_stranger" (defArgs s_stranger) (defBody s_stranger) (defScope s_stranger) .none kV_stranger dc_stranger pm_stranger an_stranger cd_stranger ct_stranger), sl_stranger⟩)
    (c_stranger : PySem.W.codeIn K cd_stranger "_law_stranger" = true)
    (k_stranger : PySem.W.keepIn K (.ref f_stranger) = true)
    (a_watching : PySem.W.nsIn K mainGlobals "_law_watching" = some (some (.ref f_watching)))
    (l_watching : K.lookup f_watching = some ⟨oc_watching, od_watching, .func (PySem.W.fnOf "_law_watching" "_law_watching" (defArgs s_watching) (defBody s_watching) (defScope s_watching) .none kV_watching dc_watching pm_watching an_watching cd_watching ct_watching), sl_watching⟩)
    (c_watching : PySem.W.codeIn K cd_watching "_law_watching" = true)
    (k_watching : PySem.W.keepIn K (.ref f_watching) = true)
    (a_key : PySem.W.nsIn K mainGlobals "_law_key" = some (some (.ref f_key)))
    (l_key : K.lookup f_key = some ⟨oc_key, od_key, .func (PySem.W.fnOf "_law_key" "_law_key" (defArgs s_key) (defBody s_key) (defScope s_key) .none kV_key dc_key pm_key an_key cd_key ct_key), sl_key⟩)
    (c_key : PySem.W.codeIn K cd_key "_law_key" = true)
    (k_key : PySem.W.keepIn K (.ref f_key) = true)
    (a_crowd : PySem.W.nsIn K mainGlobals "_law_crowd" = some (some (.ref f_crowd)))
    (l_crowd : K.lookup f_crowd = some ⟨oc_crowd, od_crowd, .func (PySem.W.fnOf "_law_crowd" "_law_crowd" (defArgs s_crowd) (defBody s_crowd) (defScope s_crowd) .none kV_crowd dc_crowd pm_crowd an_crowd cd_crowd ct_crowd), sl_crowd⟩)
    (c_crowd : PySem.W.codeIn K cd_crowd "_law_crowd" = true)
    (k_crowd : PySem.W.keepIn K (.ref f_crowd) = true)
    (a_values : PySem.W.nsIn K mainGlobals "_law_values" = some (some (.ref f_values)))
    (l_values : K.lookup f_values = some ⟨oc_values, od_values, .func (PySem.W.fnOf "_law_values" "_law_values" (defArgs s_values) (defBody s_values) (defScope s_values) .none kV_values dc_values pm_values an_values cd_values ct_values), sl_values⟩)
    (c_values : PySem.W.codeIn K cd_values "_law_values" = true)
    (k_values : PySem.W.keepIn K (.ref f_values) = true)
    (a_stands : PySem.W.nsIn K mainGlobals "_law_stands" = some (some (.ref f_stands)))
    (l_stands : K.lookup f_stands = some ⟨oc_stands, od_stands, .func (PySem.W.fnOf "_law_stands" "_law_stands" (defArgs s_stands) (defBody s_stands) (defScope s_stands) .none kV_stands dc_stands pm_stands an_stands cd_stands ct_stands), sl_stands⟩)
    (c_stands : PySem.W.codeIn K cd_stands "_law_stands" = true)
    (k_stands : PySem.W.keepIn K (.ref f_stands) = true)
    (a_step : PySem.W.nsIn K mainGlobals "_law_step" = some (some (.ref f_step)))
    (l_step : K.lookup f_step = some ⟨oc_step, od_step, .func (PySem.W.fnOf "_law_step" "_law_step" (defArgs s_step) (defBody s_step) (defScope s_step) .none kV_step dc_step pm_step an_step cd_step ct_step), sl_step⟩)
    (c_step : PySem.W.codeIn K cd_step "_law_step" = true)
    (k_step : PySem.W.keepIn K (.ref f_step) = true)
    (a_law : PySem.W.nsIn K mainGlobals "law" = some (some (.ref f_law)))
    (l_law : K.lookup f_law = some ⟨oc_law, od_law, .func (PySem.W.fnOf "law" "law" (defArgs s_law) (defBody s_law) (defScope s_law) .none kV_law dc_law pm_law an_law cd_law ct_law), sl_law⟩)
    (c_law : PySem.W.codeIn K cd_law "law" = true)
    (k_law : PySem.W.keepIn K (.ref f_law) = true)
    (pg_Leases : PySem.W.plainGet K C_Leases Str.empty = true)
    (hd_Leases : PySem.W.hasDictIn K C_Leases = true)
    (po_Leases : PySem.W.plainOver K C_Leases = true)
    (sa_Leases : PySem.W.findIn K (.ref C_Leases) "__setattr__" = some (some (.builtin "object.__setattr__")))
    (mk_Leases : PySem.W.makesIn K C_Leases = true)
    (kc_Leases : PySem.W.keepIn K (.ref C_Leases) = true)
    (n0_Leases : PySem.W.findIn K (.ref C_Leases) "_given" = some none)
    (n1_Leases : PySem.W.findIn K (.ref C_Leases) "_ticks" = some none)
    (n2_Leases : PySem.W.findIn K (.ref C_Leases) "_ends" = some none)
    (pg_Log : PySem.W.plainGet K C_Log Str.empty = true)
    (hd_Log : PySem.W.hasDictIn K C_Log = true)
    (po_Log : PySem.W.plainOver K C_Log = true)
    (sa_Log : PySem.W.findIn K (.ref C_Log) "__setattr__" = some (some (.builtin "object.__setattr__")))
    (mk_Log : PySem.W.makesIn K C_Log = true)
    (kc_Log : PySem.W.keepIn K (.ref C_Log) = true)
    (n0_Log : PySem.W.findIn K (.ref C_Log) "_forgotten" = some none)
    (n1_Log : PySem.W.findIn K (.ref C_Log) "_kept" = some none)
    (pg_Watcher : PySem.W.plainGet K C_Watcher Str.empty = true)
    (hd_Watcher : PySem.W.hasDictIn K C_Watcher = true)
    (po_Watcher : PySem.W.plainOver K C_Watcher = true)
    (sa_Watcher : PySem.W.findIn K (.ref C_Watcher) "__setattr__" = some (some (.builtin "object.__setattr__")))
    (mk_Watcher : PySem.W.makesIn K C_Watcher = true)
    (kc_Watcher : PySem.W.keepIn K (.ref C_Watcher) = true)
    (n0_Watcher : PySem.W.findIn K (.ref C_Watcher) "prefix" = some none)
    (n1_Watcher : PySem.W.findIn K (.ref C_Watcher) "told" = some none)
    (n2_Watcher : PySem.W.findIn K (.ref C_Watcher) "had" = some none)
    (pg_Room : PySem.W.plainGet K C_Room Str.empty = true)
    (hd_Room : PySem.W.hasDictIn K C_Room = true)
    (po_Room : PySem.W.plainOver K C_Room = true)
    (sa_Room : PySem.W.findIn K (.ref C_Room) "__setattr__" = some (some (.builtin "object.__setattr__")))
    (mk_Room : PySem.W.makesIn K C_Room = true)
    (kc_Room : PySem.W.keepIn K (.ref C_Room) = true)
    (n0_Room : PySem.W.findIn K (.ref C_Room) "now" = some none)
    (n1_Room : PySem.W.findIn K (.ref C_Room) "_leases" = some none)
    (n2_Room : PySem.W.findIn K (.ref C_Room) "_log" = some none)
    (n3_Room : PySem.W.findIn K (.ref C_Room) "_values" = some none)
    (n4_Room : PySem.W.findIn K (.ref C_Room) "_holders" = some none)
    (n5_Room : PySem.W.findIn K (.ref C_Room) "_entered" = some none)
    (n6_Room : PySem.W.findIn K (.ref C_Room) "_watchers" = some none)
    (m_MOST_TICKS : PySem.W.nsIn K mainGlobals "MOST_TICKS" = some (some (.int 1000000 tm_MOST_TICKS)))
    (e_LeaseError : PySem.W.nsIn K mainGlobals "LeaseError" = some (some (.ref E_LeaseError)))
    (e_BadTicks : PySem.W.nsIn K mainGlobals "BadTicks" = some (some (.ref E_BadTicks)))
    (e_NoLease : PySem.W.nsIn K mainGlobals "NoLease" = some (some (.ref E_NoLease)))
    (e_NoKey : PySem.W.nsIn K mainGlobals "NoKey" = some (some (.ref E_NoKey)))
    (e_Held : PySem.W.nsIn K mainGlobals "Held" = some (some (.ref E_Held)))
    (e_NoStart : PySem.W.nsIn K mainGlobals "NoStart" = some (some (.ref E_NoStart)))
    (e_NoWatch : PySem.W.nsIn K mainGlobals "NoWatch" = some (some (.ref E_NoWatch)))
    (hd_LeaseError : PySem.W.hasDictIn K E_LeaseError = true)
    (t_LeaseError : PySem.W.typeIn K (.ref E_LeaseError) = some (.type "type"))
    (hd_BadTicks : PySem.W.hasDictIn K E_BadTicks = true)
    (t_BadTicks : PySem.W.typeIn K (.ref E_BadTicks) = some (.type "type"))
    (hd_NoLease : PySem.W.hasDictIn K E_NoLease = true)
    (t_NoLease : PySem.W.typeIn K (.ref E_NoLease) = some (.type "type"))
    (hd_NoKey : PySem.W.hasDictIn K E_NoKey = true)
    (t_NoKey : PySem.W.typeIn K (.ref E_NoKey) = some (.type "type"))
    (hd_Held : PySem.W.hasDictIn K E_Held = true)
    (t_Held : PySem.W.typeIn K (.ref E_Held) = some (.type "type"))
    (hd_NoStart : PySem.W.hasDictIn K E_NoStart = true)
    (t_NoStart : PySem.W.typeIn K (.ref E_NoStart) = some (.type "type"))
    (hd_NoWatch : PySem.W.hasDictIn K E_NoWatch = true)
    (t_NoWatch : PySem.W.typeIn K (.ref E_NoWatch) = some (.type "type"))
    (b_LeaseError : PySem.W.subIn K (.ref E_LeaseError) (.type "BaseException") = some true)
    (x_BadTicks : PySem.W.excIn K E_BadTicks [.type "ValueError", .type "Exception", .type "BaseException", .type "object"] "ValueError.__new__" = true)
    (kp_BadTicks : PySem.W.keepIn K (.ref E_BadTicks) = true)
    (b_BadTicks : PySem.W.subIn K (.ref E_BadTicks) (.type "BaseException") = some true)
    (ga_BadTicks : PySem.W.findIn K (.ref E_BadTicks) "__getattribute__" = some (some (.builtin "BaseException.__getattribute__")))
    (gt_BadTicks : PySem.W.findIn K (.ref E_BadTicks) "__getattr__" = some none)
    (cl_BadTicks : PySem.W.findIn K (.ref E_BadTicks) "__class__" = some (some (.builtin "object.__class__")))
    (mr_BadTicks : PySem.W.mroIn K E_BadTicks (.type "object") = some true)
    (o_BadTicks_BadTicks : PySem.W.subIn K (.ref E_BadTicks) (.ref E_BadTicks) = some true)
    (o_BadTicks_NoLease : PySem.W.subIn K (.ref E_BadTicks) (.ref E_NoLease) = some false)
    (o_BadTicks_NoKey : PySem.W.subIn K (.ref E_BadTicks) (.ref E_NoKey) = some false)
    (o_BadTicks_Held : PySem.W.subIn K (.ref E_BadTicks) (.ref E_Held) = some false)
    (o_BadTicks_NoStart : PySem.W.subIn K (.ref E_BadTicks) (.ref E_NoStart) = some false)
    (o_BadTicks_NoWatch : PySem.W.subIn K (.ref E_BadTicks) (.ref E_NoWatch) = some false)
    (ov_BadTicks : PySem.W.subIn K (.ref E_BadTicks) (.type "ValueError") = some true)
    (q_BadTicks : PySem.W.subIn K (.ref E_BadTicks) (.ref E_LeaseError) = some true)
    (x_NoLease : PySem.W.excIn K E_NoLease [.type "ValueError", .type "Exception", .type "BaseException", .type "object"] "ValueError.__new__" = true)
    (kp_NoLease : PySem.W.keepIn K (.ref E_NoLease) = true)
    (b_NoLease : PySem.W.subIn K (.ref E_NoLease) (.type "BaseException") = some true)
    (ga_NoLease : PySem.W.findIn K (.ref E_NoLease) "__getattribute__" = some (some (.builtin "BaseException.__getattribute__")))
    (gt_NoLease : PySem.W.findIn K (.ref E_NoLease) "__getattr__" = some none)
    (cl_NoLease : PySem.W.findIn K (.ref E_NoLease) "__class__" = some (some (.builtin "object.__class__")))
    (mr_NoLease : PySem.W.mroIn K E_NoLease (.type "object") = some true)
    (o_NoLease_BadTicks : PySem.W.subIn K (.ref E_NoLease) (.ref E_BadTicks) = some false)
    (o_NoLease_NoLease : PySem.W.subIn K (.ref E_NoLease) (.ref E_NoLease) = some true)
    (o_NoLease_NoKey : PySem.W.subIn K (.ref E_NoLease) (.ref E_NoKey) = some false)
    (o_NoLease_Held : PySem.W.subIn K (.ref E_NoLease) (.ref E_Held) = some false)
    (o_NoLease_NoStart : PySem.W.subIn K (.ref E_NoLease) (.ref E_NoStart) = some false)
    (o_NoLease_NoWatch : PySem.W.subIn K (.ref E_NoLease) (.ref E_NoWatch) = some false)
    (ov_NoLease : PySem.W.subIn K (.ref E_NoLease) (.type "ValueError") = some true)
    (q_NoLease : PySem.W.subIn K (.ref E_NoLease) (.ref E_LeaseError) = some true)
    (x_NoKey : PySem.W.excIn K E_NoKey [.type "ValueError", .type "Exception", .type "BaseException", .type "object"] "ValueError.__new__" = true)
    (kp_NoKey : PySem.W.keepIn K (.ref E_NoKey) = true)
    (b_NoKey : PySem.W.subIn K (.ref E_NoKey) (.type "BaseException") = some true)
    (ga_NoKey : PySem.W.findIn K (.ref E_NoKey) "__getattribute__" = some (some (.builtin "BaseException.__getattribute__")))
    (gt_NoKey : PySem.W.findIn K (.ref E_NoKey) "__getattr__" = some none)
    (cl_NoKey : PySem.W.findIn K (.ref E_NoKey) "__class__" = some (some (.builtin "object.__class__")))
    (mr_NoKey : PySem.W.mroIn K E_NoKey (.type "object") = some true)
    (o_NoKey_BadTicks : PySem.W.subIn K (.ref E_NoKey) (.ref E_BadTicks) = some false)
    (o_NoKey_NoLease : PySem.W.subIn K (.ref E_NoKey) (.ref E_NoLease) = some false)
    (o_NoKey_NoKey : PySem.W.subIn K (.ref E_NoKey) (.ref E_NoKey) = some true)
    (o_NoKey_Held : PySem.W.subIn K (.ref E_NoKey) (.ref E_Held) = some false)
    (o_NoKey_NoStart : PySem.W.subIn K (.ref E_NoKey) (.ref E_NoStart) = some false)
    (o_NoKey_NoWatch : PySem.W.subIn K (.ref E_NoKey) (.ref E_NoWatch) = some false)
    (ov_NoKey : PySem.W.subIn K (.ref E_NoKey) (.type "ValueError") = some true)
    (q_NoKey : PySem.W.subIn K (.ref E_NoKey) (.ref E_LeaseError) = some true)
    (x_Held : PySem.W.excIn K E_Held [.type "ValueError", .type "Exception", .type "BaseException", .type "object"] "ValueError.__new__" = true)
    (kp_Held : PySem.W.keepIn K (.ref E_Held) = true)
    (b_Held : PySem.W.subIn K (.ref E_Held) (.type "BaseException") = some true)
    (ga_Held : PySem.W.findIn K (.ref E_Held) "__getattribute__" = some (some (.builtin "BaseException.__getattribute__")))
    (gt_Held : PySem.W.findIn K (.ref E_Held) "__getattr__" = some none)
    (cl_Held : PySem.W.findIn K (.ref E_Held) "__class__" = some (some (.builtin "object.__class__")))
    (mr_Held : PySem.W.mroIn K E_Held (.type "object") = some true)
    (o_Held_BadTicks : PySem.W.subIn K (.ref E_Held) (.ref E_BadTicks) = some false)
    (o_Held_NoLease : PySem.W.subIn K (.ref E_Held) (.ref E_NoLease) = some false)
    (o_Held_NoKey : PySem.W.subIn K (.ref E_Held) (.ref E_NoKey) = some false)
    (o_Held_Held : PySem.W.subIn K (.ref E_Held) (.ref E_Held) = some true)
    (o_Held_NoStart : PySem.W.subIn K (.ref E_Held) (.ref E_NoStart) = some false)
    (o_Held_NoWatch : PySem.W.subIn K (.ref E_Held) (.ref E_NoWatch) = some false)
    (ov_Held : PySem.W.subIn K (.ref E_Held) (.type "ValueError") = some true)
    (q_Held : PySem.W.subIn K (.ref E_Held) (.ref E_LeaseError) = some true)
    (x_NoStart : PySem.W.excIn K E_NoStart [.type "ValueError", .type "Exception", .type "BaseException", .type "object"] "ValueError.__new__" = true)
    (kp_NoStart : PySem.W.keepIn K (.ref E_NoStart) = true)
    (b_NoStart : PySem.W.subIn K (.ref E_NoStart) (.type "BaseException") = some true)
    (ga_NoStart : PySem.W.findIn K (.ref E_NoStart) "__getattribute__" = some (some (.builtin "BaseException.__getattribute__")))
    (gt_NoStart : PySem.W.findIn K (.ref E_NoStart) "__getattr__" = some none)
    (cl_NoStart : PySem.W.findIn K (.ref E_NoStart) "__class__" = some (some (.builtin "object.__class__")))
    (mr_NoStart : PySem.W.mroIn K E_NoStart (.type "object") = some true)
    (o_NoStart_BadTicks : PySem.W.subIn K (.ref E_NoStart) (.ref E_BadTicks) = some false)
    (o_NoStart_NoLease : PySem.W.subIn K (.ref E_NoStart) (.ref E_NoLease) = some false)
    (o_NoStart_NoKey : PySem.W.subIn K (.ref E_NoStart) (.ref E_NoKey) = some false)
    (o_NoStart_Held : PySem.W.subIn K (.ref E_NoStart) (.ref E_Held) = some false)
    (o_NoStart_NoStart : PySem.W.subIn K (.ref E_NoStart) (.ref E_NoStart) = some true)
    (o_NoStart_NoWatch : PySem.W.subIn K (.ref E_NoStart) (.ref E_NoWatch) = some false)
    (ov_NoStart : PySem.W.subIn K (.ref E_NoStart) (.type "ValueError") = some true)
    (q_NoStart : PySem.W.subIn K (.ref E_NoStart) (.ref E_LeaseError) = some true)
    (x_NoWatch : PySem.W.excIn K E_NoWatch [.type "ValueError", .type "Exception", .type "BaseException", .type "object"] "ValueError.__new__" = true)
    (kp_NoWatch : PySem.W.keepIn K (.ref E_NoWatch) = true)
    (b_NoWatch : PySem.W.subIn K (.ref E_NoWatch) (.type "BaseException") = some true)
    (ga_NoWatch : PySem.W.findIn K (.ref E_NoWatch) "__getattribute__" = some (some (.builtin "BaseException.__getattribute__")))
    (gt_NoWatch : PySem.W.findIn K (.ref E_NoWatch) "__getattr__" = some none)
    (cl_NoWatch : PySem.W.findIn K (.ref E_NoWatch) "__class__" = some (some (.builtin "object.__class__")))
    (mr_NoWatch : PySem.W.mroIn K E_NoWatch (.type "object") = some true)
    (o_NoWatch_BadTicks : PySem.W.subIn K (.ref E_NoWatch) (.ref E_BadTicks) = some false)
    (o_NoWatch_NoLease : PySem.W.subIn K (.ref E_NoWatch) (.ref E_NoLease) = some false)
    (o_NoWatch_NoKey : PySem.W.subIn K (.ref E_NoWatch) (.ref E_NoKey) = some false)
    (o_NoWatch_Held : PySem.W.subIn K (.ref E_NoWatch) (.ref E_Held) = some false)
    (o_NoWatch_NoStart : PySem.W.subIn K (.ref E_NoWatch) (.ref E_NoStart) = some false)
    (o_NoWatch_NoWatch : PySem.W.subIn K (.ref E_NoWatch) (.ref E_NoWatch) = some true)
    (ov_NoWatch : PySem.W.subIn K (.ref E_NoWatch) (.type "ValueError") = some true)
    (q_NoWatch : PySem.W.subIn K (.ref E_NoWatch) (.ref E_LeaseError) = some true)
    (sp : PySem.W.specialIn K (.builtin "object.__class__") "__get__" = some (some (.builtin "getset_descriptor.__get__")))
    (tk : PySem.W.takesIn K (.builtin "object.__class__") = some true)
    (z_ValueError : PySem.W.nsIn K mainGlobals "ValueError" = some none)
    (z_bool : PySem.W.nsIn K mainGlobals "bool" = some none)
    (z_int : PySem.W.nsIn K mainGlobals "int" = some none)
    (z_isinstance : PySem.W.nsIn K mainGlobals "isinstance" = some none)
    (z_len : PySem.W.nsIn K mainGlobals "len" = some none)
    (z_list : PySem.W.nsIn K mainGlobals "list" = some none)
    (z_max : PySem.W.nsIn K mainGlobals "max" = some none)
    (z_min : PySem.W.nsIn K mainGlobals "min" = some none)
    (z_range : PySem.W.nsIn K mainGlobals "range" = some none)
    (z_sorted : PySem.W.nsIn K mainGlobals "sorted" = some none)
    (z_str : PySem.W.nsIn K mainGlobals "str" = some none)
    (z_tuple : PySem.W.nsIn K mainGlobals "tuple" = some none)
    : ∃ fd : FuncData, (∀ (s : Shared) (v : Value), BindsTo s fd ⟨[v], []⟩ [("_law_script", v)]) ∧ ∀ base : Heap, K.In base → base.Ns mainGlobals mg → FnOk l.prog w K mg base CX0 12 fa fd ["_law_script"] (spLaw K) := by
  have e := hfa.symm.trans (PySem.W.mg_of X G a_law)
  cases e
  have Z_ValueError := PySem.W.mg_none_of X G z_ValueError
  have Z_bool := PySem.W.mg_none_of X G z_bool
  have Z_int := PySem.W.mg_none_of X G z_int
  have Z_isinstance := PySem.W.mg_none_of X G z_isinstance
  have Z_len := PySem.W.mg_none_of X G z_len
  have Z_list := PySem.W.mg_none_of X G z_list
  have Z_max := PySem.W.mg_none_of X G z_max
  have Z_min := PySem.W.mg_none_of X G z_min
  have Z_range := PySem.W.mg_none_of X G z_range
  have Z_sorted := PySem.W.mg_none_of X G z_sorted
  have Z_str := PySem.W.mg_none_of X G z_str
  have Z_tuple := PySem.W.mg_none_of X G z_tuple
  have LT : LTxt mg := ⟨Z_isinstance, Z_int, Z_bool, Z_str, Z_len, Z_sorted, Z_list, Z_tuple, Z_range⟩
  have cl_Leases : Cls K C_Leases := ⟨pg_Leases, hd_Leases, po_Leases, sa_Leases⟩
  have M_Leases : Mk K C_Leases f_Leases_init := ⟨mk_Leases, a_Leases_init, i_Leases_init, kc_Leases⟩
  have g_Leases := PySem.W.mg_of X G aC_Leases
  have cl_Log : Cls K C_Log := ⟨pg_Log, hd_Log, po_Log, sa_Log⟩
  have M_Log : Mk K C_Log f_Log_init := ⟨mk_Log, a_Log_init, i_Log_init, kc_Log⟩
  have g_Log := PySem.W.mg_of X G aC_Log
  have cl_Watcher : Cls K C_Watcher := ⟨pg_Watcher, hd_Watcher, po_Watcher, sa_Watcher⟩
  have M_Watcher : Mk K C_Watcher f_Watcher_init := ⟨mk_Watcher, a_Watcher_init, i_Watcher_init, kc_Watcher⟩
  have g_Watcher := PySem.W.mg_of X G aC_Watcher
  have cl_Room : Cls K C_Room := ⟨pg_Room, hd_Room, po_Room, sa_Room⟩
  have M_Room : Mk K C_Room f_Room_init := ⟨mk_Room, a_Room_init, i_Room_init, kc_Room⟩
  have g_Room := PySem.W.mg_of X G aC_Room
  have F_Leases_init := fun_mk (st := s_Leases_init) l_Leases_init c_Leases_init k_Leases_init
  have b_Leases_init := F_Leases_init.binds (ps := p_Leases_init) fun _ _ _ _ _ _ us hl => match us, hl with | [_], _ => rfl
  have F_Leases_grant := fun_mk (st := s_Leases_grant) l_Leases_grant c_Leases_grant k_Leases_grant
  have b_Leases_grant := F_Leases_grant.binds (ps := p_Leases_grant) fun _ _ _ _ _ _ us hl => match us, hl with | [_, _, _], _ => rfl
  have F_Leases_renew := fun_mk (st := s_Leases_renew) l_Leases_renew c_Leases_renew k_Leases_renew
  have b_Leases_renew := F_Leases_renew.binds (ps := p_Leases_renew) fun _ _ _ _ _ _ us hl => match us, hl with | [_, _, _], _ => rfl
  have F_Leases_drop := fun_mk (st := s_Leases_drop) l_Leases_drop c_Leases_drop k_Leases_drop
  have b_Leases_drop := F_Leases_drop.binds (ps := p_Leases_drop) fun _ _ _ _ _ _ us hl => match us, hl with | [_, _], _ => rfl
  have F_Leases_due := fun_mk (st := s_Leases_due) l_Leases_due c_Leases_due k_Leases_due
  have b_Leases_due := F_Leases_due.binds (ps := p_Leases_due) fun _ _ _ _ _ _ us hl => match us, hl with | [_, _], _ => rfl
  have F_Leases_refuse_unknown := fun_mk (st := s_Leases_refuse_unknown) l_Leases_refuse_unknown c_Leases_refuse_unknown k_Leases_refuse_unknown
  have b_Leases_refuse_unknown := F_Leases_refuse_unknown.binds (ps := p_Leases_refuse_unknown) fun _ _ _ _ _ _ us hl => match us, hl with | [_, _], _ => rfl
  have F_Log_init := fun_mk (st := s_Log_init) l_Log_init c_Log_init k_Log_init
  have b_Log_init := F_Log_init.binds (ps := p_Log_init) fun _ _ _ _ _ _ us hl => match us, hl with | [_], _ => rfl
  have F_Log_note := fun_mk (st := s_Log_note) l_Log_note c_Log_note k_Log_note
  have b_Log_note := F_Log_note.binds (ps := p_Log_note) fun _ _ _ _ _ _ us hl => match us, hl with | [_, _, _, _, _], _ => rfl
  have F_Log_last := fun_mk (st := s_Log_last) l_Log_last c_Log_last k_Log_last
  have b_Log_last := F_Log_last.binds (ps := p_Log_last) fun _ _ _ _ _ _ us hl => match us, hl with | [_], _ => rfl
  have F_Log_first := fun_mk (st := s_Log_first) l_Log_first c_Log_first k_Log_first
  have b_Log_first := F_Log_first.binds (ps := p_Log_first) fun _ _ _ _ _ _ us hl => match us, hl with | [_], _ => rfl
  have F_Log_wanted := fun_mk (st := s_Log_wanted) l_Log_wanted c_Log_wanted k_Log_wanted
  have b_Log_wanted := F_Log_wanted.binds (ps := p_Log_wanted) fun _ _ _ _ _ _ us hl => match us, hl with | [_, _, _, _], _ => rfl
  have F_Log_forget := fun_mk (st := s_Log_forget) l_Log_forget c_Log_forget k_Log_forget
  have b_Log_forget := F_Log_forget.binds (ps := p_Log_forget) fun _ _ _ _ _ _ us hl => match us, hl with | [_, _], _ => rfl
  have F_Watcher_init := fun_mk (st := s_Watcher_init) l_Watcher_init c_Watcher_init k_Watcher_init
  have b_Watcher_init := F_Watcher_init.binds (ps := p_Watcher_init) fun _ _ _ _ _ _ us hl => match us, hl with | [_, _, _], _ => rfl
  have F_Room_init := fun_mk (st := s_Room_init) l_Room_init c_Room_init k_Room_init
  have b_Room_init := F_Room_init.binds (ps := p_Room_init) fun _ _ _ _ _ _ us hl => match us, hl with | [_], _ => rfl
  have F_Room_grant := fun_mk (st := s_Room_grant) l_Room_grant c_Room_grant k_Room_grant
  have b_Room_grant := F_Room_grant.binds (ps := p_Room_grant) fun _ _ _ _ _ _ us hl => match us, hl with | [_, _], _ => rfl
  have F_Room_renew := fun_mk (st := s_Room_renew) l_Room_renew c_Room_renew k_Room_renew
  have b_Room_renew := F_Room_renew.binds (ps := p_Room_renew) fun _ _ _ _ _ _ us hl => match us, hl with | [_, _], _ => rfl
  have F_Room_drop := fun_mk (st := s_Room_drop) l_Room_drop c_Room_drop k_Room_drop
  have b_Room_drop := F_Room_drop.binds (ps := p_Room_drop) fun _ _ _ _ _ _ us hl => match us, hl with | [_, _], _ => rfl
  have F_Room_wait := fun_mk (st := s_Room_wait) l_Room_wait c_Room_wait k_Room_wait
  have b_Room_wait := F_Room_wait.binds (ps := p_Room_wait) fun _ _ _ _ _ _ us hl => match us, hl with | [_, _], _ => rfl
  have F_Room_value := fun_mk (st := s_Room_value) l_Room_value c_Room_value k_Room_value
  have b_Room_value := F_Room_value.binds (ps := p_Room_value) fun _ _ _ _ _ _ us hl => match us, hl with | [_, _], _ => rfl
  have F_Room_holder := fun_mk (st := s_Room_holder) l_Room_holder c_Room_holder k_Room_holder
  have b_Room_holder := F_Room_holder.binds (ps := p_Room_holder) fun _ _ _ _ _ _ us hl => match us, hl with | [_, _], _ => rfl
  have F_Room_pairs := fun_mk (st := s_Room_pairs) l_Room_pairs c_Room_pairs k_Room_pairs
  have b_Room_pairs := F_Room_pairs.binds (ps := p_Room_pairs) fun _ _ _ _ _ _ us hl => match us, hl with | [_, _], _ => rfl
  have F_Room_last := fun_mk (st := s_Room_last) l_Room_last c_Room_last k_Room_last
  have b_Room_last := F_Room_last.binds (ps := p_Room_last) fun _ _ _ _ _ _ us hl => match us, hl with | [_], _ => rfl
  have F_Room_first := fun_mk (st := s_Room_first) l_Room_first c_Room_first k_Room_first
  have b_Room_first := F_Room_first.binds (ps := p_Room_first) fun _ _ _ _ _ _ us hl => match us, hl with | [_], _ => rfl
  have F_Room_watch := fun_mk (st := s_Room_watch) l_Room_watch c_Room_watch k_Room_watch
  have b_Room_watch := F_Room_watch.binds (ps := p_Room_watch) fun _ _ _ _ _ _ us hl => match us, hl with | [_, _, _], _ => rfl
  have F_Room_pull := fun_mk (st := s_Room_pull) l_Room_pull c_Room_pull k_Room_pull
  have b_Room_pull := F_Room_pull.binds (ps := p_Room_pull) fun _ _ _ _ _ _ us hl => match us, hl with | [_, _, _], _ => rfl
  have F_Room_confirm := fun_mk (st := s_Room_confirm) l_Room_confirm c_Room_confirm k_Room_confirm
  have b_Room_confirm := F_Room_confirm.binds (ps := p_Room_confirm) fun _ _ _ _ _ _ us hl => match us, hl with | [_, _], _ => rfl
  have F_Room_broken := fun_mk (st := s_Room_broken) l_Room_broken c_Room_broken k_Room_broken
  have b_Room_broken := F_Room_broken.binds (ps := p_Room_broken) fun _ _ _ _ _ _ us hl => match us, hl with | [_, _], _ => rfl
  have F_Room_leave := fun_mk (st := s_Room_leave) l_Room_leave c_Room_leave k_Room_leave
  have b_Room_leave := F_Room_leave.binds (ps := p_Room_leave) fun _ _ _ _ _ _ us hl => match us, hl with | [_, _], _ => rfl
  have F_Room_trim := fun_mk (st := s_Room_trim) l_Room_trim c_Room_trim k_Room_trim
  have b_Room_trim := F_Room_trim.binds (ps := p_Room_trim) fun _ _ _ _ _ _ us hl => match us, hl with | [_], _ => rfl
  have F_Room_u_end := fun_mk (st := s_Room_u_end) l_Room_u_end c_Room_u_end k_Room_u_end
  have b_Room_u_end := F_Room_u_end.binds (ps := p_Room_u_end) fun _ _ _ _ _ _ us hl => match us, hl with | [_, _, _], _ => rfl
  have F_Room_u_take_out := fun_mk (st := s_Room_u_take_out) l_Room_u_take_out c_Room_u_take_out k_Room_u_take_out
  have b_Room_u_take_out := F_Room_u_take_out.binds (ps := p_Room_u_take_out) fun _ _ _ _ _ _ us hl => match us, hl with | [_, _, _], _ => rfl
  have F_Room_u_refuse_lease := fun_mk (st := s_Room_u_refuse_lease) l_Room_u_refuse_lease c_Room_u_refuse_lease k_Room_u_refuse_lease
  have b_Room_u_refuse_lease := F_Room_u_refuse_lease.binds (ps := p_Room_u_refuse_lease) fun _ _ _ _ _ _ us hl => match us, hl with | [_, _], _ => rfl
  have F_Room_u_refuse_held := fun_mk (st := s_Room_u_refuse_held) l_Room_u_refuse_held c_Room_u_refuse_held k_Room_u_refuse_held
  have b_Room_u_refuse_held := F_Room_u_refuse_held.binds (ps := p_Room_u_refuse_held) fun _ _ _ _ _ _ us hl => match us, hl with | [_, _, _], _ => rfl
  have F_Room_u_watching := fun_mk (st := s_Room_u_watching) l_Room_u_watching c_Room_u_watching k_Room_u_watching
  have b_Room_u_watching := F_Room_u_watching.binds (ps := p_Room_u_watching) fun _ _ _ _ _ _ us hl => match us, hl with | [_, _], _ => rfl
  have F_Room_u_refuse_watcher := fun_mk (st := s_Room_u_refuse_watcher) l_Room_u_refuse_watcher c_Room_u_refuse_watcher k_Room_u_refuse_watcher
  have b_Room_u_refuse_watcher := F_Room_u_refuse_watcher.binds (ps := p_Room_u_refuse_watcher) fun _ _ _ _ _ _ us hl => match us, hl with | [_, _], _ => rfl
  have F_whole := fun_mk (st := s_whole) l_whole c_whole k_whole
  have b_whole := F_whole.binds (ps := p_whole) fun _ _ _ _ _ _ us hl => match us, hl with | [_], _ => rfl
  have F_cell_at := fun_mk (st := s_cell_at) l_cell_at c_cell_at k_cell_at
  have b_cell_at := F_cell_at.binds (ps := p_cell_at) fun _ _ _ _ _ _ us hl => match us, hl with | [_, _], _ => rfl
  have F_sign := fun_mk (st := s_sign) l_sign c_sign k_sign
  have b_sign := F_sign.binds (ps := p_sign) fun _ _ _ _ _ _ us hl => match us, hl with | [_], _ => rfl
  have F_text := fun_mk (st := s_text) l_text c_text k_text
  have b_text := F_text.binds (ps := p_text) fun _ _ _ _ _ _ us hl => match us, hl with | [_, _], _ => rfl
  have F_pool := fun_mk (st := s_pool) l_pool c_pool k_pool
  have b_pool := F_pool.binds (ps := p_pool) fun _ _ _ _ _ _ us hl => match us, hl with | [_, _], _ => rfl
  have F_prefix := fun_mk (st := s_prefix) l_prefix c_prefix k_prefix
  have b_prefix := F_prefix.binds (ps := p_prefix) fun _ _ _ _ _ _ us hl => match us, hl with | [_, _], _ => rfl
  have F_new := fun_mk (st := s_new) l_new c_new k_new
  have b_new := F_new.binds (ps := p_new) fun _ _ _ _ _ _ us hl => match us, hl with | [], _ => rfl
  have F_note := fun_mk (st := s_note) l_note c_note k_note
  have b_note := F_note.binds (ps := p_note) fun _ _ _ _ _ _ us hl => match us, hl with | [_, _, _, _, _], _ => rfl
  have F_over := fun_mk (st := s_over) l_over c_over k_over
  have b_over := F_over.binds (ps := p_over) fun _ _ _ _ _ _ us hl => match us, hl with | [_, _, _], _ => rfl
  have F_go := fun_mk (st := s_go) l_go c_go k_go
  have b_go := F_go.binds (ps := p_go) fun _ _ _ _ _ _ us hl => match us, hl with | [_, _], _ => rfl
  have F_due_of_key := fun_mk (st := s_due_of_key) l_due_of_key c_due_of_key k_due_of_key
  have b_due_of_key := F_due_of_key.binds (ps := p_due_of_key) fun _ _ _ _ _ _ us hl => match us, hl with | [_, _], _ => rfl
  have F_due := fun_mk (st := s_due) l_due c_due k_due
  have b_due := F_due.binds (ps := p_due) fun _ _ _ _ _ _ us hl => match us, hl with | [_, _], _ => rfl
  have F_only := fun_mk (st := s_only) l_only c_only k_only
  have b_only := F_only.binds (ps := p_only) fun _ _ _ _ _ _ us hl => match us, hl with | [_, _], _ => rfl
  have F_call := fun_mk (st := s_call) l_call c_call k_call
  have b_call := F_call.binds (ps := p_call) fun _ _ _ _ _ _ us hl => match us, hl with | [_, _], _ => rfl
  have F_done := fun_mk (st := s_done) l_done c_done k_done
  have b_done := F_done.binds (ps := p_done) fun _ _ _ _ _ _ us hl => match us, hl with | [_, _], _ => rfl
  have F_alike := fun_mk (st := s_alike) l_alike c_alike k_alike
  have b_alike := F_alike.binds (ps := p_alike) fun _ _ _ _ _ _ us hl => match us, hl with | [_, _], _ => rfl
  have F_ticks := fun_mk (st := s_ticks) l_ticks c_ticks k_ticks
  have b_ticks := F_ticks.binds (ps := p_ticks) fun _ _ _ _ _ _ us hl => match us, hl with | [_, _], _ => rfl
  have F_deed := fun_mk (st := s_deed) l_deed c_deed k_deed
  have b_deed := F_deed.binds (ps := p_deed) fun _ _ _ _ _ _ us hl => match us, hl with | [_, _, _, _, _], _ => rfl
  have F_change := fun_mk (st := s_change) l_change c_change k_change
  have b_change := F_change.binds (ps := p_change) fun _ _ _ _ _ _ us hl => match us, hl with | [_], _ => rfl
  have F_changes := fun_mk (st := s_changes) l_changes c_changes k_changes
  have b_changes := F_changes.binds (ps := p_changes) fun _ _ _ _ _ _ us hl => match us, hl with | [_, _], _ => rfl
  have F_pairs := fun_mk (st := s_pairs) l_pairs c_pairs k_pairs
  have b_pairs := F_pairs.binds (ps := p_pairs) fun _ _ _ _ _ _ us hl => match us, hl with | [_, _], _ => rfl
  have F_watch := fun_mk (st := s_watch) l_watch c_watch k_watch
  have b_watch := F_watch.binds (ps := p_watch) fun _ _ _ _ _ _ us hl => match us, hl with | [_, _, _, _, _, _], _ => rfl
  have F_pulled := fun_mk (st := s_pulled) l_pulled c_pulled k_pulled
  have b_pulled := F_pulled.binds (ps := p_pulled) fun _ _ _ _ _ _ us hl => match us, hl with | [_, _, _, _, _], _ => rfl
  have F_trimmed := fun_mk (st := s_trimmed) l_trimmed c_trimmed k_trimmed
  have b_trimmed := F_trimmed.binds (ps := p_trimmed) fun _ _ _ _ _ _ us hl => match us, hl with | [_, _, _], _ => rfl
  have F_stranger := fun_mk (st := s_stranger) l_stranger c_stranger k_stranger
  have b_stranger := F_stranger.binds (ps := p_stranger) fun _ _ _ _ _ _ us hl => match us, hl with | [_, _, _], _ => rfl
  have F_watching := fun_mk (st := s_watching) l_watching c_watching k_watching
  have b_watching := F_watching.binds (ps := p_watching) fun _ _ _ _ _ _ us hl => match us, hl with | [_, _, _, _, _], _ => rfl
  have F_key := fun_mk (st := s_key) l_key c_key k_key
  have b_key := F_key.binds (ps := p_key) fun _ _ _ _ _ _ us hl => match us, hl with | [_, _], _ => rfl
  have F_crowd := fun_mk (st := s_crowd) l_crowd c_crowd k_crowd
  have b_crowd := F_crowd.binds (ps := p_crowd) fun _ _ _ _ _ _ us hl => match us, hl with | [_, _, _], _ => rfl
  have F_values := fun_mk (st := s_values) l_values c_values k_values
  have b_values := F_values.binds (ps := p_values) fun _ _ _ _ _ _ us hl => match us, hl with | [_, _], _ => rfl
  have F_stands := fun_mk (st := s_stands) l_stands c_stands k_stands
  have b_stands := F_stands.binds (ps := p_stands) fun _ _ _ _ _ _ us hl => match us, hl with | [_, _, _], _ => rfl
  have F_step := fun_mk (st := s_step) l_step c_step k_step
  have b_step := F_step.binds (ps := p_step) fun _ _ _ _ _ _ us hl => match us, hl with | [_, _, _, _, _], _ => rfl
  have F_law := fun_mk (st := s_law) l_law c_law k_law
  have b_law := F_law.binds (ps := p_law) fun _ _ _ _ _ _ us hl => match us, hl with | [_], _ => rfl
  have m_Leases_init : Meth K C_Leases "__init__" f_Leases_init := ⟨a_Leases_init, i_Leases_init, k_Leases_init⟩
  have m_Leases_grant : Meth K C_Leases "grant" f_Leases_grant := ⟨a_Leases_grant, i_Leases_grant, k_Leases_grant⟩
  have m_Leases_renew : Meth K C_Leases "renew" f_Leases_renew := ⟨a_Leases_renew, i_Leases_renew, k_Leases_renew⟩
  have m_Leases_drop : Meth K C_Leases "drop" f_Leases_drop := ⟨a_Leases_drop, i_Leases_drop, k_Leases_drop⟩
  have m_Leases_due : Meth K C_Leases "due" f_Leases_due := ⟨a_Leases_due, i_Leases_due, k_Leases_due⟩
  have m_Leases_refuse_unknown : Meth K C_Leases "refuse_unknown" f_Leases_refuse_unknown := ⟨a_Leases_refuse_unknown, i_Leases_refuse_unknown, k_Leases_refuse_unknown⟩
  have m_Log_init : Meth K C_Log "__init__" f_Log_init := ⟨a_Log_init, i_Log_init, k_Log_init⟩
  have m_Log_note : Meth K C_Log "note" f_Log_note := ⟨a_Log_note, i_Log_note, k_Log_note⟩
  have m_Log_last : Meth K C_Log "last" f_Log_last := ⟨a_Log_last, i_Log_last, k_Log_last⟩
  have m_Log_first : Meth K C_Log "first" f_Log_first := ⟨a_Log_first, i_Log_first, k_Log_first⟩
  have m_Log_wanted : Meth K C_Log "wanted" f_Log_wanted := ⟨a_Log_wanted, i_Log_wanted, k_Log_wanted⟩
  have m_Log_forget : Meth K C_Log "forget" f_Log_forget := ⟨a_Log_forget, i_Log_forget, k_Log_forget⟩
  have m_Watcher_init : Meth K C_Watcher "__init__" f_Watcher_init := ⟨a_Watcher_init, i_Watcher_init, k_Watcher_init⟩
  have m_Room_init : Meth K C_Room "__init__" f_Room_init := ⟨a_Room_init, i_Room_init, k_Room_init⟩
  have m_Room_grant : Meth K C_Room "grant" f_Room_grant := ⟨a_Room_grant, i_Room_grant, k_Room_grant⟩
  have m_Room_renew : Meth K C_Room "renew" f_Room_renew := ⟨a_Room_renew, i_Room_renew, k_Room_renew⟩
  have m_Room_drop : Meth K C_Room "drop" f_Room_drop := ⟨a_Room_drop, i_Room_drop, k_Room_drop⟩
  have m_Room_wait : Meth K C_Room "wait" f_Room_wait := ⟨a_Room_wait, i_Room_wait, k_Room_wait⟩
  have m_Room_put : Meth K C_Room "put" f_Room_put := ⟨a_Room_put, i_Room_put, k_Room_put⟩
  have m_Room_cut : Meth K C_Room "cut" f_Room_cut := ⟨a_Room_cut, i_Room_cut, k_Room_cut⟩
  have m_Room_value : Meth K C_Room "value" f_Room_value := ⟨a_Room_value, i_Room_value, k_Room_value⟩
  have m_Room_holder : Meth K C_Room "holder" f_Room_holder := ⟨a_Room_holder, i_Room_holder, k_Room_holder⟩
  have m_Room_pairs : Meth K C_Room "pairs" f_Room_pairs := ⟨a_Room_pairs, i_Room_pairs, k_Room_pairs⟩
  have m_Room_last : Meth K C_Room "last" f_Room_last := ⟨a_Room_last, i_Room_last, k_Room_last⟩
  have m_Room_first : Meth K C_Room "first" f_Room_first := ⟨a_Room_first, i_Room_first, k_Room_first⟩
  have m_Room_watch : Meth K C_Room "watch" f_Room_watch := ⟨a_Room_watch, i_Room_watch, k_Room_watch⟩
  have m_Room_pull : Meth K C_Room "pull" f_Room_pull := ⟨a_Room_pull, i_Room_pull, k_Room_pull⟩
  have m_Room_confirm : Meth K C_Room "confirm" f_Room_confirm := ⟨a_Room_confirm, i_Room_confirm, k_Room_confirm⟩
  have m_Room_broken : Meth K C_Room "broken" f_Room_broken := ⟨a_Room_broken, i_Room_broken, k_Room_broken⟩
  have m_Room_leave : Meth K C_Room "leave" f_Room_leave := ⟨a_Room_leave, i_Room_leave, k_Room_leave⟩
  have m_Room_trim : Meth K C_Room "trim" f_Room_trim := ⟨a_Room_trim, i_Room_trim, k_Room_trim⟩
  have m_Room_u_end : Meth K C_Room "_end" f_Room_u_end := ⟨a_Room_u_end, i_Room_u_end, k_Room_u_end⟩
  have m_Room_u_take_out : Meth K C_Room "_take_out" f_Room_u_take_out := ⟨a_Room_u_take_out, i_Room_u_take_out, k_Room_u_take_out⟩
  have m_Room_u_refuse_lease : Meth K C_Room "_refuse_lease" f_Room_u_refuse_lease := ⟨a_Room_u_refuse_lease, i_Room_u_refuse_lease, k_Room_u_refuse_lease⟩
  have m_Room_u_refuse_held : Meth K C_Room "_refuse_held" f_Room_u_refuse_held := ⟨a_Room_u_refuse_held, i_Room_u_refuse_held, k_Room_u_refuse_held⟩
  have m_Room_u_watching : Meth K C_Room "_watching" f_Room_u_watching := ⟨a_Room_u_watching, i_Room_u_watching, k_Room_u_watching⟩
  have m_Room_u_refuse_watcher : Meth K C_Room "_refuse_watcher" f_Room_u_refuse_watcher := ⟨a_Room_u_refuse_watcher, i_Room_u_refuse_watcher, k_Room_u_refuse_watcher⟩
  have g_whole := PySem.W.mg_of X G a_whole
  have g_cell_at := PySem.W.mg_of X G a_cell_at
  have g_sign := PySem.W.mg_of X G a_sign
  have g_text := PySem.W.mg_of X G a_text
  have g_pool := PySem.W.mg_of X G a_pool
  have g_prefix := PySem.W.mg_of X G a_prefix
  have g_new := PySem.W.mg_of X G a_new
  have g_note := PySem.W.mg_of X G a_note
  have g_over := PySem.W.mg_of X G a_over
  have g_go := PySem.W.mg_of X G a_go
  have g_due_of_key := PySem.W.mg_of X G a_due_of_key
  have g_due := PySem.W.mg_of X G a_due
  have g_only := PySem.W.mg_of X G a_only
  have g_call := PySem.W.mg_of X G a_call
  have g_done := PySem.W.mg_of X G a_done
  have g_alike := PySem.W.mg_of X G a_alike
  have g_ticks := PySem.W.mg_of X G a_ticks
  have g_deed := PySem.W.mg_of X G a_deed
  have g_change := PySem.W.mg_of X G a_change
  have g_changes := PySem.W.mg_of X G a_changes
  have g_pairs := PySem.W.mg_of X G a_pairs
  have g_watch := PySem.W.mg_of X G a_watch
  have g_pulled := PySem.W.mg_of X G a_pulled
  have g_trimmed := PySem.W.mg_of X G a_trimmed
  have g_stranger := PySem.W.mg_of X G a_stranger
  have g_watching := PySem.W.mg_of X G a_watching
  have g_key := PySem.W.mg_of X G a_key
  have g_crowd := PySem.W.mg_of X G a_crowd
  have g_values := PySem.W.mg_of X G a_values
  have g_stands := PySem.W.mg_of X G a_stands
  have g_step := PySem.W.mg_of X G a_step
  have F_Room_put : FunD K "put" "Room.put" (defArgs s_Room_put) (defBody s_Room_put) (defScope s_Room_put) [.int 0] [] f_Room_put (PySem.W.fnOf "put" "Room.put" (defArgs s_Room_put) (defBody s_Room_put) (defScope s_Room_put) (.ref dT_Room_put) kV_Room_put dc_Room_put pm_Room_put an_Room_put cd_Room_put ct_Room_put) := ⟨⟨_, _, _, _, _, _, _, _, _, _, rfl, l_Room_put, c_Room_put, .inr ⟨by simp, _, _, _, _, rfl, d_Room_put, rfl, .cons ⟨_, rfl⟩ (.nil)⟩, .inl rfl⟩, k_Room_put⟩
  have F_Room_cut : FunD K "cut" "Room.cut" (defArgs s_Room_cut) (defBody s_Room_cut) (defScope s_Room_cut) [.int 0] [] f_Room_cut (PySem.W.fnOf "cut" "Room.cut" (defArgs s_Room_cut) (defBody s_Room_cut) (defScope s_Room_cut) (.ref dT_Room_cut) kV_Room_cut dc_Room_cut pm_Room_cut an_Room_cut cd_Room_cut ct_Room_cut) := ⟨⟨_, _, _, _, _, _, _, _, _, _, rfl, l_Room_cut, c_Room_cut, .inr ⟨by simp, _, _, _, _, rfl, d_Room_cut, rfl, .cons ⟨_, rfl⟩ (.nil)⟩, .inl rfl⟩, k_Room_cut⟩
  have N_BadTicks : ErrT K mg "BadTicks" E_BadTicks := ⟨PySem.W.mg_of X G e_BadTicks, x_BadTicks, kp_BadTicks, b_BadTicks, t_BadTicks⟩
  have N_NoLease : ErrT K mg "NoLease" E_NoLease := ⟨PySem.W.mg_of X G e_NoLease, x_NoLease, kp_NoLease, b_NoLease, t_NoLease⟩
  have N_NoKey : ErrT K mg "NoKey" E_NoKey := ⟨PySem.W.mg_of X G e_NoKey, x_NoKey, kp_NoKey, b_NoKey, t_NoKey⟩
  have N_Held : ErrT K mg "Held" E_Held := ⟨PySem.W.mg_of X G e_Held, x_Held, kp_Held, b_Held, t_Held⟩
  have N_NoStart : ErrT K mg "NoStart" E_NoStart := ⟨PySem.W.mg_of X G e_NoStart, x_NoStart, kp_NoStart, b_NoStart, t_NoStart⟩
  have N_NoWatch : ErrT K mg "NoWatch" E_NoWatch := ⟨PySem.W.mg_of X G e_NoWatch, x_NoWatch, kp_NoWatch, b_NoWatch, t_NoWatch⟩
  have ER : Errs K mg ⟨E_LeaseError, E_BadTicks, E_NoLease, E_NoKey, E_Held, E_NoStart, E_NoWatch⟩ := by
    refine ⟨PySem.W.mg_of X G e_LeaseError, Z_ValueError, Z_isinstance, fun i => ?_, fun i => ?_, fun i => ?_⟩
    · cases i with
      | ticks => exact PySem.W.mg_of X G e_BadTicks
      | lease => exact PySem.W.mg_of X G e_NoLease
      | key => exact PySem.W.mg_of X G e_NoKey
      | held => exact PySem.W.mg_of X G e_Held
      | start => exact PySem.W.mg_of X G e_NoStart
      | watch => exact PySem.W.mg_of X G e_NoWatch
    · cases i with
      | ticks =>
        refine ⟨⟨ga_BadTicks, gt_BadTicks, b_BadTicks, hd_BadTicks, cl_BadTicks, sp, tk, mr_BadTicks⟩, fun j => ?_, kit_type (by decide +kernel) ov_BadTicks⟩
        cases j with
        | ticks => exact kit_own hd_BadTicks t_BadTicks o_BadTicks_BadTicks o_BadTicks_BadTicks
        | lease => exact kit_own hd_NoLease t_NoLease o_BadTicks_BadTicks o_BadTicks_NoLease
        | key => exact kit_own hd_NoKey t_NoKey o_BadTicks_BadTicks o_BadTicks_NoKey
        | held => exact kit_own hd_Held t_Held o_BadTicks_BadTicks o_BadTicks_Held
        | start => exact kit_own hd_NoStart t_NoStart o_BadTicks_BadTicks o_BadTicks_NoStart
        | watch => exact kit_own hd_NoWatch t_NoWatch o_BadTicks_BadTicks o_BadTicks_NoWatch
      | lease =>
        refine ⟨⟨ga_NoLease, gt_NoLease, b_NoLease, hd_NoLease, cl_NoLease, sp, tk, mr_NoLease⟩, fun j => ?_, kit_type (by decide +kernel) ov_NoLease⟩
        cases j with
        | ticks => exact kit_own hd_BadTicks t_BadTicks o_NoLease_NoLease o_NoLease_BadTicks
        | lease => exact kit_own hd_NoLease t_NoLease o_NoLease_NoLease o_NoLease_NoLease
        | key => exact kit_own hd_NoKey t_NoKey o_NoLease_NoLease o_NoLease_NoKey
        | held => exact kit_own hd_Held t_Held o_NoLease_NoLease o_NoLease_Held
        | start => exact kit_own hd_NoStart t_NoStart o_NoLease_NoLease o_NoLease_NoStart
        | watch => exact kit_own hd_NoWatch t_NoWatch o_NoLease_NoLease o_NoLease_NoWatch
      | key =>
        refine ⟨⟨ga_NoKey, gt_NoKey, b_NoKey, hd_NoKey, cl_NoKey, sp, tk, mr_NoKey⟩, fun j => ?_, kit_type (by decide +kernel) ov_NoKey⟩
        cases j with
        | ticks => exact kit_own hd_BadTicks t_BadTicks o_NoKey_NoKey o_NoKey_BadTicks
        | lease => exact kit_own hd_NoLease t_NoLease o_NoKey_NoKey o_NoKey_NoLease
        | key => exact kit_own hd_NoKey t_NoKey o_NoKey_NoKey o_NoKey_NoKey
        | held => exact kit_own hd_Held t_Held o_NoKey_NoKey o_NoKey_Held
        | start => exact kit_own hd_NoStart t_NoStart o_NoKey_NoKey o_NoKey_NoStart
        | watch => exact kit_own hd_NoWatch t_NoWatch o_NoKey_NoKey o_NoKey_NoWatch
      | held =>
        refine ⟨⟨ga_Held, gt_Held, b_Held, hd_Held, cl_Held, sp, tk, mr_Held⟩, fun j => ?_, kit_type (by decide +kernel) ov_Held⟩
        cases j with
        | ticks => exact kit_own hd_BadTicks t_BadTicks o_Held_Held o_Held_BadTicks
        | lease => exact kit_own hd_NoLease t_NoLease o_Held_Held o_Held_NoLease
        | key => exact kit_own hd_NoKey t_NoKey o_Held_Held o_Held_NoKey
        | held => exact kit_own hd_Held t_Held o_Held_Held o_Held_Held
        | start => exact kit_own hd_NoStart t_NoStart o_Held_Held o_Held_NoStart
        | watch => exact kit_own hd_NoWatch t_NoWatch o_Held_Held o_Held_NoWatch
      | start =>
        refine ⟨⟨ga_NoStart, gt_NoStart, b_NoStart, hd_NoStart, cl_NoStart, sp, tk, mr_NoStart⟩, fun j => ?_, kit_type (by decide +kernel) ov_NoStart⟩
        cases j with
        | ticks => exact kit_own hd_BadTicks t_BadTicks o_NoStart_NoStart o_NoStart_BadTicks
        | lease => exact kit_own hd_NoLease t_NoLease o_NoStart_NoStart o_NoStart_NoLease
        | key => exact kit_own hd_NoKey t_NoKey o_NoStart_NoStart o_NoStart_NoKey
        | held => exact kit_own hd_Held t_Held o_NoStart_NoStart o_NoStart_Held
        | start => exact kit_own hd_NoStart t_NoStart o_NoStart_NoStart o_NoStart_NoStart
        | watch => exact kit_own hd_NoWatch t_NoWatch o_NoStart_NoStart o_NoStart_NoWatch
      | watch =>
        refine ⟨⟨ga_NoWatch, gt_NoWatch, b_NoWatch, hd_NoWatch, cl_NoWatch, sp, tk, mr_NoWatch⟩, fun j => ?_, kit_type (by decide +kernel) ov_NoWatch⟩
        cases j with
        | ticks => exact kit_own hd_BadTicks t_BadTicks o_NoWatch_NoWatch o_NoWatch_BadTicks
        | lease => exact kit_own hd_NoLease t_NoLease o_NoWatch_NoWatch o_NoWatch_NoLease
        | key => exact kit_own hd_NoKey t_NoKey o_NoWatch_NoWatch o_NoWatch_NoKey
        | held => exact kit_own hd_Held t_Held o_NoWatch_NoWatch o_NoWatch_Held
        | start => exact kit_own hd_NoStart t_NoStart o_NoWatch_NoWatch o_NoWatch_NoStart
        | watch => exact kit_own hd_NoWatch t_NoWatch o_NoWatch_NoWatch o_NoWatch_NoWatch
    · cases i with
      | ticks => exact PySem.W.exm_ref b_LeaseError hd_LeaseError t_LeaseError q_BadTicks
      | lease => exact PySem.W.exm_ref b_LeaseError hd_LeaseError t_LeaseError q_NoLease
      | key => exact PySem.W.exm_ref b_LeaseError hd_LeaseError t_LeaseError q_NoKey
      | held => exact PySem.W.exm_ref b_LeaseError hd_LeaseError t_LeaseError q_Held
      | start => exact PySem.W.exm_ref b_LeaseError hd_LeaseError t_LeaseError q_NoStart
      | watch => exact PySem.W.exm_ref b_LeaseError hd_LeaseError t_LeaseError q_NoWatch
  refine ⟨PySem.W.fnOf "law" "law" (defArgs s_law) (defBody s_law) (defScope s_law) .none kV_law dc_law pm_law an_law cd_law ct_law, fun s v => .of_eq rfl, fun base _ _ => ?_⟩
  let cc : Cs := ⟨C_Room, C_Leases, C_Log, C_Watcher⟩
  let kk : Kinds := ⟨E_LeaseError, E_BadTicks, E_NoLease, E_NoKey, E_Held, E_NoStart, E_NoWatch⟩
  have TR : RomT K cc.C := ⟨cl_Room, n0_Room, n1_Room, n2_Room, n3_Room, n4_Room, n5_Room, n6_Room⟩
  have TG : LogT K cc.CG := ⟨cl_Log, n0_Log, n1_Log⟩
  have TL : LeaT K mg cc.CL := ⟨cl_Leases, n0_Leases, n1_Leases, n2_Leases, g_Leases⟩
  have GLL := ok_Log_last (P := l.prog) (w := w) (base := base) F_Log_last TG Z_len
  have GLF := ok_Log_first (P := l.prog) (w := w) (mg := mg) (base := base) F_Log_first TG
  have GLN := ok_Log_note (P := l.prog) (w := w) (mg := mg) (base := base) F_Log_note TG m_Log_last b_Log_last GLL
  have GLU := ok_Leases_refuse (P := l.prog) (w := w) (base := base) F_Leases_refuse_unknown TL N_NoLease
  have G_in := ok_Room_init (P := l.prog) (w := w) (base := base) F_Room_init TR g_Leases g_Log M_Leases b_Leases_init (ok_Leases_init F_Leases_init TL) M_Log b_Log_init (ok_Log_init F_Log_init TG)
  have G_va := ok_Room_value (P := l.prog) (w := w) (mg := mg) (base := base) F_Room_value TR
  have G_ho := ok_Room_holder (P := l.prog) (w := w) (mg := mg) (base := base) F_Room_holder TR
  have G_la := ok_Room_last (P := l.prog) (w := w) (mg := mg) (base := base) F_Room_last TR TG m_Log_last b_Log_last GLL
  have G_fi := ok_Room_first (P := l.prog) (w := w) (mg := mg) (base := base) F_Room_first TR TG m_Log_first b_Log_first GLF
  have G_rl := ok_Room_refuse_lease (P := l.prog) (w := w) (base := base) (kk := kk) F_Room_u_refuse_lease TR TL m_Leases_refuse_unknown b_Leases_refuse_unknown GLU
  have G_rh := ok_Room_refuse_held (P := l.prog) (w := w) (base := base) (kk := kk) F_Room_u_refuse_held TR N_Held m_Room_holder b_Room_holder G_ho
  have G_to := ok_Room_take_out (P := l.prog) (w := w) (mg := mg) (base := base) F_Room_u_take_out TR TG m_Log_note b_Log_note GLN
  have B0_Room_put : ∃ ds, Vals ([V.int 0].drop 1) ds ∧ Binds K (PySem.W.fnOf "put" "Room.put" (defArgs s_Room_put) (defBody s_Room_put) (defScope s_Room_put) (.ref dT_Room_put) kV_Room_put dc_Room_put pm_Room_put an_Room_put cd_Room_put ct_Room_put) p_Room_put ds := F_Room_put.binds1 4 1 (by simp) rfl fun T kV doc pm an cdv ct us its h1 h2 => match us, its, h1, h2 with | [_, _, _, _], [_], _, _ => ⟨_, rfl, rfl⟩
  have B1_Room_put : ∃ ds, Vals ([V.int 0].drop 0) ds ∧ Binds K (PySem.W.fnOf "put" "Room.put" (defArgs s_Room_put) (defBody s_Room_put) (defScope s_Room_put) (.ref dT_Room_put) kV_Room_put dc_Room_put pm_Room_put an_Room_put cd_Room_put ct_Room_put) p_Room_put ds := F_Room_put.binds1 3 0 (by simp) rfl fun T kV doc pm an cdv ct us its h1 h2 => match us, its, h1, h2 with | [_, _, _], [_], _, _ => ⟨_, rfl, rfl⟩
  have B2_Room_put : ∃ g, KBn K (PySem.W.fnOf "put" "Room.put" (defArgs s_Room_put) (defBody s_Room_put) (defScope s_Room_put) (.ref dT_Room_put) kV_Room_put dc_Room_put pm_Room_put an_Room_put cd_Room_put ct_Room_put) p_Room_put 3 ["lease"] g fun vs zs => vs ++ zs := by
    obtain ⟨its, h⟩ := F_Room_put.kbindsD (ps := p_Room_put) 3 ["lease"] (fun us _ ws => us ++ ws) (by simp) (fun r1 _ r3 => vals_app r1 r3) fun T kV doc pm an cdv ct us its ws h1 h2 h3 => match us, its, ws, h1, h2, h3 with | [_, _, _], [_], [_], _, _, _ => ⟨_, rfl, rfl⟩
    exact ⟨_, h⟩
  obtain ⟨d0_Room_put, r0_Room_put, B0_Room_put⟩ := B0_Room_put
  cases r0_Room_put
  have B0_Room_cut : ∃ ds, Vals ([V.int 0].drop 1) ds ∧ Binds K (PySem.W.fnOf "cut" "Room.cut" (defArgs s_Room_cut) (defBody s_Room_cut) (defScope s_Room_cut) (.ref dT_Room_cut) kV_Room_cut dc_Room_cut pm_Room_cut an_Room_cut cd_Room_cut ct_Room_cut) p_Room_cut ds := F_Room_cut.binds1 3 1 (by simp) rfl fun T kV doc pm an cdv ct us its h1 h2 => match us, its, h1, h2 with | [_, _, _], [_], _, _ => ⟨_, rfl, rfl⟩
  have B1_Room_cut : ∃ ds, Vals ([V.int 0].drop 0) ds ∧ Binds K (PySem.W.fnOf "cut" "Room.cut" (defArgs s_Room_cut) (defBody s_Room_cut) (defScope s_Room_cut) (.ref dT_Room_cut) kV_Room_cut dc_Room_cut pm_Room_cut an_Room_cut cd_Room_cut ct_Room_cut) p_Room_cut ds := F_Room_cut.binds1 2 0 (by simp) rfl fun T kV doc pm an cdv ct us its h1 h2 => match us, its, h1, h2 with | [_, _], [_], _, _ => ⟨_, rfl, rfl⟩
  have B2_Room_cut : ∃ g, KBn K (PySem.W.fnOf "cut" "Room.cut" (defArgs s_Room_cut) (defBody s_Room_cut) (defScope s_Room_cut) (.ref dT_Room_cut) kV_Room_cut dc_Room_cut pm_Room_cut an_Room_cut cd_Room_cut ct_Room_cut) p_Room_cut 2 ["lease"] g fun vs zs => vs ++ zs := by
    obtain ⟨its, h⟩ := F_Room_cut.kbindsD (ps := p_Room_cut) 2 ["lease"] (fun us _ ws => us ++ ws) (by simp) (fun r1 _ r3 => vals_app r1 r3) fun T kV doc pm an cdv ct us its ws h1 h2 h3 => match us, its, ws, h1, h2, h3 with | [_, _], [_], [_], _, _, _ => ⟨_, rfl, rfl⟩
    exact ⟨_, h⟩
  obtain ⟨d0_Room_cut, r0_Room_cut, B0_Room_cut⟩ := B0_Room_cut
  cases r0_Room_cut
  have GLG := ok_Leases_grant (P := l.prog) (w := w) (base := base) F_Leases_grant TL N_BadTicks (PySem.W.mg_of X G m_MOST_TICKS)
  have GLR := ok_Leases_renew (P := l.prog) (w := w) (base := base) F_Leases_renew TL N_NoLease F_Leases_refuse_unknown b_Leases_refuse_unknown m_Leases_refuse_unknown
  have GLD := ok_Leases_drop (P := l.prog) (w := w) (base := base) F_Leases_drop TL N_NoLease F_Leases_refuse_unknown b_Leases_refuse_unknown m_Leases_refuse_unknown
  have GLX := ok_Leases_due (P := l.prog) (w := w) (base := base) F_Leases_due TL Z_sorted
  have G_en := ok_Room_end (P := l.prog) (w := w) (base := base) (c := cc) (kk := kk) F_Room_u_end TR TL Z_sorted m_Leases_drop b_Leases_drop GLD m_Room_u_take_out b_Room_u_take_out G_to
  have TW : WatT K cc.CW := ⟨cl_Watcher, n0_Watcher, n1_Watcher, n2_Watcher⟩
  have G_rw := ok_Room_refuse_watcher (P := l.prog) (w := w) (base := base) (c := cc) (kk := kk) F_Room_u_refuse_watcher TR N_NoWatch
  have G_wg := ok_Room_watching (P := l.prog) (w := w) (base := base) (c := cc) (kk := kk) F_Room_u_watching TR m_Room_u_refuse_watcher b_Room_u_refuse_watcher G_rw
  have AR : RoomApi l.prog w K mg base C_Room kk (RsP cc) hsL :=
    { frame := RsP.frame, own := RsP.own, inst := RsP.inst
      make := ⟨_, _, _, M_Room, b_Room_init, G_in.mono (by decide)⟩
      grant := fun _ => ⟨_, _, _, m_Room_grant, b_Room_grant, (ok_Room_grant F_Room_grant TR TL m_Leases_grant b_Leases_grant GLG).mono (by decide)⟩
      renew := fun _ => ⟨_, _, _, m_Room_renew, b_Room_renew, (ok_Room_renew F_Room_renew TR TL m_Leases_renew b_Leases_renew GLR).mono (by decide)⟩
      drop := fun _ => ⟨_, _, _, m_Room_drop, b_Room_drop, (ok_Room_drop F_Room_drop TR m_Room_u_end b_Room_u_end G_en).mono (by decide)⟩
      wait := fun _ => ⟨_, _, _, m_Room_wait, b_Room_wait, (ok_Room_wait F_Room_wait TR TL N_BadTicks (PySem.W.mg_of X G m_MOST_TICKS) m_Room_u_end b_Room_u_end G_en m_Leases_due b_Leases_due GLX).mono (by decide)⟩
      put := fun _ => ⟨_, _, _, m_Room_put, B0_Room_put, B1_Room_put, B2_Room_put, (ok_Room_put F_Room_put TR TG m_Room_u_refuse_lease b_Room_u_refuse_lease G_rl m_Room_u_refuse_held b_Room_u_refuse_held G_rh m_Log_note b_Log_note GLN).mono (by decide)⟩
      cut := fun _ => ⟨_, _, _, m_Room_cut, B0_Room_cut, B1_Room_cut, B2_Room_cut, (ok_Room_cut F_Room_cut TR N_NoKey m_Room_u_refuse_lease b_Room_u_refuse_lease G_rl m_Room_u_refuse_held b_Room_u_refuse_held G_rh m_Room_u_take_out b_Room_u_take_out G_to).mono (by decide)⟩
      value := fun _ => ⟨_, _, _, m_Room_value, b_Room_value, (api_value G_va).mono (by decide)⟩
      holder := fun _ => ⟨_, _, _, m_Room_holder, b_Room_holder, (api_holder G_ho).mono (by decide)⟩
      pairs := fun _ => ⟨_, _, _, m_Room_pairs, b_Room_pairs, (api_pairs (ok_Room_pairs F_Room_pairs TR Z_sorted)).mono (by decide)⟩
      last := fun _ => ⟨_, _, _, m_Room_last, b_Room_last, (api_last G_la).mono (by decide)⟩
      first := fun _ => ⟨_, _, _, m_Room_first, b_Room_first, (api_first G_fi).mono (by decide)⟩
      watch := fun _ => ⟨_, _, _, m_Room_watch, b_Room_watch, (ok_Room_watch F_Room_watch TR N_NoStart g_Watcher M_Watcher b_Watcher_init (ok_Watcher_init F_Watcher_init TW) m_Room_first b_Room_first G_fi m_Room_last b_Room_last G_la).mono (by decide)⟩
      pull := fun _ => ⟨_, _, _, m_Room_pull, b_Room_pull, (ok_Room_pull F_Room_pull TR TW TG Z_len m_Room_u_watching b_Room_u_watching G_wg m_Log_wanted b_Log_wanted (ok_Log_wanted F_Log_wanted TG Z_len Z_max Z_range) m_Room_last b_Room_last G_la).mono (by decide)⟩
      confirm := fun _ => ⟨_, _, _, m_Room_confirm, b_Room_confirm, (ok_Room_confirm F_Room_confirm TR TW m_Room_u_watching b_Room_u_watching G_wg).mono (by decide)⟩
      broken := fun _ => ⟨_, _, _, m_Room_broken, b_Room_broken, (ok_Room_broken F_Room_broken TR TW m_Room_u_watching b_Room_u_watching G_wg).mono (by decide)⟩
      leave := fun _ => ⟨_, _, _, m_Room_leave, b_Room_leave, (ok_Room_leave F_Room_leave TR m_Room_u_refuse_watcher b_Room_u_refuse_watcher G_rw).mono (by decide)⟩
      trim := fun _ => ⟨_, _, _, m_Room_trim, b_Room_trim, (ok_Room_trim F_Room_trim TR TW TG Z_min m_Room_last b_Room_last G_la m_Log_forget b_Log_forget (ok_Log_forget F_Log_forget TG Z_max Z_min m_Log_last b_Log_last GLL)).mono (by decide)⟩ }
  have D_whole : Def l.prog w K mg base "_law_whole" 1 p_whole spWhole := ⟨_, _, g_whole, k_whole, b_whole, ok_whole F_whole LT⟩
  have D_cell_at : Def l.prog w K mg base "_law_cell_at" 1 p_cell_at (spCellA K) := ⟨_, _, g_cell_at, k_cell_at, b_cell_at, ok_cell F_cell_at LT⟩
  have D_sign : Def l.prog w K mg base "_law_sign" 1 p_sign spSign := ⟨_, _, g_sign, k_sign, b_sign, ok_sign F_sign⟩
  have D_text : Def l.prog w K mg base "_law_text" 2 p_text spText := ⟨_, _, g_text, k_text, b_text, ok_text F_text LT D_sign⟩
  have D_pool : Def l.prog w K mg base "_law_pool" 3 p_pool spPool := ⟨_, _, g_pool, k_pool, b_pool, ok_pool F_pool LT D_sign D_text⟩
  have D_prefix : Def l.prog w K mg base "_law_prefix" 1 p_prefix spPrefix := ⟨_, _, g_prefix, k_prefix, b_prefix, ok_prefix F_prefix⟩
  have D_change : Def l.prog w K mg base "_law_change" 2 p_change spChange := ⟨_, _, g_change, k_change, b_change, ok_change F_change LT D_whole⟩
  have D_changes : Def l.prog w K mg base "_law_changes" 3 p_changes (spChanges K) := ⟨_, _, g_changes, k_changes, b_changes, ok_changes F_changes LT D_change⟩
  have D_pairs : Def l.prog w K mg base "_law_pairs" 1 p_pairs (spPairs K) := ⟨_, _, g_pairs, k_pairs, b_pairs, ok_pairs F_pairs LT⟩
  have D_new : Def l.prog w K mg base "_law_new" 1 p_new spNew := ⟨_, _, g_new, k_new, b_new, ok_new F_new⟩
  have D_note : Def l.prog w K mg base "_law_note" 1 p_note spNote := ⟨_, _, g_note, k_note, b_note, ok_note F_note LT⟩
  have D_over : Def l.prog w K mg base "_law_over" 2 p_over spOver := ⟨_, _, g_over, k_over, b_over, ok_over F_over LT D_note⟩
  have D_go : Def l.prog w K mg base "_law_go" 3 p_go spGo := ⟨_, _, g_go, k_go, b_go, ok_go F_go LT D_over⟩
  have D_due_of_key : Def l.prog w K mg base "_law_due_of_key" 2 p_due_of_key (spDueD onKey) := ⟨_, _, g_due_of_key, k_due_of_key, b_due_of_key, ok_due_of_key F_due_of_key D_note⟩
  have D_due : Def l.prog w K mg base "_law_due" 4 p_due (spDueD fun _ => True) := ⟨_, _, g_due, k_due, b_due, ok_due F_due D_go D_over D_due_of_key⟩
  have D_alike : Def l.prog w K mg base "_law_alike" 2 p_alike spAlike := ⟨_, _, g_alike, k_alike, b_alike, ok_alike F_alike D_whole⟩
  have D_ticks : Def l.prog w K mg base "_law_ticks" 1 p_ticks spTicks := ⟨_, _, g_ticks, k_ticks, b_ticks, ok_ticks F_ticks⟩
  have D_deed : Def l.prog w K mg base "_law_deed" 3 p_deed spDeed := ⟨_, _, g_deed, k_deed, b_deed, ok_deed F_deed D_ticks D_text⟩
  have D_call : ∃ f fd, mg (Str.ofString "_law_call") = some (.ref f) ∧ PySem.W.keepIn K (.ref f) = true ∧ Binds K fd p_call [] ∧ FnOk l.prog w K mg base (L2.CX l.prog w) 9 f fd p_call (spCall kk (RsP cc)) := ⟨_, _, g_call, k_call, b_call, ok_call F_call cl_Room AR⟩
  have D_done : Def l.prog w K mg base "_law_done" 10 p_done (spDone (RsP cc)) := ⟨_, _, g_done, k_done, b_done, ok_done F_done AR ER D_call (ok_only F_only ER) g_only k_only b_only⟩
  have D_key : Def l.prog w K mg base "_law_key" 3 p_key spKey := ⟨_, _, g_key, k_key, b_key, ok_key F_key LT D_sign D_text⟩
  have D_pulled : Def l.prog w K mg base "_law_pulled" 9 p_pulled (spPulled (RsP cc)) := ⟨_, _, g_pulled, k_pulled, b_pulled, ok_pulled F_pulled cl_Room AR LT D_changes⟩
  have D_watch : Def l.prog w K mg base "_law_watch" 9 p_watch (spWatchL (RsP cc)) := ⟨_, _, g_watch, k_watch, b_watch, ok_watch F_watch cl_Room AR ER D_whole (ok_only F_only ER) g_only k_only b_only⟩
  have D_trimmed : Def l.prog w K mg base "_law_trimmed" 9 p_trimmed (spTrimmed (RsP cc)) := ⟨_, _, g_trimmed, k_trimmed, b_trimmed, ok_trimmed F_trimmed cl_Room AR LT Z_max Z_min D_whole⟩
  have D_stranger : Def l.prog w K mg base "_law_stranger" 9 p_stranger (spStranger (RsP cc)) := ⟨_, _, g_stranger, k_stranger, b_stranger, ok_stranger F_stranger cl_Room AR ER (ok_only F_only ER) g_only k_only b_only⟩
  have D_watching : Def l.prog w K mg base "_law_watching" 10 p_watching (spWatchingL (RsP cc)) := ⟨_, _, g_watching, k_watching, b_watching, ok_watching F_watching cl_Room AR LT D_pulled D_trimmed D_stranger⟩
  have D_crowd : Def l.prog w K mg base "_law_crowd" 11 p_crowd (spCrowd (RsP cc)) := ⟨_, _, g_crowd, k_crowd, b_crowd, ok_crowd F_crowd AR LT D_key D_text D_alike D_done D_due⟩
  have D_values : Def l.prog w K mg base "_law_values" 9 p_values (spValues (RsP cc)) := ⟨_, _, g_values, k_values, b_values, ok_values F_values cl_Room AR LT D_alike⟩
  have D_stands : Def l.prog w K mg base "_law_stands" 10 p_stands (spStands8 (RsP cc)) := ⟨_, _, g_stands, k_stands, b_stands, ok_stands F_stands cl_Room n0_Room AR LT D_alike D_values D_pairs⟩
  have D_step : Def l.prog w K mg base "_law_step" 11 p_step (spStep8 (RsP cc)) := ⟨_, _, g_step, k_step, b_step, ok_step F_step AR LT D_deed D_alike D_done D_due D_watch D_prefix D_watching⟩
  exact ok_law F_law cl_Room g_Room AR LT D_cell_at D_pool D_new D_crowd D_step D_stands D_pulled D_alike D_changes

theorem walk {l : PySem.W.OpenLaw} {q : Program} {loose : List Str} {XP : (Str → Option Value) → Heap → Prop} {YP : World → Heap → Prop} {d : DefRec} {K : Params → PySem.W.Frag} (hn : l.most = some 63) (hdf : d.params.defaults = [])
    (hY : ∀ (w : World) (h : Heap), YP w h → (K w.params).In h)
    (F : ∀ (w : World) (mg : Str → Option Value) (fa : Addr) (h : Heap), (K w.params).In h → h.Ns mainGlobals mg → mg d.name = some (.ref fa) →
      ∃ fd : FuncData, (∀ (s : Shared) (u : Value), BindsTo s fd ⟨[u], []⟩ [("_law_script", u)]) ∧ ∀ base : Heap, (K w.params).In base → base.Ns mainGlobals mg → FnOk l.prog w (K w.params) mg base CX0 12 fa fd ["_law_script"] (spLaw (K w.params))) :
    PySem.W.WalkO q loose XP YP l.row.toRowW d [] (fun f vs => PySem.call f vs) :=
  L2.walk_of (n := 63) (k := 12) (x := "_law_script") (CX := fun _ => CX0) (sp := fun w => spLaw (K w.params)) hn (by decide) hdf ⟨rfl, by decide, by decide⟩ hY F (fun _ _ a ns hl _ hS => ⟨a, ns, rfl, hS, hl, fun _ => rfl⟩) fun _ _ _ _ _ z => z
end KL

open PySem PySem.W PyProof.Rows
set_option maxRecDepth 100000 in
set_option maxHeartbeats 0 in
theorem PySem.Challenge.cw_leasewatch_k08_whole_every_history_holds : PySem.Challenge.rw_leasewatch_k08_whole_every_history.Holds := by
  w_on; o_law; k_head; (case hw => w_witness2)
  k_fill
  refine KL.walk (l := PySem.Challenge.rw_leasewatch_k08_whole_every_history) rfl rfl (fun w h Y => PySem.W.kIn_of Y) ?F
  case F =>
    intro w mg fa h KX G hmg
    refine' KL.all_mk KX G hmg ?aC_Leases ?aC_Log ?aC_Watcher ?aC_Room ?a_Leases_init ?i_Leases_init ?l_Leases_init ?c_Leases_init ?k_Leases_init ?a_Leases_grant ?i_Leases_grant ?l_Leases_grant ?c_Leases_grant ?k_Leases_grant ?a_Leases_renew ?i_Leases_renew ?l_Leases_renew ?c_Leases_renew ?k_Leases_renew ?a_Leases_drop ?i_Leases_drop ?l_Leases_drop ?c_Leases_drop ?k_Leases_drop ?a_Leases_due ?i_Leases_due ?l_Leases_due ?c_Leases_due ?k_Leases_due ?a_Leases_refuse_unknown ?i_Leases_refuse_unknown ?l_Leases_refuse_unknown ?c_Leases_refuse_unknown ?k_Leases_refuse_unknown ?a_Log_init ?i_Log_init ?l_Log_init ?c_Log_init ?k_Log_init ?a_Log_note ?i_Log_note ?l_Log_note ?c_Log_note ?k_Log_note ?a_Log_last ?i_Log_last ?l_Log_last ?c_Log_last ?k_Log_last ?a_Log_first ?i_Log_first ?l_Log_first ?c_Log_first ?k_Log_first ?a_Log_wanted ?i_Log_wanted ?l_Log_wanted ?c_Log_wanted ?k_Log_wanted ?a_Log_forget ?i_Log_forget ?l_Log_forget ?c_Log_forget ?k_Log_forget ?a_Watcher_init ?i_Watcher_init ?l_Watcher_init ?c_Watcher_init ?k_Watcher_init ?a_Room_init ?i_Room_init ?l_Room_init ?c_Room_init ?k_Room_init ?a_Room_grant ?i_Room_grant ?l_Room_grant ?c_Room_grant ?k_Room_grant ?a_Room_renew ?i_Room_renew ?l_Room_renew ?c_Room_renew ?k_Room_renew ?a_Room_drop ?i_Room_drop ?l_Room_drop ?c_Room_drop ?k_Room_drop ?a_Room_wait ?i_Room_wait ?l_Room_wait ?c_Room_wait ?k_Room_wait ?a_Room_put ?i_Room_put ?l_Room_put ?d_Room_put ?c_Room_put ?k_Room_put ?a_Room_cut ?i_Room_cut ?l_Room_cut ?d_Room_cut ?c_Room_cut ?k_Room_cut ?a_Room_value ?i_Room_value ?l_Room_value ?c_Room_value ?k_Room_value ?a_Room_holder ?i_Room_holder ?l_Room_holder ?c_Room_holder ?k_Room_holder ?a_Room_pairs ?i_Room_pairs ?l_Room_pairs ?c_Room_pairs ?k_Room_pairs ?a_Room_last ?i_Room_last ?l_Room_last ?c_Room_last ?k_Room_last ?a_Room_first ?i_Room_first ?l_Room_first ?c_Room_first ?k_Room_first ?a_Room_watch ?i_Room_watch ?l_Room_watch ?c_Room_watch ?k_Room_watch ?a_Room_pull ?i_Room_pull ?l_Room_pull ?c_Room_pull ?k_Room_pull ?a_Room_confirm ?i_Room_confirm ?l_Room_confirm ?c_Room_confirm ?k_Room_confirm ?a_Room_broken ?i_Room_broken ?l_Room_broken ?c_Room_broken ?k_Room_broken ?a_Room_leave ?i_Room_leave ?l_Room_leave ?c_Room_leave ?k_Room_leave ?a_Room_trim ?i_Room_trim ?l_Room_trim ?c_Room_trim ?k_Room_trim ?a_Room_u_end ?i_Room_u_end ?l_Room_u_end ?c_Room_u_end ?k_Room_u_end ?a_Room_u_take_out ?i_Room_u_take_out ?l_Room_u_take_out ?c_Room_u_take_out ?k_Room_u_take_out ?a_Room_u_refuse_lease ?i_Room_u_refuse_lease ?l_Room_u_refuse_lease ?c_Room_u_refuse_lease ?k_Room_u_refuse_lease ?a_Room_u_refuse_held ?i_Room_u_refuse_held ?l_Room_u_refuse_held ?c_Room_u_refuse_held ?k_Room_u_refuse_held ?a_Room_u_watching ?i_Room_u_watching ?l_Room_u_watching ?c_Room_u_watching ?k_Room_u_watching ?a_Room_u_refuse_watcher ?i_Room_u_refuse_watcher ?l_Room_u_refuse_watcher ?c_Room_u_refuse_watcher ?k_Room_u_refuse_watcher ?a_whole ?l_whole ?c_whole ?k_whole ?a_cell_at ?l_cell_at ?c_cell_at ?k_cell_at ?a_sign ?l_sign ?c_sign ?k_sign ?a_text ?l_text ?c_text ?k_text ?a_pool ?l_pool ?c_pool ?k_pool ?a_prefix ?l_prefix ?c_prefix ?k_prefix ?a_new ?l_new ?c_new ?k_new ?a_note ?l_note ?c_note ?k_note ?a_over ?l_over ?c_over ?k_over ?a_go ?l_go ?c_go ?k_go ?a_due_of_key ?l_due_of_key ?c_due_of_key ?k_due_of_key ?a_due ?l_due ?c_due ?k_due ?a_only ?l_only ?c_only ?k_only ?a_call ?l_call ?c_call ?k_call ?a_done ?l_done ?c_done ?k_done ?a_alike ?l_alike ?c_alike ?k_alike ?a_ticks ?l_ticks ?c_ticks ?k_ticks ?a_deed ?l_deed ?c_deed ?k_deed ?a_change ?l_change ?c_change ?k_change ?a_changes ?l_changes ?c_changes ?k_changes ?a_pairs ?l_pairs ?c_pairs ?k_pairs ?a_watch ?l_watch ?c_watch ?k_watch ?a_pulled ?l_pulled ?c_pulled ?k_pulled ?a_trimmed ?l_trimmed ?c_trimmed ?k_trimmed ?a_stranger ?l_stranger ?c_stranger ?k_stranger ?a_watching ?l_watching ?c_watching ?k_watching ?a_key ?l_key ?c_key ?k_key ?a_crowd ?l_crowd ?c_crowd ?k_crowd ?a_values ?l_values ?c_values ?k_values ?a_stands ?l_stands ?c_stands ?k_stands ?a_step ?l_step ?c_step ?k_step ?a_law ?l_law ?c_law ?k_law ?pg_Leases ?hd_Leases ?po_Leases ?sa_Leases ?mk_Leases ?kc_Leases ?n0_Leases ?n1_Leases ?n2_Leases ?pg_Log ?hd_Log ?po_Log ?sa_Log ?mk_Log ?kc_Log ?n0_Log ?n1_Log ?pg_Watcher ?hd_Watcher ?po_Watcher ?sa_Watcher ?mk_Watcher ?kc_Watcher ?n0_Watcher ?n1_Watcher ?n2_Watcher ?pg_Room ?hd_Room ?po_Room ?sa_Room ?mk_Room ?kc_Room ?n0_Room ?n1_Room ?n2_Room ?n3_Room ?n4_Room ?n5_Room ?n6_Room ?m_MOST_TICKS ?e_LeaseError ?e_BadTicks ?e_NoLease ?e_NoKey ?e_Held ?e_NoStart ?e_NoWatch ?hd_LeaseError ?t_LeaseError ?hd_BadTicks ?t_BadTicks ?hd_NoLease ?t_NoLease ?hd_NoKey ?t_NoKey ?hd_Held ?t_Held ?hd_NoStart ?t_NoStart ?hd_NoWatch ?t_NoWatch ?b_LeaseError ?x_BadTicks ?kp_BadTicks ?b_BadTicks ?ga_BadTicks ?gt_BadTicks ?cl_BadTicks ?mr_BadTicks ?o_BadTicks_BadTicks ?o_BadTicks_NoLease ?o_BadTicks_NoKey ?o_BadTicks_Held ?o_BadTicks_NoStart ?o_BadTicks_NoWatch ?ov_BadTicks ?q_BadTicks ?x_NoLease ?kp_NoLease ?b_NoLease ?ga_NoLease ?gt_NoLease ?cl_NoLease ?mr_NoLease ?o_NoLease_BadTicks ?o_NoLease_NoLease ?o_NoLease_NoKey ?o_NoLease_Held ?o_NoLease_NoStart ?o_NoLease_NoWatch ?ov_NoLease ?q_NoLease ?x_NoKey ?kp_NoKey ?b_NoKey ?ga_NoKey ?gt_NoKey ?cl_NoKey ?mr_NoKey ?o_NoKey_BadTicks ?o_NoKey_NoLease ?o_NoKey_NoKey ?o_NoKey_Held ?o_NoKey_NoStart ?o_NoKey_NoWatch ?ov_NoKey ?q_NoKey ?x_Held ?kp_Held ?b_Held ?ga_Held ?gt_Held ?cl_Held ?mr_Held ?o_Held_BadTicks ?o_Held_NoLease ?o_Held_NoKey ?o_Held_Held ?o_Held_NoStart ?o_Held_NoWatch ?ov_Held ?q_Held ?x_NoStart ?kp_NoStart ?b_NoStart ?ga_NoStart ?gt_NoStart ?cl_NoStart ?mr_NoStart ?o_NoStart_BadTicks ?o_NoStart_NoLease ?o_NoStart_NoKey ?o_NoStart_Held ?o_NoStart_NoStart ?o_NoStart_NoWatch ?ov_NoStart ?q_NoStart ?x_NoWatch ?kp_NoWatch ?b_NoWatch ?ga_NoWatch ?gt_NoWatch ?cl_NoWatch ?mr_NoWatch ?o_NoWatch_BadTicks ?o_NoWatch_NoLease ?o_NoWatch_NoKey ?o_NoWatch_Held ?o_NoWatch_NoStart ?o_NoWatch_NoWatch ?ov_NoWatch ?q_NoWatch ?sp ?tk ?z_ValueError ?z_bool ?z_int ?z_isinstance ?z_len ?z_list ?z_max ?z_min ?z_range ?z_sorted ?z_str ?z_tuple
    (case aC_Leases => k_is)
    (case aC_Log => k_is)
    (case aC_Watcher => k_is)
    (case aC_Room => k_is)
    (case a_Leases_init => k_is)
    (case i_Leases_init => k_is)
    (case l_Leases_init => k_is)
    (case c_Leases_init => k_is)
    (case k_Leases_init => k_is)
    (case a_Leases_grant => k_is)
    (case i_Leases_grant => k_is)
    (case l_Leases_grant => k_is)
    (case c_Leases_grant => k_is)
    (case k_Leases_grant => k_is)
    (case a_Leases_renew => k_is)
    (case i_Leases_renew => k_is)
    (case l_Leases_renew => k_is)
    (case c_Leases_renew => k_is)
    (case k_Leases_renew => k_is)
    (case a_Leases_drop => k_is)
    (case i_Leases_drop => k_is)
    (case l_Leases_drop => k_is)
    (case c_Leases_drop => k_is)
    (case k_Leases_drop => k_is)
    (case a_Leases_due => k_is)
    (case i_Leases_due => k_is)
    (case l_Leases_due => k_is)
    (case c_Leases_due => k_is)
    (case k_Leases_due => k_is)
    (case a_Leases_refuse_unknown => k_is)
    (case i_Leases_refuse_unknown => k_is)
    (case l_Leases_refuse_unknown => k_is)
    (case c_Leases_refuse_unknown => k_is)
    (case k_Leases_refuse_unknown => k_is)
    (case a_Log_init => k_is)
    (case i_Log_init => k_is)
    (case l_Log_init => k_is)
    (case c_Log_init => k_is)
    (case k_Log_init => k_is)
    (case a_Log_note => k_is)
    (case i_Log_note => k_is)
    (case l_Log_note => k_is)
    (case c_Log_note => k_is)
    (case k_Log_note => k_is)
    (case a_Log_last => k_is)
    (case i_Log_last => k_is)
    (case l_Log_last => k_is)
    (case c_Log_last => k_is)
    (case k_Log_last => k_is)
    (case a_Log_first => k_is)
    (case i_Log_first => k_is)
    (case l_Log_first => k_is)
    (case c_Log_first => k_is)
    (case k_Log_first => k_is)
    (case a_Log_wanted => k_is)
    (case i_Log_wanted => k_is)
    (case l_Log_wanted => k_is)
    (case c_Log_wanted => k_is)
    (case k_Log_wanted => k_is)
    (case a_Log_forget => k_is)
    (case i_Log_forget => k_is)
    (case l_Log_forget => k_is)
    (case c_Log_forget => k_is)
    (case k_Log_forget => k_is)
    (case a_Watcher_init => k_is)
    (case i_Watcher_init => k_is)
    (case l_Watcher_init => k_is)
    (case c_Watcher_init => k_is)
    (case k_Watcher_init => k_is)
    (case a_Room_init => k_is)
    (case i_Room_init => k_is)
    (case l_Room_init => k_is)
    (case c_Room_init => k_is)
    (case k_Room_init => k_is)
    (case a_Room_grant => k_is)
    (case i_Room_grant => k_is)
    (case l_Room_grant => k_is)
    (case c_Room_grant => k_is)
    (case k_Room_grant => k_is)
    (case a_Room_renew => k_is)
    (case i_Room_renew => k_is)
    (case l_Room_renew => k_is)
    (case c_Room_renew => k_is)
    (case k_Room_renew => k_is)
    (case a_Room_drop => k_is)
    (case i_Room_drop => k_is)
    (case l_Room_drop => k_is)
    (case c_Room_drop => k_is)
    (case k_Room_drop => k_is)
    (case a_Room_wait => k_is)
    (case i_Room_wait => k_is)
    (case l_Room_wait => k_is)
    (case c_Room_wait => k_is)
    (case k_Room_wait => k_is)
    (case a_Room_put => k_is)
    (case i_Room_put => k_is)
    (case l_Room_put => k_is)
    (case d_Room_put => k_is)
    (case c_Room_put => k_is)
    (case k_Room_put => k_is)
    (case a_Room_cut => k_is)
    (case i_Room_cut => k_is)
    (case l_Room_cut => k_is)
    (case d_Room_cut => k_is)
    (case c_Room_cut => k_is)
    (case k_Room_cut => k_is)
    (case a_Room_value => k_is)
    (case i_Room_value => k_is)
    (case l_Room_value => k_is)
    (case c_Room_value => k_is)
    (case k_Room_value => k_is)
    (case a_Room_holder => k_is)
    (case i_Room_holder => k_is)
    (case l_Room_holder => k_is)
    (case c_Room_holder => k_is)
    (case k_Room_holder => k_is)
    (case a_Room_pairs => k_is)
    (case i_Room_pairs => k_is)
    (case l_Room_pairs => k_is)
    (case c_Room_pairs => k_is)
    (case k_Room_pairs => k_is)
    (case a_Room_last => k_is)
    (case i_Room_last => k_is)
    (case l_Room_last => k_is)
    (case c_Room_last => k_is)
    (case k_Room_last => k_is)
    (case a_Room_first => k_is)
    (case i_Room_first => k_is)
    (case l_Room_first => k_is)
    (case c_Room_first => k_is)
    (case k_Room_first => k_is)
    (case a_Room_watch => k_is)
    (case i_Room_watch => k_is)
    (case l_Room_watch => k_is)
    (case c_Room_watch => k_is)
    (case k_Room_watch => k_is)
    (case a_Room_pull => k_is)
    (case i_Room_pull => k_is)
    (case l_Room_pull => k_is)
    (case c_Room_pull => k_is)
    (case k_Room_pull => k_is)
    (case a_Room_confirm => k_is)
    (case i_Room_confirm => k_is)
    (case l_Room_confirm => k_is)
    (case c_Room_confirm => k_is)
    (case k_Room_confirm => k_is)
    (case a_Room_broken => k_is)
    (case i_Room_broken => k_is)
    (case l_Room_broken => k_is)
    (case c_Room_broken => k_is)
    (case k_Room_broken => k_is)
    (case a_Room_leave => k_is)
    (case i_Room_leave => k_is)
    (case l_Room_leave => k_is)
    (case c_Room_leave => k_is)
    (case k_Room_leave => k_is)
    (case a_Room_trim => k_is)
    (case i_Room_trim => k_is)
    (case l_Room_trim => k_is)
    (case c_Room_trim => k_is)
    (case k_Room_trim => k_is)
    (case a_Room_u_end => k_is)
    (case i_Room_u_end => k_is)
    (case l_Room_u_end => k_is)
    (case c_Room_u_end => k_is)
    (case k_Room_u_end => k_is)
    (case a_Room_u_take_out => k_is)
    (case i_Room_u_take_out => k_is)
    (case l_Room_u_take_out => k_is)
    (case c_Room_u_take_out => k_is)
    (case k_Room_u_take_out => k_is)
    (case a_Room_u_refuse_lease => k_is)
    (case i_Room_u_refuse_lease => k_is)
    (case l_Room_u_refuse_lease => k_is)
    (case c_Room_u_refuse_lease => k_is)
    (case k_Room_u_refuse_lease => k_is)
    (case a_Room_u_refuse_held => k_is)
    (case i_Room_u_refuse_held => k_is)
    (case l_Room_u_refuse_held => k_is)
    (case c_Room_u_refuse_held => k_is)
    (case k_Room_u_refuse_held => k_is)
    (case a_Room_u_watching => k_is)
    (case i_Room_u_watching => k_is)
    (case l_Room_u_watching => k_is)
    (case c_Room_u_watching => k_is)
    (case k_Room_u_watching => k_is)
    (case a_Room_u_refuse_watcher => k_is)
    (case i_Room_u_refuse_watcher => k_is)
    (case l_Room_u_refuse_watcher => k_is)
    (case c_Room_u_refuse_watcher => k_is)
    (case k_Room_u_refuse_watcher => k_is)
    (case a_whole => k_is)
    (case l_whole => k_is)
    (case c_whole => k_is)
    (case k_whole => k_is)
    (case a_cell_at => k_is)
    (case l_cell_at => k_is)
    (case c_cell_at => k_is)
    (case k_cell_at => k_is)
    (case a_sign => k_is)
    (case l_sign => k_is)
    (case c_sign => k_is)
    (case k_sign => k_is)
    (case a_text => k_is)
    (case l_text => k_is)
    (case c_text => k_is)
    (case k_text => k_is)
    (case a_pool => k_is)
    (case l_pool => k_is)
    (case c_pool => k_is)
    (case k_pool => k_is)
    (case a_prefix => k_is)
    (case l_prefix => k_is)
    (case c_prefix => k_is)
    (case k_prefix => k_is)
    (case a_new => k_is)
    (case l_new => k_is)
    (case c_new => k_is)
    (case k_new => k_is)
    (case a_note => k_is)
    (case l_note => k_is)
    (case c_note => k_is)
    (case k_note => k_is)
    (case a_over => k_is)
    (case l_over => k_is)
    (case c_over => k_is)
    (case k_over => k_is)
    (case a_go => k_is)
    (case l_go => k_is)
    (case c_go => k_is)
    (case k_go => k_is)
    (case a_due_of_key => k_is)
    (case l_due_of_key => k_is)
    (case c_due_of_key => k_is)
    (case k_due_of_key => k_is)
    (case a_due => k_is)
    (case l_due => k_is)
    (case c_due => k_is)
    (case k_due => k_is)
    (case a_only => k_is)
    (case l_only => k_is)
    (case c_only => k_is)
    (case k_only => k_is)
    (case a_call => k_is)
    (case l_call => k_is)
    (case c_call => k_is)
    (case k_call => k_is)
    (case a_done => k_is)
    (case l_done => k_is)
    (case c_done => k_is)
    (case k_done => k_is)
    (case a_alike => k_is)
    (case l_alike => k_is)
    (case c_alike => k_is)
    (case k_alike => k_is)
    (case a_ticks => k_is)
    (case l_ticks => k_is)
    (case c_ticks => k_is)
    (case k_ticks => k_is)
    (case a_deed => k_is)
    (case l_deed => k_is)
    (case c_deed => k_is)
    (case k_deed => k_is)
    (case a_change => k_is)
    (case l_change => k_is)
    (case c_change => k_is)
    (case k_change => k_is)
    (case a_changes => k_is)
    (case l_changes => k_is)
    (case c_changes => k_is)
    (case k_changes => k_is)
    (case a_pairs => k_is)
    (case l_pairs => k_is)
    (case c_pairs => k_is)
    (case k_pairs => k_is)
    (case a_watch => k_is)
    (case l_watch => k_is)
    (case c_watch => k_is)
    (case k_watch => k_is)
    (case a_pulled => k_is)
    (case l_pulled => k_is)
    (case c_pulled => k_is)
    (case k_pulled => k_is)
    (case a_trimmed => k_is)
    (case l_trimmed => k_is)
    (case c_trimmed => k_is)
    (case k_trimmed => k_is)
    (case a_stranger => k_is)
    (case l_stranger => k_is)
    (case c_stranger => k_is)
    (case k_stranger => k_is)
    (case a_watching => k_is)
    (case l_watching => k_is)
    (case c_watching => k_is)
    (case k_watching => k_is)
    (case a_key => k_is)
    (case l_key => k_is)
    (case c_key => k_is)
    (case k_key => k_is)
    (case a_crowd => k_is)
    (case l_crowd => k_is)
    (case c_crowd => k_is)
    (case k_crowd => k_is)
    (case a_values => k_is)
    (case l_values => k_is)
    (case c_values => k_is)
    (case k_values => k_is)
    (case a_stands => k_is)
    (case l_stands => k_is)
    (case c_stands => k_is)
    (case k_stands => k_is)
    (case a_step => k_is)
    (case l_step => k_is)
    (case c_step => k_is)
    (case k_step => k_is)
    (case a_law => k_is)
    (case l_law => k_is)
    (case c_law => k_is)
    (case k_law => k_is)
    (case pg_Leases => k_is)
    (case hd_Leases => k_is)
    (case po_Leases => k_is)
    (case sa_Leases => k_is)
    (case mk_Leases => k_is)
    (case kc_Leases => k_is)
    (case n0_Leases => k_is)
    (case n1_Leases => k_is)
    (case n2_Leases => k_is)
    (case pg_Log => k_is)
    (case hd_Log => k_is)
    (case po_Log => k_is)
    (case sa_Log => k_is)
    (case mk_Log => k_is)
    (case kc_Log => k_is)
    (case n0_Log => k_is)
    (case n1_Log => k_is)
    (case pg_Watcher => k_is)
    (case hd_Watcher => k_is)
    (case po_Watcher => k_is)
    (case sa_Watcher => k_is)
    (case mk_Watcher => k_is)
    (case kc_Watcher => k_is)
    (case n0_Watcher => k_is)
    (case n1_Watcher => k_is)
    (case n2_Watcher => k_is)
    (case pg_Room => k_is)
    (case hd_Room => k_is)
    (case po_Room => k_is)
    (case sa_Room => k_is)
    (case mk_Room => k_is)
    (case kc_Room => k_is)
    (case n0_Room => k_is)
    (case n1_Room => k_is)
    (case n2_Room => k_is)
    (case n3_Room => k_is)
    (case n4_Room => k_is)
    (case n5_Room => k_is)
    (case n6_Room => k_is)
    (case m_MOST_TICKS => k_is)
    (case e_LeaseError => k_is)
    (case e_BadTicks => k_is)
    (case e_NoLease => k_is)
    (case e_NoKey => k_is)
    (case e_Held => k_is)
    (case e_NoStart => k_is)
    (case e_NoWatch => k_is)
    (case hd_LeaseError => k_is)
    (case t_LeaseError => k_is)
    (case hd_BadTicks => k_is)
    (case t_BadTicks => k_is)
    (case hd_NoLease => k_is)
    (case t_NoLease => k_is)
    (case hd_NoKey => k_is)
    (case t_NoKey => k_is)
    (case hd_Held => k_is)
    (case t_Held => k_is)
    (case hd_NoStart => k_is)
    (case t_NoStart => k_is)
    (case hd_NoWatch => k_is)
    (case t_NoWatch => k_is)
    (case b_LeaseError => k_is)
    (case x_BadTicks => k_exc)
    (case kp_BadTicks => k_is)
    (case b_BadTicks => k_is)
    (case ga_BadTicks => k_is)
    (case gt_BadTicks => k_is)
    (case cl_BadTicks => k_is)
    (case mr_BadTicks => k_is)
    (case o_BadTicks_BadTicks => k_is)
    (case o_BadTicks_NoLease => k_is)
    (case o_BadTicks_NoKey => k_is)
    (case o_BadTicks_Held => k_is)
    (case o_BadTicks_NoStart => k_is)
    (case o_BadTicks_NoWatch => k_is)
    (case ov_BadTicks => k_is)
    (case q_BadTicks => k_is)
    (case x_NoLease => k_exc)
    (case kp_NoLease => k_is)
    (case b_NoLease => k_is)
    (case ga_NoLease => k_is)
    (case gt_NoLease => k_is)
    (case cl_NoLease => k_is)
    (case mr_NoLease => k_is)
    (case o_NoLease_BadTicks => k_is)
    (case o_NoLease_NoLease => k_is)
    (case o_NoLease_NoKey => k_is)
    (case o_NoLease_Held => k_is)
    (case o_NoLease_NoStart => k_is)
    (case o_NoLease_NoWatch => k_is)
    (case ov_NoLease => k_is)
    (case q_NoLease => k_is)
    (case x_NoKey => k_exc)
    (case kp_NoKey => k_is)
    (case b_NoKey => k_is)
    (case ga_NoKey => k_is)
    (case gt_NoKey => k_is)
    (case cl_NoKey => k_is)
    (case mr_NoKey => k_is)
    (case o_NoKey_BadTicks => k_is)
    (case o_NoKey_NoLease => k_is)
    (case o_NoKey_NoKey => k_is)
    (case o_NoKey_Held => k_is)
    (case o_NoKey_NoStart => k_is)
    (case o_NoKey_NoWatch => k_is)
    (case ov_NoKey => k_is)
    (case q_NoKey => k_is)
    (case x_Held => k_exc)
    (case kp_Held => k_is)
    (case b_Held => k_is)
    (case ga_Held => k_is)
    (case gt_Held => k_is)
    (case cl_Held => k_is)
    (case mr_Held => k_is)
    (case o_Held_BadTicks => k_is)
    (case o_Held_NoLease => k_is)
    (case o_Held_NoKey => k_is)
    (case o_Held_Held => k_is)
    (case o_Held_NoStart => k_is)
    (case o_Held_NoWatch => k_is)
    (case ov_Held => k_is)
    (case q_Held => k_is)
    (case x_NoStart => k_exc)
    (case kp_NoStart => k_is)
    (case b_NoStart => k_is)
    (case ga_NoStart => k_is)
    (case gt_NoStart => k_is)
    (case cl_NoStart => k_is)
    (case mr_NoStart => k_is)
    (case o_NoStart_BadTicks => k_is)
    (case o_NoStart_NoLease => k_is)
    (case o_NoStart_NoKey => k_is)
    (case o_NoStart_Held => k_is)
    (case o_NoStart_NoStart => k_is)
    (case o_NoStart_NoWatch => k_is)
    (case ov_NoStart => k_is)
    (case q_NoStart => k_is)
    (case x_NoWatch => k_exc)
    (case kp_NoWatch => k_is)
    (case b_NoWatch => k_is)
    (case ga_NoWatch => k_is)
    (case gt_NoWatch => k_is)
    (case cl_NoWatch => k_is)
    (case mr_NoWatch => k_is)
    (case o_NoWatch_BadTicks => k_is)
    (case o_NoWatch_NoLease => k_is)
    (case o_NoWatch_NoKey => k_is)
    (case o_NoWatch_Held => k_is)
    (case o_NoWatch_NoStart => k_is)
    (case o_NoWatch_NoWatch => k_is)
    (case ov_NoWatch => k_is)
    (case q_NoWatch => k_is)
    (case sp => k_is)
    (case tk => k_is)
    (case z_ValueError => k_is)
    (case z_bool => k_is)
    (case z_int => k_is)
    (case z_isinstance => k_is)
    (case z_len => k_is)
    (case z_list => k_is)
    (case z_max => k_is)
    (case z_min => k_is)
    (case z_range => k_is)
    (case z_sorted => k_is)
    (case z_str => k_is)
    (case z_tuple => k_is)
