import PyProof.Rows.All
import Wide.All
import OpenK.AllK
import Wide.FinOn
import HandS.ForMost
import HandS.ForExc
import HandS.More
import HandS.Walk
import HandS.FStr
import HandS.RaiseMore
import HandS.IsInst
import HandS.ExcIs
import HandS.HotCalls
import HandS.SortRule
import HandS.Codes
import PyProof.Rows.SortShellAny
import HandS.Defaults
import HandS.MakeKw
import HandS.MakeKwOnly
import HandS.Style
import HandS.DictTup
import HandS.SortKw
import KE.DataMinMax
import HandS.Deep
import HandS.ListEq
import PySem.Challenge.RW_leasewatch_k10_whole_ears_know_what_stan
set_option Elab.async false
set_option linter.all false
set_option maxRecDepth 100000
set_option maxHeartbeats 8000000
/-! rules of our own: a def called within an except suite with the exception that is handled as an argument; a list walked there; a method that may raise, the wish by the slots -/
namespace LX
open PySem PySem.Spec PyProof.Rows L2 L2H
abbrev St := L2.St

structure FnP (P : Program) (w : World) (K : PySem.W.Frag) (mg : Str → Option Value) (base : Heap) (k : Nat) (f : Addr) (fd : FuncData) (ps : List Str) (sp : Addr × Obj → Sp) : Prop where
  len : ∀ p vs H Q E, sp p vs H Q E → vs.length = ps.length
  run : ∀ (A : Around) (outer : List Env) (s : Shared) (H : Hp) (args : Args) (us : List Value) (vs : List V) (Q : VK) (E : XK) (p : Addr × Obj), RoomH k A → PinOk outer H s p → (∃ vs, p.2.data = .fields vs) → Env0 P w K mg base A outer s H → BindsTo s fd args (ps.zip us) → Vals vs us → sp p vs H Q E →
    codeAny (model P w) A (.call (.ref f) args) (CR CX0 outer P w H s Q E) s
theorem fn_ofP {P : Program} {w : World} {K : PySem.W.Frag} {mg : Str → Option Value} {base : Heap} {k : Nat} {f : Addr} {name qual : Str} {params : Arguments} {body : List Stmt} {scope : Scope} {dV kV doc pm cdv ct oc : Value} {an od : Option Addr}
    {osl : Array (Option Value)} {N ps : List Str} {sp : Addr × Obj → Sp} (lk : K.lookup f = some ⟨oc, od, .func (PySem.W.fnOf name qual params body scope dV kV doc pm an cdv ct), osl⟩) (hcd : PySem.W.codeIn K cdv qual = true) (S : FnScope N ps scope)
    (len : ∀ p vs H Q E, sp p vs H Q E → vs.length = ps.length)
    (hbody : ∀ (A : Around) (outer : List Env) (s : Shared) (H : Hp) (vs : List V) (Q : VK) (E : XK) (p : Addr × Obj), RoomH k (A.deeper (envOfC qual scope s.heap.objs.size f cdv)) → (∃ vs, p.2.data = .fields vs) → sp p vs H Q E →
      ∃ t, PSs (cxH CX0 P w K mg base N qual scope f cdv A outer s H E p) body t ∧ t { nx := fun _ H' => Q .non H', rt := Q } (L2.start N vs) H) :
    FnP P w K mg base (k + 1) f (PySem.W.fnOf name qual params body scope dV kV doc pm an cdv ct) ps sp := by
  refine ⟨len, fun A outer s H args us vs Q E p hr hpin hf e0 hb r hsp => ?_⟩
  have hl := len _ _ _ _ _ hsp
  have KX : K.In s.heap := e0.mod.kin.keeps fun b o e => (e0.bs b o e).1
  have lim : s.heap.NoLimit := e0.mod.nolimit.keeps fun b o e => (e0.bs b o e).1
  have hkind : ∀ y ∈ ps.zip us, scope.names.lookup y.1 = some .local ∨ (scope.names.lookup y.1 = some .cell ∧ ((cellsFrom (s.heap.objs.size + 1) scope.names []).lookup y.1).isSome = true) := fun ⟨n, v⟩ hy => by
    rcases S.par n (List.of_mem_zip hy).1 with q | q
    · exact .inl q
    · exact .inr ⟨q, PySem.W.cellsFrom_some _ _ _ (.inl q)⟩
  refine codeAny_call_function hr.depth (KX _ _ lk) rfl S.co S.gen rfl (PySem.W.codeRec_of KX hcd) (hb _ _ _ _ ?_)
  refine wpAny_newFunctionEnv_cells S.kind hkind fun env he s1 x => ?_
  subst he
  refine ⟨lim.keeps x.toInCall.keep, codeAny_func ?_⟩
  obtain ⟨t, ht, hq⟩ := hbody A outer s H vs Q E p (hr.deeper _) hf hsp
  have I : Inv (cxH CX0 P w K mg base N qual scope f cdv A outer s H E p) [] (L2.start N vs) H s1 := inv_startH S hpin e0 hl r x
  refine wpAny_mono (ht.run [] s1 (L2.start N vs) H _ I hq) (fun fl s' hs => ?_) fun e s' hs => hs
  have fin : ∀ {σ' : St} {H' : Hp} {v : V} {u : Value}, Inv (cxH CX0 P w K mg base N qual scope f cdv A outer s H E p) [] σ' H' s' → RelV v u → Q v H' → CE outer P w H s Q u s' :=
    fun {σ' H' v u} J rv q => ⟨v, H', J.os, J.bare, J.base, J.hok, rv, q⟩
  cases fl with
  | ret u =>
    obtain ⟨v, σ', H', J, rv, q⟩ := hs
    exact fin J rv q
  | next =>
    obtain ⟨σ', H', J, q⟩ := hs
    exact fin (v := V.non) (u := Value.none) J rfl q
  | brk =>
    obtain ⟨_, _, _, q⟩ := hs
    exact False.elim q
  | cont =>
    obtain ⟨_, _, _, q⟩ := hs
    exact False.elim q
section
variable {P : Program} {w : World} {K : PySem.W.Frag} {mg : Str → Option Value} {base : Heap}
theorem okP {x qual : Str} {st : Stmt} {f : Addr} {fd : FuncData} {N ps : List Str} {k : Nat} {sp : Addr × Obj → Sp} (F : Fun K x qual st f fd) (S : FnScope N ps (defScope st)) (len : ∀ p vs H Q E, sp p vs H Q E → vs.length = ps.length)
    (hbody : ∀ (cdv : Value) (A : Around) (outer : List Env) (s : Shared) (H : Hp) (vs : List V) (Q : VK) (E : XK) (p : Addr × Obj), RoomH k (A.deeper (envOfC qual (defScope st) s.heap.objs.size f cdv)) → (∃ vs, p.2.data = .fields vs) → sp p vs H Q E →
      ∃ t, PSs (cxH CX0 P w K mg base N qual (defScope st) f cdv A outer s H E p) (defBody st) t ∧ t { nx := fun _ H' => Q .non H', rt := Q } (L2.start N vs) H) : FnP P w K mg base (k + 1) f fd ps sp := by
  obtain ⟨oc, od, kV, doc, pm, an, cdv, ct, osl, rfl, lk, hcd⟩ := F.ex
  exact fn_ofP lk hcd S len fun A outer s H vs Q E p hr hf hsp => hbody cdv A outer s H vs Q E p hr hf hsp
end
section
variable {X : Cx} {k : Nat} {f : Addr} {fd : FuncData} {ps : List Str} {sp : Addr × Obj → Sp} {x : Str} {q pos : Pos} {e : Expr} {es : List Expr} {t : TA}
theorem run_fnP {pins : List (Addr × Obj)} {σ : St} {H : Hp} {s : Shared} {Q : VK} {us : List Value} {vs : List V} {p : Addr × Obj} (F : FnP X.prog X.w X.K X.mg X.base k f fd ps sp) (hr : RoomH k X.A) (hp : p ∈ X.pn) (hf : ∃ vs, p.2.data = .fields vs) (hb : Binds X.K fd ps [])
    (I : Inv X pins σ H s) (r : Vals vs us) (h : sp p vs H Q E0) : wpAny (model X.prog X.w) X.A (call (.ref f) us) (EP X pins σ Q) X.xe s := by
  have hl : us.length = ps.length := by rw [← r.length]; exact F.len _ _ _ _ _ h
  have b := hb s us I.kIn (by rw [List.append_nil]; exact hl)
  rw [List.append_nil] at b
  have P1 := I.pin p (List.mem_append_left _ hp)
  have hpin : PinOk X.stack H s p := ⟨P1.1, P1.2.1, fun hm => (List.mem_cons.mp (I.stkSub p.1 hm)).elim P1.2.2.1 P1.2.2.2.1, P1.2.2.2.2⟩
  refine wpAny_call (codeAny_mono (F.run X.A X.stack s H ⟨us, []⟩ us vs Q E0 p hr hpin hf I.env0 b r h) fun r s' hq => ?_)
  cases r with
  | error e => exact False.elim hq
  | ok fl =>
    cases fl with
    | ret u => exact I.after hq
    | next => exact False.elim hq
    | brk => exact False.elim hq
    | cont => exact False.elim hq
def tCallP (sp : Sp) (t : TA) : TE := fun σ H Q => t σ H fun vs H1 => sp vs H1 Q E0
theorem pe_callP {p : Addr × Obj} (F : FnP X.prog X.w X.K X.mg X.base k f fd ps sp) (hr : RoomH k X.A) (hp : p ∈ X.pn) (hf : ∃ vs, p.2.data = .fields vs) (hg : Gl X x) (hm : X.mg x = some (.ref f)) (hk : PySem.W.keepIn X.K (.ref f) = true) (hb : Binds X.K fd ps [])
    (ha : PA X (e :: es) t) (hdb : (x == ("__debug__" : Str)) = false := by decide) (he : starEach (e :: es) X.env = (false, eval e X.env) :: starEach es X.env := by rfl) (hpl : (backTo pos (starEach es X.env)).any (·.1) = false := by rfl) :
    PE X (.Call (.Name x q) (e :: es) [] pos) (tCallP (sp p) t) := by
  refine ⟨fun pins s σ H Q I h => ?_⟩
  refine wpAny_Call_Name_kw (ld_glob I hg hm ?_ hdb)
  refine PySem.W.callWith_K (h₀ := X.base) I.ok.mod.kin hk (thn (ha.run pos pins s σ H _ I h) fun us s1 ⟨vs, H1, I1, r, q⟩ => ⟨I1.kIn, ?_⟩) he hpl
  exact run_fnP F hr hp hf hb I1 r q
end

/-! isinstance of the exception that is pinned -/
theorem call_isP {X : Cx} {a D : Addr} {oe : Obj} (C : ExcC X.K D) (hp : (a, oe) ∈ X.pn) (hz : Zc (.ref D) none oe) (hf : ∃ vs, oe.data = .fields vs) : CallR X (.builtin "isinstance") (rIsE X.K D a) := by
  intro pins s σ H xs us Q I r h
  obtain ⟨c, cv, b, rfl, hcv, e, q⟩ := h
  cases r with
  | cons rx rr =>
    cases rr with
    | cons rt rr =>
      cases rr
      cases rx
      have ec := hcv _ rt
      subst ec
      obtain ⟨hget, _⟩ := I.pin (a, oe) (List.mem_append.mpr (.inl hp))
      obtain ⟨vs, hv⟩ := hf
      have J : PySem.W.InstAt s.heap a oe D none := by
        obtain ⟨oc, od, oda, osl⟩ := oe
        obtain ⟨h1, h2⟩ := hz
        dsimp only at h1 h2 hv
        subst h1 h2 hv
        exact ⟨hget, rfl, rfl, trivial⟩
      exact PySem.W.kia_one (PySem.W.handS_kitx_exc C.hg C.hk C.hs C.hd C.ha C.hn C.ht C.hm) I.kIn J e (fun z => nomatch z) fun tk => ⟨.bl b, H, I.kept (t' := tk) fun _ _ z => z, rfl, q⟩

/-! a list walked within an except suite; the body leaves ahead of its end -/
def tForLP (K : PySem.W.Frag) (tl : TE) (g : TG) (tb : TS) : TS := fun D σ H => tl σ H fun x H1 => ∃ (a : Addr) (xs : List V), x = .ref a ∧ SqL K H1 a xs ∧ ∃ Pv : Nat → St → Hp → Prop, Pv 0 σ H1 ∧
  ∀ i σ H, Pv i σ H → SqL K H a xs ∧ ∃ y, xs[i]? = some y ∧ g y σ H fun σ2 H2 => tb { D with nx := Pv (i + 1), ct := Pv (i + 1), bk := D.nx } σ2 H2
theorem ps_forLP {X : Cx} {tg l : Expr} {tl : TE} {g : TG} {tb : TS} {body : List Stmt} {pos : Pos} (own : PassesOwn (model X.prog X.w) X.A X.env X.xe) (hl : PE X l tl) (hg : PG X tg g) (hb : PSs X body tb)
    (hs : ∀ x, foldedSetIterable l X.env x = pure x := by intro _; rfl) : PS X (.For tg l body [] pos) (tForLP X.K tl g tb) := by
  constructor
  intro pins s σ H D I h
  refine wpAny_For (thn (hl.run pins s σ H _ I h) ?_) hs
  rintro v s1 ⟨x, H1, I1, r1, a, xs, rfl, hq, Pv, p0, turn⟩
  obtain rfl : v = Value.ref a := r1
  obtain ⟨its, _, p, _⟩ := I1.list hq
  refine wpAny_pyIter_list p.isList ?_
  generalize hit : s1.heap.objs.size = it
  have fresh : FpOk X pins H1 it := I1.fpOk (Nat.le_of_eq hit) (I1.hok.fresh (Nat.le_of_eq hit))
  have begun : (s1.heap.push { cls := .type "list_iterator", data := .fields #[.ref a, rawInt 0] }).IsListIter it a 0 := by
    rw [← hit]
    exact ⟨_, Heap.get?_push_size _ rfl, rfl, rfl⟩
  have I2 : Inv X pins σ H1 { s1 with heap := s1.heap.push { cls := .type "list_iterator", data := .fields #[.ref a, rawInt 0] } } := I1.kept (t' := s1.toks) fun _ _ e => Heap.get?_push_of_some _ e
  refine codeAny_forLoop_any (fun n s' => ∃ i σ' H', n = xs.length - i ∧ Inv X pins σ' H' s' ∧ s'.heap.IsListIter it a i ∧ H' it = none ∧ Pv i σ' H') ?_ xs.length ⟨0, σ, H1, rfl, I2, begun, fresh.1, p0⟩
  rintro n s3 ⟨i, σ3, H3, rfl, I3, st, f0, pv⟩
  obtain ⟨_, f1, f2, f3, f4, f5⟩ := fresh
  obtain ⟨q3, y, hy, step⟩ := turn i σ3 H3 pv
  have hi : i < xs.length := (List.getElem?_eq_some_iff.mp hy).1
  obtain ⟨its3, rv3, p3, _⟩ := I3.list q3
  obtain ⟨u, hu, ru⟩ := rv3.get hy
  refine wpAny_passesOwn own (wpAny_pyNext_list_item st p3.isList (x := u) (by simpa using hu) fun h' st' sb => ?_)
  have I4 : Inv X pins σ3 H3 { s3 with heap := h' } := I3.turned (t' := s3.toks) (fun b o hb e => (sb.2 b hb).trans e) f0 f1 f3 f4 f5
  obtain ⟨o, eo, co, d_o⟩ := id st'
  refine wpAny_passesOwn own (go_of (s := { s3 with heap := h' }) eo co d_o (by decide) ?_)
  have pinned : Inv X (pins ++ [(it, o)]) σ3 H3 { s3 with heap := h' } := I4.pins_of fun q hq => by
    rcases List.mem_append.mp hq with hq | hq
    · exact I4.pin q (List.mem_append_right _ hq)
    · obtain rfl := List.mem_singleton.mp hq
      exact ⟨eo, f0, f1, f2, fun v z => by rw [d_o] at z; cases z⟩
  refine wpAny_passesOwn own (thn (hg.run _ _ σ3 H3 y u _ pinned ru step) ?_)
  rintro _ s6 ⟨σ6, H6, I6, q6⟩
  refine wpAny_passesOwn own (thn (hb.run _ s6 σ6 H6 _ I6 q6) ?_)
  intro f s7 q7
  have drop : ∀ {σ7 : St} {H7 : Hp}, Inv X (pins ++ [(it, o)]) σ7 H7 s7 → Inv X pins σ7 H7 s7 := fun J => J.pins_of fun q hq => J.pin q (List.mem_append_right _ (List.mem_append_left _ hq))
  have next : ∀ {σ7 : St} {H7 : Hp}, Inv X (pins ++ [(it, o)]) σ7 H7 s7 → Pv (i + 1) σ7 H7 → ∃ m, m < xs.length - i ∧ ∃ j σ' H', m = xs.length - j ∧ Inv X pins σ' H' s7 ∧ s7.heap.IsListIter it a j ∧ H' it = none ∧ Pv j σ' H' := fun {σ7 H7} J n7 => by
    have w := J.pin (it, o) (List.mem_append_right _ (List.mem_append_right _ (List.mem_singleton.mpr rfl)))
    exact ⟨xs.length - (i + 1), by omega, i + 1, σ7, H7, rfl, drop J, ⟨o, w.1, co, d_o⟩, w.2.1, n7⟩
  cases f with
  | next =>
    obtain ⟨σ7, H7, J, n7⟩ := q7
    exact next J n7
  | cont =>
    obtain ⟨σ7, H7, J, n7⟩ := q7
    exact next J n7
  | brk =>
    obtain ⟨σ7, H7, J, n7⟩ := q7
    exact ⟨σ7, H7, drop J, n7⟩
  | ret v =>
    obtain ⟨x7, σ7, H7, J, r7, n7⟩ := q7
    exact ⟨x7, σ7, H7, drop J, r7, n7⟩

/-! a method that may raise: the wish by the caller's slots -/
section
variable {X : Cx} {CX : CXT} {k : Nat} {f C : Addr} {fd : FuncData} {ps : List Str} {sp : Sp} {E : St → XK} {m : Str} {pos apos : Pos} {e o : Expr} {es : List Expr} {ta : TE} {t : TA}
theorem pe_methE {pl : Sem Bool} (he : PE X o ta) (c : Cls X.K C) (hm : Meth X.K C m f) (F : FnOk X.prog X.w X.K X.mg X.base CX k f fd ps sp) (hr : Room k X.A) (hb : Binds X.K fd ps []) (hx : ∀ σ, PassesAt CX X σ (E σ)) (ha : PA X (e :: es) t)
    (hst : starEach (e :: es) X.env = (false, eval e X.env) :: starEach es X.env := by rfl) (hpl : (backTo pos (starEach es X.env)).any (·.1) = false := by rfl)
    (ht : eval (.Call (.Attribute o m apos) (e :: es) [] pos) X.env = (do
      let ov ← eval o X.env
      standAt apos.atName
      let (f, first) ← holding [ov] (getMethod ov m pl)
      callWith pos f first (backTo pos (starEach (e :: es) X.env)) (backToKw pos (keywordEach [] X.env))) := by rfl) :
    PE X (.Call (.Attribute o m apos) (e :: es) [] pos) (tMethH C m sp E ta t) := by
  refine ⟨fun pins s σ H Q I h => ?_⟩
  refine PySem.W.methodCall_KW (pl := pl) (thn (he.run pins s σ H _ I h) fun u s1 ⟨x, H1, I1, rx, a, dx, fs, ex, ea, l, q⟩ => ?_) ht
  subst ex
  obtain rfl : u = Value.ref a := rx
  refine getmeth_ok I1 ea c hm l ?_
  refine PySem.W.callWith_K (first := [.ref a]) (h₀ := X.base) I.ok.mod.kin hm.kp (thn (ha.run pos pins s1 σ H1 _ I1 q) fun us s2 ⟨vs, H2, I2, r, q2⟩ => ⟨I2.kIn, ?_⟩) hst hpl
  exact run_fnS (us := .ref a :: us) (vs := .ref a :: vs) F hr hb (hx σ) I2 (.cons rfl r) q2
end
end LX

namespace KB
open PySem L2 L2H LX
/-! ### heaps: what stays -/
/-- all but the ones named stand as they stood; tuples always; nothing goes -/
structure Ch (H H' : Hp) (l : List Addr) : Prop where
  st : ∀ b o, H b = some o → (b ∉ l ∨ ∃ xs, o = .tup xs) → H' b = some o
  th : ∀ b o, H b = some o → ∃ u, H' b = some u
theorem Ch.refl (H : Hp) (l : List Addr) : Ch H H l := ⟨fun _ _ h _ => h, fun _ o h => ⟨o, h⟩⟩
theorem Ch.of {H H' : Hp} (s : Same H H') (l : List Addr) : Ch H H' l := ⟨fun _ _ h _ => s _ _ h, fun _ o h => ⟨o, s _ _ h⟩⟩
theorem Ch.trans {H H1 H2 : Hp} {l : List Addr} (a : Ch H H1 l) (b : Ch H1 H2 l) : Ch H H2 l := ⟨fun _ _ h n => b.st _ _ (a.st _ _ h n) n, fun _ _ h => let ⟨_, z⟩ := a.th _ _ h; b.th _ _ z⟩
theorem Ch.mono {H H1 : Hp} {l m : List Addr} (a : Ch H H1 l) (s : ∀ x ∈ l, x ∈ m) : Ch H H1 m := ⟨fun _ _ h n => a.st _ _ h (n.imp (fun z y => z (s _ y)) id), a.th⟩
theorem Ch.same {H H1 H2 : Hp} {l : List Addr} (a : Ch H H1 l) (s : Same H1 H2) : Ch H H2 l := a.trans (Ch.of s l)
theorem Ch.new {H H' : Hp} {l : List Addr} (h : Ch H H' l) {a : Addr} (o : HO) (n : H a = none) : Ch H (upd H' a o) l := ⟨fun b u e m => by
  rw [upd_ne (ne_of_none e n)]
  exact h.st b u e m, fun b u e => by
  rw [upd_ne (ne_of_none e n)]
  exact h.th b u e⟩
theorem Ch.mut {H H' : Hp} {l : List Addr} (h : Ch H H' l) {a : Addr} {o u : HO} (m : a ∈ l) (e : H a = some u) (n : ∀ xs, u ≠ .tup xs) : Ch H (upd H' a o) l := ⟨fun b v eb k => by
  have ne : b ≠ a := fun z => by
    subst z
    rw [e] at eb
    cases eb
    rcases k with k | ⟨xs, k⟩
    · exact k m
    · exact n xs k
  rw [upd_ne ne]
  exact h.st b v eb k, fun b v eb => by
  by_cases z : b = a
  · subst z
    exact ⟨o, upd_same⟩
  · rw [upd_ne z]
    exact h.th b v eb⟩
theorem Ch.tup {H H' : Hp} {l : List Addr} (h : Ch H H' l) : ∀ b xs, H b = some (.tup xs) → H' b = some (.tup xs) := fun b xs e => h.st b _ e (.inr ⟨xs, rfl⟩)
theorem Ch.at {H H' : Hp} {l : List Addr} (h : Ch H H' l) {b : Addr} {o : HO} (e : H b = some o) (n : b ∉ l) : H' b = some o := h.st b o e (.inl n)
theorem Ch.none {H H' : Hp} {l : List Addr} (h : Ch H H' l) : ∀ x, H' x = Option.none → H x = Option.none := fun x e => by
  cases q : H x with
  | none => rfl
  | some o =>
    obtain ⟨u, hu⟩ := h.th x o q
    rw [e] at hu
    cases hu
theorem same_new {H : Hp} {l : Addr} {o : HO} (h : H l = Option.none) : Same H (upd H l o) := fun b u e => by rw [upd_ne (ne_of_none e h)]; exact e
/-- where only new ones and such as were not there at the start were changed -/
theorem Ch.old {H0 H H' : Hp} {l : List Addr} (s : Same H0 H) (c : Ch H H' l) (f : ∀ b ∈ l, H0 b = Option.none) : Same H0 H' := fun b o e => c.st _ _ (s _ _ e) (.inl fun m => by
  have := f b m
  rw [e] at this
  cases this)
/-! ### places in lists -/
theorem at_map {α : Type} {f : α → V} {ns : List α} {z : Int} (h0 : 0 ≤ z) (h1 : z < ns.length) : ∃ t, t ∈ ns ∧ ns[z.toNat]? = some t ∧ atI (ns.map f) z = some (f t) := by
  obtain ⟨j, rfl⟩ := Int.eq_ofNat_of_zero_le h0
  have hl : j < ns.length := by omega
  exact ⟨ns[j], List.getElem_mem hl, List.getElem?_eq_getElem hl, atI_nat (by rw [List.getElem?_map, List.getElem?_eq_getElem hl]; rfl)⟩
theorem at_ints {ns : List Int} {z : Int} (h0 : 0 ≤ z) (h1 : z < ns.length) : ∃ t, t ∈ ns ∧ atI (ns.map V.int) z = some (V.int t) := by
  obtain ⟨t, a, _, b⟩ := at_map (f := V.int) h0 h1
  exact ⟨t, a, b⟩
theorem at_strs {ns : List Str} {z : Int} (h0 : 0 ≤ z) (h1 : z < ns.length) : ∃ t, t ∈ ns ∧ atI (ns.map V.str) z = some (V.str t) := by
  obtain ⟨t, a, _, b⟩ := at_map (f := V.str) h0 h1
  exact ⟨t, a, b⟩
/-! ### texts -/
abbrev tl (z : Str) : List Nat := z.cps.toList
/-- every sign is one; at most n of them -/
structure TOk (n : Nat) (z : Str) : Prop where
  ok : ∀ c ∈ tl z, c < 0x110000
  le : z.length ≤ n
theorem tl_len (z : Str) : (tl z).length = z.length := Array.length_toList
theorem TOk.mono {n m : Nat} {z : Str} (h : TOk n z) (l : n ≤ m) : TOk m z := ⟨h.ok, Nat.le_trans h.le l⟩
theorem TOk.str {n : Nat} {z : Str} (h : TOk n z) : PyData.strOk z = true := by
  unfold PyData.strOk
  rw [← Array.all_toList, List.all_eq_true]
  exact fun c hc => decide_eq_true (h.ok c hc)
theorem TOk.line {n : Nat} {z : Str} (h : TOk n z) (l : n ≤ 1000) : z.length ≤ sizeLine := Nat.le_trans h.le (Nat.le_trans l (by decide))
theorem TOk.app {n m : Nat} {x y : Str} (h : TOk n x) (k : TOk m y) : TOk (n + m) (x ++ y) := by
  have e : tl (x ++ y) = tl x ++ tl y := TL.tl_append x y
  refine ⟨fun c hc => ?_, ?_⟩
  · rw [e] at hc
    rcases List.mem_append.mp hc with hc | hc
    · exact h.ok c hc
    · exact k.ok c hc
  · rw [← tl_len, e, List.length_append, tl_len, tl_len]
    have := h.le
    have := k.le
    omega
theorem TOk.cut {n : Nat} {z : Str} (h : TOk n z) (lo hi : Option Int) : TOk n (cutS z lo hi) := by
  refine ⟨fun c hc => ?_, Nat.le_trans (cutS_length z lo hi) h.le⟩
  have e : tl (cutS z lo hi) = (tl z |>.drop (HT.sIx z.length 0 lo)).take (HT.sIx z.length z.length hi - HT.sIx z.length 0 lo) := by
    unfold cutS tl
    exact List.toList_toArray
  rw [e] at hc
  exact h.ok c (List.mem_of_mem_drop (List.mem_of_mem_take hc))
theorem TOk.nil : TOk 0 "" := by
  refine ⟨fun c hc => ?_, Nat.le_refl _⟩
  have e : tl ("" : Str) = [] := rfl
  rw [e] at hc
  cases hc
theorem TOk.one {c : Nat} (h : c < 0x110000) : TOk 1 (⟨#[c]⟩ : Str) := by
  refine ⟨fun d hd => ?_, Nat.le_refl _⟩
  have e : tl (⟨#[c]⟩ : Str) = [c] := rfl
  rw [e] at hd
  rw [List.mem_singleton.mp hd]
  exact h
theorem join_ok : ∀ {ys : List Str}, (∀ y ∈ ys, TOk 1 y) → TOk ys.length (Str.join "" ys)
  | [], _ => TOk.nil
  | [x], h => h x List.mem_cons_self
  | x :: z :: r, h => by
    have a := h x List.mem_cons_self
    have b := join_ok (ys := z :: r) fun y hy => h y (List.mem_cons_of_mem _ hy)
    have c := (a.app TOk.nil).app b
    exact c.mono (by simp only [List.length_cons]; omega)
theorem join_len : ∀ {ys : List Str}, (∀ y ∈ ys, TOk 1 y) → (ys.map (·.length)).sum + ys.length * ("" : Str).length ≤ ys.length
  | [], _ => Nat.le_refl _
  | x :: r, h => by
    have a := (h x List.mem_cons_self).le
    have b := join_len (ys := r) fun y hy => h y (List.mem_cons_of_mem _ hy)
    have e : ("" : Str).length = 0 := rfl
    rw [e, Nat.mul_zero, Nat.add_zero] at b ⊢
    rw [List.map_cons, List.sum_cons, List.length_cons]
    omega
/-! ### a change: a tuple of five -/
structure Row where
  n : Int
  t : Int
  w : Str
  k : Str
  v : Str
def Row.V (r : Row) : List V := [.int r.n, .int r.t, .str r.w, .str r.k, .str r.v]
def Row.D (r : Row) : PyData := .tuple [.int r.n, .int r.t, .str r.w, .str r.k, .str r.v]
structure Row.Ok (r : Row) : Prop where
  w : PyData.strOk r.w = true
  k : TOk 60 r.k
  v : TOk 60 r.v
abbrev RowsAt (H : Hp) (ts : List Addr) (rs : List Row) : Prop := Paired (fun (t : Addr) (r : Row) => H t = some (.tup r.V)) ts rs
theorem RowsAt.keep {H H' : Hp} {ts : List Addr} {rs : List Row} (m : RowsAt H ts rs) (k : ∀ b xs, H b = some (.tup xs) → H' b = some (.tup xs)) : RowsAt H' ts rs := Paired.mono (fun _ _ h => k _ _ h) m
theorem RowsAt.dp {K : PySem.W.Frag} {H : Hp} : ∀ {ts : List Addr} {rs : List Row}, RowsAt H ts rs → DpAll K H (ts.map V.ref) (rs.map Row.D)
  | _, _, .nil => .nil
  | _, _, .cons r m => .cons (.tup (.inl (.inl r)) (.cons (.int _) (.cons (.int _) (.cons (.str _) (.cons (.str _) (.cons (.str _) .nil)))))) (RowsAt.dp m)
theorem RowsAt.at {H : Hp} : ∀ {ts : List Addr} {rs : List Row} {i : Nat} {x : V}, RowsAt H ts rs → (ts.map V.ref)[i]? = some x → ∃ t r, x = V.ref t ∧ rs[i]? = some r ∧ H t = some (.tup r.V)
  | _, _, i, x, .nil, h => by simp at h
  | _, _, 0, x, .cons r m, h => by
    have e : x = V.ref _ := (Option.some.inj h).symm
    exact ⟨_, _, e, rfl, r⟩
  | _, _, i + 1, x, .cons r m, h => RowsAt.at (i := i) m h
theorem Row.shaped {r : Row} (h : r.Ok) : r.D.canLay0 = true := by
  show (true && (true && (PyData.strOk r.w && (PyData.strOk r.k && (PyData.strOk r.v && true))))) = true
  rw [h.w, h.k.str, h.v.str]
  rfl
theorem rows_lay : ∀ {rs : List Row}, (∀ r ∈ rs, r.Ok) → PyData.canLayAll0 (rs.map Row.D) = true
  | [], _ => rfl
  | r :: rs, h => by
    show (r.D.canLay0 && PyData.canLayAll0 (rs.map Row.D)) = true
    rw [Row.shaped (h r List.mem_cons_self), rows_lay fun x hx => h x (List.mem_cons_of_mem _ hx)]
    rfl
theorem rows_depth : ∀ rs : List Row, PyData.depthAll (rs.map Row.D) ≤ 2
  | [] => by simp [PyData.depthAll]
  | r :: rs => by
    have h := rows_depth rs
    simp only [List.map_cons, PyData.depthAll, Row.D, PyData.depth]
    omega
theorem rows_shaped {rs : List Row} (h : ∀ r ∈ rs, r.Ok) : SeqAt.shaped (.list (rs.map Row.D)) = true := by
  have d := rows_depth rs
  unfold SeqAt.shaped
  rw [Bool.and_eq_true]
  refine ⟨rows_lay h, decide_eq_true ?_⟩
  simp only [PyData.depth]
  omega
theorem rows_eqv {rs : List Row} (h : ∀ r ∈ rs, r.Ok) : PyData.eqv (.list (rs.map Row.D)) (.list (rs.map Row.D)) = true := PySem.SeqAt.eqv_refl _ (rows_lay h)
/-! ### pairs of texts -/
abbrev PairsAt (H : Hp) (ts : List Addr) (ps : List (Str × Str)) : Prop := Paired (fun (t : Addr) (p : Str × Str) => H t = some (.tup [.str p.1, .str p.2])) ts ps
def pairD (p : Str × Str) : PyData := .tuple [.str p.1, .str p.2]
def PairOk (p : Str × Str) : Prop := TOk 60 p.1 ∧ TOk 60 p.2
theorem PairsAt.keep {H H' : Hp} {ts : List Addr} {ps : List (Str × Str)} (m : PairsAt H ts ps) (k : ∀ b xs, H b = some (.tup xs) → H' b = some (.tup xs)) : PairsAt H' ts ps := Paired.mono (fun _ _ h => k _ _ h) m
theorem PairsAt.dp {K : PySem.W.Frag} {H : Hp} : ∀ {ts : List Addr} {ps : List (Str × Str)}, PairsAt H ts ps → DpAll K H (ts.map V.ref) (ps.map pairD)
  | _, _, .nil => .nil
  | _, _, .cons r m => .cons (.tup (.inl (.inl r)) (.cons (.str _) (.cons (.str _) .nil))) (PairsAt.dp m)
theorem PairsAt.at {H : Hp} : ∀ {ts : List Addr} {ps : List (Str × Str)} {i : Nat} {x : V}, PairsAt H ts ps → (ts.map V.ref)[i]? = some x → ∃ t a b, x = V.ref t ∧ H t = some (.tup [.str a, .str b])
  | _, _, i, x, .nil, h => by simp at h
  | _, _, 0, x, .cons r m, h => by
    have e : x = V.ref _ := (Option.some.inj h).symm
    exact ⟨_, _, _, e, r⟩
  | _, _, i + 1, x, .cons r m, h => PairsAt.at (i := i) m h
theorem pairs_lay : ∀ {ps : List (Str × Str)}, (∀ r ∈ ps, PairOk r) → PyData.canLayAll0 (ps.map pairD) = true
  | [], _ => rfl
  | p :: r, h => by
    show ((PyData.strOk p.1 && (PyData.strOk p.2 && true)) && PyData.canLayAll0 (r.map pairD)) = true
    rw [(h p List.mem_cons_self).1.str, (h p List.mem_cons_self).2.str, pairs_lay fun x hx => h x (List.mem_cons_of_mem _ hx)]
    rfl
theorem pairs_depth : ∀ ps : List (Str × Str), PyData.depthAll (ps.map pairD) ≤ 2
  | [] => by simp [PyData.depthAll]
  | p :: r => by
    have h := pairs_depth r
    simp only [List.map_cons, PyData.depthAll, pairD, PyData.depth]
    omega
theorem pairs_shaped {ps : List (Str × Str)} (h : ∀ r ∈ ps, PairOk r) : SeqAt.shaped (.list (ps.map pairD)) = true := by
  have d := pairs_depth ps
  unfold SeqAt.shaped
  rw [Bool.and_eq_true]
  refine ⟨pairs_lay h, decide_eq_true ?_⟩
  simp only [PyData.depth]
  omega
theorem pairs_eqv {ps : List (Str × Str)} (h : ∀ r ∈ ps, PairOk r) : PyData.eqv (.list (ps.map pairD)) (.list (ps.map pairD)) = true := PySem.SeqAt.eqv_refl _ (pairs_lay h)
end KB

namespace KL
open PySem L2 L2H LX KB
def top (i : Nat) : Stmt := PySem.Challenge.pw_leasewatch_k10_whole_ears_know_what_stan.main.body.getD i (.Pass ⟨0, 0, 0, 0⟩)
abbrev s__wall : Stmt := top 0
abbrev p__wall : List Str := ["k"]
abbrev n__wall : List Str := ["k"]
theorem sc__wall : FnScope n__wall p__wall (defScope s__wall) := ⟨rfl, rfl, rfl, by decide +kernel, rfl, by decide +kernel, by decide +kernel⟩
abbrev s_Ear_init : Stmt := inClass (top 5) 0
abbrev p_Ear_init : List Str := ["self", "start", "pairs"]
abbrev n_Ear_init : List Str := ["self", "start", "pairs", "key", "value"]
theorem sc_Ear_init : FnScope n_Ear_init p_Ear_init (defScope s_Ear_init) := ⟨rfl, rfl, rfl, by decide +kernel, rfl, by decide +kernel, by decide +kernel⟩
abbrev s_Ear_hear : Stmt := inClass (top 5) 1
abbrev p_Ear_hear : List Str := ["self", "changes"]
abbrev n_Ear_hear : List Str := ["self", "changes", "change"]
theorem sc_Ear_hear : FnScope n_Ear_hear p_Ear_hear (defScope s_Ear_hear) := ⟨rfl, rfl, rfl, by decide +kernel, rfl, by decide +kernel, by decide +kernel⟩
abbrev s_Ear_heard : Stmt := inClass (top 5) 2
abbrev p_Ear_heard : List Str := ["self"]
abbrev n_Ear_heard : List Str := ["self"]
theorem sc_Ear_heard : FnScope n_Ear_heard p_Ear_heard (defScope s_Ear_heard) := ⟨rfl, rfl, rfl, by decide +kernel, rfl, by decide +kernel, by decide +kernel⟩
abbrev s_Ear_state : Stmt := inClass (top 5) 3
abbrev p_Ear_state : List Str := ["self"]
abbrev n_Ear_state : List Str := ["self"]
theorem sc_Ear_state : FnScope n_Ear_state p_Ear_state (defScope s_Ear_state) := ⟨rfl, rfl, rfl, by decide +kernel, rfl, by decide +kernel, by decide +kernel⟩
abbrev s_Ear_many : Stmt := inClass (top 5) 4
abbrev p_Ear_many : List Str := ["self"]
abbrev n_Ear_many : List Str := ["self"]
theorem sc_Ear_many : FnScope n_Ear_many p_Ear_many (defScope s_Ear_many) := ⟨rfl, rfl, rfl, by decide +kernel, rfl, by decide +kernel, by decide +kernel⟩
abbrev s_Ear_u_take_in : Stmt := inClass (top 5) 5
abbrev p_Ear_u_take_in : List Str := ["self", "change"]
abbrev n_Ear_u_take_in : List Str := ["self", "change", "number", "_", "word", "key", "value"]
theorem sc_Ear_u_take_in : FnScope n_Ear_u_take_in p_Ear_u_take_in (defScope s_Ear_u_take_in) := ⟨rfl, rfl, rfl, by decide +kernel, rfl, by decide +kernel, by decide +kernel⟩
abbrev s_Line_init : Stmt := inClass (top 6) 0
abbrev p_Line_init : List Str := ["self", "room", "prefix", "start", "pairs"]
abbrev n_Line_init : List Str := ["self", "room", "prefix", "start", "pairs"]
theorem sc_Line_init : FnScope n_Line_init p_Line_init (defScope s_Line_init) := ⟨rfl, rfl, rfl, by decide +kernel, rfl, by decide +kernel, by decide +kernel⟩
abbrev s_Line_turn : Stmt := inClass (top 6) 1
abbrev p_Line_turn : List Str := ["self", "most", "luck"]
abbrev n_Line_turn : List Str := ["self", "most", "luck", "row", "before"]
theorem sc_Line_turn : FnScope n_Line_turn p_Line_turn (defScope s_Line_turn) := ⟨rfl, rfl, rfl, by decide +kernel, rfl, by decide +kernel, by decide +kernel⟩
abbrev s_arriving : Stmt := top 7
abbrev p_arriving : List Str := ["row", "luck"]
abbrev n_arriving : List Str := ["row", "luck"]
theorem sc_arriving : FnScope n_arriving p_arriving (defScope s_arriving) := ⟨rfl, rfl, rfl, by decide +kernel, rfl, by decide +kernel, by decide +kernel⟩
abbrev s_line_now : Stmt := top 8
abbrev p_line_now : List Str := ["room", "prefix"]
abbrev n_line_now : List Str := ["room", "prefix"]
theorem sc_line_now : FnScope n_line_now p_line_now (defScope s_line_now) := ⟨rfl, rfl, rfl, by decide +kernel, rfl, by decide +kernel, by decide +kernel⟩
abbrev s_Leases_init : Stmt := inClass (top 19) 0
abbrev p_Leases_init : List Str := ["self"]
abbrev n_Leases_init : List Str := ["self"]
theorem sc_Leases_init : FnScope n_Leases_init p_Leases_init (defScope s_Leases_init) := ⟨rfl, rfl, rfl, by decide +kernel, rfl, by decide +kernel, by decide +kernel⟩
abbrev s_Leases_grant : Stmt := inClass (top 19) 1
abbrev p_Leases_grant : List Str := ["self", "now", "ticks"]
abbrev n_Leases_grant : List Str := ["self", "now", "ticks", "lease"]
theorem sc_Leases_grant : FnScope n_Leases_grant p_Leases_grant (defScope s_Leases_grant) := ⟨rfl, rfl, rfl, by decide +kernel, rfl, by decide +kernel, by decide +kernel⟩
abbrev s_Leases_renew : Stmt := inClass (top 19) 2
abbrev p_Leases_renew : List Str := ["self", "now", "lease"]
abbrev n_Leases_renew : List Str := ["self", "now", "lease"]
theorem sc_Leases_renew : FnScope n_Leases_renew p_Leases_renew (defScope s_Leases_renew) := ⟨rfl, rfl, rfl, by decide +kernel, rfl, by decide +kernel, by decide +kernel⟩
abbrev s_Leases_drop : Stmt := inClass (top 19) 3
abbrev p_Leases_drop : List Str := ["self", "lease"]
abbrev n_Leases_drop : List Str := ["self", "lease"]
theorem sc_Leases_drop : FnScope n_Leases_drop p_Leases_drop (defScope s_Leases_drop) := ⟨rfl, rfl, rfl, by decide +kernel, rfl, by decide +kernel, by decide +kernel⟩
abbrev s_Leases_due : Stmt := inClass (top 19) 4
abbrev p_Leases_due : List Str := ["self", "until"]
abbrev n_Leases_due : List Str := ["self", "until", "lease", "end"]
theorem sc_Leases_due : FnScope n_Leases_due p_Leases_due (defScope s_Leases_due) := ⟨rfl, rfl, rfl, by decide +kernel, rfl, by decide +kernel, by decide +kernel⟩
abbrev s_Leases_refuse_unknown : Stmt := inClass (top 19) 5
abbrev p_Leases_refuse_unknown : List Str := ["self", "lease"]
abbrev n_Leases_refuse_unknown : List Str := ["self", "lease"]
theorem sc_Leases_refuse_unknown : FnScope n_Leases_refuse_unknown p_Leases_refuse_unknown (defScope s_Leases_refuse_unknown) := ⟨rfl, rfl, rfl, by decide +kernel, rfl, by decide +kernel, by decide +kernel⟩
abbrev s_Log_init : Stmt := inClass (top 21) 0
abbrev p_Log_init : List Str := ["self"]
abbrev n_Log_init : List Str := ["self"]
theorem sc_Log_init : FnScope n_Log_init p_Log_init (defScope s_Log_init) := ⟨rfl, rfl, rfl, by decide +kernel, rfl, by decide +kernel, by decide +kernel⟩
abbrev s_Log_note : Stmt := inClass (top 21) 1
abbrev p_Log_note : List Str := ["self", "tick", "word", "key", "value"]
abbrev n_Log_note : List Str := ["self", "tick", "word", "key", "value", "number"]
theorem sc_Log_note : FnScope n_Log_note p_Log_note (defScope s_Log_note) := ⟨rfl, rfl, rfl, by decide +kernel, rfl, by decide +kernel, by decide +kernel⟩
abbrev s_Log_last : Stmt := inClass (top 21) 2
abbrev p_Log_last : List Str := ["self"]
abbrev n_Log_last : List Str := ["self"]
theorem sc_Log_last : FnScope n_Log_last p_Log_last (defScope s_Log_last) := ⟨rfl, rfl, rfl, by decide +kernel, rfl, by decide +kernel, by decide +kernel⟩
abbrev s_Log_first : Stmt := inClass (top 21) 3
abbrev p_Log_first : List Str := ["self"]
abbrev n_Log_first : List Str := ["self"]
theorem sc_Log_first : FnScope n_Log_first p_Log_first (defScope s_Log_first) := ⟨rfl, rfl, rfl, by decide +kernel, rfl, by decide +kernel, by decide +kernel⟩
abbrev s_Log_wanted : Stmt := inClass (top 21) 4
abbrev p_Log_wanted : List Str := ["self", "prefix", "behind", "most"]
abbrev n_Log_wanted : List Str := ["self", "prefix", "behind", "most", "told", "at", "change"]
theorem sc_Log_wanted : FnScope n_Log_wanted p_Log_wanted (defScope s_Log_wanted) := ⟨rfl, rfl, rfl, by decide +kernel, rfl, by decide +kernel, by decide +kernel⟩
abbrev s_Log_forget : Stmt := inClass (top 21) 5
abbrev p_Log_forget : List Str := ["self", "upto"]
abbrev n_Log_forget : List Str := ["self", "upto", "many"]
theorem sc_Log_forget : FnScope n_Log_forget p_Log_forget (defScope s_Log_forget) := ⟨rfl, rfl, rfl, by decide +kernel, rfl, by decide +kernel, by decide +kernel⟩
abbrev s_Watcher_init : Stmt := inClass (top 23) 0
abbrev p_Watcher_init : List Str := ["self", "prefix", "start"]
abbrev n_Watcher_init : List Str := ["self", "prefix", "start"]
theorem sc_Watcher_init : FnScope n_Watcher_init p_Watcher_init (defScope s_Watcher_init) := ⟨rfl, rfl, rfl, by decide +kernel, rfl, by decide +kernel, by decide +kernel⟩
abbrev s_Room_init : Stmt := inClass (top 24) 0
abbrev p_Room_init : List Str := ["self"]
abbrev n_Room_init : List Str := ["self"]
theorem sc_Room_init : FnScope n_Room_init p_Room_init (defScope s_Room_init) := ⟨rfl, rfl, rfl, by decide +kernel, rfl, by decide +kernel, by decide +kernel⟩
abbrev s_Room_grant : Stmt := inClass (top 24) 1
abbrev p_Room_grant : List Str := ["self", "ticks"]
abbrev n_Room_grant : List Str := ["self", "ticks"]
theorem sc_Room_grant : FnScope n_Room_grant p_Room_grant (defScope s_Room_grant) := ⟨rfl, rfl, rfl, by decide +kernel, rfl, by decide +kernel, by decide +kernel⟩
abbrev s_Room_renew : Stmt := inClass (top 24) 2
abbrev p_Room_renew : List Str := ["self", "lease"]
abbrev n_Room_renew : List Str := ["self", "lease"]
theorem sc_Room_renew : FnScope n_Room_renew p_Room_renew (defScope s_Room_renew) := ⟨rfl, rfl, rfl, by decide +kernel, rfl, by decide +kernel, by decide +kernel⟩
abbrev s_Room_drop : Stmt := inClass (top 24) 3
abbrev p_Room_drop : List Str := ["self", "lease"]
abbrev n_Room_drop : List Str := ["self", "lease"]
theorem sc_Room_drop : FnScope n_Room_drop p_Room_drop (defScope s_Room_drop) := ⟨rfl, rfl, rfl, by decide +kernel, rfl, by decide +kernel, by decide +kernel⟩
abbrev s_Room_wait : Stmt := inClass (top 24) 4
abbrev p_Room_wait : List Str := ["self", "ticks"]
abbrev n_Room_wait : List Str := ["self", "ticks", "ended", "end", "lease"]
theorem sc_Room_wait : FnScope n_Room_wait p_Room_wait (defScope s_Room_wait) := ⟨rfl, rfl, rfl, by decide +kernel, rfl, by decide +kernel, by decide +kernel⟩
abbrev s_Room_put : Stmt := inClass (top 24) 5
abbrev p_Room_put : List Str := ["self", "key", "value", "lease"]
abbrev n_Room_put : List Str := ["self", "key", "value", "lease"]
theorem sc_Room_put : FnScope n_Room_put p_Room_put (defScope s_Room_put) := ⟨rfl, rfl, rfl, by decide +kernel, rfl, by decide +kernel, by decide +kernel⟩
abbrev s_Room_cut : Stmt := inClass (top 24) 6
abbrev p_Room_cut : List Str := ["self", "key", "lease"]
abbrev n_Room_cut : List Str := ["self", "key", "lease"]
theorem sc_Room_cut : FnScope n_Room_cut p_Room_cut (defScope s_Room_cut) := ⟨rfl, rfl, rfl, by decide +kernel, rfl, by decide +kernel, by decide +kernel⟩
abbrev s_Room_value : Stmt := inClass (top 24) 7
abbrev p_Room_value : List Str := ["self", "key"]
abbrev n_Room_value : List Str := ["self", "key"]
theorem sc_Room_value : FnScope n_Room_value p_Room_value (defScope s_Room_value) := ⟨rfl, rfl, rfl, by decide +kernel, rfl, by decide +kernel, by decide +kernel⟩
abbrev s_Room_holder : Stmt := inClass (top 24) 8
abbrev p_Room_holder : List Str := ["self", "key"]
abbrev n_Room_holder : List Str := ["self", "key"]
theorem sc_Room_holder : FnScope n_Room_holder p_Room_holder (defScope s_Room_holder) := ⟨rfl, rfl, rfl, by decide +kernel, rfl, by decide +kernel, by decide +kernel⟩
abbrev s_Room_pairs : Stmt := inClass (top 24) 9
abbrev p_Room_pairs : List Str := ["self", "prefix"]
abbrev n_Room_pairs : List Str := ["self", "prefix", "key", "value"]
theorem sc_Room_pairs : FnScope n_Room_pairs p_Room_pairs (defScope s_Room_pairs) := ⟨rfl, rfl, rfl, by decide +kernel, rfl, by decide +kernel, by decide +kernel⟩
abbrev s_Room_last : Stmt := inClass (top 24) 10
abbrev p_Room_last : List Str := ["self"]
abbrev n_Room_last : List Str := ["self"]
theorem sc_Room_last : FnScope n_Room_last p_Room_last (defScope s_Room_last) := ⟨rfl, rfl, rfl, by decide +kernel, rfl, by decide +kernel, by decide +kernel⟩
abbrev s_Room_first : Stmt := inClass (top 24) 11
abbrev p_Room_first : List Str := ["self"]
abbrev n_Room_first : List Str := ["self"]
theorem sc_Room_first : FnScope n_Room_first p_Room_first (defScope s_Room_first) := ⟨rfl, rfl, rfl, by decide +kernel, rfl, by decide +kernel, by decide +kernel⟩
abbrev s_Room_watch : Stmt := inClass (top 24) 12
abbrev p_Room_watch : List Str := ["self", "prefix", "start"]
abbrev n_Room_watch : List Str := ["self", "prefix", "start"]
theorem sc_Room_watch : FnScope n_Room_watch p_Room_watch (defScope s_Room_watch) := ⟨rfl, rfl, rfl, by decide +kernel, rfl, by decide +kernel, by decide +kernel⟩
abbrev s_Room_pull : Stmt := inClass (top 24) 13
abbrev p_Room_pull : List Str := ["self", "watcher", "most"]
abbrev n_Room_pull : List Str := ["self", "watcher", "most", "watching", "row"]
theorem sc_Room_pull : FnScope n_Room_pull p_Room_pull (defScope s_Room_pull) := ⟨rfl, rfl, rfl, by decide +kernel, rfl, by decide +kernel, by decide +kernel⟩
abbrev s_Room_confirm : Stmt := inClass (top 24) 14
abbrev p_Room_confirm : List Str := ["self", "watcher"]
abbrev n_Room_confirm : List Str := ["self", "watcher", "watching"]
theorem sc_Room_confirm : FnScope n_Room_confirm p_Room_confirm (defScope s_Room_confirm) := ⟨rfl, rfl, rfl, by decide +kernel, rfl, by decide +kernel, by decide +kernel⟩
abbrev s_Room_broken : Stmt := inClass (top 24) 15
abbrev p_Room_broken : List Str := ["self", "watcher"]
abbrev n_Room_broken : List Str := ["self", "watcher", "watching"]
theorem sc_Room_broken : FnScope n_Room_broken p_Room_broken (defScope s_Room_broken) := ⟨rfl, rfl, rfl, by decide +kernel, rfl, by decide +kernel, by decide +kernel⟩
abbrev s_Room_leave : Stmt := inClass (top 24) 16
abbrev p_Room_leave : List Str := ["self", "watcher"]
abbrev n_Room_leave : List Str := ["self", "watcher"]
theorem sc_Room_leave : FnScope n_Room_leave p_Room_leave (defScope s_Room_leave) := ⟨rfl, rfl, rfl, by decide +kernel, rfl, by decide +kernel, by decide +kernel⟩
abbrev s_Room_trim : Stmt := inClass (top 24) 17
abbrev p_Room_trim : List Str := ["self"]
abbrev n_Room_trim : List Str := ["self", "upto", "watching"]
theorem sc_Room_trim : FnScope n_Room_trim p_Room_trim (defScope s_Room_trim) := ⟨rfl, rfl, rfl, by decide +kernel, rfl, by decide +kernel, by decide +kernel⟩
abbrev s_Room_u_end : Stmt := inClass (top 24) 18
abbrev p_Room_u_end : List Str := ["self", "lease", "tick"]
abbrev n_Room_u_end : List Str := ["self", "lease", "tick", "key", "held", "holder"]
theorem sc_Room_u_end : FnScope n_Room_u_end p_Room_u_end (defScope s_Room_u_end) := ⟨rfl, rfl, rfl, by decide +kernel, rfl, by decide +kernel, by decide +kernel⟩
abbrev s_Room_u_take_out : Stmt := inClass (top 24) 19
abbrev p_Room_u_take_out : List Str := ["self", "key", "tick"]
abbrev n_Room_u_take_out : List Str := ["self", "key", "tick"]
theorem sc_Room_u_take_out : FnScope n_Room_u_take_out p_Room_u_take_out (defScope s_Room_u_take_out) := ⟨rfl, rfl, rfl, by decide +kernel, rfl, by decide +kernel, by decide +kernel⟩
abbrev s_Room_u_refuse_lease : Stmt := inClass (top 24) 20
abbrev p_Room_u_refuse_lease : List Str := ["self", "lease"]
abbrev n_Room_u_refuse_lease : List Str := ["self", "lease"]
theorem sc_Room_u_refuse_lease : FnScope n_Room_u_refuse_lease p_Room_u_refuse_lease (defScope s_Room_u_refuse_lease) := ⟨rfl, rfl, rfl, by decide +kernel, rfl, by decide +kernel, by decide +kernel⟩
abbrev s_Room_u_refuse_held : Stmt := inClass (top 24) 21
abbrev p_Room_u_refuse_held : List Str := ["self", "key", "lease"]
abbrev n_Room_u_refuse_held : List Str := ["self", "key", "lease", "holder"]
theorem sc_Room_u_refuse_held : FnScope n_Room_u_refuse_held p_Room_u_refuse_held (defScope s_Room_u_refuse_held) := ⟨rfl, rfl, rfl, by decide +kernel, rfl, by decide +kernel, by decide +kernel⟩
abbrev s_Room_u_watching : Stmt := inClass (top 24) 22
abbrev p_Room_u_watching : List Str := ["self", "watcher"]
abbrev n_Room_u_watching : List Str := ["self", "watcher"]
theorem sc_Room_u_watching : FnScope n_Room_u_watching p_Room_u_watching (defScope s_Room_u_watching) := ⟨rfl, rfl, rfl, by decide +kernel, rfl, by decide +kernel, by decide +kernel⟩
abbrev s_Room_u_refuse_watcher : Stmt := inClass (top 24) 23
abbrev p_Room_u_refuse_watcher : List Str := ["self", "watcher"]
abbrev n_Room_u_refuse_watcher : List Str := ["self", "watcher"]
theorem sc_Room_u_refuse_watcher : FnScope n_Room_u_refuse_watcher p_Room_u_refuse_watcher (defScope s_Room_u_refuse_watcher) := ⟨rfl, rfl, rfl, by decide +kernel, rfl, by decide +kernel, by decide +kernel⟩
abbrev s_whole : Stmt := top 26
abbrev p_whole : List Str := ["_law_found"]
abbrev n_whole : List Str := ["_law_found"]
theorem sc_whole : FnScope n_whole p_whole (defScope s_whole) := ⟨rfl, rfl, rfl, by decide +kernel, rfl, by decide +kernel, by decide +kernel⟩
abbrev s_cell_at : Stmt := top 27
abbrev p_cell_at : List Str := ["_law_script", "_law_k"]
abbrev n_cell_at : List Str := ["_law_script", "_law_k"]
theorem sc_cell_at : FnScope n_cell_at p_cell_at (defScope s_cell_at) := ⟨rfl, rfl, rfl, by decide +kernel, rfl, by decide +kernel, by decide +kernel⟩
abbrev s_sign : Stmt := top 28
abbrev p_sign : List Str := ["_law_cell"]
abbrev n_sign : List Str := ["_law_cell", "_law_some"]
theorem sc_sign : FnScope n_sign p_sign (defScope s_sign) := ⟨rfl, rfl, rfl, by decide +kernel, rfl, by decide +kernel, by decide +kernel⟩
abbrev s_text : Stmt := top 29
abbrev p_text : List Str := ["_law_cell", "_law_size"]
abbrev n_text : List Str := ["_law_cell", "_law_size", "_law_k"]
theorem sc_text : FnScope n_text p_text (defScope s_text) := ⟨rfl, rfl, rfl, by decide +kernel, rfl, by decide +kernel, by decide +kernel⟩
abbrev s_pool : Stmt := top 30
abbrev p_pool : List Str := ["_law_cell", "_law_other"]
abbrev n_pool : List Str := ["_law_cell", "_law_other", "_law_first", "_law_one", "_law_two", "_law_at"]
theorem sc_pool : FnScope n_pool p_pool (defScope s_pool) := ⟨rfl, rfl, rfl, by decide +kernel, rfl, by decide +kernel, by decide +kernel⟩
abbrev s_prefix : Stmt := top 31
abbrev p_prefix : List Str := ["_law_pool_here", "_law_cell"]
abbrev n_prefix : List Str := ["_law_pool_here", "_law_cell"]
theorem sc_prefix : FnScope n_prefix p_prefix (defScope s_prefix) := ⟨rfl, rfl, rfl, by decide +kernel, rfl, by decide +kernel, by decide +kernel⟩
abbrev s_only : Stmt := top 32
abbrev p_only : List Str := ["_law_error", "_law_word"]
abbrev n_only : List Str := ["_law_error", "_law_word", "_law_words"]
theorem sc_only : FnScope n_only p_only (defScope s_only) := ⟨rfl, rfl, rfl, by decide +kernel, rfl, by decide +kernel, by decide +kernel⟩
abbrev s_call : Stmt := top 33
abbrev p_call : List Str := ["_law_room", "_law_deed_here"]
abbrev n_call : List Str := ["_law_room", "_law_deed_here"]
theorem sc_call : FnScope n_call p_call (defScope s_call) := ⟨rfl, rfl, rfl, by decide +kernel, rfl, by decide +kernel, by decide +kernel⟩
abbrev s_done : Stmt := top 34
abbrev p_done : List Str := ["_law_room", "_law_deed_here"]
abbrev n_done : List Str := ["_law_room", "_law_deed_here", "_law_error", "_law_word"]
theorem sc_done : FnScope n_done p_done (defScope s_done) := ⟨rfl, rfl, rfl, by decide +kernel, rfl, by decide +kernel, by decide +kernel⟩
abbrev s_alike : Stmt := top 35
abbrev p_alike : List Str := ["_law_found", "_law_due"]
abbrev n_alike : List Str := ["_law_found", "_law_due"]
theorem sc_alike : FnScope n_alike p_alike (defScope s_alike) := ⟨rfl, rfl, rfl, by decide +kernel, rfl, by decide +kernel, by decide +kernel⟩
abbrev s_ticks : Stmt := top 36
abbrev p_ticks : List Str := ["_law_cell", "_law_more"]
abbrev n_ticks : List Str := ["_law_cell", "_law_more"]
theorem sc_ticks : FnScope n_ticks p_ticks (defScope s_ticks) := ⟨rfl, rfl, rfl, by decide +kernel, rfl, by decide +kernel, by decide +kernel⟩
abbrev s_deed : Stmt := top 37
abbrev p_deed : List Str := ["_law_m", "_law_pool_here", "_law_kind", "_law_cell", "_law_more"]
abbrev n_deed : List Str := ["_law_m", "_law_pool_here", "_law_kind", "_law_cell", "_law_more", "_law_hand", "_law_key_here"]
theorem sc_deed : FnScope n_deed p_deed (defScope s_deed) := ⟨rfl, rfl, rfl, by decide +kernel, rfl, by decide +kernel, by decide +kernel⟩
abbrev s_pairs : Stmt := top 38
abbrev p_pairs : List Str := ["_law_found", "_law_due"]
abbrev n_pairs : List Str := ["_law_found", "_law_due", "_law_one", "_law_good"]
theorem sc_pairs : FnScope n_pairs p_pairs (defScope s_pairs) := ⟨rfl, rfl, rfl, by decide +kernel, rfl, by decide +kernel, by decide +kernel⟩
abbrev s_did : Stmt := top 39
abbrev p_did : List Str := ["_law_room", "_law_m", "_law_deed_here"]
abbrev n_did : List Str := ["_law_room", "_law_m", "_law_deed_here", "_law_found"]
theorem sc_did : FnScope n_did p_did (defScope s_did) := ⟨rfl, rfl, rfl, by decide +kernel, rfl, by decide +kernel, by decide +kernel⟩
abbrev s_key : Stmt := top 40
abbrev p_key : List Str := ["_law_cell", "_law_k"]
abbrev n_key : List Str := ["_law_cell", "_law_k", "_law_rest", "_law_at"]
theorem sc_key : FnScope n_key p_key (defScope s_key) := ⟨rfl, rfl, rfl, by decide +kernel, rfl, by decide +kernel, by decide +kernel⟩
abbrev s_crowd : Stmt := top 41
abbrev p_crowd : List Str := ["_law_room", "_law_m", "_law_cell"]
abbrev n_crowd : List Str := ["_law_room", "_law_m", "_law_cell", "_law_hand", "_law_k"]
theorem sc_crowd : FnScope n_crowd p_crowd (defScope s_crowd) := ⟨rfl, rfl, rfl, by decide +kernel, rfl, by decide +kernel, by decide +kernel⟩
abbrev s_knows : Stmt := top 42
abbrev p_knows : List Str := ["_law_line", "_law_room", "_law_prefix_here"]
abbrev n_knows : List Str := ["_law_line", "_law_room", "_law_prefix_here", "_law_due", "_law_one"]
theorem sc_knows : FnScope n_knows p_knows (defScope s_knows) := ⟨rfl, rfl, rfl, by decide +kernel, rfl, by decide +kernel, by decide +kernel⟩
abbrev s_stand : Stmt := top 43
abbrev p_stand : List Str := ["_law_room", "_law_m"]
abbrev n_stand : List Str := ["_law_room", "_law_m", "_law_found", "_law_key_here"]
theorem sc_stand : FnScope n_stand p_stand (defScope s_stand) := ⟨rfl, rfl, rfl, by decide +kernel, rfl, by decide +kernel, by decide +kernel⟩
abbrev s_begun : Stmt := top 44
abbrev p_begun : List Str := ["_law_room", "_law_m", "_law_line", "_law_prefix_here", "_law_cell", "_law_count"]
abbrev n_begun : List Str := ["_law_room", "_law_m", "_law_line", "_law_prefix_here", "_law_cell", "_law_count", "_law_many", "_law_key_here", "_law_before", "_law_kept"]
theorem sc_begun : FnScope n_begun p_begun (defScope s_begun) := ⟨rfl, rfl, rfl, by decide +kernel, rfl, by decide +kernel, by decide +kernel⟩
abbrev s_step : Stmt := top 45
abbrev p_step : List Str := ["_law_room", "_law_m", "_law_lines", "_law_pool_here", "_law_cells"]
abbrev n_step : List Str := ["_law_room", "_law_m", "_law_lines", "_law_pool_here", "_law_cells", "_law_many", "_law_prefix_here", "_law_line", "_law_one", "_law_most"]
theorem sc_step : FnScope n_step p_step (defScope s_step) := ⟨rfl, rfl, rfl, by decide +kernel, rfl, by decide +kernel, by decide +kernel⟩
abbrev s_law : Stmt := top 46
abbrev p_law : List Str := ["_law_script"]
abbrev n_law : List Str := ["_law_script", "_law_room", "_law_m", "_law_lines", "_law_pool_here", "_law_k", "_law_one"]
theorem sc_law : FnScope n_law p_law (defScope s_law) := ⟨rfl, rfl, rfl, by decide +kernel, rfl, by decide +kernel, by decide +kernel⟩
abbrev hsL : List Str := ["grant", "renew", "drop", "wait", "put", "cut", "value", "holder", "pairs", "last", "first", "watch", "pull", "confirm", "broken", "trim"]
abbrev esL : List Str := ["hear", "heard", "state", "many"]
end KL

namespace KB
open PySem L2 L2H LX
/-! ### logs by themselves, as plain lists -/
/-- does a key begin with a prefix -/
def isPre (p k : Str) : Bool := decide (cutS k none (some (p.length : Int)) = p)
def wantedM (rs : List Row) (g : Nat) (p : Str) (b most : Int) : List Row := ((rs.drop g).filter fun r => decide (r.n > b) && isPre p r.k).take most.toNat
/-- what is forgotten when all up to u is -/
def goneM (len g : Nat) (u : Int) : Nat := max g (min u.toNat len)
theorem goneM_ge (len g : Nat) (u : Int) : g ≤ goneM len g u := Nat.le_max_left _ _
theorem goneM_le {len g : Nat} (u : Int) (h : g ≤ len) : goneM len g u ≤ len := Nat.max_le.mpr ⟨h, Nat.min_le_right _ _⟩
/-- numbered from 1 on -/
def Num (rs : List Row) : Prop := ∀ (i : Nat) (r : Row), rs[i]? = some r → r.n = (i : Int) + 1
theorem Num.nil : Num [] := fun i r h => by simp at h
theorem Num.snoc {rs : List Row} (h : Num rs) {r : Row} (e : r.n = (rs.length : Int) + 1) : Num (rs ++ [r]) := fun i x hx => by
  by_cases c : i < rs.length
  · rw [List.getElem?_append_left c] at hx
    exact h i x hx
  · rw [List.getElem?_append_right (by omega)] at hx
    have z : i - rs.length = 0 := by
      cases q : i - rs.length with
      | zero => rfl
      | succ n => rw [q] at hx; simp at hx
    rw [z] at hx
    cases hx
    rw [e]
    omega
theorem isPre_nil (k : Str) : isPre "" k = true := by
  unfold isPre
  refine decide_eq_true ?_
  refine TL.ext_tl ?_
  have e : TL.tl (cutS k none (some ((("" : Str).length : Nat) : Int))) = ((tl k).drop 0).take (HT.sIx k.length k.length (some (0 : Int)) - 0) := by
    show (cutS k none (some (0 : Int))).cps.toList = _
    unfold cutS
    exact List.toList_toArray
  rw [e]
  have z : HT.sIx k.length k.length (some (0 : Int)) = 0 := by
    have q := HT.sIx_nat k.length k.length 0
    rw [Nat.zero_min] at q
    exact q
  rw [z]
  rfl
theorem wantedM_all {rs : List Row} (h : Num rs) (g : Nat) {most : Int} (hm : (rs.length : Int) ≤ most) : wantedM rs g "" 0 most = rs.drop g := by
  unfold wantedM
  have e : (rs.drop g).filter (fun r => decide (r.n > 0) && isPre "" r.k) = rs.drop g := by
    refine List.filter_eq_self.mpr fun r hr => ?_
    obtain ⟨i, hi⟩ := List.mem_iff_getElem?.mp (List.mem_of_mem_drop hr)
    have := h i r hi
    rw [isPre_nil, Bool.and_true]
    exact decide_eq_true (by omega)
  rw [e]
  refine List.take_of_length_le ?_
  rw [List.length_drop]
  omega
theorem wantedM_ok {rs : List Row} (h : ∀ r ∈ rs, r.Ok) (g : Nat) (p : Str) (b m : Int) : ∀ r ∈ wantedM rs g p b m, r.Ok := fun r hr =>
  h r (List.mem_of_mem_drop (List.mem_filter.mp (List.mem_of_mem_take hr)).1)
theorem RowsAt.drop {H : Hp} : ∀ {ts : List Addr} {rs : List Row} (n : Nat), RowsAt H ts rs → RowsAt H (ts.drop n) (rs.drop n)
  | _, _, 0, m => m
  | _, _, n + 1, .nil => .nil
  | _, _, n + 1, .cons r m => RowsAt.drop n m
theorem RowsAt.take {H : Hp} : ∀ {ts : List Addr} {rs : List Row} (n : Nat), RowsAt H ts rs → RowsAt H (ts.take n) (rs.take n)
  | _, _, 0, m => .nil
  | _, _, n + 1, .nil => .nil
  | _, _, n + 1, .cons r m => .cons r (RowsAt.take n m)
theorem RowsAt.last {H : Hp} {ts : List Addr} {rs : List Row} (m : RowsAt H ts rs) (h : 0 < rs.length) : ∃ t r, atI (ts.map V.ref) (-1) = some (V.ref t) ∧ H t = some (.tup r.V) ∧ rs[rs.length - 1]? = some r := by
  have hl := Paired.length m
  rcases List.eq_nil_or_concat ts with e | ⟨l, b, e⟩
  · subst e
    simp only [List.length_nil] at hl
    omega
  · have ha : atI (ts.map V.ref) (-1) = some (V.ref b) := by
      have q := atI_last (l.map V.ref) (V.ref b)
      rw [e]
      simpa using q
    have hx : (ts.map V.ref)[rs.length - 1]? = some (V.ref b) := by
      have e2 : rs.length - 1 = l.length := by
        rw [← hl, e]
        simp
      rw [e2, e]
      simp
    obtain ⟨t, r, et, er, ht⟩ := RowsAt.at m hx
    cases et
    exact ⟨b, r, ha, ht, er⟩
theorem cutV_from (xs : List V) {g : Nat} (h : g ≤ xs.length) : cutV xs (some (g : Int)) none = xs.drop g := by
  unfold cutV
  rw [HT.sIx_none, HT.sIx_nat, Nat.min_eq_left h]
  refine List.take_of_length_le ?_
  rw [List.length_drop]
  exact Nat.le_refl _
theorem cutV_upto (xs : List V) {m : Int} (h : 0 ≤ m) : cutV xs none (some m) = xs.take m.toNat := by
  obtain ⟨j, rfl⟩ := Int.eq_ofNat_of_zero_le h
  unfold cutV
  rw [HT.sIx_none]
  have e : HT.sIx xs.length xs.length (some ((j : Nat) : Int)) = min j xs.length := HT.sIx_nat _ _ _
  show (xs.drop 0).take (HT.sIx xs.length xs.length (some ((j : Nat) : Int)) - 0) = _
  rw [e, List.drop_zero, Nat.sub_zero, Int.toNat_natCast]
  by_cases c : j ≤ xs.length
  · rw [Nat.min_eq_left c]
  · rw [Nat.min_eq_right (by omega), List.take_length, List.take_of_length_le (by omega)]
/-! ### what stands by a log, whatever it is made of -/
/-- F' holds what F held and new ones -/
def Grow (F F' : List Addr) (H : Hp) : Prop := ∀ a ∈ F', a ∈ F ∨ H a = none
theorem Grow.refl (F : List Addr) (H : Hp) : Grow F F H := fun _ h => .inl h
theorem Grow.apart {F F' S : List Addr} {H : Hp} (g : Grow F F' H) (d : ∀ a ∈ F, a ∉ S) (s : ∀ a ∈ S, ∃ o, H a = some o) : ∀ a ∈ F', a ∉ S := fun a ha m => by
  rcases g a ha with h | h
  · exact d a h m
  · obtain ⟨o, e⟩ := s a m
    rw [h] at e
    cases e
theorem Grow.apart2 {F F' S : List Addr} {H : Hp} (g : Grow F F' H) (d : ∀ a ∈ S, a ∉ F) (s : ∀ a ∈ S, ∃ o, H a = some o) : ∀ a ∈ S, a ∉ F' := fun a ha m => by
  rcases g a m with h | h
  · exact d a ha h
  · obtain ⟨o, e⟩ := s a ha
    rw [h] at e
    cases e
theorem Grow.trans {F F1 F2 : List Addr} {H H1 : Hp} (a : Grow F F1 H) (b : Grow F1 F2 H1) (k : ∀ x, H1 x = none → H x = none) : Grow F F2 H := fun x hx => by
  rcases b x hx with h | h
  · exact a x h
  · exact .inr (k x h)
theorem Ch.seq {F F1 : List Addr} {H H1 H2 : Hp} (a : Ch H H1 F) (g : Grow F F1 H) (b : Ch H1 H2 F1) : Ch H H2 F := by
  refine ⟨fun x o e n => b.st x o (a.st x o e n) (n.imp (fun z y => ?_) id), fun x o e => let ⟨_, z⟩ := a.th x o e; b.th _ _ z⟩
  rcases g x y with h | h
  · exact z h
  · rw [e] at h
    cases h
def spLogInit (C : Addr) (Lg : List Addr → Hp → Addr → List Row → Nat → Prop) : Sp := fun vs H Q _ => ∃ (p dx : Addr), vs = [.ref p] ∧ H p = some (.ins C dx []) ∧
  ∀ F H', Lg F H' p [] 0 → (∀ a ∈ F, a = p ∨ H a = none) → Ch H H' [p] → Q .non H'
def spLogNote (Lg : List Addr → Hp → Addr → List Row → Nat → Prop) : Sp := fun vs H Q _ => ∃ (F : List Addr) (p : Addr) (t : Int) (w k v : Str) (rs : List Row) (g : Nat), vs = [.ref p, .int t, .str w, .str k, .str v] ∧ Lg F H p rs g ∧ rs.length ≤ 100000 ∧ (Row.mk 0 t w k v).Ok ∧
  ∀ F' H', Lg F' H' p (rs ++ [⟨(rs.length : Int) + 1, t, w, k, v⟩]) g → Grow F F' H → Ch H H' F → Q (.int ((rs.length : Int) + 1)) H'
def spLogLast (Lg : List Addr → Hp → Addr → List Row → Nat → Prop) : Sp := fun vs H Q _ => ∃ (F : List Addr) (p : Addr) (rs : List Row) (g : Nat), vs = [.ref p] ∧ Lg F H p rs g ∧
  ∀ F' H', Lg F' H' p rs g → Grow F F' H → Ch H H' F → Q (.int rs.length) H'
def spLogFirst (Lg : List Addr → Hp → Addr → List Row → Nat → Prop) : Sp := fun vs H Q _ => ∃ (F : List Addr) (p : Addr) (rs : List Row) (g : Nat), vs = [.ref p] ∧ Lg F H p rs g ∧
  ∀ F' H', Lg F' H' p rs g → Grow F F' H → Ch H H' F → Q (.int ((g : Int) + 1)) H'
def spLogWanted (Lg : List Addr → Hp → Addr → List Row → Nat → Prop) : Sp := fun vs H Q _ => ∃ (F : List Addr) (p : Addr) (z : Str) (b m : Int) (rs : List Row) (g : Nat), vs = [.ref p, .str z, .int b, .int m] ∧ Lg F H p rs g ∧ TOk 60 z ∧ 0 ≤ m ∧ b ≤ 100000 ∧ rs.length ≤ 900 ∧
  ∀ F' q ts H', Lg F' H' p rs g → Grow F F' H → Ch H H' F → H q = none → q ∉ F' → H' q = some (.lst (ts.map V.ref)) → RowsAt H' ts (wantedM rs g z b m) → Q (.ref q) H'
def spLogForget (Lg : List Addr → Hp → Addr → List Row → Nat → Prop) : Sp := fun vs H Q _ => ∃ (F : List Addr) (p : Addr) (u : Int) (rs : List Row) (g : Nat), vs = [.ref p, .int u] ∧ Lg F H p rs g ∧ rs.length ≤ 900 ∧
  ∀ F' H', Lg F' H' p rs (goneM rs.length g u) → Grow F F' H → Ch H H' F → Q (.int ((goneM rs.length g u : Int) - g)) H'
/-- a method as its callers see it -/
structure MDef (P : Program) (w : World) (K : PySem.W.Frag) (mg : Str → Option Value) (base : Heap) (C : Addr) (m : Str) (CX : CXT) (k : Nat) (sp : Sp) : Prop where
  ex : ∃ f fd ps, Meth K C m f ∧ Binds K fd ps [] ∧ FnOk P w K mg base CX k f fd ps sp
structure LogApi (P : Program) (w : World) (K : PySem.W.Frag) (mg : Str → Option Value) (base : Heap) (C : Addr) (Lg : List Addr → Hp → Addr → List Row → Nat → Prop) : Prop where
  frame : ∀ {F H H' p rs g l}, Lg F H p rs g → Ch H H' l → (∀ a ∈ F, a ∉ l) → Lg F H' p rs g
  own : ∀ {F H p rs g}, Lg F H p rs g → ∀ a ∈ F, ∃ o, H a = some o
  inst : ∀ {F H p rs g}, Lg F H p rs g → p ∈ F ∧ ∃ dx fs, H p = some (.ins C dx fs) ∧ ∀ m ∈ ([("note" : Str), "last", "first", "wanted", "forget"] : List Str), fs.lookup m = none
  le : ∀ {F H p rs g}, Lg F H p rs g → g ≤ rs.length
  make : ∃ f fd ps, Mk K C f ∧ Binds K fd ps [] ∧ FnOk P w K mg base CX0 2 f fd ps (spLogInit C Lg)
  note : MDef P w K mg base C "note" CX0 2 (spLogNote Lg)
  last : MDef P w K mg base C "last" CX0 2 (spLogLast Lg)
  first : MDef P w K mg base C "first" CX0 2 (spLogFirst Lg)
  wanted : MDef P w K mg base C "wanted" CX0 3 (spLogWanted Lg)
  forget : MDef P w K mg base C "forget" CX0 3 (spLogForget Lg)
end KB

namespace KB
open PySem L2 L2H LX
/-! ### an object's fields, by place -/
def pos (k : Str) : List Str → Option Nat
  | [] => none
  | x :: r => if x = k then some 0 else (pos k r).map (· + 1)
theorem zf_no {k : Str} : ∀ {ns : List Str} {vs : List V}, pos k ns = none → (ns.zip vs).lookup k = none
  | [], _, _ => rfl
  | x :: r, [], _ => rfl
  | x :: r, v :: vs, h => by
    unfold pos at h
    by_cases e : x = k
    · rw [if_pos e] at h; cases h
    · rw [if_neg e] at h
      have h2 : pos k r = none := by
        cases q : pos k r with
        | none => rfl
        | some i => rw [q] at h; cases h
      rw [List.zip_cons_cons, List.lookup_cons, show (k == x) = false from beq_eq_false_iff_ne.mpr fun z => e z.symm]
      exact zf_no h2
theorem zf_get {k : Str} : ∀ {ns : List Str} {vs : List V} {i : Nat} {v : V}, pos k ns = some i → vs[i]? = some v → (ns.zip vs).lookup k = some v
  | [], _, i, v, h, _ => by cases h
  | x :: r, [], i, v, _, h => by simp at h
  | x :: r, u :: vs, i, v, h, hv => by
    unfold pos at h
    by_cases e : x = k
    · rw [if_pos e] at h
      cases h
      rw [List.zip_cons_cons, List.lookup_cons, show (k == x) = true from beq_iff_eq.mpr e.symm]
      exact hv
    · rw [if_neg e] at h
      cases q : pos k r with
      | none => rw [q] at h; cases h
      | some j =>
        rw [q] at h
        cases h
        rw [List.zip_cons_cons, List.lookup_cons, show (k == x) = false from beq_eq_false_iff_ne.mpr fun z => e z.symm]
        exact zf_get q hv
theorem zf_put {k : Str} {y : V} : ∀ {ns : List Str} {vs : List V} {i : Nat}, pos k ns = some i → ns.length = vs.length → putF k y (ns.zip vs) = ns.zip (vs.set i y)
  | [], _, i, h, _ => by cases h
  | x :: r, [], i, _, h => by cases h
  | x :: r, u :: vs, i, h, hl => by
    unfold pos at h
    rw [List.zip_cons_cons]
    show (if x = k then (x, y) :: r.zip vs else (x, u) :: putF k y (r.zip vs)) = _
    by_cases e : x = k
    · rw [if_pos e] at h ⊢
      cases h
      rfl
    · rw [if_neg e] at h ⊢
      cases q : pos k r with
      | none => rw [q] at h; cases h
      | some j =>
        rw [q] at h
        cases h
        rw [zf_put q (Nat.succ.inj hl)]
        rfl
theorem zf_new {k : Str} {y : V} : ∀ {ns : List Str} {vs : List V}, pos k ns = none → ns.length = vs.length → putF k y (ns.zip vs) = (ns ++ [k]).zip (vs ++ [y])
  | [], [], h, _ => rfl
  | [], _ :: _, _, h => by cases h
  | x :: r, [], _, h => by cases h
  | x :: r, u :: vs, h, hl => by
    unfold pos at h
    rw [List.zip_cons_cons]
    show (if x = k then (x, y) :: r.zip vs else (x, u) :: putF k y (r.zip vs)) = _
    by_cases e : x = k
    · rw [if_pos e] at h; cases h
    · rw [if_neg e] at h ⊢
      have h2 : pos k r = none := by
        cases q : pos k r with
        | none => rfl
        | some i => rw [q] at h; cases h
      rw [zf_new h2 (Nat.succ.inj hl)]
      rfl
/-! ### does a text begin with another -/
theorem starts_isPre (k p : Str) : Txt.startswith k p = isPre p k := by
  have hk : (tl k).length = k.length := Array.length_toList
  have hp : (tl p).length = p.length := Array.length_toList
  have e1 : Txt.startswith k p = (decide (p.length ≤ k.length) && ((tl k).take p.length == tl p)) := by
    unfold Txt.startswith
    rw [PySem.StrLaws.subAt_eq, Nat.zero_add, List.drop_zero]
  have e2 : tl (cutS k none (some (p.length : Int))) = (tl k).take (min p.length k.length) := by
    show ((k.cps.toList.drop (HT.sIx k.length 0 none)).take (HT.sIx k.length k.length (some (p.length : Int)) - HT.sIx k.length 0 none)).toArray.toList = _
    rw [List.toList_toArray, HT.sIx_none, HT.sIx_nat, List.drop_zero, Nat.sub_zero]
  rw [e1]
  unfold isPre
  by_cases c : p.length ≤ k.length
  · rw [decide_eq_true c, Bool.true_and]
    rw [Nat.min_eq_left c] at e2
    by_cases d : (tl k).take p.length = tl p
    · rw [beq_iff_eq.mpr d]
      refine (decide_eq_true ?_).symm
      exact TL.ext_tl (e2.trans d)
    · rw [beq_eq_false_iff_ne.mpr d]
      refine (decide_eq_false fun z => d ?_).symm
      rw [← e2, z]
  · rw [decide_eq_false c, Bool.false_and]
    refine (decide_eq_false fun z => c ?_).symm
    have q := congrArg (fun s : Str => (tl s).length) z
    rw [e2, List.length_take, hp, hk] at q
    omega
theorem smallS {n : Nat} (h : n ≤ 200000) : n < sizeLine := Nat.lt_of_le_of_lt h (by decide)
end KB

namespace KL
open PySem L2 L2H LX KB
/-! ### the program's log -/
abbrev nsLog : List Str := ["_forgotten", "_kept"]
structure LogT (K : PySem.W.Frag) (C : Addr) : Prop where
  cl : Cls K C
  nF : NoAttr K C "_forgotten"
  nK : NoAttr K C "_kept"
structure LgAt (C : Addr) (H : Hp) (p q : Addr) (ts : List Addr) (rs : List Row) (g : Nat) : Prop where
  ob : ∃ dx, H p = some (.ins C dx (nsLog.zip [.int g, .ref q]))
  kp : H q = some (.lst (ts.map V.ref))
  at_ : RowsAt H ts (rs.drop g)
  le : g ≤ rs.length
  num : Num rs
def LgP (C : Addr) : List Addr → Hp → Addr → List Row → Nat → Prop := fun F H p rs g => ∃ q ts, F = [p, q] ∧ LgAt C H p q ts rs g
theorem LgAt.pq {C : Addr} {H : Hp} {p q : Addr} {ts : List Addr} {rs : List Row} {g : Nat} (L : LgAt C H p q ts rs g) : p ≠ q := by
  obtain ⟨dx, h⟩ := L.ob
  exact ne_of h L.kp (by intro z; cases z)
theorem LgAt.len {C : Addr} {H : Hp} {p q : Addr} {ts : List Addr} {rs : List Row} {g : Nat} (L : LgAt C H p q ts rs g) : ts.length = rs.length - g := by
  rw [Paired.length L.at_, List.length_drop]
theorem LgP.frame {C : Addr} {F : List Addr} {H H' : Hp} {p : Addr} {rs : List Row} {g : Nat} {l : List Addr} (L : LgP C F H p rs g) (c : Ch H H' l) (d : ∀ a ∈ F, a ∉ l) : LgP C F H' p rs g := by
  obtain ⟨q, ts, rfl, L⟩ := L
  obtain ⟨dx, h⟩ := L.ob
  exact ⟨q, ts, rfl, ⟨dx, c.at h (d p (by simp))⟩, c.at L.kp (d q (by simp)), L.at_.keep c.tup, L.le, L.num⟩
theorem LgP.own {C : Addr} {F : List Addr} {H : Hp} {p : Addr} {rs : List Row} {g : Nat} (L : LgP C F H p rs g) : ∀ a ∈ F, ∃ o, H a = some o := by
  obtain ⟨q, ts, rfl, L⟩ := L
  obtain ⟨dx, h⟩ := L.ob
  intro a ha
  simp only [List.mem_cons, List.not_mem_nil, or_false] at ha
  rcases ha with rfl | rfl
  · exact ⟨_, h⟩
  · exact ⟨_, L.kp⟩
theorem LgP.inst {C : Addr} {F : List Addr} {H : Hp} {p : Addr} {rs : List Row} {g : Nat} (L : LgP C F H p rs g) : p ∈ F ∧ ∃ dx fs, H p = some (.ins C dx fs) ∧ ∀ m ∈ ([("note" : Str), "last", "first", "wanted", "forget"] : List Str), fs.lookup m = none := by
  obtain ⟨q, ts, rfl, L⟩ := L
  obtain ⟨dx, h⟩ := L.ob
  refine ⟨by simp, dx, _, h, fun m hm => ?_⟩
  simp only [List.mem_cons, List.not_mem_nil, or_false] at hm
  rcases hm with rfl | rfl | rfl | rfl | rfl <;> exact zf_no (by decide +kernel)
theorem LgP.le {C : Addr} {F : List Addr} {H : Hp} {p : Addr} {rs : List Row} {g : Nat} (L : LgP C F H p rs g) : g ≤ rs.length := by
  obtain ⟨q, ts, rfl, L⟩ := L
  exact L.le
/-- last and first read only -/
def spLast0 (C : Addr) : Sp := fun vs H Q _ => ∃ (F : List Addr) (p : Addr) (rs : List Row) (g : Nat), vs = [.ref p] ∧ LgP C F H p rs g ∧ Q (.int rs.length) H
def spFirst0 (C : Addr) : Sp := fun vs H Q _ => ∃ (F : List Addr) (p : Addr) (rs : List Row) (g : Nat), vs = [.ref p] ∧ LgP C F H p rs g ∧ Q (.int ((g : Int) + 1)) H
section
variable {P : Program} {w : World} {K : PySem.W.Frag} {mg : Str → Option Value} {base : Heap}
theorem ok_Log_init {f C : Addr} {fd : FuncData} (F : Fun K "__init__" "Log.__init__" s_Log_init f fd) (T : LogT K C) : FnOk P w K mg base CX0 1 f fd p_Log_init (spLogInit C (LgP C)) := by
  refine F.ok sc_Log_init (fun vs H Q E h => ?_) (fun cdv A outer s H vs Q E hr h => ?_)
  · obtain ⟨p, dx, rfl, _⟩ := h
    rfl
  · obtain ⟨p, dx, rfl, hp, k⟩ := h
    refine ⟨_, pss_cons (ps_fld (pv 0) pe_int rfl) (pss_one (ps_fld (pv 0) (pe_lst pa_nil) rfl)), ?_⟩
    refine ⟨_, rfl, p, C, dx, [], rfl, hp, T.cl, T.nF, (by show 0 < 1000; decide), ?_⟩
    refine ⟨(by show 0 ≤ sizeLine; decide), fun q hq => ?_⟩
    have npq : p ≠ q := ne_of_none upd_same hq
    refine ⟨_, rfl, p, C, dx, _, rfl, (by rw [upd_ne npq]; exact upd_same), T.cl, T.nK, (by show 1 < 1000; decide), ?_⟩
    have q0 : H q = none := by rw [upd_ne npq.symm] at hq; exact hq
    refine k [p, q] _ ⟨q, [], rfl, ⟨dx, upd_same⟩, ?_, .nil, Nat.le_refl _, Num.nil⟩ (fun a ha => ?_) ⟨fun b o e n => ?_, fun b o e => ?_⟩
    · rw [upd_ne npq.symm]; exact upd_same
    · simp only [List.mem_cons, List.not_mem_nil, or_false] at ha
      rcases ha with rfl | rfl
      · exact .inl rfl
      · exact .inr q0
    · have nb : b ≠ p := fun z => by
        subst z
        rcases n with n | ⟨xs, n⟩
        · exact n (by simp)
        · rw [hp] at e; cases e; cases n
      rw [upd_ne nb, upd_ne (ne_of_none e q0), upd_ne nb]
      exact e
    · by_cases z : b = p
      · subst z; exact ⟨_, upd_same⟩
      · rw [upd_ne z, upd_ne (ne_of_none e q0), upd_ne z]; exact ⟨o, e⟩
theorem ok_Log_last {f C : Addr} {fd : FuncData} (F : Fun K "last" "Log.last" s_Log_last f fd) (T : LogT K C) (ml : mg "len" = none) : FnOk P w K mg base CX0 1 f fd p_Log_last (spLast0 C) := by
  refine F.ok sc_Log_last (fun vs H Q E h => ?_) (fun cdv A outer s H vs Q E hr h => ?_)
  · obtain ⟨Fs, p, rs, g, rfl, _⟩ := h
    rfl
  · obtain ⟨Fs, p, rs, g, rfl, ⟨q, ts, rfl, L⟩, k⟩ := h
    obtain ⟨dx, hp⟩ := L.ob
    refine ⟨_, pss_one (ps_ret (pe_op op_add (pe_fld (pv 0) rfl) (pe_callB call_len_seq (by rfl) ml PySem.boot_len (pa_cons (pe_fld (pv 0) rfl) pa_nil)))), ?_⟩
    refine ⟨_, rfl, p, C, dx, _, _, rfl, hp, T.cl, T.nF, zf_get (i := 0) (by decide +kernel) rfl, _, rfl, p, C, dx, _, _, rfl, hp, T.cl, T.nK, zf_get (i := 1) (by decide +kernel) rfl, q, _, rfl, .inl (SqL.of L.kp), _, _, rfl, rfl, ?_⟩
    have e : (g : Int) + ((ts.map V.ref).length : Int) = (rs.length : Int) := by
      rw [List.length_map, L.len]
      have := L.le
      omega
    show Q (.int ((g : Int) + ((ts.map V.ref).length : Int))) H
    rw [e]
    exact k
theorem ok_Log_first {f C : Addr} {fd : FuncData} (F : Fun K "first" "Log.first" s_Log_first f fd) (T : LogT K C) : FnOk P w K mg base CX0 1 f fd p_Log_first (spFirst0 C) := by
  refine F.ok sc_Log_first (fun vs H Q E h => ?_) (fun cdv A outer s H vs Q E hr h => ?_)
  · obtain ⟨Fs, p, rs, g, rfl, _⟩ := h
    rfl
  · obtain ⟨Fs, p, rs, g, rfl, ⟨q, ts, rfl, L⟩, k⟩ := h
    obtain ⟨dx, hp⟩ := L.ob
    refine ⟨_, pss_one (ps_ret (pe_op op_add (pe_fld (pv 0) rfl) pe_int)), ?_⟩
    exact ⟨_, rfl, p, C, dx, _, _, rfl, hp, T.cl, T.nF, zf_get (i := 0) (by decide +kernel) rfl, _, _, rfl, rfl, k⟩
theorem ok_Log_note {f fL C : Addr} {fd fdL : FuncData} {psL : List Str} (F : Fun K "note" "Log.note" s_Log_note f fd) (T : LogT K C) (mL : Meth K C "last" fL) (bL : Binds K fdL psL []) (GL : FnOk P w K mg base CX0 1 fL fdL psL (spLast0 C)) :
    FnOk P w K mg base CX0 2 f fd p_Log_note (spLogNote (LgP C)) := by
  refine F.ok sc_Log_note (fun vs H Q E h => ?_) (fun cdv A outer s H vs Q E hr h => ?_)
  · obtain ⟨Fs, p, t, wd, ky, v, rs, g, rfl, _⟩ := h
    rfl
  · obtain ⟨Fs, p, t, wd, ky, v, rs, g, rfl, LP, hl, ok, k⟩ := h
    obtain ⟨q, ts, rfl, L⟩ := id LP
    obtain ⟨dx, hp⟩ := L.ob
    refine ⟨_, pss_cons (ps_set (i := 5) sc_Log_note.nd rfl (Or.inl rfl) (pe_op op_add (pe_meth0 (pv 0) T.cl mL GL hr bL .nil pass0) pe_int))
      (pss_cons (ps_expr (pe_bm PySem.F.plainAttrs_list PySem.F.slot_list_append PySem.F.type_list_append mt_append (pe_fld (pv 0) rfl) (pa_cons (pe_tup (pa_cons (pv 5) (pa_cons (pv 1) (pa_cons (pv 2) (pa_cons (pv 3) (pa_cons (pv 4) pa_nil)))))) pa_nil)))
      (pss_one (ps_ret (pv 5)))), ?_⟩
    refine ⟨_, rfl, p, dx, _, rfl, hp, zf_no (by decide +kernel), _, p, rs, g, rfl, LP, _, _, rfl, rfl, ?_⟩
    refine ⟨_, rfl, p, C, dx, _, _, rfl, hp, T.cl, T.nK, zf_get (i := 1) (by decide +kernel) rfl, .inl ⟨rfl, _, .inl (.inl L.kp)⟩, _, rfl, _, rfl, _, rfl, _, rfl, _, rfl, (by show 5 ≤ sizeLine; decide), fun x hx => ?_⟩
    have nxq : q ≠ x := ne_of_none L.kp hx
    have nxp : p ≠ x := ne_of_none hp hx
    have hl2 : (ts.map V.ref).length < sizeLine := by
      rw [List.length_map, L.len]
      exact smallS (by omega)
    refine ⟨q, ts.map V.ref, .ref x, rfl, rfl, by rw [upd_ne nxq]; exact L.kp, hl2, ?_⟩
    refine ⟨_, rfl, ?_⟩
    have c1 : Ch H (upd (upd H x (.tup [.int ((rs.length : Int) + 1), .int t, .str wd, .str ky, .str v])) q (.lst (ts.map V.ref ++ [.ref x]))) [p, q] :=
      ((Ch.refl H [p, q]).new _ hx).mut (by simp) L.kp (fun xs e => by cases e)
    refine k [p, q] _ ⟨q, ts ++ [x], rfl, ⟨dx, ?_⟩, ?_, ?_, ?_, ?_⟩ (Grow.refl _ _) c1
    · rw [upd_ne L.pq, upd_ne nxp]; exact hp
    · rw [upd_same, List.map_append]; rfl
    · rw [List.drop_append_of_le_length L.le]
      refine Paired.snoc (L.at_.keep c1.tup) ?_
      show upd _ q _ x = _
      rw [upd_ne nxq.symm]
      exact upd_same
    · rw [List.length_append]
      exact Nat.le_trans L.le (Nat.le_add_right _ _)
    · exact L.num.snoc rfl
end
end KL

/-! sorted of texts, any number of them; the order of texts; tables of texts -/
namespace LX
open PySem PySem.Spec PyProof.Rows L2 L2H
section
variable {X : Cx}
def rSortedSL (K : PySem.W.Frag) : List V → Hp → VK → Prop := fun vs H Q => ∃ (a : Addr) (xs : List Str), vs = [V.ref a] ∧ SqL K H a (xs.map V.str) ∧
  ∀ (ys : List Str) (p : Addr), ys.Perm xs → sortedS ys = true → H p = none → Q (.ref p) (upd H p (.lst (ys.map V.str)))
theorem cr_sortedSL : CallR X (.builtin "sorted") (rSortedSL X.K) := by
  intro pins s σ H vs us Q I r h
  obtain ⟨a, xs, rfl, hs, q⟩ := h
  obtain ⟨its, rv, hl, hz⟩ := I.list hs
  rw [Vals.ref1 r]
  have hlen0 := rv.length
  refine PyProof.Rows.sorted_strsAny hl.isList rv.strs (by rw [← hlen0]; exact hz) fun out ys h1 h2 h3 => ?_
  obtain ⟨ep, he'⟩ := PyProof.Rows.sortedAll_at s.heap its out
  have hlen : (ys.map V.str).length ≤ sizeLine := by
    rw [List.length_map] at hz ⊢
    rw [h2.length_eq]
    exact hz
  exact ⟨.ref _, upd H (s.heap.objs.size + 1) (.lst (ys.map V.str)), I.laid (t' := s.toks) (fun _ _ => PyProof.Rows.sortedAll_old) (Nat.le_succ _) ⟨hlen, out.toList, ep, vals_of_strs h1, he'⟩, rfl, q ys _ h2 h3 (I.hok.fresh (Nat.le_succ _))⟩
def rSortedDL : List V → Hp → VK → Prop := fun xs H Q => ∃ (a : Addr) (kvs : List (Key × V)) (ks : List Str), xs = [.ref a] ∧ Rd H a (.dK kvs) ∧ kvs.map (·.1) = ks.map Sum.inr ∧
    ∀ ys p, ys.Perm ks → sortedS ys = true → H p = none → Q (.ref p) (upd H p (.lst (ys.map V.str)))
theorem cr_sortedDL (hcalm : X.calm = true) : CallR X (.builtin "sorted") rSortedDL := by
  intro pins s σ H xs us Q I r q
  obtain ⟨a, kvs, ks, ex, hd, hks, q⟩ := q
  subst ex
  obtain ⟨u, eu, rx⟩ := vals1 r
  subst eu
  cases rx
  obtain ⟨z, lo, vs, rel, dd⟩ := dk_rd I.hok hd
  obtain ⟨ep, hat⟩ := dd.dictAt
  have hkeys : vs.map (·.1) = ks.map Sum.inr := rel.keys.symm.trans hks
  have hl : vs.length = ks.length := by
    have e := congrArg List.length hkeys
    rw [List.length_map, List.length_map] at e
    exact e
  have hkl : kvs.length = vs.length := by
    have e := congrArg List.length rel.keys
    rw [List.length_map, List.length_map] at e
    exact e
  have h16 : vs.length ≤ sizeLine := by rw [← hkl]; exact z
  refine Calls.call_function_entry PyProof.Rows.kind_sorted PyProof.Rows.plain_sorted PyProof.Rows.entry_sorted (PyProof.Rows.args_sorted1 _) ?_
  unfold Builtin.«sorted»
  refine wpAny_bind (m := checkCount "sorted" 1 1 _) (wpAny_pure ?_)
  refine wpAny_bind (PySem.W.kdu_collect (A := X.A.in1) (PySem.W.kdl_dict (knd := mixKind X.prog X.w) (kvs := vs) (ep := ep) lo) (I.ok.hd hcalm) hat h16 fun h' tk acc hk hacc => ?_)
  have hal : acc.toList.length = ks.length := by rw [Array.length_toList, hacc.1, hl]
  have hS : StrsAre acc.toList ks := strs_at hal fun j v e => by
    obtain ⟨k, x, e1, e2⟩ := hacc.2 j v (by rw [← Array.getElem?_toList]; exact e)
    have e3 : (vs.map (·.1))[j]? = some k := by rw [List.getElem?_map, e1]; all_goals rfl
    rw [hkeys, List.getElem?_map] at e3
    cases e4 : ks[j]? with
    | none => rw [e4] at e3; cases e3
    | some y =>
      rw [e4] at e3
      have e5 : Sum.inr y = k := Option.some.inj e3
      subst e5
      obtain ⟨t, ev⟩ := Value.isStrOf_shape (x := y) (v := v) e2
      exact ⟨y, t, rfl, ev⟩
  have I1 : Inv X pins σ H { s with heap := h', toks := tk } := I.kept hk
  refine wpAny_bind (wpAny_newList ?_ (by rw [hal, ← hl]; exact h16))
  have hoL : (h'.push (seqObj "list" acc.toList.toArray 0)).get? h'.objs.size = some (seqObj "list" acc.toList.toArray 0) := Heap.get?_push_size _ rfl
  show wpAny _ _ _ _ _ { s with heap := h'.push (seqObj "list" acc.toList.toArray 0), toks := tk }
  refine wpAny_bind (wpAny_holding (wpAny_call_entry PyProof.Rows.slot_list_sort ⟨_, hoL, rfl⟩ PyProof.Rows.entry_list_sort
    (list_sort_treeKAny strKind_oneLt (s := { s with heap := h'.push (seqObj "list" acc.toList.toArray 0), toks := tk }) hoL hS.keysOf (fun v₁ v₂ rest e => keyKind_strs (by rw [← e]; exact hS)) (by rw [hal, ← hl]; exact h16) fun st' hp hs => ⟨_, rfl, ?_⟩)
    (PyProof.Rows.args_list_sort _)))
  obtain ⟨ys, g1, g2, g3⟩ := sorted_out_str hS hp hs
  obtain ⟨e', he'⟩ := PyProof.Rows.sortedHeap_at (vs := acc.toList) (out := (arrOf st').map (·.2)) hoL
  have hlen : (ys.map V.str).length ≤ sizeLine := by
    rw [List.length_map, g2.length_eq, ← hl]
    exact h16
  refine wpAny_pure ⟨_, rfl, .ref h'.objs.size, upd H h'.objs.size (.lst (ys.map V.str)), I1.laid (t' := tk) (fun b u e => ?_) (Nat.le_refl _)
    (show ObjOk X.prog X.w _ _ _ (.lst (ys.map V.str)) from ⟨hlen, ((arrOf st').map (·.2)).toList, e', vals_of_strs g1, by rw [Array.toArray_toList]; exact he'⟩), rfl, q ys _ g2 g3 (I1.hok.fresh (Nat.le_refl _))⟩
  have hb : b < h'.objs.size := Heap.lt_size e
  rw [PyProof.Rows.sortedHeap_old (Nat.ne_of_lt hb) (by rw [size_push']; exact Nat.lt_succ_of_lt hb)]
  exact Heap.get?_push_of_some _ e
end
end LX
namespace KB
open PySem L2 L2H LX
/-! ### the order of texts -/
abbrev ltS (x y : Str) : Prop := tl x < tl y
abbrev leS (x y : Str) : Prop := PySem.Spec.ltCps y.cps.toList x.cps.toList = false
theorem leS_iff {x y : Str} : leS x y ↔ ¬ tl y < tl x := by
  unfold leS
  rw [PyProof.Rows.ltCps_eq, decide_eq_false_iff_not]
theorem leS_refl (x : Str) : leS x x := leS_iff.mpr (List.lt_irrefl _)
theorem leS_trans {x y z : Str} (a : leS x y) (b : leS y z) : leS x z := by
  rw [leS_iff] at a b ⊢
  exact List.not_lt.mpr (List.le_trans (List.not_lt.mp a) (List.not_lt.mp b))
theorem leS_antisymm {x y : Str} (a : leS x y) (b : leS y x) : x = y := by
  rw [leS_iff] at a b
  exact TL.ext_tl (List.le_antisymm (List.not_lt.mp a) (List.not_lt.mp b))
theorem rising_pw : ∀ (p : Str) (l : List Str), PyProof.Rows.risingS p l = true → (p :: l).Pairwise leS
  | p, [], _ => List.pairwise_singleton _ _
  | p, x :: r, h => by
    unfold PyProof.Rows.risingS at h
    rw [Bool.and_eq_true, Bool.not_eq_true'] at h
    have q := rising_pw x r h.2
    refine List.pairwise_cons.mpr ⟨fun y hy => ?_, q⟩
    rcases List.mem_cons.mp hy with e | hy
    · rw [e]; exact h.1
    · exact leS_trans h.1 ((List.pairwise_cons.mp q).1 y hy)
theorem sortedS_pw {l : List Str} (h : PyProof.Rows.sortedS l = true) : l.Pairwise leS := by
  cases l with
  | nil => exact .nil
  | cons x r => exact rising_pw x r h
theorem pw_uniq : ∀ {l m : List Str}, l.Pairwise leS → m.Pairwise leS → l.Perm m → l = m
  | [], m, _, _, h => (List.Perm.eq_nil h.symm).symm
  | x :: l, [], _, _, h => absurd h.length_eq (by simp)
  | x :: l, y :: m, a, b, h => by
    have h1 : leS y x := by
      rcases List.mem_cons.mp (h.mem_iff.mp (List.mem_cons_self (a := x) (l := l))) with e | hx
      · rw [e]; exact leS_refl y
      · exact (List.pairwise_cons.mp b).1 x hx
    have h2 : leS x y := by
      rcases List.mem_cons.mp (h.mem_iff.mpr (List.mem_cons_self (a := y) (l := m))) with e | hx
      · rw [e]; exact leS_refl x
      · exact (List.pairwise_cons.mp a).1 y hx
    have e := leS_antisymm h2 h1
    subst e
    rw [pw_uniq (List.pairwise_cons.mp a).2 (List.pairwise_cons.mp b).2 h.cons_inv]
theorem sortedS_uniq {l m : List Str} (a : PyProof.Rows.sortedS l = true) (b : PyProof.Rows.sortedS m = true) (h : l.Perm m) : l = m := pw_uniq (sortedS_pw a) (sortedS_pw b) h
/-! ### tables of texts -/
abbrev KVs := List (Str × Str)
def getP (d : KVs) (k : Str) : Option Str := (d.find? fun p => decide (p.1 = k)).map (·.2)
def putP (d : KVs) (k v : Str) : KVs := if (d.any fun p => decide (p.1 = k)) = true then d.map (fun p => if p.1 = k then (p.1, v) else p) else d ++ [(k, v)]
def dropP (d : KVs) (k : Str) : KVs := d.filter fun p => decide (p.1 ≠ k)
def dV (d : KVs) : List (Key × V) := d.map fun p => ((Sum.inr p.1 : Key), V.str p.2)
theorem inrD (a b : Str) : decide ((Sum.inr a : Key) = Sum.inr b) = decide (a = b) := by
  by_cases e : a = b
  · rw [decide_eq_true e, decide_eq_true (congrArg Sum.inr e)]
  · rw [decide_eq_false e, decide_eq_false fun z => e (Sum.inr.inj z)]
theorem valV_dV (d : KVs) (k : Str) : valV (dV d) (Sum.inr k) = (getP d k).map V.str := by
  induction d with
  | nil => rfl
  | cons p r ih =>
    by_cases e : p.1 = k
    · show valV ((Sum.inr p.1, V.str p.2) :: dV r) (Sum.inr k) = _
      rw [valV_pos (by exact congrArg Sum.inr e)]
      unfold getP
      rw [List.find?_cons_of_pos (by exact decide_eq_true e)]
      rfl
    · show valV ((Sum.inr p.1, V.str p.2) :: dV r) (Sum.inr k) = _
      rw [valV_neg (by exact fun z => e (Sum.inr.inj z)), ih]
      unfold getP
      rw [List.find?_cons_of_neg (by rw [decide_eq_false e]; decide)]
theorem any_dV (d : KVs) (k : Str) : ((dV d).any fun kv => decide (kv.1 = Sum.inr k)) = d.any fun p => decide (p.1 = k) := by
  unfold dV
  rw [List.any_map]
  congr 1
  funext p
  exact inrD p.1 k
theorem putK_dV (d : KVs) (k v : Str) : putK (dV d) (Sum.inr k) (.str v) = dV (putP d k v) := by
  unfold putK putP
  rw [any_dV]
  by_cases e : (d.any fun p => decide (p.1 = k)) = true
  · rw [if_pos e, if_pos e]
    unfold dV
    rw [List.map_map, List.map_map]
    refine List.map_congr_left fun p _ => ?_
    show (if (Sum.inr p.1 : Key) = Sum.inr k then _ else _) = _
    by_cases z : p.1 = k
    · rw [if_pos (congrArg Sum.inr z)]
      simp only [Function.comp_apply, if_pos z]
    · rw [if_neg fun y => z (Sum.inr.inj y)]
      simp only [Function.comp_apply, if_neg z]
  · rw [if_neg e, if_neg e]
    unfold dV
    rw [List.map_append]
    rfl
theorem dropK_dV (d : KVs) (k : Str) : dropK (dV d) (Sum.inr k) = dV (dropP d k) := by
  unfold dropK dropP dV
  rw [List.filter_map]
  congr 1
  refine List.filter_congr fun p _ => ?_
  show decide ((Sum.inr p.1 : Key) ≠ Sum.inr k) = decide (p.1 ≠ k)
  refine decide_eq_decide.mpr (not_congr ⟨fun y => Sum.inr.inj y, fun y => congrArg Sum.inr y⟩)
theorem keys_dV (d : KVs) : (dV d).map (·.1) = (d.map (·.1)).map Sum.inr := by
  unfold dV
  rw [List.map_map, List.map_map]
  rfl
theorem getP_any (d : KVs) (k : Str) : (d.any fun p => decide (p.1 = k)) = (getP d k).isSome := by
  induction d with
  | nil => rfl
  | cons p r ih =>
    rw [List.any_cons]
    unfold getP
    by_cases e : p.1 = k
    · rw [List.find?_cons_of_pos (by exact decide_eq_true e), decide_eq_true e]; rfl
    · rw [List.find?_cons_of_neg (by rw [decide_eq_false e]; decide), decide_eq_false e, Bool.false_or, ih]; rfl
theorem getP_none {d : KVs} {k : Str} : getP d k = none ↔ k ∉ d.map (·.1) := by
  rw [← Option.not_isSome_iff_eq_none, ← getP_any, List.any_eq_true]
  constructor
  · intro h m
    obtain ⟨p, hp, e⟩ := List.mem_map.mp m
    exact h ⟨p, hp, decide_eq_true e⟩
  · rintro h ⟨p, hp, e⟩
    exact h (List.mem_map.mpr ⟨p, hp, of_decide_eq_true e⟩)
theorem getP_mem {d : KVs} {k v : Str} (h : getP d k = some v) : (k, v) ∈ d := by
  unfold getP at h
  cases e : d.find? (fun p => decide (p.1 = k)) with
  | none => rw [e] at h; cases h
  | some p =>
    rw [e] at h
    have h1 : p.2 = v := Option.some.inj h
    have h2 : p.1 = k := of_decide_eq_true (List.find?_some (p := fun p : Str × Str => decide (p.1 = k)) e)
    have h3 := List.mem_of_find?_eq_some e
    rw [← h1, ← h2]
    exact h3
theorem getP_of {d : KVs} (n : (d.map (·.1)).Nodup) {p : Str × Str} (h : p ∈ d) : getP d p.1 = some p.2 := by
  induction d with
  | nil => cases h
  | cons q r ih =>
    rw [List.map_cons, List.nodup_cons] at n
    unfold getP
    rcases List.mem_cons.mp h with e | h
    · subst e
      rw [List.find?_cons_of_pos (by exact decide_eq_true rfl)]; rfl
    · have ne : ¬ q.1 = p.1 := fun z => n.1 (z ▸ List.mem_map.mpr ⟨p, h, rfl⟩)
      rw [List.find?_cons_of_neg (by rw [decide_eq_false ne]; decide)]
      exact ih n.2 h
theorem keys_putP_old {d : KVs} {k v : Str} (h : (d.any fun p => decide (p.1 = k)) = true) : (putP d k v).map (·.1) = d.map (·.1) := by
  unfold putP
  rw [if_pos h, List.map_map]
  refine List.map_congr_left fun p _ => ?_
  by_cases z : p.1 = k
  · simp only [Function.comp_apply, if_pos z]
  · simp only [Function.comp_apply, if_neg z]
theorem putP_nodup {d : KVs} {k v : Str} (n : (d.map (·.1)).Nodup) : ((putP d k v).map (·.1)).Nodup := by
  by_cases h : (d.any fun p => decide (p.1 = k)) = true
  · rw [keys_putP_old h]; exact n
  · unfold putP
    rw [if_neg h, List.map_append, List.map_cons, List.map_nil]
    have nk : k ∉ d.map (·.1) := by
      rw [← getP_none, ← Option.not_isSome_iff_eq_none, ← getP_any]
      exact h
    refine List.nodup_append.mpr ⟨n, List.nodup_cons.mpr ⟨fun z => (nomatch z), List.nodup_nil⟩, fun a ha b hb z => nk ?_⟩
    have z2 : a = k := z.trans (List.mem_singleton.mp hb)
    rw [← z2]
    exact ha
theorem putP_len (d : KVs) (k v : Str) : (putP d k v).length ≤ d.length + 1 := by
  unfold putP
  split
  · rw [List.length_map]; exact Nat.le_succ _
  · rw [List.length_append]; exact Nat.le_refl _
theorem dropP_len (d : KVs) (k : Str) : (dropP d k).length ≤ d.length := List.length_filter_le _ _
theorem dropP_nodup {d : KVs} {k : Str} (n : (d.map (·.1)).Nodup) : ((dropP d k).map (·.1)).Nodup := n.sublist (List.Sublist.map _ List.filter_sublist)
theorem getP_putP (d : KVs) (k v j : Str) : getP (putP d k v) j = if k = j then some v else getP d j := by
  unfold putP
  by_cases h : (d.any fun p => decide (p.1 = k)) = true
  · rw [if_pos h]
    induction d with
    | nil => cases h
    | cons p r ih =>
      rw [List.map_cons]
      unfold getP
      by_cases z : p.1 = k
      · rw [if_pos z]
        by_cases e : k = j
        · rw [if_pos e, List.find?_cons_of_pos (by exact decide_eq_true (z.trans e))]; rfl
        · have e' : ¬ p.1 = j := fun y => e (z.symm.trans y)
          rw [if_neg e, List.find?_cons_of_neg (by rw [decide_eq_false e']; decide), List.find?_cons_of_neg (by rw [decide_eq_false e']; decide)]
          by_cases h' : (r.any fun p => decide (p.1 = k)) = true
          · have := ih h'
            rw [if_neg e] at this
            exact this
          · have : r.map (fun p => if p.1 = k then (p.1, v) else p) = r := by
              refine (List.map_congr_left fun q hq => ?_).trans (List.map_id r)
              rw [if_neg fun y => h' (List.any_eq_true.mpr ⟨q, hq, decide_eq_true y⟩)]
              rfl
            rw [this]
      · rw [if_neg z]
        have h' : (r.any fun p => decide (p.1 = k)) = true := by
          rw [List.any_cons, decide_eq_false z, Bool.false_or] at h
          exact h
        by_cases e : p.1 = j
        · rw [List.find?_cons_of_pos (by exact decide_eq_true e), List.find?_cons_of_pos (by exact decide_eq_true e), if_neg fun y => z (e.trans y.symm)]
        · rw [List.find?_cons_of_neg (by rw [decide_eq_false e]; decide), List.find?_cons_of_neg (by rw [decide_eq_false e]; decide)]
          exact ih h'
  · rw [if_neg h]
    induction d with
    | nil =>
      show getP [(k, v)] j = _
      unfold getP
      by_cases e : k = j
      · rw [if_pos e, List.find?_cons_of_pos (by exact decide_eq_true e)]; rfl
      · rw [if_neg e, List.find?_cons_of_neg (by rw [decide_eq_false e]; decide)]
    | cons p r ih =>
      have h2 := h
      rw [List.any_cons, Bool.or_eq_true, not_or] at h2
      have z : ¬ p.1 = k := fun y => h2.1 (decide_eq_true y)
      rw [List.cons_append]
      unfold getP
      by_cases e : p.1 = j
      · rw [List.find?_cons_of_pos (by exact decide_eq_true e), List.find?_cons_of_pos (by exact decide_eq_true e), if_neg fun y => z (e.trans y.symm)]
      · rw [List.find?_cons_of_neg (by rw [decide_eq_false e]; decide), List.find?_cons_of_neg (by rw [decide_eq_false e]; decide)]
        exact ih h2.2
theorem getP_dropP (d : KVs) (k j : Str) : getP (dropP d k) j = if k = j then none else getP d j := by
  induction d with
  | nil => split <;> rfl
  | cons p r ih =>
    unfold dropP at ih ⊢
    by_cases z : p.1 = k
    · rw [List.filter_cons_of_neg (by simp [z]), ih]
      by_cases e : k = j
      · rw [if_pos e, if_pos e]
      · rw [if_neg e, if_neg e]
        unfold getP
        rw [List.find?_cons_of_neg (by rw [decide_eq_false fun y => e (z.symm.trans y)]; decide)]
    · rw [List.filter_cons_of_pos (by simp [z])]
      unfold getP at ih ⊢
      by_cases e : p.1 = j
      · rw [List.find?_cons_of_pos (by exact decide_eq_true e), List.find?_cons_of_pos (by exact decide_eq_true e), if_neg fun y => z (e.trans y.symm)]
      · rw [List.find?_cons_of_neg (by rw [decide_eq_false e]; decide), List.find?_cons_of_neg (by rw [decide_eq_false e]; decide)]
        exact ih
/-- just what f tells, in the keys' order -/
structure Told (f : Str → Option Str) (ps : KVs) : Prop where
  srt : PyProof.Rows.sortedS (ps.map (·.1)) = true
  nd : (ps.map (·.1)).Nodup
  get : ∀ k, getP ps k = f k
theorem Told.uniq {f : Str → Option Str} {ps qs : KVs} (a : Told f ps) (b : Told f qs) : ps = qs := by
  have pe : (ps.map (·.1)).Perm (qs.map (·.1)) := by
    refine (List.perm_ext_iff_of_nodup a.nd b.nd).mpr fun k => ?_
    have h1 := getP_none (d := ps) (k := k)
    have h2 := getP_none (d := qs) (k := k)
    rw [a.get] at h1
    rw [b.get] at h2
    exact Decidable.not_iff_not.mp (h1.symm.trans h2)
  have ke := sortedS_uniq a.srt b.srt pe
  have self : ∀ {xs : KVs}, Told f xs → xs = (xs.map (·.1)).map fun k => (k, (f k).getD "") := fun {xs} t => by
    rw [List.map_map]
    refine (List.map_id xs).symm.trans (List.map_congr_left fun p hp => ?_)
    have g := getP_of t.nd hp
    rw [t.get] at g
    show p = (p.1, (f p.1).getD "")
    rw [g]
    rfl
  rw [self a, self b, ke]
/-- sorted keys of a table, each with what it holds -/
theorem told_of {d : KVs} (n : (d.map (·.1)).Nodup) {ys : List Str} (p : ys.Perm (d.map (·.1))) (s : PyProof.Rows.sortedS ys = true) : Told (getP d) (ys.map fun k => (k, (getP d k).getD "")) := by
  have e : (ys.map fun k => (k, (getP d k).getD "")).map (·.1) = ys := by
    rw [List.map_map]
    exact (List.map_congr_left fun _ _ => rfl).trans (List.map_id ys)
  have nd := p.nodup_iff.mpr n
  refine ⟨by rw [e]; exact s, by rw [e]; exact nd, fun k => ?_⟩
  by_cases h : k ∈ ys
  · have := getP_of (d := ys.map fun k => (k, (getP d k).getD "")) (by rw [e]; exact nd) (List.mem_map.mpr ⟨k, h, rfl⟩)
    rw [this]
    cases g : getP d k with
    | some v => rfl
    | none => exact absurd (p.mem_iff.mp h) (getP_none.mp g)
  · rw [getP_none.mpr (by rw [e]; exact h), getP_none.mpr fun z => h (p.mem_iff.mpr z)]
end KB

namespace KB
open PySem L2 L2H LX
/-! ### ears by themselves, as plain lists -/
structure GoodR (r : Row) : Prop where
  ok : r.Ok
  wd : r.w = "put" ∨ r.w = "cut"
/-- the number of the last that was taken in -/
def lastN (b : Int) (tk : List Row) : Int := match tk.getLast? with
  | some r => r.n
  | none => b - 1
def takeM (b : Int) (tk : List Row) : List Row → List Row
  | [] => tk
  | r :: rs => takeM b (if r.n > lastN b tk then tk ++ [r] else tk) rs
def stepM (f : Str → Option Str) (r : Row) : Str → Option Str := fun k => if r.k = k then (if r.w = "put" then some r.v else none) else f k
def holdM (gv : KVs) (tk : List Row) : Str → Option Str := tk.foldl stepM (getP gv)
theorem lastN_snoc (b : Int) (tk : List Row) (r : Row) : lastN b (tk ++ [r]) = r.n := by
  unfold lastN
  rw [List.getLast?_concat]
theorem takeM_len (b : Int) : ∀ (rs tk : List Row), (takeM b tk rs).length ≤ tk.length + rs.length
  | [], tk => Nat.le_refl _
  | r :: rs, tk => by
    unfold takeM
    refine Nat.le_trans (takeM_len b rs _) ?_
    split
    · rw [List.length_append, List.length_cons, List.length_cons, List.length_nil]; omega
    · rw [List.length_cons]; omega
theorem takeM_good {b : Int} : ∀ {rs tk : List Row}, (∀ r ∈ tk, GoodR r) → (∀ r ∈ rs, GoodR r) → ∀ r ∈ takeM b tk rs, GoodR r
  | [], tk, h, _ => h
  | r :: rs, tk, h, g => by
    unfold takeM
    refine takeM_good (rs := rs) ?_ (fun x hx => g x (List.mem_cons_of_mem _ hx))
    split
    · intro x hx
      rcases List.mem_append.mp hx with hx | hx
      · exact h x hx
      · rw [List.mem_singleton.mp hx]; exact g r List.mem_cons_self
    · exact h
theorem takeM_app (b : Int) : ∀ (rs tk ss : List Row), takeM b tk (rs ++ ss) = takeM b (takeM b tk rs) ss
  | [], tk, ss => rfl
  | r :: rs, tk, ss => by
    rw [List.cons_append]
    show takeM b _ (rs ++ ss) = takeM b (takeM b _ rs) ss
    exact takeM_app b rs _ ss
def PairOkF (f : Str → Option Str) : Prop := ∀ k v, f k = some v → TOk 60 k ∧ TOk 60 v
theorem holdF {gv : KVs} (h : ∀ p ∈ gv, PairOk p) : PairOkF (getP gv) := fun k v e => h (k, v) (getP_mem e)
theorem stepF {f : Str → Option Str} {r : Row} (h : PairOkF f) (g : r.Ok) : PairOkF (stepM f r) := fun k v e => by
  unfold stepM at e
  by_cases c : r.k = k
  · rw [if_pos c] at e
    by_cases d : r.w = "put"
    · rw [if_pos d] at e
      cases e
      exact ⟨c ▸ g.k, g.v⟩
    · rw [if_neg d] at e
      cases e
  · rw [if_neg c] at e
    exact h k v e
theorem foldF {f : Str → Option Str} : ∀ {tk : List Row}, PairOkF f → (∀ r ∈ tk, GoodR r) → PairOkF (tk.foldl stepM f)
  | [], h, _ => h
  | r :: tk, h, g => foldF (tk := tk) (stepF h (g r List.mem_cons_self).ok) fun x hx => g x (List.mem_cons_of_mem _ hx)
theorem Told.ok {f : Str → Option Str} {ps : KVs} (h : PairOkF f) (t : Told f ps) : ∀ p ∈ ps, PairOk p := fun p hp => by
  have := getP_of t.nd hp
  rw [t.get] at this
  exact h _ _ this
/-! ### what stands by an ear, whatever it is made of -/
abbrev ErT := List Addr → Hp → Addr → Int → KVs → List Row → Prop
def spEarInit (K : PySem.W.Frag) (C : Addr) (Er : ErT) : Sp := fun vs H Q _ => ∃ (p dx : Addr) (b : Int) (gv : KVs) (pv : V), vs = [.ref p, .int b, pv] ∧ H p = some (.ins C dx []) ∧ 1 ≤ b ∧ (gv.map (·.1)).Nodup ∧ (∀ x ∈ gv, PairOk x) ∧ gv.length ≤ 200 ∧
  ((pv = .non ∧ gv = []) ∨ ∃ q ts, pv = .ref q ∧ (SqL K H q (ts.map V.ref) ∨ SqT K H q (ts.map V.ref)) ∧ PairsAt H ts gv) ∧
  ∀ F H', Er F H' p b gv [] → (∀ a ∈ F, a = p ∨ H a = none) → Ch H H' [p] → Q .non H'
def spEarHear (Er : ErT) : Sp := fun vs H Q _ => ∃ (F : List Addr) (p q : Addr) (b : Int) (gv : KVs) (tk rs : List Row) (ts : List Addr), vs = [.ref p, .ref q] ∧ Er F H p b gv tk ∧ H q = some (.lst (ts.map V.ref)) ∧ q ∉ F ∧ RowsAt H ts rs ∧ (∀ r ∈ rs, GoodR r) ∧
  gv.length + tk.length + rs.length ≤ 990 ∧ ∀ F' H', Er F' H' p b gv (takeM b tk rs) → Grow F F' H → Ch H H' F → Q (.int (lastN b (takeM b tk rs))) H'
def spEarHeard (Er : ErT) : Sp := fun vs H Q _ => ∃ (F : List Addr) (p : Addr) (b : Int) (gv : KVs) (tk : List Row), vs = [.ref p] ∧ Er F H p b gv tk ∧
  ∀ F' q ts H', Er F' H' p b gv tk → Grow F F' H → Ch H H' F → H q = none → q ∉ F' → H' q = some (.lst (ts.map V.ref)) → RowsAt H' ts tk → Q (.ref q) H'
def spEarState (Er : ErT) : Sp := fun vs H Q _ => ∃ (F : List Addr) (p : Addr) (b : Int) (gv : KVs) (tk : List Row), vs = [.ref p] ∧ Er F H p b gv tk ∧ gv.length + tk.length ≤ 990 ∧ (∀ r ∈ tk, GoodR r) ∧
  ∀ F' q ts ps H', Er F' H' p b gv tk → Grow F F' H → Ch H H' F → H q = none → q ∉ F' → H' q = some (.lst (ts.map V.ref)) → PairsAt H' ts ps → Told (holdM gv tk) ps → Q (.ref q) H'
def spEarMany (Er : ErT) : Sp := fun vs H Q _ => ∃ (F : List Addr) (p : Addr) (b : Int) (gv : KVs) (tk : List Row), vs = [.ref p] ∧ Er F H p b gv tk ∧ ∀ F' H', Er F' H' p b gv tk → Grow F F' H → Ch H H' F → Q (.int tk.length) H'
structure EarApi (P : Program) (w : World) (K : PySem.W.Frag) (mg : Str → Option Value) (base : Heap) (C : Addr) (Er : ErT) (hs : List Str) : Prop where
  frame : ∀ {F H H' p b gv tk l}, Er F H p b gv tk → Ch H H' l → (∀ a ∈ F, a ∉ l) → Er F H' p b gv tk
  own : ∀ {F H p b gv tk}, Er F H p b gv tk → ∀ a ∈ F, ∃ o, H a = some o
  inst : ∀ {F H p b gv tk}, Er F H p b gv tk → p ∈ F ∧ ∃ dx fs, H p = some (.ins C dx fs) ∧ ∀ m ∈ ([("hear" : Str), "heard", "state", "many"] : List Str), fs.lookup m = none
  make : ∃ f fd ps, Mk K C f ∧ FnOk P w K mg base CX0 4 f fd ps (spEarInit K C Er) ∧ Binds K fd ps [] ∧ (∃ ds, Vals [.non] ds ∧ Binds K fd ps ds) ∧ (∃ ds, Vals [.int 1, .non] ds ∧ Binds K fd ps ds) ∧
    ∃ g, KBn K fd ps 1 ["pairs", "start"] g fun vs zs => vs ++ zs.reverse
  hear : MDef P w K mg base C "hear" CX0 4 (spEarHear Er)
  heard : MDef P w K mg base C "heard" CX0 4 (spEarHeard Er)
  state : ("state" : Str) ∈ hs → MDef P w K mg base C "state" CX0 4 (spEarState Er)
  many : ("many" : Str) ∈ hs → MDef P w K mg base C "many" CX0 4 (spEarMany Er)
end KB

namespace KB
open PySem L2 L2H LX
/-! ### tables of any kind, beside the dicts that hold them -/
section
variable {α β : Type} [DecidableEq α]
def getA (d : List (α × β)) (k : α) : Option β := (d.find? fun p => decide (p.1 = k)).map (·.2)
def putA (d : List (α × β)) (k : α) (v : β) : List (α × β) := if (d.any fun p => decide (p.1 = k)) = true then d.map (fun p => if p.1 = k then (p.1, v) else p) else d ++ [(k, v)]
def dropA (d : List (α × β)) (k : α) : List (α × β) := d.filter fun p => decide (p.1 ≠ k)
theorem getA_nil (k : α) : getA ([] : List (α × β)) k = none := rfl
theorem getA_pos {p : α × β} {r : List (α × β)} {k : α} (e : p.1 = k) : getA (p :: r) k = some p.2 := by
  unfold getA
  rw [List.find?_cons_of_pos (by exact decide_eq_true e)]; rfl
theorem getA_neg {p : α × β} {r : List (α × β)} {k : α} (e : ¬ p.1 = k) : getA (p :: r) k = getA r k := by
  unfold getA
  rw [List.find?_cons_of_neg (by rw [decide_eq_false e]; decide)]
theorem getA_any (d : List (α × β)) (k : α) : (d.any fun p => decide (p.1 = k)) = (getA d k).isSome := by
  induction d with
  | nil => rfl
  | cons p r ih =>
    rw [List.any_cons]
    by_cases e : p.1 = k
    · rw [getA_pos e, decide_eq_true e]; rfl
    · rw [getA_neg e, decide_eq_false e, Bool.false_or, ih]
theorem getA_none {d : List (α × β)} {k : α} : getA d k = none ↔ k ∉ d.map (·.1) := by
  rw [← Option.not_isSome_iff_eq_none, ← getA_any, List.any_eq_true]
  constructor
  · intro h m
    obtain ⟨p, hp, e⟩ := List.mem_map.mp m
    exact h ⟨p, hp, decide_eq_true e⟩
  · rintro h ⟨p, hp, e⟩
    exact h (List.mem_map.mpr ⟨p, hp, of_decide_eq_true e⟩)
theorem getA_mem {d : List (α × β)} {k : α} {v : β} (h : getA d k = some v) : (k, v) ∈ d := by
  induction d with
  | nil => cases h
  | cons p r ih =>
    by_cases e : p.1 = k
    · rw [getA_pos e] at h
      have : p.2 = v := Option.some.inj h
      rw [← this, ← e]
      exact List.mem_cons_self
    · rw [getA_neg e] at h
      exact List.mem_cons_of_mem _ (ih h)
theorem getA_of {d : List (α × β)} (n : (d.map (·.1)).Nodup) {p : α × β} (h : p ∈ d) : getA d p.1 = some p.2 := by
  induction d with
  | nil => cases h
  | cons q r ih =>
    rw [List.map_cons, List.nodup_cons] at n
    rcases List.mem_cons.mp h with e | h
    · subst e
      exact getA_pos rfl
    · rw [getA_neg fun z => n.1 (z ▸ List.mem_map.mpr ⟨p, h, rfl⟩)]
      exact ih n.2 h
theorem putA_new {d : List (α × β)} {k : α} {v : β} (h : getA d k = none) : putA d k v = d ++ [(k, v)] := by
  unfold putA
  rw [getA_any, h, if_neg (fun z => by cases z)]
theorem keys_putA_old {d : List (α × β)} {k : α} {v : β} (h : (d.any fun p => decide (p.1 = k)) = true) : (putA d k v).map (·.1) = d.map (·.1) := by
  unfold putA
  rw [if_pos h, List.map_map]
  refine List.map_congr_left fun p _ => ?_
  by_cases z : p.1 = k
  · simp only [Function.comp_apply, if_pos z]
  · simp only [Function.comp_apply, if_neg z]
theorem putA_nodup {d : List (α × β)} {k : α} {v : β} (n : (d.map (·.1)).Nodup) : ((putA d k v).map (·.1)).Nodup := by
  cases h : getA d k with
  | some x => rw [keys_putA_old (by rw [getA_any, h]; rfl)]; exact n
  | none =>
    rw [putA_new h, List.map_append, List.map_cons, List.map_nil]
    refine List.nodup_append.mpr ⟨n, List.nodup_cons.mpr ⟨fun z => (nomatch z), List.nodup_nil⟩, fun a ha b hb z => getA_none.mp h ?_⟩
    have z2 : a = k := z.trans (List.mem_singleton.mp hb)
    rw [← z2]
    exact ha
theorem putA_len (d : List (α × β)) (k : α) (v : β) : (putA d k v).length ≤ d.length + 1 := by
  unfold putA
  split
  · rw [List.length_map]; exact Nat.le_succ _
  · rw [List.length_append]; exact Nat.le_refl _
theorem dropA_len (d : List (α × β)) (k : α) : (dropA d k).length ≤ d.length := List.length_filter_le _ _
theorem dropA_nodup {d : List (α × β)} {k : α} (n : (d.map (·.1)).Nodup) : ((dropA d k).map (·.1)).Nodup := n.sublist (List.Sublist.map _ List.filter_sublist)
theorem getA_mapneg {d : List (α × β)} {k j : α} {v : β} (e : ¬ k = j) : getA (d.map fun p => if p.1 = k then (p.1, v) else p) j = getA d j := by
  induction d with
  | nil => rfl
  | cons p r ih =>
    rw [List.map_cons]
    by_cases z : p.1 = k
    · rw [if_pos z, getA_neg (p := (p.1, v)) (fun y => e (z.symm.trans y)), getA_neg (p := p) (fun y => e (z.symm.trans y)), ih]
    · rw [if_neg z]
      by_cases y : p.1 = j
      · rw [getA_pos y, getA_pos y]
      · rw [getA_neg y, getA_neg y, ih]
theorem getA_mappos {d : List (α × β)} {k : α} {v : β} (h : (getA d k).isSome = true) : getA (d.map fun p => if p.1 = k then (p.1, v) else p) k = some v := by
  induction d with
  | nil => cases h
  | cons p r ih =>
    rw [List.map_cons]
    by_cases z : p.1 = k
    · rw [if_pos z]; exact getA_pos z
    · rw [if_neg z, getA_neg z]
      rw [getA_neg z] at h
      exact ih h
theorem getA_app {d : List (α × β)} {k j : α} {v : β} (h : getA d k = none) : getA (d ++ [(k, v)]) j = if k = j then some v else getA d j := by
  induction d with
  | nil =>
    show getA [(k, v)] j = _
    by_cases e : k = j
    · rw [if_pos e]; exact getA_pos e
    · rw [if_neg e]; exact getA_neg e
  | cons p r ih =>
    have z : ¬ p.1 = k := fun y => by rw [getA_pos y] at h; cases h
    rw [getA_neg z] at h
    rw [List.cons_append]
    by_cases e : p.1 = j
    · rw [getA_pos e, getA_pos e, if_neg fun y => z (e.trans y.symm)]
    · rw [getA_neg e, getA_neg e, ih h]
theorem getA_putA (d : List (α × β)) (k j : α) (v : β) : getA (putA d k v) j = if k = j then some v else getA d j := by
  cases h : getA d k with
  | none => rw [putA_new h, getA_app h]
  | some x =>
    have e : (d.any fun p => decide (p.1 = k)) = true := by rw [getA_any, h]; rfl
    unfold putA
    rw [if_pos e]
    by_cases z : k = j
    · rw [if_pos z, ← z]
      exact getA_mappos (by rw [h]; rfl)
    · rw [if_neg z]
      exact getA_mapneg z
theorem getA_dropA (d : List (α × β)) (k j : α) : getA (dropA d k) j = if k = j then none else getA d j := by
  induction d with
  | nil => split <;> rfl
  | cons p r ih =>
    unfold dropA at ih ⊢
    by_cases z : p.1 = k
    · rw [List.filter_cons_of_neg (by simp [z]), ih]
      by_cases e : k = j
      · rw [if_pos e, if_pos e]
      · rw [if_neg e, if_neg e, getA_neg fun y => e (z.symm.trans y)]
    · rw [List.filter_cons_of_pos (by simp [z])]
      by_cases e : p.1 = j
      · rw [getA_pos e, getA_pos e, if_neg fun y => z (e.trans y.symm)]
      · rw [getA_neg e, getA_neg e, ih]
/-- a dict's pairs beside a table's -/
abbrev DRel (inj : α → Key) (R : β → V → Prop) (d : List (α × β)) (kvs : List (Key × V)) : Prop := Paired (fun (p : α × β) (q : Key × V) => q.1 = inj p.1 ∧ R p.2 q.2) d kvs
theorem DRel.mono {inj : α → Key} {R R' : β → V → Prop} {d : List (α × β)} {kvs : List (Key × V)} (h : DRel inj R d kvs) (s : ∀ b v, R b v → R' b v) : DRel inj R' d kvs := Paired.mono (fun _ _ q => ⟨q.1, s _ _ q.2⟩) h
theorem DRel.get {inj : α → Key} (hi : ∀ a b, inj a = inj b → a = b) {R : β → V → Prop} : ∀ {d : List (α × β)} {kvs : List (Key × V)}, DRel inj R d kvs → ∀ k, (getA d k = none ∧ valV kvs (inj k) = none) ∨ ∃ b v, getA d k = some b ∧ valV kvs (inj k) = some v ∧ R b v
  | _, _, .nil, k => .inl ⟨rfl, rfl⟩
  | p :: r, q :: s, .cons h m, k => by
    by_cases e : p.1 = k
    · exact .inr ⟨p.2, q.2, getA_pos e, valV_pos (h.1.trans (congrArg inj e)), h.2⟩
    · rw [getA_neg e, valV_neg (fun z => e (hi _ _ (h.1.symm.trans z)))]
      exact DRel.get hi m k
theorem DRel.some_ {inj : α → Key} (hi : ∀ a b, inj a = inj b → a = b) {R : β → V → Prop} {d : List (α × β)} {kvs : List (Key × V)} (h : DRel inj R d kvs) {k : α} {b : β} (e : getA d k = some b) : ∃ v, valV kvs (inj k) = some v ∧ R b v := by
  rcases h.get hi k with ⟨z, _⟩ | ⟨b', v, e1, e2, e3⟩
  · rw [e] at z; cases z
  · rw [e] at e1
    cases e1
    exact ⟨v, e2, e3⟩
theorem DRel.none_ {inj : α → Key} (hi : ∀ a b, inj a = inj b → a = b) {R : β → V → Prop} {d : List (α × β)} {kvs : List (Key × V)} (h : DRel inj R d kvs) {k : α} (e : getA d k = none) : valV kvs (inj k) = none := by
  rcases h.get hi k with ⟨_, z⟩ | ⟨b', v, e1, e2, e3⟩
  · exact z
  · rw [e] at e1; cases e1
theorem DRel.isSome {inj : α → Key} (hi : ∀ a b, inj a = inj b → a = b) {R : β → V → Prop} {d : List (α × β)} {kvs : List (Key × V)} (h : DRel inj R d kvs) (k : α) : (valV kvs (inj k)).isSome = (getA d k).isSome := by
  rcases h.get hi k with ⟨z1, z2⟩ | ⟨b', v, e1, e2, e3⟩
  · rw [z1, z2]; rfl
  · rw [e1, e2]; rfl
theorem DRel.put {inj : α → Key} (hi : ∀ a b, inj a = inj b → a = b) {R : β → V → Prop} {d : List (α × β)} {kvs : List (Key × V)} (h : DRel inj R d kvs) {k : α} {b : β} {v : V} (r : R b v) : DRel inj R (putA d k b) (putK kvs (inj k) v) := by
  have any_ : (kvs.any fun kv => decide (kv.1 = inj k)) = d.any fun p => decide (p.1 = k) := by
    rw [valV_any, getA_any]
    exact h.isSome hi k
  unfold putA putK
  rw [any_]
  by_cases e : (d.any fun p => decide (p.1 = k)) = true
  · rw [if_pos e, if_pos e]
    clear e any_
    induction h with
    | nil => exact .nil
    | cons x m ih =>
      rename_i p q l1 l2
      refine .cons ?_ ih
      show (if q.1 = inj k then (q.1, v) else q).1 = inj (if p.1 = k then (p.1, b) else p).1 ∧ R (if p.1 = k then (p.1, b) else p).2 (if q.1 = inj k then (q.1, v) else q).2
      by_cases z : p.1 = k
      · rw [if_pos z, if_pos (x.1.trans (congrArg inj z))]
        exact ⟨x.1, r⟩
      · rw [if_neg z, if_neg fun y => z (hi _ _ (x.1.symm.trans y))]
        exact x
  · rw [if_neg e, if_neg e]
    exact Paired.snoc h ⟨rfl, r⟩
theorem DRel.drop {inj : α → Key} (hi : ∀ a b, inj a = inj b → a = b) {R : β → V → Prop} {d : List (α × β)} {kvs : List (Key × V)} (h : DRel inj R d kvs) (k : α) : DRel inj R (dropA d k) (dropK kvs (inj k)) := by
  unfold dropA dropK
  induction h with
  | nil => exact .nil
  | cons x m ih =>
    rename_i p q l1 l2
    by_cases z : p.1 = k
    · rw [List.filter_cons_of_neg (by simp [z]), List.filter_cons_of_neg (by simp [x.1, z])]
      exact ih
    · have z2 : ¬ q.1 = inj k := fun y => z (hi _ _ (x.1.symm.trans y))
      rw [List.filter_cons_of_pos (by simp [z]), List.filter_cons_of_pos (by simp [z2])]
      exact .cons x ih
theorem DRel.keys {inj : α → Key} {R : β → V → Prop} {d : List (α × β)} {kvs : List (Key × V)} (h : DRel inj R d kvs) : kvs.map (·.1) = (d.map (·.1)).map inj := by
  induction h with
  | nil => rfl
  | cons x m ih => rw [List.map_cons, List.map_cons, List.map_cons, ih, x.1]
theorem DRel.len {inj : α → Key} {R : β → V → Prop} {d : List (α × β)} {kvs : List (Key × V)} (h : DRel inj R d kvs) : kvs.length = d.length := (Paired.length h).symm
end
theorem inl_inj (a b : Int) (h : (Sum.inl a : Key) = Sum.inl b) : a = b := Sum.inl.inj h
theorem inr_inj (a b : Str) (h : (Sum.inr a : Key) = Sum.inr b) : a = b := Sum.inr.inj h
end KB

namespace KA1
open PySem L2 L2H LX KB
/-! ### pairs of ints: the mathematics -/
abbrev Al := List (Int × Int)
def kv (l : Al) : List (Key × V) := l.map fun p => (Sum.inl p.1, V.int p.2)
def aget : Al → Int → Option Int
  | [], _ => none
  | p :: r, k => if p.1 = k then some p.2 else aget r k
def aput (l : Al) (k v : Int) : Al :=
  if (l.any fun p => decide (p.1 = k)) = true then l.map (fun p => if p.1 = k then (p.1, v) else p) else l ++ [(k, v)]
def adrop (l : Al) (k : Int) : Al := l.filter fun p => decide (p.1 ≠ k)
def NDup (l : Al) : Prop := (l.map (·.1)).Nodup
theorem kv_len (l : Al) : (kv l).length = l.length := List.length_map _
theorem inl_iff {a b : Int} : ((Sum.inl a : Key) = Sum.inl b) ↔ a = b := ⟨fun h => Sum.inl.inj h, fun h => by rw [h]⟩
theorem valV_kv (k : Int) : ∀ l : Al, valV (kv l) (Sum.inl k) = (aget l k).map V.int
  | [] => rfl
  | p :: r => by
    show valV ((Sum.inl p.1, V.int p.2) :: kv r) (Sum.inl k) = _
    by_cases h : p.1 = k
    · rw [valV_pos (p := ((Sum.inl p.1 : Key), V.int p.2)) (show (Sum.inl p.1 : Key) = Sum.inl k by rw [h])]
      simp [aget, h]
    · rw [valV_neg (p := ((Sum.inl p.1 : Key), V.int p.2)) (fun e => h (inl_iff.mp e)), valV_kv k r]
      simp [aget, h]
theorem any_kv (k : Int) (l : Al) : ((kv l).any fun q => decide (q.1 = (Sum.inl k : Key))) = l.any fun p => decide (p.1 = k) := by
  unfold kv
  rw [List.any_map]
  congr 1
  funext p
  show decide ((Sum.inl p.1 : Key) = Sum.inl k) = decide (p.1 = k)
  by_cases h : p.1 = k
  · rw [decide_eq_true h, decide_eq_true (inl_iff.mpr h)]
  · rw [decide_eq_false h, decide_eq_false fun e => h (inl_iff.mp e)]
theorem put_kv (l : Al) (k v : Int) : putK (kv l) (Sum.inl k : Key) (V.int v) = kv (aput l k v) := by
  unfold putK aput
  rw [any_kv]
  by_cases h : (l.any fun p => decide (p.1 = k)) = true
  · rw [if_pos h, if_pos h]
    unfold kv
    rw [List.map_map, List.map_map]
    congr 1
    funext p
    show (if (Sum.inl p.1 : Key) = Sum.inl k then ((Sum.inl p.1 : Key), V.int v) else (Sum.inl p.1, V.int p.2)) = ((Sum.inl (if p.1 = k then (p.1, v) else p).1 : Key), V.int (if p.1 = k then (p.1, v) else p).2)
    by_cases e : p.1 = k
    · rw [if_pos (inl_iff.mpr e), if_pos e]
    · rw [if_neg (fun z => e (inl_iff.mp z)), if_neg e]
  · rw [if_neg h, if_neg h]
    unfold kv
    rw [List.map_append]; rfl
theorem drop_kv (l : Al) (k : Int) : dropK (kv l) (Sum.inl k : Key) = kv (adrop l k) := by
  unfold dropK adrop kv
  rw [List.filter_map]
  congr 1
  congr 1
  funext p
  show decide ((Sum.inl p.1 : Key) ≠ Sum.inl k) = decide (p.1 ≠ k)
  exact decide_eq_decide.mpr (not_congr inl_iff)
theorem mapint_inj {a b : Option Int} (h : a.map V.int = b.map V.int) : a = b := by
  cases a <;> cases b <;> simp_all
theorem aget_put (l : Al) (k v j : Int) : aget (aput l k v) j = if j = k then some v else aget l j := by
  have h : (aget (aput l k v) j).map V.int = (if j = k then some v else aget l j).map V.int := by
    rw [← valV_kv, ← put_kv, valV_put]
    by_cases e : j = k
    · rw [if_pos (inl_iff.mpr e), if_pos e]; rfl
    · rw [if_neg (fun z => e (inl_iff.mp z)), if_neg e, valV_kv]
  exact mapint_inj h
theorem aget_any (k : Int) : ∀ l : Al, (l.any fun p => decide (p.1 = k)) = (aget l k).isSome
  | [] => rfl
  | p :: r => by
    rw [List.any_cons, aget_any k r]
    by_cases h : p.1 = k
    · simp [aget, h]
    · simp [aget, h]
theorem len_put (l : Al) (k v : Int) : (aput l k v).length ≤ l.length + 1 := by
  unfold aput
  split
  · rw [List.length_map]; omega
  · rw [List.length_append]; simp
theorem len_drop (l : Al) (k : Int) : (adrop l k).length ≤ l.length := List.length_filter_le _ _
theorem aget_mem {k v : Int} : ∀ {l : Al}, aget l k = some v → (k, v) ∈ l
  | [], h => by cases h
  | p :: r, h => by
    unfold aget at h
    by_cases e : p.1 = k
    · rw [if_pos e] at h
      cases h
      exact List.mem_cons.mpr (.inl (by rw [← e]))
    · rw [if_neg e] at h
      exact List.mem_cons.mpr (.inr (aget_mem h))
theorem aget_of {k v : Int} : ∀ {l : Al}, NDup l → (k, v) ∈ l → aget l k = some v
  | [], _, h => by cases h
  | p :: r, nd, h => by
    obtain ⟨h1, h2⟩ := List.nodup_cons.mp (show (p.1 :: r.map (·.1)).Nodup from nd)
    unfold aget
    rcases List.mem_cons.mp h with e | e
    · rw [← e]; simp
    · have ne : ¬ p.1 = k := fun z => h1 (List.mem_map.mpr ⟨(k, v), e, z.symm⟩)
      rw [if_neg ne]
      exact aget_of h2 e
theorem nd_adrop {l : Al} (k : Int) (h : NDup l) : NDup (adrop l k) := h.sublist (List.filter_sublist.map _)
theorem nd_aput {l : Al} (k v : Int) (h : NDup l) : NDup (aput l k v) := by
  unfold aput
  by_cases e : (l.any fun p => decide (p.1 = k)) = true
  · rw [if_pos e]
    unfold NDup
    rw [List.map_map]
    have q : ((fun x : Int × Int => x.1) ∘ fun p : Int × Int => if p.1 = k then (p.1, v) else p) = fun p => p.1 := by
      funext p
      show (if p.1 = k then (p.1, v) else p).1 = p.1
      split <;> rfl
    rw [q]
    exact h
  · rw [if_neg e]
    unfold NDup
    rw [List.map_append]
    refine L2.nd_snoc h fun m => e ?_
    obtain ⟨p, hp, ep⟩ := List.mem_map.mp m
    exact List.any_eq_true.mpr ⟨p, hp, decide_eq_true ep⟩
theorem aget_drop {l : Al} {k j v : Int} (nd : NDup l) (h : aget (adrop l k) j = some v) : aget l j = some v ∧ j ≠ k := by
  have m := List.mem_filter.mp (aget_mem h)
  exact ⟨aget_of nd m.1, of_decide_eq_true m.2⟩
theorem aget_drop_ne {l : Al} {k j v : Int} (nd : NDup l) (h : aget l j = some v) (ne : j ≠ k) : aget (adrop l k) j = some v :=
  aget_of (nd_adrop k nd) (List.mem_filter.mpr ⟨aget_mem h, decide_eq_true ne⟩)
/-- which end up to a tick -/
def dueL (E : Al) (u : Int) : Al := (E.filter fun p => decide (p.2 ≤ u)).map fun p => (p.2, p.1)
/-- the order of pairs -/
def Asc (l : Al) : Prop := l.Pairwise fun x y => SrtO.lexB y x = false
theorem asc_uniq : ∀ {p q : Al}, Asc p → Asc q → p.Perm q → p = q
  | [], q, _, _, h => (List.nil_perm.mp h).symm
  | a :: p, q, hp, hq, h => by
    cases q with
    | nil => exact absurd h.length_eq (by simp)
    | cons b q =>
      obtain ⟨p1, p2⟩ := List.pairwise_cons.mp hp
      obtain ⟨q1, q2⟩ := List.pairwise_cons.mp hq
      have ab : a = b := by
        have ma : a ∈ b :: q := h.mem_iff.mp List.mem_cons_self
        have mb : b ∈ a :: p := h.mem_iff.mpr List.mem_cons_self
        rcases List.mem_cons.mp ma with e | ma
        · exact e
        rcases List.mem_cons.mp mb with e | mb
        · exact e.symm
        have x1 := SrtO.lexB_no.mp (p1 b mb)
        have x2 := SrtO.lexB_no.mp (q1 a ma)
        obtain ⟨a1, a2⟩ := a
        obtain ⟨b1, b2⟩ := b
        dsimp only at x1 x2
        have e1 : a1 = b1 := by omega
        have e2 : a2 = b2 := by omega
        rw [e1, e2]
      subst ab
      rw [asc_uniq p2 q2 (List.perm_cons a |>.mp h)]

end KA1

namespace KL
open PySem L2 L2H LX KB KA1
/-! ### a lot of leases -/
theorem k_tg : ¬ (("_ticks" : Str) = "_given") := by decide +kernel
theorem k_eg : ¬ (("_ends" : Str) = "_given") := by decide +kernel
theorem k_et : ¬ (("_ends" : Str) = "_ticks") := by decide +kernel
def flds (n : Int) (dt de : Addr) : List (Str × V) := putF "_ends" (.ref de) (putF "_ticks" (.ref dt) (putF "_given" (.int n) []))
theorem flds_eq (n : Int) (dt de : Addr) : flds n dt de = [(("_given" : Str), V.int n), ("_ticks", V.ref dt), ("_ends", V.ref de)] := by
  have h1 : ¬ (("_given" : Str) = "_ticks") := fun e => k_tg e.symm
  have h2 : ¬ (("_given" : Str) = "_ends") := fun e => k_eg e.symm
  have h3 : ¬ (("_ticks" : Str) = "_ends") := fun e => k_et e.symm
  unfold flds
  simp only [putF, if_neg h1, if_neg h2, if_neg h3]
theorem flds_n (n : Int) (dt de : Addr) : (flds n dt de).lookup ("_given" : Str) = some (.int n) := by
  unfold flds
  rw [lookup_putF, if_neg (fun e => k_eg e.symm), lookup_putF, if_neg (fun e => k_tg e.symm), lookup_putF, if_pos rfl]
theorem flds_t (n : Int) (dt de : Addr) : (flds n dt de).lookup ("_ticks" : Str) = some (.ref dt) := by
  unfold flds
  rw [lookup_putF, if_neg (fun e => k_et e.symm), lookup_putF, if_pos rfl]
theorem flds_e (n : Int) (dt de : Addr) : (flds n dt de).lookup ("_ends" : Str) = some (.ref de) := by
  unfold flds
  rw [lookup_putF, if_pos rfl]
theorem flds_no (n : Int) (dt de : Addr) {m : Str} (h1 : ¬ m = "_given") (h2 : ¬ m = "_ticks") (h3 : ¬ m = "_ends") : (flds n dt de).lookup m = none := by
  unfold flds
  rw [lookup_putF, if_neg h3, lookup_putF, if_neg h2, lookup_putF, if_neg h1]
  all_goals rfl
theorem flds_put (n y : Int) (dt de : Addr) : putF "_given" (.int y) (flds n dt de) = flds y dt de := by
  rw [flds_eq, flds_eq]
  simp only [putF, if_pos]
structure LotAt (C : Addr) (H : Hp) (p dt de : Addr) (n : Int) (T E : Al) : Prop where
  ob : ∃ dx, H p = some (.ins C dx (flds n dt de))
  tk : H dt = some (.dK (kv T))
  en : H de = some (.dK (kv E))
  ne : dt ≠ de
/-- what the walk asks of the class -/
structure LeaT (K : PySem.W.Frag) (mg : Str → Option Value) (C : Addr) : Prop where
  cl : Cls K C
  nG : NoAttr K C "_given"
  nT : NoAttr K C "_ticks"
  nE : NoAttr K C "_ends"
  mgC : mg "Leases" = some (.ref C)
/-- an own error class, made with a text -/
structure ErrT (K : PySem.W.Frag) (mg : Str → Option Value) (x : Str) (B : Addr) : Prop where
  g : mg x = some (.ref B)
  x : PySem.W.excIn K B [.type "ValueError", .type "Exception", .type "BaseException", .type "object"] "ValueError.__new__" = true
  k : PySem.W.keepIn K (.ref B) = true
  b : PySem.W.subIn K (.ref B) (.type "BaseException") = some true
  t : PySem.W.typeIn K (.ref B) = some (.type "type")
/-! ### the promises -/
def spLeInit (C : Addr) : Sp := fun vs H Q _ => ∃ (p dx : Addr), vs = [.ref p] ∧ H p = some (.ins C dx []) ∧
  ∀ (dt de : Addr) (H' : Hp), H dt = none → H de = none → LotAt C H' p dt de 0 [] [] → Ch H H' [p] → Q .non H'
def spLeRefuse (C NL : Addr) : Sp := fun vs H Q E => ∃ (p dt de : Addr) (n k : Int) (T En : Al), vs = [.ref p, .int k] ∧ LotAt C H p dt de n T En ∧
  (aget En k = none → E (.ref NL) none H) ∧ ((aget En k).isSome = true → Q .non H)
def spLeGrant (C BT : Addr) : Sp := fun vs H Q E => ∃ (p dt de : Addr) (n now t : Int) (T En : Al), vs = [.ref p, .int now, .int t] ∧ LotAt C H p dt de n T En ∧ T.length ≤ 900 ∧ En.length ≤ 900 ∧
  (t < 1 ∨ 1000000 < t → E (.ref BT) none H) ∧
  (1 ≤ t → t ≤ 1000000 → ∀ H', LotAt C H' p dt de (n + 1) (aput T (n + 1) t) (aput En (n + 1) (now + t)) → Ch H H' [p, dt, de] → Q (.int (n + 1)) H')
def spLeRenew (C NL : Addr) : Sp := fun vs H Q E => ∃ (p dt de : Addr) (n now k : Int) (T En : Al), vs = [.ref p, .int now, .int k] ∧ LotAt C H p dt de n T En ∧ En.length ≤ 900 ∧
  (aget En k = none → E (.ref NL) none H) ∧
  ((aget En k).isSome = true → ∃ t, aget T k = some t ∧ ∀ H', LotAt C H' p dt de n T (aput En k (now + t)) → Ch H H' [p, dt, de] → Q .non H')
def spLeDrop (C NL : Addr) : Sp := fun vs H Q E => ∃ (p dt de : Addr) (n k : Int) (T En : Al), vs = [.ref p, .int k] ∧ LotAt C H p dt de n T En ∧
  (aget En k = none → E (.ref NL) none H) ∧
  ((aget En k).isSome = true → (aget T k).isSome = true ∧ ∀ H', LotAt C H' p dt de n (adrop T k) (adrop En k) → Ch H H' [p, dt, de] → Q .non H')
/-- a list's items: tuples of two ints -/
abbrev Tups (H : Hp) (ts : List Addr) (ps : Al) : Prop := Paired (fun (t : Addr) (p : Int × Int) => H t = some (.tup [.int p.1, .int p.2])) ts ps
def spLeDue (C : Addr) : Sp := fun vs H Q _ => ∃ (p dt de : Addr) (n u : Int) (T En : Al), vs = [.ref p, .int u] ∧ LotAt C H p dt de n T En ∧ En.length ≤ 900 ∧
  ∀ (q : Addr) (ts : List Addr) (ps : Al) (H' : Hp), H q = none → H' q = some (.lst (ts.map V.ref)) → Tups H' ts ps → Asc ps → ps.Perm (dueL En u) → Same H H' → Q (.ref q) H'
section
variable {P : Program} {w : World} {K : PySem.W.Frag} {mg : Str → Option Value} {base : Heap}
theorem ok_Leases_init {f C : Addr} {fd : FuncData} (F : Fun K "__init__" "Leases.__init__" s_Leases_init f fd) (T : LeaT K mg C) : FnOk P w K mg base CX0 1 f fd ["self"] (spLeInit C) := by
  refine F.ok sc_Leases_init (fun vs H Q E h => ?_) (fun cdv A outer s H vs Q E hr h => ?_)
  · obtain ⟨p, dx, rfl, _⟩ := h
    rfl
  · obtain ⟨p, dx, rfl, hp, k⟩ := h
    refine ⟨_, pss_cons (ps_fld (pv 0) pe_int rfl) (pss_cons (ps_fld (pv 0) pe_dnewK rfl) (pss_one (ps_fld (pv 0) pe_dnewK rfl))), ?_⟩
    refine ⟨_, rfl, p, C, dx, [], rfl, hp, T.cl, T.nG, (by show 0 < 1000; decide), ?_⟩
    intro dt hdt
    have npt : p ≠ dt := ne_of_none upd_same hdt
    refine ⟨_, rfl, p, C, dx, _, rfl, (by rw [upd_ne npt]; exact upd_same), T.cl, T.nT, (by show 1 < 1000; decide), ?_⟩
    intro de hde
    have npe : p ≠ de := ne_of_none upd_same hde
    have nte : dt ≠ de := ne_of_none (by rw [upd_ne npt.symm]; exact upd_same) hde
    refine ⟨_, rfl, p, C, dx, _, rfl, (by rw [upd_ne npe]; exact upd_same), T.cl, T.nE, (by show 2 < 1000; decide), ?_⟩
    have d0 : H dt = none := by rw [upd_ne npt.symm] at hdt; exact hdt
    have e0 : H de = none := by rw [upd_ne npe.symm, upd_ne nte.symm, upd_ne npe.symm] at hde; exact hde
    refine k dt de _ d0 e0 ⟨⟨dx, upd_same⟩, ?_, ?_, nte⟩ ((((((Ch.refl H [p]).mut (by simp) hp (fun _ z => by cases z)).new _ d0).mut (by simp) hp (fun _ z => by cases z)).new _ e0).mut (by simp) hp (fun _ z => by cases z))
    · rw [upd_ne npt.symm, upd_ne nte, upd_ne npt.symm]; exact upd_same
    · rw [upd_ne npe.symm]; exact upd_same
theorem ok_Leases_refuse {f C NL : Addr} {fd : FuncData} (F : Fun K "refuse_unknown" "Leases.refuse_unknown" s_Leases_refuse_unknown f fd) (T : LeaT K mg C) (N : ErrT K mg "NoLease" NL) : FnOk P w K mg base (L2.CX P w) 1 f fd ["self", "lease"] (spLeRefuse C NL) := by
  refine F.okX sc_Leases_refuse_unknown (fun vs H Q E h => ?_) (fun cdv A outer s H vs Q E hr h => ?_)
  · obtain ⟨p, dt, de, n, k, T, En, rfl, _⟩ := h
    rfl
  · obtain ⟨p, dt, de, n, k, T1, En, rfl, L, h1, h2⟩ := h
    have hu := hu_of hr
    obtain ⟨⟨dx, hp⟩, ht, he, _⟩ := id L
    refine ⟨_, pss_one (ps_if (pt_cmp (pc_dnotin hu (pv 1) (pe_fld (pv 0) rfl)))
      (pss_one (ps_raise rfl (takes_of rfl rfl rfl rfl) (pmk_own PySem.F.excBase_ValueError N.x N.g N.k (raises_own N.b N.t) rfl))) pss_nil), ?_⟩
    refine ⟨_, rfl, _, rfl, p, C, dx, _, _, rfl, hp, T.cl, T.nE, flds_e _ _ _, de, _, rfl, DGet.k (k := Sum.inl k) he, _, rfl, ?_⟩
    rw [valV_kv]
    cases e : aget En k with
    | none =>
      refine iteT ?_
      exact h1 e
    | some v =>
      refine iteF ?_
      exact h2 (by rw [e]; rfl)
end
theorem small900 {l : Al} (h : l.length ≤ 900) : (kv l).length < sizeLine := by
  rw [kv_len]
  exact small1000 (by omega)

end KL

namespace KB
open PySem L2 L2H LX
/-! ### rooms by themselves, as plain tables -/
/-- a watcher: what it wants, up to where it has had all, up to where it was told all -/
structure Wt where
  pre : Str
  had : Int
  told : Int
structure Rm where
  now : Int
  given : Nat
  span : Int → Option Int
  ends : Int → Option Int
  held : Str → Option (Str × Int)
  rows : List Row
  gone : Nat
  met : Nat
  wat : Int → Option Wt
def Rm.init : Rm := ⟨0, 0, fun _ => none, fun _ => none, fun _ => none, [], 0, 0, fun _ => none⟩
def setF {α β : Type} [DecidableEq α] (f : α → Option β) (k : α) (v : Option β) : α → Option β := fun j => if k = j then v else f j
inductive Deed
  | grant (t : Int)
  | renew (h : Int)
  | drop (h : Int)
  | wait (t : Int)
  | put (k v : Str) (h : Int)
  | cut (k : Str) (h : Int)
def Deed.V : Deed → List V
  | .grant t => [.str "grant", .int t]
  | .renew h => [.str "renew", .int h]
  | .drop h => [.str "drop", .int h]
  | .wait t => [.str "wait", .int t]
  | .put k v h => [.str "put", .str k, .str v, .int h]
  | .cut k h => [.str "cut", .str k, .int h]
inductive Kd
  | ticks
  | lease
  | key
  | held
inductive Ans
  | num (n : Int)
  | non
  | bad (w : Kd)
def Kd.s : Kd → Str
  | .ticks => "BadTicks"
  | .lease => "NoLease"
  | .key => "NoKey"
  | .held => "Held"
def Ans.V : Ans → V
  | .num n => .int n
  | .non => .non
  | .bad w => .str w.s
def noteM (s : Rm) (t : Int) (w k v : Str) : Rm := { s with rows := s.rows ++ [⟨(s.rows.length : Int) + 1, t, w, k, v⟩] }
def cutM (t : Int) (s : Rm) (k : Str) : Rm := noteM { s with held := setF s.held k none } t "cut" k ""
def cutAll (s : Rm) (t : Int) (ks : List Str) : Rm := ks.foldl (cutM t) s
/-- the keys that a lease holds, in their order -/
structure HandKeys (held : Str → Option (Str × Int)) (h : Int) (ks : List Str) : Prop where
  srt : PyProof.Rows.sortedS ks = true
  nd : ks.Nodup
  mem : ∀ k, k ∈ ks ↔ ∃ v, held k = some (v, h)
theorem HandKeys.uniq {held : Str → Option (Str × Int)} {h : Int} {ks js : List Str} (a : HandKeys held h ks) (b : HandKeys held h js) : ks = js :=
  sortedS_uniq a.srt b.srt ((List.perm_ext_iff_of_nodup a.nd b.nd).mpr fun k => (a.mem k).trans (b.mem k).symm)
/-- a lease ends -/
def OverR (s : Rm) (h t : Int) (s' : Rm) : Prop := ∃ ks, HandKeys s.held h ks ∧ s' = cutAll { s with ends := setF s.ends h none } t ks
theorem OverR.uniq {s a b : Rm} {h t : Int} (x : OverR s h t a) (y : OverR s h t b) : a = b := by
  obtain ⟨ks, k1, rfl⟩ := x
  obtain ⟨js, j1, rfl⟩ := y
  rw [k1.uniq j1]
def OversR : List (Int × Int) → Rm → Rm → Prop
  | [], s, s' => s' = s
  | e :: r, s, s' => ∃ s1, OverR s e.2 e.1 s1 ∧ OversR r s1 s'
theorem OversR.uniq : ∀ {es : List (Int × Int)} {s a b : Rm}, OversR es s a → OversR es s b → a = b
  | [], s, a, b, x, y => by
    have x : a = s := x
    have y : b = s := y
    rw [x, y]
  | e :: r, s, a, b, ⟨s1, x1, x2⟩, ⟨s2, y1, y2⟩ => by
    have z := x1.uniq y1
    subst z
    exact OversR.uniq x2 y2
/-- earlier ends first, of the same end the lesser number first -/
abbrev AscE (l : List (Int × Int)) : Prop := l.Pairwise fun x y => SrtO.lexB y x = false
theorem ascE_uniq : ∀ {p q : List (Int × Int)}, AscE p → AscE q → p.Perm q → p = q
  | [], q, _, _, h => (List.Perm.eq_nil h.symm).symm
  | a :: p, [], _, _, h => absurd h.length_eq (by simp)
  | a :: p, b :: q, hp, hq, h => by
    have h1 : SrtO.lexB a b = false := by
      rcases List.mem_cons.mp (h.mem_iff.mp (List.mem_cons_self (a := a) (l := p))) with e | m
      · rw [e]; exact SrtO.lexB_no.mpr (by omega)
      · exact (List.pairwise_cons.mp hq).1 a m
    have h2 : SrtO.lexB b a = false := by
      rcases List.mem_cons.mp (h.mem_iff.mpr (List.mem_cons_self (a := b) (l := q))) with e | m
      · rw [e]; exact SrtO.lexB_no.mpr (by omega)
      · exact (List.pairwise_cons.mp hp).1 b m
    have e : a = b := by
      have x1 := SrtO.lexB_no.mp h1
      have x2 := SrtO.lexB_no.mp h2
      exact Prod.ext (by omega) (by omega)
    subst e
    rw [ascE_uniq (List.pairwise_cons.mp hp).2 (List.pairwise_cons.mp hq).2 h.cons_inv]
/-- the leases whose end is not later than u -/
structure EndsTo (ends : Int → Option Int) (u : Int) (es : List (Int × Int)) : Prop where
  asc : AscE es
  nd : es.Nodup
  mem : ∀ e, e ∈ es ↔ ends e.2 = some e.1 ∧ e.1 ≤ u
theorem EndsTo.uniq {ends : Int → Option Int} {u : Int} {es fs : List (Int × Int)} (a : EndsTo ends u es) (b : EndsTo ends u fs) : es = fs :=
  ascE_uniq a.asc b.asc ((List.perm_ext_iff_of_nodup a.nd b.nd).mpr fun e => (a.mem e).trans (b.mem e).symm)
def GoR (s : Rm) (t : Int) (s' : Rm) : Prop := ∃ es s1, EndsTo s.ends (s.now + t) es ∧ OversR es s s1 ∧ s' = { s1 with now := s.now + t }
theorem GoR.uniq {s a b : Rm} {t : Int} (x : GoR s t a) (y : GoR s t b) : a = b := by
  obtain ⟨es, s1, x1, x2, rfl⟩ := x
  obtain ⟨fs, s2, y1, y2, rfl⟩ := y
  have e := x1.uniq y1
  subst e
  rw [x2.uniq y2]
def badT (lo t : Int) : Prop := t < lo ∨ 1000000 < t
/-- does a refusal of point 8 come of a put or a cut: of the lease, of the key, of the holder -/
def noLease (s : Rm) (h : Int) : Prop := h ≠ 0 ∧ s.ends h = none
def heldBy (s : Rm) (k : Str) (h : Int) : Prop := ∃ v j, s.held k = some (v, j) ∧ j ≠ 0 ∧ j ≠ h
def grantM (s : Rm) (t : Int) : Rm := { s with given := s.given + 1, span := setF s.span ((s.given : Int) + 1) (some t), ends := setF s.ends ((s.given : Int) + 1) (some (s.now + t)) }
def putM (s : Rm) (k v : Str) (h : Int) : Rm := noteM { s with held := setF s.held k (some (v, h)) } s.now "put" k v
/-- what a deed comes to -/
def DoR (s : Rm) : Deed → Ans → Rm → Prop
  | .grant t, a, s' => (badT 1 t ∧ a = .bad .ticks ∧ s' = s) ∨ (¬ badT 1 t ∧ a = .num ((s.given : Int) + 1) ∧ s' = grantM s t)
  | .wait t, a, s' => (badT 0 t ∧ a = .bad .ticks ∧ s' = s) ∨ (¬ badT 0 t ∧ a = .non ∧ GoR s t s')
  | .renew h, a, s' => (s.ends h = none ∧ a = .bad .lease ∧ s' = s) ∨ (s.ends h ≠ none ∧ a = .non ∧ ∃ t, s.span h = some t ∧ s' = { s with ends := setF s.ends h (some (s.now + t)) })
  | .drop h, a, s' => (s.ends h = none ∧ a = .bad .lease ∧ s' = s) ∨ (s.ends h ≠ none ∧ a = .non ∧ OverR s h s.now s')
  | .put k v h, a, s' => (noLease s h ∧ a = .bad .lease ∧ s' = s) ∨ (¬ noLease s h ∧ heldBy s k h ∧ a = .bad .held ∧ s' = s) ∨ (¬ noLease s h ∧ ¬ heldBy s k h ∧ a = .num ((s.rows.length : Int) + 1) ∧ s' = putM s k v h)
  | .cut k h, a, s' => (noLease s h ∧ a = .bad .lease ∧ s' = s) ∨ (¬ noLease s h ∧ s.held k = none ∧ a = .bad .key ∧ s' = s) ∨ (¬ noLease s h ∧ heldBy s k h ∧ a = .bad .held ∧ s' = s) ∨
    (¬ noLease s h ∧ s.held k ≠ none ∧ ¬ heldBy s k h ∧ a = .num ((s.rows.length : Int) + 1) ∧ s' = cutM s.now s k)
theorem DoR.uniq {s : Rm} {d : Deed} {a b : Ans} {x y : Rm} (p : DoR s d a x) (q : DoR s d b y) : a = b ∧ x = y := by
  cases d with
  | grant t =>
    rcases p with ⟨p1, rfl, rfl⟩ | ⟨p1, rfl, rfl⟩ <;> rcases q with ⟨q1, rfl, rfl⟩ | ⟨q1, rfl, rfl⟩
    · exact ⟨rfl, rfl⟩
    · exact absurd p1 q1
    · exact absurd q1 p1
    · exact ⟨rfl, rfl⟩
  | wait t =>
    rcases p with ⟨p1, rfl, rfl⟩ | ⟨p1, rfl, p2⟩ <;> rcases q with ⟨q1, rfl, rfl⟩ | ⟨q1, rfl, q2⟩
    · exact ⟨rfl, rfl⟩
    · exact absurd p1 q1
    · exact absurd q1 p1
    · exact ⟨rfl, p2.uniq q2⟩
  | renew h =>
    rcases p with ⟨p1, rfl, rfl⟩ | ⟨p1, rfl, t, p2, rfl⟩ <;> rcases q with ⟨q1, rfl, rfl⟩ | ⟨q1, rfl, u, q2, rfl⟩
    · exact ⟨rfl, rfl⟩
    · exact absurd p1 q1
    · exact absurd q1 p1
    · rw [p2] at q2
      cases q2
      exact ⟨rfl, rfl⟩
  | drop h =>
    rcases p with ⟨p1, rfl, rfl⟩ | ⟨p1, rfl, p2⟩ <;> rcases q with ⟨q1, rfl, rfl⟩ | ⟨q1, rfl, q2⟩
    · exact ⟨rfl, rfl⟩
    · exact absurd p1 q1
    · exact absurd q1 p1
    · exact ⟨rfl, p2.uniq q2⟩
  | put k v h =>
    rcases p with ⟨p1, rfl, rfl⟩ | ⟨p1, p2, rfl, rfl⟩ | ⟨p1, p2, rfl, rfl⟩ <;> rcases q with ⟨q1, rfl, rfl⟩ | ⟨q1, q2, rfl, rfl⟩ | ⟨q1, q2, rfl, rfl⟩
    · exact ⟨rfl, rfl⟩
    · exact absurd p1 q1
    · exact absurd p1 q1
    · exact absurd q1 p1
    · exact ⟨rfl, rfl⟩
    · exact absurd p2 q2
    · exact absurd q1 p1
    · exact absurd q2 p2
    · exact ⟨rfl, rfl⟩
  | cut k h =>
    have hb : ∀ {s : Rm}, heldBy s k h → s.held k ≠ none := fun {s} ⟨v, j, e, _⟩ z => by rw [e] at z; cases z
    rcases p with ⟨p1, rfl, rfl⟩ | ⟨p1, p2, rfl, rfl⟩ | ⟨p1, p2, rfl, rfl⟩ | ⟨p1, p2, p3, rfl, rfl⟩ <;> rcases q with ⟨q1, rfl, rfl⟩ | ⟨q1, q2, rfl, rfl⟩ | ⟨q1, q2, rfl, rfl⟩ | ⟨q1, q2, q3, rfl, rfl⟩
    · exact ⟨rfl, rfl⟩
    · exact absurd p1 q1
    · exact absurd p1 q1
    · exact absurd p1 q1
    · exact absurd q1 p1
    · exact ⟨rfl, rfl⟩
    · exact absurd p2 (hb q2)
    · exact absurd p2 q2
    · exact absurd q1 p1
    · exact absurd q2 (hb p2)
    · exact ⟨rfl, rfl⟩
    · exact absurd p2 q3
    · exact absurd q1 p1
    · exact absurd q2 p2
    · exact absurd q2 p3
    · exact ⟨rfl, rfl⟩
/-! watchers -/
def dueW (s : Rm) (w : Wt) (most : Int) : List Row := wantedM s.rows s.gone w.pre w.told most
/-- up to where it was told, behind such a pull -/
def toldW (s : Rm) (w : Wt) (most : Int) : Int := if ((dueW s w most).length : Int) < most then s.rows.length else lastN (w.told + 1) (dueW s w most)
def pullM (s : Rm) (n : Int) (w : Wt) (most : Int) : Rm := { s with wat := setF s.wat n (some { w with told := toldW s w most }) }
/-- up to where all was had, by every watcher that is there -/
structure TrimTo (s : Rm) (u : Int) : Prop where
  le : ∀ n w, s.wat n = some w → u ≤ w.had
  at_ : (∃ n w, s.wat n = some w ∧ w.had = u) ∨ ((∀ n, s.wat n = none) ∧ u = s.rows.length)
theorem TrimTo.uniq {s : Rm} {u v : Int} (a : TrimTo s u) (b : TrimTo s v) : u = v := by
  rcases a.at_ with ⟨n, w, h1, h2⟩ | ⟨h1, h2⟩ <;> rcases b.at_ with ⟨n', w', h3, h4⟩ | ⟨h3, h4⟩
  · have := b.le n w h1
    have := a.le n' w' h3
    omega
  · rw [h3 n] at h1; cases h1
  · rw [h1 n'] at h3; cases h3
  · rw [h2, h4]
/-! ### what stands by a room, whatever it is made of -/
abbrev RsT := List Addr → Hp → Addr → Rm → Prop
structure Kinds where
  LE : Addr
  BT : Addr
  NL : Addr
  NK : Addr
  HE : Addr
  NS : Addr
  NW : Addr
def Kinds.at_ (k : Kinds) : Kd → Addr
  | .ticks => k.BT
  | .lease => k.NL
  | .key => k.NK
  | .held => k.HE
/-- what a deed's answer comes to -/
def Out (kk : Kinds) (Q : VK) (E : XK) (H : Hp) : Ans → Prop
  | .num n => Q (.int n) H
  | .non => Q .non H
  | .bad w => E (.ref (kk.at_ w)) none H
/-- a room that is not too large for its lists -/
structure Fits (s : Rm) : Prop where
  rows : s.rows.length ≤ 900
  given : s.given ≤ 900
  met : s.met ≤ 900
def spRInit (C : Addr) (Rs : RsT) : Sp := fun vs H Q _ => ∃ (p dx : Addr), vs = [.ref p] ∧ H p = some (.ins C dx []) ∧ ∀ F H', Rs F H' p .init → (∀ a ∈ F, a = p ∨ H a = none) → Ch H H' [p] → Q .non H'
/-- a method that does a deed: how its arguments stand -/
def spRDo (kk : Kinds) (Rs : RsT) (args : Deed → List V → Prop) : Sp := fun vs H Q E => ∃ (F : List Addr) (p : Addr) (s : Rm) (d : Deed) (xs : List V), vs = .ref p :: xs ∧ args d xs ∧ Rs F H p s ∧ Fits s ∧
  ∀ a s' F' H', DoR s d a s' → Rs F' H' p s' → Grow F F' H → Ch H H' F → Out kk Q E H' a
def argG : Deed → List V → Prop := fun d xs => ∃ t, d = .grant t ∧ xs = [.int t]
def argW : Deed → List V → Prop := fun d xs => ∃ t, d = .wait t ∧ xs = [.int t]
def argR : Deed → List V → Prop := fun d xs => ∃ h, d = .renew h ∧ xs = [.int h]
def argD : Deed → List V → Prop := fun d xs => ∃ h, d = .drop h ∧ xs = [.int h]
def argP : Deed → List V → Prop := fun d xs => ∃ k v h, d = .put k v h ∧ xs = [.str k, .str v, .int h] ∧ TOk 60 k ∧ TOk 60 v
def argC : Deed → List V → Prop := fun d xs => ∃ k h, d = .cut k h ∧ xs = [.str k, .int h] ∧ TOk 60 k
def spRValue (Rs : RsT) : Sp := fun vs H Q _ => ∃ (F : List Addr) (p : Addr) (k : Str) (s : Rm), vs = [.ref p, .str k] ∧ Rs F H p s ∧ TOk 60 k ∧ ∀ F' H', Rs F' H' p s → Grow F F' H → Ch H H' F → Q (match s.held k with | some (v, _) => .str v | none => .non) H'
def spRHolder (Rs : RsT) : Sp := fun vs H Q _ => ∃ (F : List Addr) (p : Addr) (k : Str) (s : Rm), vs = [.ref p, .str k] ∧ Rs F H p s ∧ TOk 60 k ∧ ∀ F' H', Rs F' H' p s → Grow F F' H → Ch H H' F → Q (.int (match s.held k with | some (_, h) => h | none => 0)) H'
/-- the keys that begin with a prefix, with their values -/
def byPre (s : Rm) (z : Str) : Str → Option Str := fun k => if isPre z k = true then (s.held k).map (·.1) else none
def spRPairs (Rs : RsT) : Sp := fun vs H Q _ => ∃ (F : List Addr) (p : Addr) (z : Str) (s : Rm), vs = [.ref p, .str z] ∧ Rs F H p s ∧ TOk 60 z ∧ Fits s ∧
  ∀ F' q ts ps H', Rs F' H' p s → Grow F F' H → Ch H H' F → H q = none → q ∉ F' → H' q = some (.lst (ts.map V.ref)) → PairsAt H' ts ps → Told (byPre s z) ps → Q (.ref q) H'
def spRLast (Rs : RsT) : Sp := fun vs H Q _ => ∃ (F : List Addr) (p : Addr) (s : Rm), vs = [.ref p] ∧ Rs F H p s ∧ ∀ F' H', Rs F' H' p s → Grow F F' H → Ch H H' F → Q (.int s.rows.length) H'
def spRFirst (Rs : RsT) : Sp := fun vs H Q _ => ∃ (F : List Addr) (p : Addr) (s : Rm), vs = [.ref p] ∧ Rs F H p s ∧ ∀ F' H', Rs F' H' p s → Grow F F' H → Ch H H' F → Q (.int ((s.gone : Int) + 1)) H'
def spRWatch (kk : Kinds) (Rs : RsT) : Sp := fun vs H Q E => ∃ (F : List Addr) (p : Addr) (z : Str) (st : Int) (s : Rm), vs = [.ref p, .str z, .int st] ∧ Rs F H p s ∧ TOk 60 z ∧ Fits s ∧
  (st < (s.gone : Int) + 1 ∨ (s.rows.length : Int) + 1 < st → ∀ F' H', Rs F' H' p s → Grow F F' H → Ch H H' F → E (.ref kk.NS) none H') ∧
  ((s.gone : Int) + 1 ≤ st → st ≤ (s.rows.length : Int) + 1 → ∀ F' H', Rs F' H' p { s with met := s.met + 1, wat := setF s.wat ((s.met : Int) + 1) (some ⟨z, st - 1, st - 1⟩) } → Grow F F' H → Ch H H' F → Q (.int ((s.met : Int) + 1)) H')
/-- a method that names a watcher: refused where it isn't there -/
def spRWat (kk : Kinds) (Rs : RsT) (xs : List V → Prop) (then_ : List V → List Addr → Hp → Addr → Rm → Int → Wt → VK → Prop) : Sp := fun vs H Q E => ∃ (F : List Addr) (p : Addr) (n : Int) (ys : List V) (s : Rm), vs = .ref p :: .int n :: ys ∧ xs ys ∧ Rs F H p s ∧ Fits s ∧
  (s.wat n = none → ∀ F' H', Rs F' H' p s → Grow F F' H → Ch H H' F → E (.ref kk.NW) none H') ∧ ∀ w, s.wat n = some w → then_ ys F H p s n w Q
def thenPull (Rs : RsT) : List V → List Addr → Hp → Addr → Rm → Int → Wt → VK → Prop := fun ys F H p s n w Q => ∃ m : Int, ys = [.int m] ∧ 0 ≤ m ∧
  ∀ F' q ts H', Rs F' H' p (pullM s n w m) → Grow F F' H → Ch H H' F → H q = none → q ∉ F' → H' q = some (.lst (ts.map V.ref)) → RowsAt H' ts (dueW s w m) → Q (.ref q) H'
def thenSet (Rs : RsT) (f : Wt → Option Wt) : List V → List Addr → Hp → Addr → Rm → Int → Wt → VK → Prop := fun _ F H p s n w Q =>
  ∀ F' H', Rs F' H' p { s with wat := setF s.wat n (f w) } → Grow F F' H → Ch H H' F → Q .non H'
def spRTrim (Rs : RsT) : Sp := fun vs H Q _ => ∃ (F : List Addr) (p : Addr) (s : Rm), vs = [.ref p] ∧ Rs F H p s ∧ Fits s ∧
  ∀ u F' H', TrimTo s u → Rs F' H' p { s with gone := goneM s.rows.length s.gone u } → Grow F F' H → Ch H H' F → Q (.int ((goneM s.rows.length s.gone u : Int) - s.gone)) H'
def roomMs : List Str := ["grant", "renew", "drop", "wait", "put", "cut", "value", "holder", "pairs", "last", "first", "watch", "pull", "confirm", "broken", "leave", "trim"]
structure RoomApi (P : Program) (w : World) (K : PySem.W.Frag) (mg : Str → Option Value) (base : Heap) (C : Addr) (kk : Kinds) (Rs : RsT) (hs : List Str) : Prop where
  frame : ∀ {F H H' p s l}, Rs F H p s → Ch H H' l → (∀ a ∈ F, a ∉ l) → Rs F H' p s
  own : ∀ {F H p s}, Rs F H p s → ∀ a ∈ F, ∃ o, H a = some o
  inst : ∀ {F H p s}, Rs F H p s → p ∈ F ∧ ∃ dx fs, H p = some (.ins C dx fs) ∧ fs.lookup ("now" : Str) = some (.int s.now) ∧ ∀ m ∈ roomMs, fs.lookup m = none
  make : ∃ f fd ps, Mk K C f ∧ Binds K fd ps [] ∧ FnOk P w K mg base CX0 4 f fd ps (spRInit C Rs)
  grant : ("grant" : Str) ∈ hs → MDef P w K mg base C "grant" (L2.CX P w) 8 (spRDo kk Rs argG)
  renew : ("renew" : Str) ∈ hs → MDef P w K mg base C "renew" (L2.CX P w) 8 (spRDo kk Rs argR)
  drop : ("drop" : Str) ∈ hs → MDef P w K mg base C "drop" (L2.CX P w) 8 (spRDo kk Rs argD)
  wait : ("wait" : Str) ∈ hs → MDef P w K mg base C "wait" (L2.CX P w) 8 (spRDo kk Rs argW)
  put : ("put" : Str) ∈ hs → ∃ f fd ps, Meth K C "put" f ∧ Binds K fd ps [] ∧ (∃ ds, Vals [.int 0] ds ∧ Binds K fd ps ds) ∧ (∃ g, KBn K fd ps 3 ["lease"] g fun vs zs => vs ++ zs) ∧ FnOk P w K mg base (L2.CX P w) 8 f fd ps (spRDo kk Rs argP)
  cut : ("cut" : Str) ∈ hs → ∃ f fd ps, Meth K C "cut" f ∧ Binds K fd ps [] ∧ (∃ ds, Vals [.int 0] ds ∧ Binds K fd ps ds) ∧ (∃ g, KBn K fd ps 2 ["lease"] g fun vs zs => vs ++ zs) ∧ FnOk P w K mg base (L2.CX P w) 8 f fd ps (spRDo kk Rs argC)
  value : ("value" : Str) ∈ hs → MDef P w K mg base C "value" CX0 8 (spRValue Rs)
  holder : ("holder" : Str) ∈ hs → MDef P w K mg base C "holder" CX0 8 (spRHolder Rs)
  pairs : ("pairs" : Str) ∈ hs → MDef P w K mg base C "pairs" CX0 8 (spRPairs Rs)
  last : ("last" : Str) ∈ hs → MDef P w K mg base C "last" CX0 8 (spRLast Rs)
  first : ("first" : Str) ∈ hs → MDef P w K mg base C "first" CX0 8 (spRFirst Rs)
  watch : ("watch" : Str) ∈ hs → MDef P w K mg base C "watch" (L2.CX P w) 8 (spRWatch kk Rs)
  pull : ("pull" : Str) ∈ hs → MDef P w K mg base C "pull" (L2.CX P w) 8 (spRWat kk Rs (fun ys => ∃ m : Int, ys = [.int m]) (thenPull Rs))
  confirm : ("confirm" : Str) ∈ hs → MDef P w K mg base C "confirm" (L2.CX P w) 8 (spRWat kk Rs (fun ys => ys = []) (thenSet Rs fun w => some { w with had := w.told }))
  broken : ("broken" : Str) ∈ hs → MDef P w K mg base C "broken" (L2.CX P w) 8 (spRWat kk Rs (fun ys => ys = []) (thenSet Rs fun w => some { w with told := w.had }))
  leave : ("leave" : Str) ∈ hs → MDef P w K mg base C "leave" (L2.CX P w) 8 (spRWat kk Rs (fun ys => ys = []) (thenSet Rs fun _ => none))
  trim : ("trim" : Str) ∈ hs → MDef P w K mg base C "trim" CX0 8 (spRTrim Rs)
end KB

namespace KL
open PySem L2 L2H LX KB KA1
/-! ### the program's room: what stands by it -/
abbrev nsRoom : List Str := ["now", "_leases", "_log", "_values", "_holders", "_entered", "_watchers"]
abbrev nsWat : List Str := ["prefix", "told", "had"]
structure Cs where
  C : Addr
  CL : Addr
  CG : Addr
  CW : Addr
structure Rc where
  pl : Addr
  dt : Addr
  de : Addr
  pg : Addr
  Fg : List Addr
  dv : Addr
  dh : Addr
  dw : Addr
  T : Al
  E : Al
  HV : List (Str × (Str × Int))
  vk : List (Key × V)
  hk : List (Key × V)
  WS : List (Int × (Addr × Wt))
  wk : List (Key × V)
def Rc.o (R : Rc) (p : Addr) : List Addr := p :: R.pl :: R.dt :: R.de :: R.dv :: R.dh :: R.dw :: R.WS.map (·.2.1)
def Rc.F (R : Rc) (p : Addr) : List Addr := R.o p ++ R.Fg
abbrev rFl (s : Rm) (R : Rc) : List (Str × V) := nsRoom.zip [.int s.now, .ref R.pl, .ref R.pg, .ref R.dv, .ref R.dh, .int s.met, .ref R.dw]
abbrev wFl (w : Wt) : List (Str × V) := nsWat.zip [.str w.pre, .int w.told, .int w.had]
abbrev isV1 (b : Str × Int) (v : V) : Prop := v = .str b.1
abbrev isV2 (b : Str × Int) (v : V) : Prop := v = .int b.2
abbrev isW (b : Addr × Wt) (v : V) : Prop := v = .ref b.1
structure RcAt (c : Cs) (H : Hp) (p : Addr) (R : Rc) (s : Rm) : Prop where
  ob : ∃ dx, H p = some (.ins c.C dx (rFl s R))
  lt : LotAt c.CL H R.pl R.dt R.de s.given R.T R.E
  lg : LgP c.CG R.Fg H R.pg s.rows s.gone
  va : H R.dv = some (.dK R.vk)
  ho : H R.dh = some (.dK R.hk)
  wa : H R.dw = some (.dK R.wk)
  wo : ∀ x ∈ R.WS, ∃ dx, H x.2.1 = some (.ins c.CW dx (wFl x.2.2))
  rv : DRel Sum.inr isV1 R.HV R.vk
  rh : DRel Sum.inr isV2 R.HV R.hk
  rw_ : DRel Sum.inl isW R.WS R.wk
  nd : (R.o p).Nodup
  dj : ∀ a ∈ R.Fg, a ∉ R.o p
  fe : s.ends = getA R.E
  fs : ∀ h e, getA R.E h = some e → ∃ t, getA R.T h = some t ∧ s.span h = some t
  fh : s.held = getA R.HV
  fw : s.wat = fun n => (getA R.WS n).map (·.2)
  nE : (R.E.map (·.1)).Nodup
  nH : (R.HV.map (·.1)).Nodup
  nW : (R.WS.map (·.1)).Nodup
  kW : ∀ x ∈ R.WS, x.1 ≤ s.met
  kH : ∀ x ∈ R.HV, TOk 60 x.1
  wP : ∀ x ∈ R.WS, TOk 60 x.2.2.pre
structure RcSz (R : Rc) (s : Rm) : Prop where
  t : R.T.length ≤ s.given
  e : R.E.length ≤ s.given
  h : R.HV.length ≤ s.rows.length
  w : R.WS.length ≤ s.met
  wt : ∀ x ∈ R.WS, x.2.2.told ≤ s.rows.length ∧ x.2.2.had ≤ s.rows.length
def RsP (c : Cs) : RsT := fun F H p s => ∃ R, F = Rc.F R p ∧ RcAt c H p R s ∧ RcSz R s
theorem aget_eq (k : Int) : ∀ l : Al, aget l k = getA l k
  | [] => rfl
  | q :: r => by
    by_cases e : q.1 = k
    · rw [getA_pos e]; simp [aget, e]
    · rw [getA_neg e, ← aget_eq k r]; simp [aget, e]
theorem LotAt.ch {C : Addr} {H H' : Hp} {p dt de : Addr} {n : Int} {T E : Al} {l : List Addr} (L : LotAt C H p dt de n T E) (c : Ch H H' l) (h1 : p ∉ l) (h2 : dt ∉ l) (h3 : de ∉ l) : LotAt C H' p dt de n T E :=
  ⟨let ⟨dx, h⟩ := L.ob; ⟨dx, c.at h h1⟩, c.at L.tk h2, c.at L.en h3, L.ne⟩
section
variable {c : Cs} {H H' : Hp} {p : Addr} {R : Rc} {s : Rm} {l : List Addr}
theorem RcAt.ch (A : RcAt c H p R s) (k : Ch H H' l) (d : ∀ a ∈ R.F p, a ∉ l) : RcAt c H' p R s := by
  have o : ∀ {a}, a ∈ R.o p → a ∉ l := fun {a} h => d a (List.mem_append_left _ h)
  obtain ⟨dx, h⟩ := A.ob
  exact ⟨⟨dx, k.at h (o (by simp [Rc.o]))⟩, A.lt.ch k (o (by simp [Rc.o])) (o (by simp [Rc.o])) (o (by simp [Rc.o])), A.lg.frame k (fun a ha => d a (List.mem_append_right _ ha)), k.at A.va (o (by simp [Rc.o])), k.at A.ho (o (by simp [Rc.o])), k.at A.wa (o (by simp [Rc.o])),
    fun x hx => (let ⟨dy, h⟩ := A.wo x hx; ⟨dy, k.at h (o (by unfold Rc.o; simp only [List.mem_cons]; right; right; right; right; right; right; right; exact List.mem_map.mpr ⟨x, hx, rfl⟩))⟩), A.rv, A.rh, A.rw_, A.nd, A.dj, A.fe, A.fs, A.fh, A.fw, A.nE, A.nH, A.nW, A.kW, A.kH, A.wP⟩
theorem RcAt.own (A : RcAt c H p R s) : ∀ a ∈ R.F p, ∃ o, H a = some o := by
  intro a ha
  rcases List.mem_append.mp ha with h | h
  · unfold Rc.o at h
    simp only [List.mem_cons] at h
    rcases h with rfl | rfl | rfl | rfl | rfl | rfl | rfl | h
    · obtain ⟨dx, h⟩ := A.ob; exact ⟨_, h⟩
    · obtain ⟨dx, h⟩ := A.lt.ob; exact ⟨_, h⟩
    · exact ⟨_, A.lt.tk⟩
    · exact ⟨_, A.lt.en⟩
    · exact ⟨_, A.va⟩
    · exact ⟨_, A.ho⟩
    · exact ⟨_, A.wa⟩
    · obtain ⟨x, hx, rfl⟩ := List.mem_map.mp h
      obtain ⟨dy, h⟩ := A.wo x hx
      exact ⟨_, h⟩
  · exact A.lg.own a h
theorem RsP.frame {F : List Addr} (A : RsP c F H p s) (k : Ch H H' l) (d : ∀ a ∈ F, a ∉ l) : RsP c F H' p s := by
  obtain ⟨R, rfl, A, z⟩ := A
  exact ⟨R, rfl, A.ch k d, z⟩
theorem RsP.own {F : List Addr} (A : RsP c F H p s) : ∀ a ∈ F, ∃ o, H a = some o := by
  obtain ⟨R, rfl, A, z⟩ := A
  exact A.own
theorem RsP.inst {F : List Addr} (A : RsP c F H p s) : p ∈ F ∧ ∃ dx fs, H p = some (.ins c.C dx fs) ∧ fs.lookup ("now" : Str) = some (.int s.now) ∧ ∀ m ∈ roomMs, fs.lookup m = none := by
  obtain ⟨R, rfl, A, z⟩ := A
  obtain ⟨dx, h⟩ := A.ob
  refine ⟨List.mem_append_left _ (by simp [Rc.o]), dx, _, h, zf_get (i := 0) (by decide +kernel) rfl, fun m hm => ?_⟩
  have q : ∀ m ∈ roomMs, pos m nsRoom = none := by decide +kernel
  exact zf_no (q m hm)
/-- no two of the seven places are one -/
theorem RcAt.ne7 (A : RcAt c H p R s) : (p ≠ R.pl ∧ p ≠ R.dt ∧ p ≠ R.de ∧ p ≠ R.dv ∧ p ≠ R.dh ∧ p ≠ R.dw) ∧ (R.pl ≠ R.dt ∧ R.pl ≠ R.de ∧ R.pl ≠ R.dv ∧ R.pl ≠ R.dh ∧ R.pl ≠ R.dw) ∧ (R.dt ≠ R.de ∧ R.dt ≠ R.dv ∧ R.dt ≠ R.dh ∧ R.dt ≠ R.dw) ∧
    (R.de ≠ R.dv ∧ R.de ≠ R.dh ∧ R.de ≠ R.dw) ∧ (R.dv ≠ R.dh ∧ R.dv ≠ R.dw) ∧ R.dh ≠ R.dw := by
  have n := A.nd
  unfold Rc.o at n
  simp only [List.nodup_cons, List.mem_cons, not_or] at n
  obtain ⟨⟨a1, a2, a3, a4, a5, a6, _⟩, ⟨b1, b2, b3, b4, b5, _⟩, ⟨c1, c2, c3, c4, _⟩, ⟨d1, d2, d3, _⟩, ⟨e1, e2, _⟩, ⟨f1, _⟩, _⟩ := n
  exact ⟨⟨a1, a2, a3, a4, a5, a6⟩, ⟨b1, b2, b3, b4, b5⟩, ⟨c1, c2, c3, c4⟩, ⟨d1, d2, d3⟩, ⟨e1, e2⟩, f1⟩
theorem RcAt.neW (A : RcAt c H p R s) {x : Int × (Addr × Wt)} (hx : x ∈ R.WS) : x.2.1 ≠ p ∧ x.2.1 ≠ R.pl ∧ x.2.1 ≠ R.dt ∧ x.2.1 ≠ R.de ∧ x.2.1 ≠ R.dv ∧ x.2.1 ≠ R.dh ∧ x.2.1 ≠ R.dw := by
  have n := A.nd
  have m : x.2.1 ∈ R.WS.map (·.2.1) := List.mem_map.mpr ⟨x, hx, rfl⟩
  unfold Rc.o at n
  simp only [List.nodup_cons, List.mem_cons, not_or] at n
  obtain ⟨⟨_, _, _, _, _, _, a⟩, ⟨_, _, _, _, _, b⟩, ⟨_, _, _, _, c⟩, ⟨_, _, _, d⟩, ⟨_, _, e⟩, ⟨_, f⟩, g, _⟩ := n
  exact ⟨fun z => a (z ▸ m), fun z => b (z ▸ m), fun z => c (z ▸ m), fun z => d (z ▸ m), fun z => e (z ▸ m), fun z => f (z ▸ m), fun z => g (z ▸ m)⟩
theorem RcAt.wIn (A : RcAt c H p R s) {x : Int × (Addr × Wt)} (hx : x ∈ R.WS) : x.2.1 ∈ R.o p := by
  unfold Rc.o
  simp only [List.mem_cons]
  right; right; right; right; right; right; right
  exact List.mem_map.mpr ⟨x, hx, rfl⟩
/-- the log goes on -/
theorem RcAt.log (A : RcAt c H p R s) {F' : List Addr} {rs' : List Row} {g' : Nat} (L : LgP c.CG F' H' R.pg rs' g') (g : Grow R.Fg F' H) (k : Ch H H' R.Fg) : RcAt c H' p { R with Fg := F' } { s with rows := rs', gone := g' } := by
  have o : ∀ {a}, a ∈ R.o p → a ∉ R.Fg := fun {a} h z => A.dj a z h
  obtain ⟨dx, h⟩ := A.ob
  have ex : ∀ a ∈ R.o p, ∃ u, H a = some u := fun a ha => A.own a (List.mem_append_left _ ha)
  exact ⟨⟨dx, k.at h (o (by simp [Rc.o]))⟩, A.lt.ch k (o (by simp [Rc.o])) (o (by simp [Rc.o])) (o (by simp [Rc.o])), L, k.at A.va (o (by simp [Rc.o])), k.at A.ho (o (by simp [Rc.o])), k.at A.wa (o (by simp [Rc.o])),
    fun x hx => (let ⟨dy, h⟩ := A.wo x hx; ⟨dy, k.at h (o (A.wIn hx))⟩), A.rv, A.rh, A.rw_, A.nd, g.apart A.dj ex, A.fe, A.fs, A.fh, A.fw, A.nE, A.nH, A.nW, A.kW, A.kH, A.wP⟩
/-- the leases go on -/
theorem RcAt.lot (A : RcAt c H p R s) {n : Nat} {T E : Al} {sp : Int → Option Int} (L : LotAt c.CL H' R.pl R.dt R.de n T E) (k : Ch H H' [R.pl, R.dt, R.de]) (nE : (E.map (·.1)).Nodup) (fs : ∀ h e, getA E h = some e → ∃ t, getA T h = some t ∧ sp h = some t) :
    RcAt c H' p { R with T := T, E := E } { s with given := n, span := sp, ends := getA E } := by
  obtain ⟨⟨a1, a2, a3, a4, a5, a6⟩, ⟨b1, b2, b3, b4, b5⟩, ⟨c1, c2, c3, c4⟩, ⟨d1, d2, d3⟩, ⟨e1, e2⟩, f1⟩ := A.ne7
  have o3 : ∀ {a}, a ≠ R.pl → a ≠ R.dt → a ≠ R.de → a ∉ [R.pl, R.dt, R.de] := fun h1 h2 h3 z => by
    simp only [List.mem_cons, List.not_mem_nil, or_false] at z
    rcases z with z | z | z
    · exact h1 z
    · exact h2 z
    · exact h3 z
  obtain ⟨dx, h⟩ := A.ob
  refine ⟨⟨dx, k.at h (o3 a1 a2 a3)⟩, L, A.lg.frame k (fun a ha => o3 ?_ ?_ ?_), k.at A.va (o3 b3.symm c2.symm d1.symm), k.at A.ho (o3 b4.symm c3.symm d2.symm), k.at A.wa (o3 b5.symm c4.symm d3.symm),
    fun x hx => (let ⟨dy, h⟩ := A.wo x hx; let q := A.neW hx; ⟨dy, k.at h (o3 q.2.1 q.2.2.1 q.2.2.2.1)⟩), A.rv, A.rh, A.rw_, A.nd, A.dj, rfl, fs, A.fh, A.fw, nE, A.nH, A.nW, A.kW, A.kH, A.wP⟩
  all_goals (intro z; exact A.dj a ha (by rw [z]; simp [Rc.o]))
/-- keys go, come or change -/
theorem RcAt.keys (A : RcAt c H p R s) {HV : List (Str × (Str × Int))} {vk hk : List (Key × V)} (k : Ch H H' [R.dv, R.dh]) (h1 : H' R.dv = some (.dK vk)) (h2 : H' R.dh = some (.dK hk)) (rv : DRel Sum.inr isV1 HV vk) (rh : DRel Sum.inr isV2 HV hk)
    (nH : (HV.map (·.1)).Nodup) (kH : ∀ x ∈ HV, TOk 60 x.1) : RcAt c H' p { R with HV := HV, vk := vk, hk := hk } { s with held := getA HV } := by
  obtain ⟨⟨a1, a2, a3, a4, a5, a6⟩, ⟨b1, b2, b3, b4, b5⟩, ⟨c1, c2, c3, c4⟩, ⟨d1, d2, d3⟩, ⟨e1, e2⟩, f1⟩ := A.ne7
  have o2 : ∀ {a}, a ≠ R.dv → a ≠ R.dh → a ∉ [R.dv, R.dh] := fun h1 h2 z => by
    simp only [List.mem_cons, List.not_mem_nil, or_false] at z
    rcases z with z | z
    · exact h1 z
    · exact h2 z
  obtain ⟨dx, h⟩ := A.ob
  refine ⟨⟨dx, k.at h (o2 a4 a5)⟩, A.lt.ch k (o2 b3 b4) (o2 c2 c3) (o2 d1 d2), A.lg.frame k (fun a ha => o2 ?_ ?_), h1, h2, k.at A.wa (o2 e2.symm f1.symm),
    fun x hx => (let ⟨dy, h⟩ := A.wo x hx; let q := A.neW hx; ⟨dy, k.at h (o2 q.2.2.2.2.1 q.2.2.2.2.2.1)⟩), rv, rh, A.rw_, A.nd, A.dj, A.fe, A.fs, rfl, A.fw, A.nE, nH, A.nW, A.kW, kH, A.wP⟩
  all_goals (intro z; exact A.dj a ha (by rw [z]; simp [Rc.o]))
/-- the tick goes on -/
theorem RcAt.tick (A : RcAt c H p R s) {dx : Addr} {n : Int} (k : Ch H H' [p]) (h1 : H' p = some (.ins c.C dx (rFl { s with now := n } R))) : RcAt c H' p R { s with now := n } := by
  obtain ⟨⟨a1, a2, a3, a4, a5, a6⟩, ⟨b1, b2, b3, b4, b5⟩, ⟨c1, c2, c3, c4⟩, ⟨d1, d2, d3⟩, ⟨e1, e2⟩, f1⟩ := A.ne7
  have o1 : ∀ {a}, a ≠ p → a ∉ [p] := fun h1 z => h1 (List.mem_singleton.mp z)
  refine ⟨⟨dx, h1⟩, A.lt.ch k (o1 a1.symm) (o1 a2.symm) (o1 a3.symm), A.lg.frame k (fun a ha => o1 ?_), k.at A.va (o1 a4.symm), k.at A.ho (o1 a5.symm), k.at A.wa (o1 a6.symm),
    fun x hx => (let ⟨dy, h⟩ := A.wo x hx; ⟨dy, k.at h (o1 (A.neW hx).1)⟩), A.rv, A.rh, A.rw_, A.nd, A.dj, A.fe, A.fs, A.fh, A.fw, A.nE, A.nH, A.nW, A.kW, A.kH, A.wP⟩
  intro z
  exact A.dj a ha (by rw [z]; simp [Rc.o])
end
/-- what is asked of the class -/
structure RomT (K : PySem.W.Frag) (C : Addr) : Prop where
  cl : Cls K C
  n0 : NoAttr K C "now"
  n1 : NoAttr K C "_leases"
  n2 : NoAttr K C "_log"
  n3 : NoAttr K C "_values"
  n4 : NoAttr K C "_holders"
  n5 : NoAttr K C "_entered"
  n6 : NoAttr K C "_watchers"
end KL

namespace KL
open PySem L2 L2H LX KB KA1
/-! ### the program's room: a new one -/
theorem made_same {C : Addr} {H H' : Hp} {x dx : Addr} (nx : H x = none) (ndx : H dx = none) (c : Ch (upd (upd H dx (.own x)) x (.ins C dx [])) H' [x]) : Same H H' ∧ Same H (upd (upd H dx (.own x)) x (.ins C dx [])) := by
  have s0 : Same H (upd (upd H dx (.own x)) x (.ins C dx [])) := fun b o e => by
    rw [upd_ne (ne_of_none e nx), upd_ne (ne_of_none e ndx)]; exact e
  exact ⟨fun b o e => c.at (s0 _ _ e) fun z => ne_of_none e nx (List.mem_singleton.mp z), s0⟩
theorem ex_ne {H : Hp} {a b : Addr} (x : ∃ o, H a = some o) (n : H b = none) : a ≠ b := fun z => by
  obtain ⟨o, e⟩ := x
  rw [z, n] at e
  cases e
section
variable {P : Program} {w : World} {K : PySem.W.Frag} {mg : Str → Option Value} {base : Heap} {c : Cs}
theorem ok_Room_init {f fL fG : Addr} {fd fdL fdG : FuncData} {psL psG : List Str} (F : Fun K "__init__" "Room.__init__" s_Room_init f fd) (T : RomT K c.C) (gL : mg "Leases" = some (.ref c.CL)) (gG : mg "Log" = some (.ref c.CG))
    (ML : Mk K c.CL fL) (bL : Binds K fdL psL []) (GL : FnOk P w K mg base CX0 1 fL fdL psL (spLeInit c.CL)) (MG : Mk K c.CG fG) (bG : Binds K fdG psG []) (GG : FnOk P w K mg base CX0 1 fG fdG psG (spLogInit c.CG (LgP c.CG))) :
    FnOk P w K mg base CX0 3 f fd p_Room_init (spRInit c.C (RsP c)) := by
  refine F.ok sc_Room_init (fun vs H Q E h => ?_) (fun cdv A outer s H vs Q E hr h => ?_)
  · obtain ⟨p, dx, rfl, _⟩ := h
    rfl
  · obtain ⟨p, dx, rfl, hp, k⟩ := h
    refine ⟨_, pss_cons (ps_fld (pv 0) pe_int rfl) (pss_cons (ps_fld (pv 0) (pe_make0 ML GL hr rfl gL bL .nil pass0) rfl) (pss_cons (ps_fld (pv 0) (pe_make0 MG GG hr rfl gG bG .nil pass0) rfl)
      (pss_cons (ps_fld (pv 0) pe_dnewK rfl) (pss_cons (ps_fld (pv 0) pe_dnewK rfl) (pss_cons (ps_fld (pv 0) pe_int rfl) (pss_one (ps_fld (pv 0) pe_dnewK rfl))))))), ?_⟩
    have nt : ∀ fs : List (Str × V), ∀ xs, HO.ins c.C dx fs ≠ .tup xs := fun fs xs z => by cases z
    refine ⟨_, rfl, p, c.C, dx, [], rfl, hp, T.cl, T.n0, (by show 0 < 1000; decide), ?_⟩
    have c0 : Ch H (upd H p (.ins c.C dx (putF "now" (.int 0) []))) [p] := (Ch.refl H [p]).mut (by simp) hp (nt _)
    have h0 : upd H p (.ins c.C dx (putF "now" (.int 0) [])) p = some (.ins c.C dx (putF "now" (.int 0) [])) := upd_same
    generalize upd H p (.ins c.C dx (putF "now" (.int 0) [])) = H0 at c0 h0 ⊢
    intro pl dl nl ndl nel
    refine ⟨pl, dl, rfl, upd_same, fun dt de H1 nt1 ne1 L1 c1 => ⟨rfl, ?_⟩⟩
    obtain ⟨s1, sb⟩ := made_same nl ndl c1
    have hp1 := s1 _ _ h0
    have npl : p ≠ pl := ne_of_none h0 nl
    have npt : p ≠ dt := ne_of_none (sb _ _ h0) nt1
    have npe : p ≠ de := ne_of_none (sb _ _ h0) ne1
    have nlt : pl ≠ dt := ne_of_none upd_same nt1
    have nle : pl ≠ de := ne_of_none upd_same ne1
    have nte := L1.ne
    have fl : H0 dt = none := sb.free nt1
    have fe : H0 de = none := sb.free ne1
    clear c1 nt1 ne1 sb
    -- the leases stand
    refine ⟨_, rfl, p, c.C, dx, _, rfl, hp1, T.cl, T.n1, (by show 1 < 1000; decide), ?_⟩
    have o1 : ∀ {a : Addr}, p ≠ a → a ∉ [p] := fun h z => h (List.mem_singleton.mp z).symm
    have c2 : Ch H1 (upd H1 p (.ins c.C dx (putF "_leases" (.ref pl) (putF "now" (.int 0) [])))) [p] := (Ch.refl _ _).mut (by simp) hp1 (nt _)
    have L2 := L1.ch c2 (o1 npl) (o1 npt) (o1 npe)
    have h2 : upd H1 p (.ins c.C dx (putF "_leases" (.ref pl) (putF "now" (.int 0) []))) p = some (.ins c.C dx (putF "_leases" (.ref pl) (putF "now" (.int 0) []))) := upd_same
    have t2 : Ch H0 (upd H1 p (.ins c.C dx (putF "_leases" (.ref pl) (putF "now" (.int 0) [])))) [p] := (Ch.of s1 _).trans c2
    generalize upd H1 p (.ins c.C dx (putF "_leases" (.ref pl) (putF "now" (.int 0) []))) = H2 at L2 h2 t2 ⊢
    clear c2 hp1 L1 s1
    intro pg dg ng ndg neg
    refine ⟨pg, dg, rfl, upd_same, fun Fg H3 G3 fg c3 => ⟨rfl, ?_⟩⟩
    obtain ⟨s3, sb⟩ := made_same ng ndg c3
    have h3 := s3 _ _ h2
    have L3 := L2.ch (Ch.of s3 []) (fun z => nomatch z) (fun z => nomatch z) (fun z => nomatch z)
    have fg2 : ∀ a ∈ Fg, H2 a = none := fun a ha => by
      rcases fg a ha with rfl | q
      · exact ng
      · exact sb.free q
    clear c3 sb fg
    have notG : ∀ {a : Addr}, (∃ o, H2 a = some o) → a ∉ Fg := fun {a} x m => ex_ne x (fg2 a m) rfl
    obtain ⟨dl2, hl2⟩ := L2.ob
    have gp : p ∉ Fg := notG ⟨_, h2⟩
    have gl : pl ∉ Fg := notG ⟨_, hl2⟩
    have gt : dt ∉ Fg := notG ⟨_, L2.tk⟩
    have ge : de ∉ Fg := notG ⟨_, L2.en⟩
    have fg0 : ∀ a ∈ Fg, H0 a = none := fun a ha => t2.none a (fg2 a ha)
    clear notG fg2
    have t3 : Ch H0 H3 [p] := t2.same s3
    refine ⟨_, rfl, p, c.C, dx, _, rfl, h3, T.cl, T.n2, (by show 2 < 1000; decide), ?_⟩
    have c4 : Ch H3 (upd H3 p (.ins c.C dx (putF "_log" (.ref pg) (putF "_leases" (.ref pl) (putF "now" (.int 0) []))))) [p] := (Ch.refl _ _).mut (by simp) h3 (nt _)
    have L4 := L3.ch c4 (o1 npl) (o1 npt) (o1 npe)
    have og : ∀ a ∈ Fg, a ∉ [p] := fun a ha z => gp (by rw [← List.mem_singleton.mp z]; exact ha)
    have G4 := G3.frame c4 og
    have h4 : upd H3 p (.ins c.C dx (putF "_log" (.ref pg) (putF "_leases" (.ref pl) (putF "now" (.int 0) [])))) p = some (.ins c.C dx (putF "_log" (.ref pg) (putF "_leases" (.ref pl) (putF "now" (.int 0) [])))) := upd_same
    have t4 := t3.trans c4
    generalize upd H3 p (.ins c.C dx (putF "_log" (.ref pg) (putF "_leases" (.ref pl) (putF "now" (.int 0) [])))) = H4 at L4 G4 h4 t4 ⊢
    clear c4 L3 G3 h3 t3 s3 L2 h2 t2 hl2
    -- the keys' tables
    intro dv hdv
    obtain ⟨dl4, hl4⟩ := L4.ob
    have nv : p ≠ dv ∧ pl ≠ dv ∧ dt ≠ dv ∧ de ≠ dv := ⟨ne_of_none h4 hdv, ne_of_none hl4 hdv, ne_of_none L4.tk hdv, ne_of_none L4.en hdv⟩
    have gv : dv ∉ Fg := fun m => ex_ne (G4.own dv m) hdv rfl
    have f4 : H0 dv = none := t4.none dv hdv
    have s5 := same_new (o := .dK []) hdv
    have h5 := s5 _ _ h4
    have v5 : upd H4 dv (.dK []) dv = some (.dK []) := upd_same
    have L5 := L4.ch (Ch.of s5 []) (fun z => nomatch z) (fun z => nomatch z) (fun z => nomatch z)
    have G5 := G4.frame (Ch.of s5 []) (fun _ _ z => nomatch z)
    have t5 := t4.same s5
    generalize upd H4 dv (.dK []) = H5 at h5 v5 L5 G5 t5 ⊢
    clear s5 h4 L4 G4 t4 hl4 hdv
    refine ⟨_, rfl, p, c.C, dx, _, rfl, h5, T.cl, T.n3, (by show 3 < 1000; decide), ?_⟩
    have c6 : Ch H5 (upd H5 p (.ins c.C dx (putF "_values" (.ref dv) (putF "_log" (.ref pg) (putF "_leases" (.ref pl) (putF "now" (.int 0) [])))))) [p] := (Ch.refl _ _).mut (by simp) h5 (nt _)
    have L6 := L5.ch c6 (o1 npl) (o1 npt) (o1 npe)
    have G6 := G5.frame c6 og
    have v6 := c6.at v5 (o1 nv.1)
    have h6 : upd H5 p (.ins c.C dx (putF "_values" (.ref dv) (putF "_log" (.ref pg) (putF "_leases" (.ref pl) (putF "now" (.int 0) []))))) p = some (.ins c.C dx (putF "_values" (.ref dv) (putF "_log" (.ref pg) (putF "_leases" (.ref pl) (putF "now" (.int 0) []))))) := upd_same
    have t6 := t5.trans c6
    generalize upd H5 p (.ins c.C dx (putF "_values" (.ref dv) (putF "_log" (.ref pg) (putF "_leases" (.ref pl) (putF "now" (.int 0) []))))) = H6 at h6 v6 L6 G6 t6 ⊢
    clear c6 h5 v5 L5 G5 t5
    intro dh hdh
    obtain ⟨dl6, hl6⟩ := L6.ob
    have nh : p ≠ dh ∧ pl ≠ dh ∧ dt ≠ dh ∧ de ≠ dh ∧ dv ≠ dh := ⟨ne_of_none h6 hdh, ne_of_none hl6 hdh, ne_of_none L6.tk hdh, ne_of_none L6.en hdh, ne_of_none v6 hdh⟩
    have gh : dh ∉ Fg := fun m => ex_ne (G6.own dh m) hdh rfl
    have f6 : H0 dh = none := t6.none dh hdh
    have s7 := same_new (o := .dK []) hdh
    have h7 := s7 _ _ h6
    have v7 := s7 _ _ v6
    have k7 : upd H6 dh (.dK []) dh = some (.dK []) := upd_same
    have L7 := L6.ch (Ch.of s7 []) (fun z => nomatch z) (fun z => nomatch z) (fun z => nomatch z)
    have G7 := G6.frame (Ch.of s7 []) (fun _ _ z => nomatch z)
    have t7 := t6.same s7
    generalize upd H6 dh (.dK []) = H7 at h7 v7 k7 L7 G7 t7 ⊢
    clear s7 h6 v6 L6 G6 t6 hl6 hdh
    refine ⟨_, rfl, p, c.C, dx, _, rfl, h7, T.cl, T.n4, (by show 4 < 1000; decide), ?_⟩
    refine ⟨_, rfl, p, c.C, dx, _, rfl, upd_same, T.cl, T.n5, (by show 5 < 1000; decide), ?_⟩
    have c8 : Ch H7 (upd (upd H7 p (.ins c.C dx (putF "_holders" (.ref dh) (putF "_values" (.ref dv) (putF "_log" (.ref pg) (putF "_leases" (.ref pl) (putF "now" (.int 0) []))))))) p (.ins c.C dx (putF "_entered" (.int 0) (putF "_holders" (.ref dh) (putF "_values" (.ref dv) (putF "_log" (.ref pg) (putF "_leases" (.ref pl) (putF "now" (.int 0) [])))))))) [p] := ((Ch.refl _ _).mut (by simp) h7 (nt _)).mut (by simp) h7 (nt _)
    have L8 := L7.ch c8 (o1 npl) (o1 npt) (o1 npe)
    have G8 := G7.frame c8 og
    have v8 := c8.at v7 (o1 nv.1)
    have k8 := c8.at k7 (o1 nh.1)
    have h8 : (upd (upd H7 p (.ins c.C dx (putF "_holders" (.ref dh) (putF "_values" (.ref dv) (putF "_log" (.ref pg) (putF "_leases" (.ref pl) (putF "now" (.int 0) []))))))) p (.ins c.C dx (putF "_entered" (.int 0) (putF "_holders" (.ref dh) (putF "_values" (.ref dv) (putF "_log" (.ref pg) (putF "_leases" (.ref pl) (putF "now" (.int 0) [])))))))) p = some (.ins c.C dx (putF "_entered" (.int 0) (putF "_holders" (.ref dh) (putF "_values" (.ref dv) (putF "_log" (.ref pg) (putF "_leases" (.ref pl) (putF "now" (.int 0) []))))))) := upd_same
    have t8 := t7.trans c8
    generalize upd (upd H7 p (.ins c.C dx (putF "_holders" (.ref dh) (putF "_values" (.ref dv) (putF "_log" (.ref pg) (putF "_leases" (.ref pl) (putF "now" (.int 0) []))))))) p (.ins c.C dx (putF "_entered" (.int 0) (putF "_holders" (.ref dh) (putF "_values" (.ref dv) (putF "_log" (.ref pg) (putF "_leases" (.ref pl) (putF "now" (.int 0) []))))))) = H8 at h8 v8 k8 L8 G8 t8 ⊢
    clear c8 h7 v7 k7 L7 G7 t7
    intro dw hdw
    obtain ⟨dl8, hl8⟩ := L8.ob
    have nw : p ≠ dw ∧ pl ≠ dw ∧ dt ≠ dw ∧ de ≠ dw ∧ dv ≠ dw ∧ dh ≠ dw := ⟨ne_of_none h8 hdw, ne_of_none hl8 hdw, ne_of_none L8.tk hdw, ne_of_none L8.en hdw, ne_of_none v8 hdw, ne_of_none k8 hdw⟩
    have gw : dw ∉ Fg := fun m => ex_ne (G8.own dw m) hdw rfl
    have f8 : H0 dw = none := t8.none dw hdw
    have s9 := same_new (o := .dK []) hdw
    have h9 := s9 _ _ h8
    have v9 := s9 _ _ v8
    have k9 := s9 _ _ k8
    have w9 : upd H8 dw (.dK []) dw = some (.dK []) := upd_same
    have L9 := L8.ch (Ch.of s9 []) (fun z => nomatch z) (fun z => nomatch z) (fun z => nomatch z)
    have G9 := G8.frame (Ch.of s9 []) (fun _ _ z => nomatch z)
    have t9 := t8.same s9
    generalize upd H8 dw (.dK []) = H9 at h9 v9 k9 w9 L9 G9 t9 ⊢
    clear s9 h8 v8 k8 L8 G8 t8 hl8 hdw
    refine ⟨_, rfl, p, c.C, dx, _, rfl, h9, T.cl, T.n6, (by show 6 < 1000; decide), ?_⟩
    let R : Rc := ⟨pl, dt, de, pg, Fg, dv, dh, dw, [], [], [], [], [], [], []⟩
    have ef : putF "_watchers" (V.ref dw) (putF "_entered" (.int 0) (putF "_holders" (.ref dh) (putF "_values" (.ref dv) (putF "_log" (.ref pg) (putF "_leases" (.ref pl) (putF "now" (.int 0) [])))))) = rFl .init R := rfl
    rw [ef]
    have ca : Ch H9 (upd H9 p (.ins c.C dx (rFl .init R))) [p] := (Ch.refl _ _).mut (by simp) h9 (nt _)
    have nd : (R.o p).Nodup := by
      show [p, pl, dt, de, dv, dh, dw].Nodup
      simp only [List.nodup_cons, List.mem_cons, List.not_mem_nil, or_false, not_or, List.nodup_nil, not_false_eq_true, and_true]
      exact ⟨⟨npl, npt, npe, nv.1, nh.1, nw.1⟩, ⟨nlt, nle, nv.2.1, nh.2.1, nw.2.1⟩, ⟨nte, nv.2.2.1, nh.2.2.1, nw.2.2.1⟩, ⟨nv.2.2.2, nh.2.2.2.1, nw.2.2.2.1⟩, ⟨nh.2.2.2.2, nw.2.2.2.2.1⟩, nw.2.2.2.2.2⟩
    have A : RcAt c (upd H9 p (.ins c.C dx (rFl .init R))) p R .init := ⟨⟨dx, upd_same⟩, L9.ch ca (o1 npl) (o1 npt) (o1 npe), G9.frame ca og, ca.at v9 (o1 nv.1), ca.at k9 (o1 nh.1), ca.at w9 (o1 nw.1), (fun _ z => nomatch z), .nil, .nil, .nil, nd, fun a ha z => by
        change a ∈ [p, pl, dt, de, dv, dh, dw] at z
        simp only [List.mem_cons, List.not_mem_nil, or_false] at z
        rcases z with rfl | rfl | rfl | rfl | rfl | rfl | rfl
        · exact gp ha
        · exact gl ha
        · exact gt ha
        · exact ge ha
        · exact gv ha
        · exact gh ha
        · exact gw ha, rfl, (fun _ _ z => nomatch z), rfl, rfl, .nil, .nil, .nil, (fun _ z => nomatch z), (fun _ z => nomatch z), (fun _ z => nomatch z)⟩
    refine k _ _ ⟨R, rfl, A, ⟨Nat.le_refl _, Nat.le_refl _, Nat.le_refl _, Nat.le_refl _, (fun _ z => nomatch z)⟩⟩ (fun a ha => ?_) ((c0.trans t9).trans ca)
    rcases List.mem_append.mp ha with h | h
    · change a ∈ [p, pl, dt, de, dv, dh, dw] at h
      simp only [List.mem_cons, List.not_mem_nil, or_false] at h
      rcases h with rfl | rfl | rfl | rfl | rfl | rfl | rfl
      · exact .inl rfl
      · exact .inr (c0.none _ nl)
      · exact .inr (c0.none _ fl)
      · exact .inr (c0.none _ fe)
      · exact .inr (c0.none _ f4)
      · exact .inr (c0.none _ f6)
      · exact .inr (c0.none _ f8)
    · exact .inr (c0.none _ (fg0 a h))
end
end KL

/-! sorted of pairs of texts, any number of them; sorted of a dict's items -/
namespace PT
open PySem PySem.Spec PyProof.Rows L2 L2H
/-- pairs of texts, by their first, then by their second -/
def lexS (p q : Str × Str) : Bool := if p.1 = q.1 then decide (p.2.cps.toList < q.2.cps.toList) else decide (p.1.cps.toList < q.1.cps.toList)
theorem lexS_iff {p q : Str × Str} : lexS p q = true ↔ p.1.cps.toList < q.1.cps.toList ∨ (p.1 = q.1 ∧ p.2.cps.toList < q.2.cps.toList) := by
  unfold lexS
  by_cases e : p.1 = q.1
  · rw [if_pos e, decide_eq_true_eq, e]
    exact ⟨fun h => .inr ⟨rfl, h⟩, fun h => h.elim (fun z => absurd z (List.lt_irrefl _)) fun z => z.2⟩
  · rw [if_neg e, decide_eq_true_eq]
    exact ⟨.inl, fun h => h.elim id fun z => absurd z.1 e⟩
theorem ltL_trans {a b c : List Nat} (h : a < b) (k : b < c) : a < c := List.lt_trans h k
theorem ltL_as {a b : List Nat} (h : a < b) : ¬ b < a := fun k => List.lt_irrefl _ (List.lt_trans h k)
theorem tri {a b : Str} (h : ¬ a.cps.toList < b.cps.toList) (k : ¬ b.cps.toList < a.cps.toList) : a = b := TL.ext_tl (List.le_antisymm (List.not_lt.mp k) (List.not_lt.mp h))
theorem swo_lexS {α : Type} (k : α → Str × Str) : SrtO.Swo fun u v => lexS (k u) (k v) := by
  refine ⟨fun x y h => ?_, fun x y z h1 h2 => ?_⟩
  · refine Bool.eq_false_iff.mpr fun g => ?_
    rcases lexS_iff.mp h with a | ⟨a1, a2⟩ <;> rcases lexS_iff.mp g with b | ⟨b1, b2⟩
    · exact ltL_as a b
    · rw [b1] at a; exact List.lt_irrefl _ a
    · rw [a1] at b; exact List.lt_irrefl _ b
    · exact ltL_as a2 b2
  · refine Bool.eq_false_iff.mpr fun g => ?_
    have n1 : ¬ lexS (k y) (k x) = true := by rw [h1]; decide
    have n2 : ¬ lexS (k z) (k y) = true := by rw [h2]; decide
    rw [lexS_iff, not_or, not_and] at n1 n2
    have q1 := List.not_lt.mp n1.1
    have q2 := List.not_lt.mp n2.1
    rcases lexS_iff.mp g with a | ⟨a1, a2⟩
    · exact List.not_lt.mpr (List.le_trans q1 q2) a
    · have q3 := n2.1
      rw [a1] at q3
      have e : (k x).1 = (k y).1 := tri q3 n1.1
      have r1 := n1.2 e.symm
      have r2 := n2.2 (a1.trans e)
      exact List.not_lt.mpr (List.le_trans (List.not_lt.mp r1) (List.not_lt.mp r2)) a2
section
variable {prog : Program} {w : World} {A : Around} {E : Value → Shared → Prop} {s : Shared}
/-- v is a tuple of two texts in the heap -/
def Two (h : Heap) (v : Value) (p : Str × Str) : Prop := ∃ b o c1 c2 n, v = .ref b ∧ h.get? b = some o ∧ o.cls = .type "tuple" ∧ o.data = .seq #[.str p.1 c1, .str p.2 c2] n
theorem Two.keeps {g g' : Heap} {v : Value} {p : Str × Str} (x : Two g v p) (k : ∀ b o, g.get? b = some o → o.cls = .type "tuple" → g'.get? b = some o) : Two g' v p := by
  obtain ⟨b, o, c1, c2, n, e, h1, h2, h3⟩ := x
  exact ⟨b, o, c1, c2, n, e, k _ _ h1 h2, h2, h3⟩
theorem two_cmp {vs : List Value} {k : Value → Str × Str} (hk : ∀ v ∈ vs, Two s.heap v (k v)) : SrtO.Cmp prog w A s (tuples' true) (fun p => p.1 ∈ vs) (SrtO.lt2 fun v u => lexS (k v) (k u)) := by
  intro p q m1 m2
  have g1 := hk _ m1
  have g2 := hk _ m2
  show wpAny (model prog w) A (keyLt' (tuples' true) p.1 q.1) (fun r z => z = s ∧ r = lexS (k p.1) (k q.1)) (fun _ _ => False) s
  generalize k p.1 = x at g1 ⊢
  generalize k q.1 = y at g2 ⊢
  obtain ⟨x1, x2⟩ := x
  obtain ⟨y1, y2⟩ := y
  obtain ⟨b, o, c1, c2, n, e1, i1, i2, i3⟩ := g1
  obtain ⟨d, u, d1, d2, m, e2, j1, j2, j3⟩ := g2
  rw [e1, e2]
  refine PySem.W.kat_lt i1 i3 j1 j3 ?_
  show PySem.W.KatLex prog w A true (decide (2 < 2)) _ [(.str x1 c1, .str y1 d1), (.str x2 c2, .str y2 d2)] 0 s
  refine PySem.W.kat_cons (SeqAt.EqAt.str_str x1 c1 y1 d1 prog w _ _ ?_)
  refine PySem.W.kat_go (fun a1 => ?_) fun a1 => ?_
  · have ex : x1 = y1 := by simpa using a1
    refine PySem.W.kat_yes (PySem.W.kat_cons (SeqAt.EqAt.str_str x2 c2 y2 d2 prog w _ _ ?_))
    refine PySem.W.kat_go (fun a2 => ?_) fun a2 => ?_
    · have ey : x2 = y2 := by simpa using a2
      have ef : lexS (x1, x2) (y1, y2) = false := by
        unfold lexS
        rw [if_pos ex]
        refine decide_eq_false ?_
        rw [ey]
        exact List.lt_irrefl _
      exact PySem.W.kat_yes (PySem.W.kat_nil ⟨rfl, ef.symm⟩)
    · have ef : lexS (x1, x2) (y1, y2) = decide (x2.cps.toList < y2.cps.toList) := by
        unfold lexS
        rw [if_pos ex]
      refine PySem.W.kat_no (PySem.W.kat_one _ _ (PyProof.Rows.lt_str ?_))
      exact (show s = s ∧ decide (x2.cps.toList < y2.cps.toList) = lexS (x1, x2) (y1, y2) from ⟨rfl, ef.symm⟩)
  · have ex : ¬ x1 = y1 := by simpa using a1
    have ef : lexS (x1, x2) (y1, y2) = decide (x1.cps.toList < y1.cps.toList) := by
      unfold lexS
      rw [if_neg ex]
    exact PySem.W.kat_no (oneLt_str ⟨rfl, ef.symm⟩)
theorem two_firsts {g : Heap} {k : Value → Str × Str} : ∀ {vs : List Value}, (∀ v ∈ vs, Two g v (k v)) → ∃ fs : List Value, PySem.W.KatTups g vs fs ∧ fs.length = vs.length ∧ ∀ f ∈ fs, ∃ x c, f = Value.str x c
  | [], _ => ⟨[], PySem.W.KatTups.nil, rfl, fun _ z => nomatch z⟩
  | v :: vs, h => by
    obtain ⟨fs, a1, a2, a3⟩ := two_firsts (vs := vs) fun x hx => h x (List.mem_cons_of_mem _ hx)
    obtain ⟨b, o, c1, c2, n, e, i1, i2, i3⟩ := h v List.mem_cons_self
    subst e
    refine ⟨.str (k (.ref b)).1 c1 :: fs, PySem.W.KatTups.cons i1 i2 i3 rfl a1, by rw [List.length_cons, List.length_cons, a2], fun f hf => ?_⟩
    rcases List.mem_cons.mp hf with rfl | hf
    · exact ⟨_, _, rfl⟩
    · exact a3 f hf
theorem two_sortable {a : Addr} {vs : List Value} {k : Value → Str × Str} (h0 : 0 < vs.length) (hk : ∀ v ∈ vs, Two s.heap v (k v)) (ha : ∀ o, s.heap.get? a = some o → o.cls ≠ .type "tuple") : SrtO.SortableO prog w A s a vs fun v u => lexS (k v) (k u) := by
  intro g keep
  have hg : ∀ v ∈ vs, Two g v (k v) := fun v hv => (hk v hv).keeps fun b o e c => keep b o (fun z => ha o (z ▸ e) c) e
  obtain ⟨fs, a1, a2, a3⟩ := two_firsts hg
  refine ⟨tuples' true, fun Q F hq => ?_, two_cmp hg⟩
  refine PySem.W.kat_kind (T := .type "str") a1 (by omega) (fun f hf => ?_) (by rfl) ?_
  · obtain ⟨x, c, rfl⟩ := a3 f hf
    exact PySem.W.Looks.now
  · have e : (Value.type "str" != Value.type "tuple") = true := by decide +kernel
    rw [e]
    exact hq
end
end PT
namespace LX
open PySem PySem.Spec PyProof.Rows L2 L2H
section
variable {X : Cx}
/-- sorted(xs), xs a list of pairs of texts -/
def rSortTT (K : PySem.W.Frag) : List V → Hp → VK → Prop := fun vs H Q => ∃ (a : Addr) (xs : List V) (k : V → Str × Str), vs = [V.ref a] ∧ SqL K H a xs ∧ (∀ x ∈ xs, ∃ t, x = V.ref t ∧ H t = some (.tup [.str (k x).1, .str (k x).2])) ∧
  ∀ ys p, ys.Perm xs → ys.Pairwise (fun x y => PT.lexS (k y) (k x) = false) → H p = none → Q (.ref p) (upd H p (.lst ys))
theorem cr_sortTT : CallR X (.builtin "sorted") (rSortTT X.K) := by
  intro pins s σ H vs us Q I r h
  obtain ⟨a, xs, k, rfl, hs, hx, q⟩ := h
  obtain ⟨its, rv, hl, hz⟩ := I.list hs
  obtain ⟨u, rfl, ru⟩ := vals1 r
  obtain rfl : u = Value.ref a := ru
  obtain ⟨e1, e2⟩ := refs_back rv fun x m => let ⟨t, e, _⟩ := hx x m; ⟨t, e⟩
  have two : ∀ v ∈ its, PT.Two s.heap v (k (backV v)) := fun v hv => by
    obtain ⟨t, rfl⟩ := e2 v hv
    have hm : V.ref t ∈ xs := by rw [e1]; exact List.mem_map.mpr ⟨_, hv, rfl⟩
    obtain ⟨t', e, ht⟩ := hx _ hm
    cases e
    obtain ⟨_, its2, r2, o, ho, hc, n, hd⟩ := I.hok _ _ ht
    obtain ⟨u1, u2, rfl, ri, rj⟩ := vals2 r2
    obtain ⟨t1, rfl⟩ := ri
    obtain ⟨t2, rfl⟩ := rj
    exact ⟨t, o, t1, t2, n, rfl, ho, hc, hd⟩
  refine SrtO.sorted_ord (PT.swo_lexS fun v => k (backV v)) hl.isList (by rw [← rv.length]; exact hz) (fun h2 h₁ b hb kk => ?_) fun out hso hst => ?_
  · refine PT.two_sortable (s := { s with heap := h₁ }) (k := fun v => k (backV v)) (by omega) (fun v hv => (two v hv).keeps fun c o e _ => (kk c o e).2) fun o e => ?_
    have z : some o = some (seqObj "list" its.toArray 0) := e.symm.trans hb
    cases z
    intro c
    exact absurd (Value.type.inj c) (by decide)
  · have h3 : ∀ u ∈ out, ∃ b, u = Value.ref b := fun u hu => e2 u (hst.perm.mem_iff.mp hu)
    obtain ⟨n, hn⟩ := sortedAll_at s.heap its out.toArray
    have hp : (out.map backV).Perm xs := by
      rw [e1]
      exact hst.perm.map backV
    refine ⟨.ref (s.heap.objs.size + 1), upd H (s.heap.objs.size + 1) (.lst (out.map backV)), I.laid (t' := s.toks) (fun b o e => sortedAll_old e) (Nat.le_succ _) ⟨?_, out, n, vals_back h3, hn⟩, rfl, q _ _ hp (List.pairwise_map.mpr hso) (I.hok.fresh (Nat.le_succ _))⟩
    rw [hp.length_eq]
    exact hz
end
end LX

/-! sorted(d.items()) of a dict of texts -/
namespace PT
open PySem PySem.Spec PyProof.Rows L2 L2H KB
theorem ent_of {P : Program} {w : World} : ∀ {ps : KVs} {vs : List (Key × Value)} {es : List DictEntry} {j : Nat} {p : Str × Str}, KV (dV ps) vs → PySem.Pairs (mixKind P w) es vs → ps[j]? = some p →
    ∃ e c1 c2, es[j]? = some e ∧ e.key = Value.str p.1 c1 ∧ e.val = Value.str p.2 c2
  | [], _, _, j, p, _, _, h => by simp at h
  | q :: ps, _, _, 0, p, .cons r m, .cons h1 h2 h3, h => by
    have e : q = p := Option.some.inj h
    subst e
    obtain ⟨r1, r2⟩ := r
    obtain ⟨c2, ev⟩ := (show ∃ c, _ = Value.str q.2 c from r2)
    have h1' := h1
    rw [← r1] at h1'
    obtain ⟨c1, ek⟩ := Value.isStrOf_shape (x := q.1) h1'
    exact ⟨_, c1, c2, rfl, ek, h2.trans ev⟩
  | q :: ps, _, _, j + 1, p, .cons r m, .cons h1 h2 h3, h => ent_of (j := j) m h3 (by simpa using h)
end PT
namespace LX
open PySem PySem.Spec PyProof.Rows L2 L2H KB
section
variable {X : Cx}
def rItemsK : V → List V → Hp → VK → Prop := fun x xs H Q => ∃ (a : Addr) (kvs : List (Key × V)), x = .ref a ∧ xs = [] ∧ H a = some (.dK kvs) ∧ ∀ p, H p = none → Q (.ref p) (upd H p (DX.itemsO p a))
theorem mt_itemsK : MtR X "dict.items" rItemsK := by
  intro pins s σ H x xs v us Q I rx rxs h
  obtain ⟨a, kvs, rfl, rfl, ha, q⟩ := h
  cases rx
  cases rxs
  obtain ⟨_, nsys, vs, rel, o, es, ep, g1, g2, g3, _⟩ := dk_of I.hok ha
  refine DT.callItems (es := es) (ep := ep) nsys ⟨o, g1, g2, g3⟩ ?_
  exact ⟨.ref s.heap.objs.size, upd H s.heap.objs.size (DX.itemsO s.heap.objs.size a), I.laid (t' := s.toks) (fun b u e => Heap.get?_push_of_some _ e) (Nat.le_refl _) (DX.itemsO_ok (Heap.get?_push_size _ rfl)), rfl, q _ (I.hok.fresh (Nat.le_refl _))⟩
/-- the view at p of the dict at a, whose keys and values are texts -/
def rSortItK : List V → Hp → VK → Prop := fun vs H Q => ∃ (p a : Addr) (ps : KVs), vs = [.ref p] ∧ H p = some (DX.itemsO p a) ∧ H a = some (.dK (dV ps)) ∧
  ∀ H' l ts qs, Same H H' → H l = none → H' l = some (.lst (ts.map V.ref)) → PairsAt H' ts qs → qs.Perm ps → qs.Pairwise (fun x y => PT.lexS y x = false) → Q (.ref l) H'
theorem cr_sortItK (hc : X.calm = true) : CallR X (.builtin "sorted") rSortItK := by
  intro pins s σ H xs us Q I r h
  obtain ⟨p, a, ps, rfl, hp, ha, q⟩ := h
  obtain rfl := Vals.ref1 r
  have view : s.heap.IsItemsView p a := (show ObjOk X.prog X.w H s.heap p (DX.itemsO p a) from I.hok p _ hp).1
  obtain ⟨z, nsys, vs, rel, o, es, ep, g1, g2, g3, _, g5, _⟩ := dk_of I.hok ha
  have l0 : (dV ps).length = ps.length := List.length_map _
  have l1 : ps.length = vs.length := l0.symm.trans (Paired.length rel)
  have l2 : es.size = vs.length := by rw [← Array.length_toList]; exact g5.length
  refine DT.sortedI (es := es) (ep := ep) (I.ok.hd hc) view ⟨o, g1, g2, g3⟩ (by rw [l2, ← l1, ← l0]; exact z) fun h' tk as hk hlt hl hG => ?_
  have lak : as.length = ps.length := by omega
  have nd : as.Nodup := List.Pairwise.imp (fun h => Nat.ne_of_lt h) hG.rise
  have zk : ((as.zip ps).map (·.1)) = as := List.map_fst_zip (Nat.le_of_eq lak)
  have ndz : ((as.zip ps).map (·.1)).Nodup := by rw [zk]; exact nd
  -- what each of them is
  let k : Value → Str × Str := fun v => match v with
    | .ref b => (getA (as.zip ps) b).getD ("", "")
    | _ => ("", "")
  have kAt : ∀ {j : Nat} {b : Addr}, as[j]? = some b → ∃ pr, ps[j]? = some pr ∧ k (.ref b) = pr := fun {j b} hj => by
    have hlt : j < ps.length := by rw [← lak]; exact (List.getElem?_eq_some_iff.mp hj).1
    refine ⟨ps[j], List.getElem?_eq_getElem hlt, ?_⟩
    have m : (b, ps[j]) ∈ as.zip ps := List.mem_iff_getElem?.mpr ⟨j, List.getElem?_zip_eq_some.mpr ⟨hj, List.getElem?_eq_getElem hlt⟩⟩
    show (getA (as.zip ps) b).getD ("", "") = ps[j]
    rw [getA_of ndz m]
    rfl
  have two : ∀ {j : Nat} {b : Addr}, as[j]? = some b → PT.Two h' (.ref b) (k (.ref b)) := fun {j b} hj => by
    obtain ⟨pr, e1, e2⟩ := kAt hj
    obtain ⟨en, e3, e4⟩ := hG.pairs j b hj
    obtain ⟨en', c1, c2, e5, e6, e7⟩ := PT.ent_of rel g5 e1
    rw [Array.getElem?_toList, e3] at e5
    cases e5
    rw [e6, e7] at e4
    rw [e2]
    exact ⟨b, _, c1, c2, 0, rfl, e4, rfl, rfl⟩
  have twoM : ∀ v ∈ as.map Value.ref, PT.Two h' v (k v) := fun v hv => by
    obtain ⟨b, hb, rfl⟩ := List.mem_map.mp hv
    obtain ⟨j, hj⟩ := List.mem_iff_getElem?.mp hb
    exact two hj
  have hob : (h'.push { cls := .type "list", data := .seq (as.map Value.ref).toArray }).get? h'.objs.size = some (seqObj "list" (as.map Value.ref).toArray 0) := Heap.get?_push_size _ rfl
  have ne0 : ∀ b u, h'.get? b = some u → b ≠ h'.objs.size := fun b u e => Nat.ne_of_lt (Heap.lt_size e)
  have ka : ∀ b u, h'.get? b = some u → (h'.push { cls := .type "list", data := .seq (as.map Value.ref).toArray }).get? b = some u := fun b u e => Heap.get?_push_of_some _ e
  generalize h'.push { cls := .type "list", data := .seq (as.map Value.ref).toArray } = h2 at hob ka ⊢
  have lz : (as.map Value.ref).length ≤ sizeLine := by
    rw [List.length_map, lak, ← l0]
    exact z
  refine wpAny_call_entry PyProof.Rows.slot_list_sort ⟨_, hob, rfl⟩ PyProof.Rows.entry_list_sort (SrtO.list_sort_ord (s := { s with heap := h2, toks := tk }) (PT.swo_lexS k) hob lz (fun hh2 => ?_) fun out hso hst => ⟨_, rfl, ?_⟩) (PyProof.Rows.args_list_sort _)
  · refine PT.two_sortable (s := { s with heap := h2, toks := tk }) (k := k) (by omega) (fun v hv => (twoM v hv).keeps fun b u e _ => ka b u e) fun u e => ?_
    have z2 : some u = some (seqObj "list" (as.map Value.ref).toArray 0) := e.symm.trans hob
    cases z2
    intro c
    exact absurd (Value.type.inj c) (by decide)
  · show EP X pins σ Q (.ref h'.objs.size) { s with heap := sortedHeap h2 h'.objs.size (as.map Value.ref) out.toArray, toks := tk }
    -- the list's items, in their new order
    have back : out = (out.map backV).map (fun v => match v with | .ref b => Value.ref b | _ => Value.none) := by
      rw [List.map_map]
      refine (List.map_id out).symm.trans (List.map_congr_left fun v hv => ?_)
      obtain ⟨b, _, rfl⟩ := List.mem_map.mp (hst.perm.mem_iff.mp hv)
      rfl
    obtain ⟨bs, hbs⟩ : ∃ bs : List Addr, out = bs.map Value.ref := by
      refine ⟨out.map fun v => match v with | .ref b => b | _ => 0, ?_⟩
      rw [List.map_map]
      refine (List.map_id out).symm.trans (List.map_congr_left fun v hv => ?_)
      obtain ⟨b, _, rfl⟩ := List.mem_map.mp (hst.perm.mem_iff.mp hv)
      rfl
    have pbs : bs.Perm as := by
      have e := (hst.perm.map fun v => match v with | .ref b => b | _ => (0 : Addr))
      rw [hbs, List.map_map, List.map_map] at e
      have e1 : ∀ l : List Addr, l.map ((fun v : Value => match v with | .ref b => b | _ => (0 : Addr)) ∘ Value.ref) = l := fun l => (List.map_congr_left fun _ _ => rfl).trans (List.map_id l)
      rw [e1, e1] at e
      exact e
    have kF : ∀ b u, h'.get? b = some u → (sortedHeap h2 h'.objs.size (as.map Value.ref) out.toArray).get? b = some u := fun b u e => (PyProof.Rows.sortedHeap_old (ne0 _ _ e) (Heap.lt_size (ka _ _ e))).trans (ka _ _ e)
    have kS : ∀ b u, s.heap.get? b = some u → (sortedHeap h2 h'.objs.size (as.map Value.ref) out.toArray).get? b = some u := fun b u e => kF b u (hk b u e)
    obtain ⟨eF, heF⟩ := PyProof.Rows.sortedHeap_at (vs := as.map Value.ref) (out := out.toArray) hob
    generalize sortedHeap h2 h'.objs.size (as.map Value.ref) out.toArray = hF at kF kS heF ⊢
    have I1 : Inv X pins σ H { s with heap := hF, toks := tk } := I.kept (t' := tk) kS
    have hn0 : H h'.objs.size = none := I.hok.fresh (Nat.le_of_lt hlt)
    have hlen : (bs.map V.ref).length ≤ sizeLine := by
      rw [List.length_map, pbs.length_eq, ← List.length_map (f := Value.ref)]
      exact lz
    have rv : Vals (bs.map V.ref) out := by
      rw [hbs]
      exact vals_maps (fun b : Addr => V.ref b) (fun b => Value.ref b) bs fun _ _ => rfl
    have I2 : Inv X pins σ (upd H h'.objs.size (.lst (bs.map V.ref))) { s with heap := hF, toks := tk } :=
      I1.take (h' := hF) (t' := tk) (fun b ob _ e => e) (I.fpOk (Nat.le_of_lt hlt) hn0) ⟨hlen, out, eF, rv, heF⟩
    obtain ⟨H2, I3, g, qt⟩ := DX.takeT (P := fun b ws => ws = [.str (k (.ref b)).1, .str (k (.ref b)).2]) I as _ I2 nd fun b hb => by
      obtain ⟨j, hj⟩ := List.mem_iff_getElem?.mp hb
      have hbl : s.heap.objs.size ≤ b := Nat.le_of_lt (hG.above b hb)
      obtain ⟨b', ob, c1, c2, n, eb, t1, t2, t3⟩ := two hj
      cases eb
      refine ⟨hbl, ?_, _, rfl, fun H3 => ⟨(by show 2 ≤ sizeLine; decide), [Value.str (k (.ref b)).1 c1, Value.str (k (.ref b)).2 c2], .cons ⟨_, rfl⟩ (.cons ⟨_, rfl⟩ .nil), ⟨ob, kF _ _ t1, t2, n, t3⟩⟩⟩
      rw [upd_ne (ne0 _ _ t1)]
      exact I.hok.fresh hbl
    have gr : Same H H2 := fun b u e => g b u (by rw [upd_ne (ne_of_none e hn0)]; exact e)
    have pk : (bs.map fun b => k (.ref b)).Perm ps := by
      have e := pbs.map fun b => k (.ref b)
      have e2 : as.map (fun b => k (.ref b)) = ps := by
        refine List.ext_getElem? fun j => ?_
        rw [List.getElem?_map]
        cases ej : as[j]? with
        | none =>
          have : ps.length ≤ j := by rw [← lak]; exact List.getElem?_eq_none_iff.mp ej
          rw [List.getElem?_eq_none this]
          rfl
        | some b =>
          obtain ⟨pr, e3, e4⟩ := kAt ej
          rw [e3, ← e4]
          rfl
      rw [e2] at e
      exact e
    have so : (bs.map fun b => k (.ref b)).Pairwise (fun x y => PT.lexS y x = false) := by
      rw [hbs] at hso
      exact List.pairwise_map.mpr (List.pairwise_map.mp hso)
    refine ⟨.ref h'.objs.size, H2, I3, rfl, q H2 h'.objs.size bs _ gr hn0 (g _ _ upd_same) ?_ pk so⟩
    have all : ∀ l : List Addr, (∀ b ∈ l, b ∈ as) → PairsAt H2 l (l.map fun b => k (.ref b)) := fun l => by
      induction l with
      | nil => exact fun _ => .nil
      | cons b l ih =>
        intro hl
        refine .cons ?_ (ih fun c hc => hl c (List.mem_cons_of_mem _ hc))
        obtain ⟨ws, rfl, hH⟩ := qt b (hl b List.mem_cons_self)
        exact hH
    exact all bs fun b hb => pbs.mem_iff.mp hb
end
end LX
namespace KB
open PySem L2 L2H LX
/-! ### sorted pairs of unlike keys -/
theorem lexS_le {x y : Str × Str} (h : PT.lexS y x = false) : leS x.1 y.1 := by
  rw [leS_iff]
  intro z
  have := PT.lexS_iff (p := y) (q := x) |>.mpr (.inl z)
  rw [this] at h
  cases h
theorem sortedS_of : ∀ {l : List Str}, l.Pairwise leS → PyProof.Rows.sortedS l = true
  | [], _ => rfl
  | x :: l, h => by
    show PyProof.Rows.risingS x l = true
    have go : ∀ (p : Str) (r : List Str), (p :: r).Pairwise leS → PyProof.Rows.risingS p r = true := fun p r => by
      induction r generalizing p with
      | nil => exact fun _ => rfl
      | cons y r ih =>
        intro h
        have h1 := (List.pairwise_cons.mp h).1 y List.mem_cons_self
        have h2 := ih y (List.pairwise_cons.mp h).2
        unfold PyProof.Rows.risingS
        rw [Bool.and_eq_true, Bool.not_eq_true']
        exact ⟨h1, h2⟩
    exact go x l h
theorem told_perm {d qs : KVs} (n : (d.map (·.1)).Nodup) (p : qs.Perm d) (s : qs.Pairwise fun x y => PT.lexS y x = false) : Told (getP d) qs := by
  have nq : (qs.map (·.1)).Nodup := (p.map (·.1)).nodup_iff.mpr n
  refine ⟨sortedS_of (List.pairwise_map.mpr (s.imp fun h => lexS_le h)), nq, fun k => ?_⟩
  cases e : getP d k with
  | none =>
    refine getP_none.mpr fun z => getP_none.mp e ((p.map (·.1)).mem_iff.mp z)
  | some v =>
    have m := p.mem_iff.mpr (getP_mem e)
    exact getP_of nq m
end KB

namespace KL
open PySem L2 L2H LX KB KA1
/-! ### the program's room: what is read of it -/
def heldV (s : Rm) (k : Str) : V := match s.held k with
  | some (v, _) => .str v
  | none => .non
def heldH (s : Rm) (k : Str) : Int := match s.held k with
  | some (_, h) => h
  | none => 0
def spValue0 (c : Cs) : Sp := fun vs H Q _ => ∃ (p : Addr) (k : Str) (R : Rc) (s : Rm), vs = [.ref p, .str k] ∧ RcAt c H p R s ∧ Q (heldV s k) H
def spHolder0 (c : Cs) : Sp := fun vs H Q _ => ∃ (p : Addr) (k : Str) (R : Rc) (s : Rm), vs = [.ref p, .str k] ∧ RcAt c H p R s ∧ Q (.int (heldH s k)) H
def spRLast0 (c : Cs) : Sp := fun vs H Q _ => ∃ (p : Addr) (R : Rc) (s : Rm), vs = [.ref p] ∧ RcAt c H p R s ∧ Q (.int s.rows.length) H
def spRFirst0 (c : Cs) : Sp := fun vs H Q _ => ∃ (p : Addr) (R : Rc) (s : Rm), vs = [.ref p] ∧ RcAt c H p R s ∧ Q (.int ((s.gone : Int) + 1)) H
theorem RcAt.gV {c : Cs} {H : Hp} {p : Addr} {R : Rc} {s : Rm} (A : RcAt c H p R s) (k : Str) : ∃ o : Option V, DGet H R.dv (.str k) o ∧ o.getD .non = heldV s k ∧ o.isSome = (s.held k).isSome := by
  refine ⟨_, DGet.k (k := Sum.inr k) A.va, ?_⟩
  unfold heldV
  rw [A.fh]
  rcases A.rv.get inr_inj k with ⟨e1, e2⟩ | ⟨b, v, e1, e2, e3⟩
  · rw [e1, e2]; exact ⟨rfl, rfl⟩
  · rw [e1, e2, e3]; exact ⟨rfl, rfl⟩
theorem RcAt.gH {c : Cs} {H : Hp} {p : Addr} {R : Rc} {s : Rm} (A : RcAt c H p R s) (k : Str) : ∃ o : Option V, DGet H R.dh (.str k) o ∧ o.getD (.int 0) = .int (heldH s k) := by
  refine ⟨_, DGet.k (k := Sum.inr k) A.ho, ?_⟩
  unfold heldH
  rw [A.fh]
  rcases A.rh.get inr_inj k with ⟨e1, e2⟩ | ⟨b, v, e1, e2, e3⟩
  · rw [e1, e2]; rfl
  · rw [e1, e2, e3]; rfl
/-- the pairs of a table whose keys begin with z -/
def preL (z : Str) (l : List (Str × (Str × Int))) : KVs := (l.filter fun x => isPre z x.1).map fun x => (x.1, x.2.1)
theorem preL_snoc {z : Str} {l : List (Str × (Str × Int))} {i : Nat} {x : Str × (Str × Int)} (h : l[i]? = some x) : preL z (l.take (i + 1)) = preL z (l.take i) ++ (if isPre z x.1 = true then [(x.1, x.2.1)] else []) := by
  have e : l.take (i + 1) = l.take i ++ [x] := by
    rw [List.take_add_one, h]; rfl
  rw [e]
  unfold preL
  rw [List.filter_append, List.map_append]
  congr 1
  by_cases c : isPre z x.1 = true
  · simp [c]
  · simp [c]
theorem preL_len (z : Str) (l : List (Str × (Str × Int))) : (preL z l).length ≤ l.length := by
  unfold preL
  rw [List.length_map]
  exact List.length_filter_le _ _
theorem preL_nodup {z : Str} {l : List (Str × (Str × Int))} (n : (l.map (·.1)).Nodup) : ((preL z l).map (·.1)).Nodup := by
  unfold preL
  rw [List.map_map]
  exact n.sublist (List.filter_sublist.map _)
theorem preL_get (z k : Str) : ∀ l : List (Str × (Str × Int)), getP (preL z l) k = if isPre z k = true then (getA l k).map (·.1) else none
  | [] => by
    split <;> rfl
  | x :: l => by
    have ih := preL_get z k l
    unfold preL at ih ⊢
    by_cases c : isPre z x.1 = true
    · rw [List.filter_cons_of_pos (by exact c), List.map_cons]
      by_cases e : x.1 = k
      · rw [getA_pos e]
        rw [e] at c
        rw [if_pos c]
        unfold getP
        rw [List.find?_cons_of_pos (by exact decide_eq_true e)]
        rfl
      · rw [getA_neg e, ← ih]
        unfold getP
        rw [List.find?_cons_of_neg (by rw [decide_eq_false e]; decide)]
    · rw [List.filter_cons_of_neg (by exact c), ih]
      by_cases e : x.1 = k
      · rw [e] at c
        rw [if_neg c, if_neg c]
      · rw [getA_neg e]
def kOfS (H : Hp) (x : V) : Str × Str := match x with
  | .ref t => (match H t with
    | some (.tup [.str a, .str b]) => (a, b)
    | _ => ("", ""))
  | _ => ("", "")
theorem kOfS_at {H : Hp} {t : Addr} {p : Str × Str} (h : H t = some (.tup [.str p.1, .str p.2])) : kOfS H (.ref t) = p := by
  unfold kOfS
  simp only [h]
theorem tt_prem {H : Hp} : ∀ {ts : List Addr} {qs : KVs}, PairsAt H ts qs → ∀ x ∈ ts.map V.ref, ∃ t, x = V.ref t ∧ H t = some (.tup [.str (kOfS H x).1, .str (kOfS H x).2])
  | _, _, .nil, x, h => by cases h
  | _, _, .cons (a := t) (b := p) r m, x, h => by
    rcases List.mem_cons.mp h with e | h
    · subst e
      exact ⟨t, rfl, by rw [kOfS_at r]; exact r⟩
    · exact tt_prem m x h
theorem tt_keys {H : Hp} : ∀ {ts : List Addr} {qs : KVs}, PairsAt H ts qs → (ts.map V.ref).map (kOfS H) = qs
  | _, _, .nil => rfl
  | _, _, .cons r m => by
    rw [List.map_cons, List.map_cons, kOfS_at r, tt_keys m]
theorem tt_back {H : Hp} : ∀ {ys : List V}, (∀ x ∈ ys, ∃ t, x = V.ref t ∧ H t = some (.tup [.str (kOfS H x).1, .str (kOfS H x).2])) → ∃ ts, ys = ts.map V.ref ∧ PairsAt H ts (ys.map (kOfS H))
  | [], _ => ⟨[], rfl, .nil⟩
  | y :: r, h => by
    obtain ⟨t, e, ht⟩ := h y List.mem_cons_self
    obtain ⟨ts, e2, m⟩ := tt_back (ys := r) fun x hx => h x (List.mem_cons_of_mem _ hx)
    exact ⟨t :: ts, by rw [List.map_cons, ← e, ← e2], .cons ht m⟩
theorem DRel.atL {α β : Type} {inj : α → Key} {R : β → V → Prop} : ∀ {d : List (α × β)} {kvs : List (Key × V)} {i : Nat} {x : α × β}, DRel inj R d kvs → d[i]? = some x → ∃ v, kvs[i]? = some (inj x.1, v) ∧ R x.2 v
  | _, _, i, x, .nil, h => by simp at h
  | _, _, 0, x, .cons (b := q) r m, h => by
    have e := Option.some.inj h
    subst e
    refine ⟨q.2, ?_, r.2⟩
    rw [← r.1]
    rfl
  | _, _, i + 1, x, .cons r m, h => DRel.atL (i := i) m h
section
variable {P : Program} {w : World} {K : PySem.W.Frag} {mg : Str → Option Value} {base : Heap} {c : Cs}
theorem ok_Room_value {f : Addr} {fd : FuncData} (F : Fun K "value" "Room.value" s_Room_value f fd) (T : RomT K c.C) : FnOk P w K mg base CX0 1 f fd p_Room_value (spValue0 c) := by
  refine F.ok sc_Room_value (fun vs H Q E h => ?_) (fun cdv A outer s H vs Q E hr h => ?_)
  · obtain ⟨p, k, R, s, rfl, _⟩ := h
    rfl
  · obtain ⟨p, ky, R, r, rfl, A1, k⟩ := h
    have hu := hu_of hr
    obtain ⟨dx, hp⟩ := A1.ob
    obtain ⟨o, g1, g2, _⟩ := A1.gV ky
    refine ⟨_, pss_one (ps_ret (pe_dget1 hu (pe_fld (pv 0) rfl) (pv 1) ⟨by rfl, by rfl, by rfl, by rfl⟩)), ?_⟩
    refine ⟨_, rfl, p, c.C, dx, _, _, rfl, hp, T.cl, T.n3, zf_get (i := 3) (by decide +kernel) rfl, R.dv, rfl, .inl ⟨_, .inl A1.va⟩, _, rfl, o, g1, ?_⟩
    rw [g2]
    exact k
theorem ok_Room_holder {f : Addr} {fd : FuncData} (F : Fun K "holder" "Room.holder" s_Room_holder f fd) (T : RomT K c.C) : FnOk P w K mg base CX0 1 f fd p_Room_holder (spHolder0 c) := by
  refine F.ok sc_Room_holder (fun vs H Q E h => ?_) (fun cdv A outer s H vs Q E hr h => ?_)
  · obtain ⟨p, k, R, s, rfl, _⟩ := h
    rfl
  · obtain ⟨p, ky, R, r, rfl, A1, k⟩ := h
    have hu := hu_of hr
    obtain ⟨dx, hp⟩ := A1.ob
    obtain ⟨o, g1, g2⟩ := A1.gH ky
    refine ⟨_, pss_one (ps_ret (pe_dget2 hu (pe_fld (pv 0) rfl) (pv 1) pe_int ⟨by rfl, by rfl, by rfl, by rfl⟩)), ?_⟩
    refine ⟨_, rfl, p, c.C, dx, _, _, rfl, hp, T.cl, T.n4, zf_get (i := 4) (by decide +kernel) rfl, R.dh, rfl, .inl ⟨_, .inl A1.ho⟩, _, rfl, o, g1, ?_⟩
    rw [g2]
    exact k
theorem ok_Room_last {f fL : Addr} {fd fdL : FuncData} {psL : List Str} (F : Fun K "last" "Room.last" s_Room_last f fd) (T : RomT K c.C) (TG : LogT K c.CG) (mL : Meth K c.CG "last" fL) (bL : Binds K fdL psL []) (GL : FnOk P w K mg base CX0 1 fL fdL psL (spLast0 c.CG)) :
    FnOk P w K mg base CX0 2 f fd p_Room_last (spRLast0 c) := by
  refine F.ok sc_Room_last (fun vs H Q E h => ?_) (fun cdv A outer s H vs Q E hr h => ?_)
  · obtain ⟨p, R, s, rfl, _⟩ := h
    rfl
  · obtain ⟨p, R, r, rfl, A1, k⟩ := h
    obtain ⟨dx, hp⟩ := A1.ob
    obtain ⟨_, dy, fs, hg, hm⟩ := A1.lg.inst
    refine ⟨_, pss_one (ps_ret (pe_meth0 (pe_fld (pv 0) rfl) TG.cl mL GL hr bL .nil pass0)), ?_⟩
    exact ⟨_, rfl, p, c.C, dx, _, _, rfl, hp, T.cl, T.n2, zf_get (i := 2) (by decide +kernel) rfl, R.pg, dy, fs, rfl, hg, hm _ (by simp), R.Fg, R.pg, r.rows, r.gone, rfl, A1.lg, k⟩
theorem ok_Room_first {f fL : Addr} {fd fdL : FuncData} {psL : List Str} (F : Fun K "first" "Room.first" s_Room_first f fd) (T : RomT K c.C) (TG : LogT K c.CG) (mL : Meth K c.CG "first" fL) (bL : Binds K fdL psL []) (GL : FnOk P w K mg base CX0 1 fL fdL psL (spFirst0 c.CG)) :
    FnOk P w K mg base CX0 2 f fd p_Room_first (spRFirst0 c) := by
  refine F.ok sc_Room_first (fun vs H Q E h => ?_) (fun cdv A outer s H vs Q E hr h => ?_)
  · obtain ⟨p, R, s, rfl, _⟩ := h
    rfl
  · obtain ⟨p, R, r, rfl, A1, k⟩ := h
    obtain ⟨dx, hp⟩ := A1.ob
    obtain ⟨_, dy, fs, hg, hm⟩ := A1.lg.inst
    refine ⟨_, pss_one (ps_ret (pe_meth0 (pe_fld (pv 0) rfl) TG.cl mL GL hr bL .nil pass0)), ?_⟩
    exact ⟨_, rfl, p, c.C, dx, _, _, rfl, hp, T.cl, T.n2, zf_get (i := 2) (by decide +kernel) rfl, R.pg, dy, fs, rfl, hg, hm _ (by simp), R.Fg, R.pg, r.rows, r.gone, rfl, A1.lg, k⟩
theorem api_value {k : Nat} {f : Addr} {fd : FuncData} {ps : List Str} (G : FnOk P w K mg base CX0 k f fd ps (spValue0 c)) : FnOk P w K mg base CX0 k f fd ps (spRValue (RsP c)) :=
  G.imp fun vs H Q E ⟨F, p, ky, s, e, ⟨R, eF, A, Z⟩, o, q⟩ => ⟨p, ky, R, s, e, A, q F H ⟨R, eF, A, Z⟩ (Grow.refl _ _) (Ch.refl _ _)⟩
theorem api_holder {k : Nat} {f : Addr} {fd : FuncData} {ps : List Str} (G : FnOk P w K mg base CX0 k f fd ps (spHolder0 c)) : FnOk P w K mg base CX0 k f fd ps (spRHolder (RsP c)) :=
  G.imp fun vs H Q E ⟨F, p, ky, s, e, ⟨R, eF, A, Z⟩, o, q⟩ => ⟨p, ky, R, s, e, A, q F H ⟨R, eF, A, Z⟩ (Grow.refl _ _) (Ch.refl _ _)⟩
theorem api_last {k : Nat} {f : Addr} {fd : FuncData} {ps : List Str} (G : FnOk P w K mg base CX0 k f fd ps (spRLast0 c)) : FnOk P w K mg base CX0 k f fd ps (spRLast (RsP c)) :=
  G.imp fun vs H Q E ⟨F, p, s, e, ⟨R, eF, A, Z⟩, q⟩ => ⟨p, R, s, e, A, q F H ⟨R, eF, A, Z⟩ (Grow.refl _ _) (Ch.refl _ _)⟩
theorem api_first {k : Nat} {f : Addr} {fd : FuncData} {ps : List Str} (G : FnOk P w K mg base CX0 k f fd ps (spRFirst0 c)) : FnOk P w K mg base CX0 k f fd ps (spRFirst (RsP c)) :=
  G.imp fun vs H Q E ⟨F, p, s, e, ⟨R, eF, A, Z⟩, q⟩ => ⟨p, R, s, e, A, q F H ⟨R, eF, A, Z⟩ (Grow.refl _ _) (Ch.refl _ _)⟩
end
end KL

namespace KL
open PySem L2 L2H LX KB KA1
/-! ### the program's room: a key goes -/
theorem setA_drop {α β : Type} [DecidableEq α] (d : List (α × β)) (k : α) : getA (dropA d k) = setF (getA d) k none := by
  funext j
  rw [getA_dropA]
  rfl
theorem setA_put {α β : Type} [DecidableEq α] (d : List (α × β)) (k : α) (v : β) : getA (putA d k v) = setF (getA d) k (some v) := by
  funext j
  rw [getA_putA]
  rfl
theorem dropA_less {α β : Type} [DecidableEq α] {d : List (α × β)} {k : α} (h : getA d k ≠ none) : (dropA d k).length + 1 ≤ d.length := by
  cases e : getA d k with
  | none => exact absurd e h
  | some v =>
    exact List.length_filter_lt_length_iff_exists (p := fun p : α × β => decide (p.1 ≠ k)) (l := d) |>.mpr ⟨(k, v), getA_mem e, by simp⟩
theorem all_snoc (s : Rm) (t : Int) (ks : List Str) (k : Str) : cutAll s t (ks ++ [k]) = cutM t (cutAll s t ks) k := by
  unfold cutAll
  rw [List.foldl_append]
  rfl
theorem all_held : ∀ (ks : List Str) (s : Rm) (t : Int) (k : Str), k ∉ ks → (cutAll s t ks).held k = s.held k
  | [], s, t, k, _ => rfl
  | j :: ks, s, t, k, h => by
    rw [List.mem_cons, not_or] at h
    show (cutAll (cutM t s j) t ks).held k = _
    rw [all_held ks _ t k h.2]
    show setF s.held j none k = _
    unfold setF
    rw [if_neg fun z => h.1 z.symm]
theorem all_ends : ∀ (ks : List Str) (s : Rm) (t : Int), (cutAll s t ks).ends = s.ends
  | [], s, t => rfl
  | j :: ks, s, t => all_ends ks (cutM t s j) t
theorem all_now : ∀ (ks : List Str) (s : Rm) (t n : Int), cutAll { s with now := n } t ks = { cutAll s t ks with now := n }
  | [], s, t, n => rfl
  | j :: ks, s, t, n => all_now ks (cutM t s j) t n
/-- what a way through the room leaves of the parts' sizes -/
structure Sub (R R' : Rc) (s s' : Rm) : Prop where
  t : R'.T.length ≤ R.T.length
  e : R'.E.length ≤ R.E.length
  h : R'.HV.length ≤ R.HV.length
  w : R'.WS = R.WS
  hr : R'.HV.length + s'.rows.length ≤ R.HV.length + s.rows.length
  r : s.rows.length ≤ s'.rows.length
  g : s'.given = s.given
  m : s'.met = s.met
theorem Sub.refl (R : Rc) (s : Rm) : Sub R R s s := ⟨Nat.le_refl _, Nat.le_refl _, Nat.le_refl _, rfl, Nat.le_refl _, Nat.le_refl _, rfl, rfl⟩
theorem Sub.trans {R R1 R2 : Rc} {s s1 s2 : Rm} (a : Sub R R1 s s1) (b : Sub R1 R2 s1 s2) : Sub R R2 s s2 :=
  ⟨Nat.le_trans b.t a.t, Nat.le_trans b.e a.e, Nat.le_trans b.h a.h, b.w.trans a.w, Nat.le_trans b.hr a.hr, Nat.le_trans a.r b.r, b.g.trans a.g, b.m.trans a.m⟩
theorem Sub.sz {R R' : Rc} {s s' : Rm} (a : Sub R R' s s') (z : RcSz R s) : RcSz R' s' :=
  ⟨by rw [a.g]; exact Nat.le_trans a.t z.t, by rw [a.g]; exact Nat.le_trans a.e z.e, Nat.le_trans a.h (Nat.le_trans z.h a.r), by rw [a.m, a.w]; exact z.w, fun x hx => by have q := z.wt x (a.w ▸ hx); have r := a.r; omega⟩
/-- from one room to the next -/
structure Way (c : Cs) (p : Addr) (H : Hp) (R : Rc) (s : Rm) (H' : Hp) (R' : Rc) (s' : Rm) : Prop where
  at_ : RcAt c H' p R' s'
  sub : Sub R R' s s'
  gr : Grow (R.F p) (R'.F p) H
  ch : Ch H H' (R.F p)
theorem Way.refl {c : Cs} {p : Addr} {H : Hp} {R : Rc} {s : Rm} (A : RcAt c H p R s) : Way c p H R s H R s := ⟨A, Sub.refl _ _, Grow.refl _ _, Ch.refl _ _⟩
theorem Way.trans {c : Cs} {p : Addr} {H H1 H2 : Hp} {R R1 R2 : Rc} {s s1 s2 : Rm} (a : Way c p H R s H1 R1 s1) (b : Way c p H1 R1 s1 H2 R2 s2) : Way c p H R s H2 R2 s2 :=
  ⟨b.at_, a.sub.trans b.sub, a.gr.trans b.gr a.ch.none, a.ch.seq a.gr b.ch⟩
theorem rcF_log {R : Rc} {p : Addr} {F' : List Addr} {H : Hp} (g : Grow R.Fg F' H) : Grow (R.F p) (Rc.F { R with Fg := F' } p) H := fun a ha => by
  rcases List.mem_append.mp ha with h | h
  · exact .inl (List.mem_append_left _ h)
  · rcases g a h with q | q
    · exact .inl (List.mem_append_right _ q)
    · exact .inr q
def spTakeOut (c : Cs) : Sp := fun vs H Q _ => ∃ (p : Addr) (k : Str) (t : Int) (R : Rc) (s : Rm), vs = [.ref p, .str k, .int t] ∧ RcAt c H p R s ∧ s.held k ≠ none ∧ s.rows.length ≤ 100000 ∧
  ∀ R' H', Way c p H R s H' R' (cutM t s k) → Q (.int ((s.rows.length : Int) + 1)) H'
def spRefL (c : Cs) (kk : Kinds) : Sp := fun vs H Q E => ∃ (p : Addr) (h : Int) (R : Rc) (s : Rm), vs = [.ref p, .int h] ∧ RcAt c H p R s ∧ (noLease s h → E (.ref kk.NL) none H) ∧ (¬ noLease s h → Q .non H)
def spRefH (c : Cs) (kk : Kinds) : Sp := fun vs H Q E => ∃ (p : Addr) (k : Str) (h : Int) (R : Rc) (s : Rm), vs = [.ref p, .str k, .int h] ∧ RcAt c H p R s ∧ (heldBy s k h → E (.ref kk.HE) none H) ∧ (¬ heldBy s k h → Q .non H)
theorem RcAt.inK {c : Cs} {H : Hp} {p : Addr} {R : Rc} {s : Rm} (A : RcAt c H p R s) {k : Str} (h : s.held k ≠ none) : TOk 60 k := by
  rw [A.fh] at h
  cases e : getA R.HV k with
  | none => exact absurd e h
  | some v => exact A.kH _ (getA_mem e)
section
variable {P : Program} {w : World} {K : PySem.W.Frag} {mg : Str → Option Value} {base : Heap} {c : Cs} {kk : Kinds}
theorem ok_Room_refuse_lease {f fU : Addr} {fd fdU : FuncData} {psU : List Str} (F : Fun K "_refuse_lease" "Room._refuse_lease" s_Room_u_refuse_lease f fd) (T : RomT K c.C) (TL : LeaT K mg c.CL) (mU : Meth K c.CL "refuse_unknown" fU) (bU : Binds K fdU psU []) (GU : FnOk P w K mg base (L2.CX P w) 1 fU fdU psU (spLeRefuse c.CL kk.NL)) :
    FnOk P w K mg base (L2.CX P w) 2 f fd p_Room_u_refuse_lease (spRefL c kk) := by
  refine F.okX sc_Room_u_refuse_lease (fun vs H Q E h => ?_) (fun cdv A outer s H vs Q E hr h => ?_)
  · obtain ⟨p, h, R, s, rfl, _⟩ := h
    rfl
  · obtain ⟨p, h, R, r, rfl, A1, k1, k2⟩ := h
    obtain ⟨dx, hp⟩ := A1.ob
    obtain ⟨dy, hl⟩ := A1.lt.ob
    refine ⟨_, pss_one (ps_if (pt_cmpR op_ne (pv 1) pe_int (nomark _)) (pss_one (ps_expr (pe_meth (E := E) (pe_fld (pv 0) rfl) TL.cl mU GU hr bU .nil (passes_call (takes_of rfl rfl rfl rfl) (fun _ _ _ _ h => h)) (pa_cons (pv 1) pa_nil)))) pss_nil), ?_⟩
    refine ⟨_, rfl, rfl, _, rfl, ?_⟩
    have ee : ∀ h, aget R.E h = r.ends h := fun h => by rw [aget_eq, A1.fe]
    by_cases c0 : h = 0
    · have nn : ¬ noLease r h := fun z => z.1 c0
      rw [decide_eq_true (congrArg V.int c0)]
      exact iteF (k2 nn)
    rw [decide_eq_false fun z => c0 (V.int.inj z)]
    refine iteT ⟨_, rfl, p, c.C, dx, _, _, rfl, hp, T.cl, T.n1, zf_get (i := 1) (by decide +kernel) rfl, R.pl, dy, _, rfl, hl, flds_no _ _ _ (by decide +kernel) (by decide +kernel) (by decide +kernel), _, rfl, R.pl, R.dt, R.de, _, h, R.T, R.E, rfl, A1.lt, fun z => ?_, fun z => ?_⟩
    · rw [ee] at z
      exact k1 ⟨c0, z⟩
    · rw [ee] at z
      refine k2 fun q => ?_
      rw [q.2] at z
      cases z
theorem ok_Room_refuse_held {f fH : Addr} {fd fdH : FuncData} {psH : List Str} (F : Fun K "_refuse_held" "Room._refuse_held" s_Room_u_refuse_held f fd) (T : RomT K c.C) (N : ErrT K mg "Held" kk.HE) (mH : Meth K c.C "holder" fH) (bH : Binds K fdH psH []) (GH : FnOk P w K mg base CX0 1 fH fdH psH (spHolder0 c)) :
    FnOk P w K mg base (L2.CX P w) 2 f fd p_Room_u_refuse_held (spRefH c kk) := by
  refine F.okX sc_Room_u_refuse_held (fun vs H Q E h => ?_) (fun cdv A outer s H vs Q E hr h => ?_)
  · obtain ⟨p, ky, h, R, s, rfl, _⟩ := h
    rfl
  · obtain ⟨p, ky, h, R, r, rfl, A1, k1, k2⟩ := h
    obtain ⟨dx, hp⟩ := A1.ob
    refine ⟨_, pss_cons (ps_set (i := 3) sc_Room_u_refuse_held.nd rfl (Or.inl rfl) (pe_meth (E := E0) (pv 0) T.cl mH GH hr bH .nil pass0 (pa_cons (pv 1) pa_nil)))
      (pss_one (ps_if (PW.pt (pw_and (pt_cmpR op_ne (pv 3) pe_int (nomark _)) (pw_and1 (pt_cmpR op_ne (pv 3) (pv 2) (nomark _))))) (pss_one (ps_raise rfl (takes_of rfl rfl rfl rfl) (pmk_own PySem.F.excBase_ValueError N.x N.g N.k (raises_own N.b N.t) rfl))) pss_nil)), ?_⟩
    refine ⟨_, rfl, p, dx, _, rfl, hp, zf_no (by decide +kernel), _, rfl, p, ky, R, r, rfl, A1, ?_⟩
    have hb : heldBy r ky h ↔ heldH r ky ≠ 0 ∧ heldH r ky ≠ h := by
      unfold heldBy heldH
      cases e : r.held ky with
      | none => simp
      | some v =>
        obtain ⟨v1, v2⟩ := v
        constructor
        · rintro ⟨a, j, e1, e2, e3⟩
          cases e1
          exact ⟨e2, e3⟩
        · rintro ⟨e2, e3⟩
          exact ⟨v1, v2, rfl, e2, e3⟩
    generalize heldH r ky = j at hb ⊢
    refine ⟨_, rfl, rfl, _, rfl, ?_⟩
    by_cases c1 : j = 0
    · rw [decide_eq_true (congrArg V.int c1)]
      exact iteF (iteF (k2 fun z => (hb.mp z).1 c1))
    rw [decide_eq_false fun z => c1 (V.int.inj z)]
    refine iteT ⟨_, rfl, _, rfl, rfl, _, rfl, ?_⟩
    by_cases c2 : j = h
    · rw [decide_eq_true (congrArg V.int c2)]
      exact iteF (k2 fun z => (hb.mp z).2 c2)
    rw [decide_eq_false fun z => c2 (V.int.inj z)]
    exact iteT (k1 (hb.mpr ⟨c1, c2⟩))
end
end KL

namespace KL
open PySem L2 L2H LX KB
/-! ### the program's room: a key is taken out -/
section
variable {P : Program} {w : World} {K : PySem.W.Frag} {mg : Str → Option Value} {base : Heap} {c : Cs} {kk : Kinds}
theorem ok_Room_take_out {f fN : Addr} {fd fdN : FuncData} {psN : List Str} (F : Fun K "_take_out" "Room._take_out" s_Room_u_take_out f fd) (T : RomT K c.C) (TG : LogT K c.CG) (mN : Meth K c.CG "note" fN) (bN : Binds K fdN psN []) (GN : FnOk P w K mg base CX0 2 fN fdN psN (spLogNote (LgP c.CG))) :
    FnOk P w K mg base CX0 3 f fd p_Room_u_take_out (spTakeOut c) := by
  refine F.ok sc_Room_u_take_out (fun vs H Q E h => ?_) (fun cdv A outer s H vs Q E hr h => ?_)
  · obtain ⟨p, k, t, R, s, rfl, _⟩ := h
    rfl
  · obtain ⟨p, ky, t, R, r, rfl, A1, hk, hl, k⟩ := h
    obtain ⟨dx, hp⟩ := A1.ob
    obtain ⟨⟨a1, a2, a3, a4, a5, a6⟩, ⟨b1, b2, b3, b4, b5⟩, ⟨c1, c2, c3, c4⟩, ⟨d1, d2, d3⟩, ⟨e1, e2⟩, f1⟩ := A1.ne7
    refine ⟨_, pss_cons (ps_ddel (pe_fld (pv 0) rfl) (pv 1)) (pss_cons (ps_ddel (pe_fld (pv 0) rfl) (pv 1))
      (pss_one (ps_ret (pe_meth (E := E0) (pe_fld (pv 0) rfl) TG.cl mN GN hr bN .nil pass0 (pa_cons (pv 2) (pa_cons pe_str (pa_cons (pv 1) (pa_cons pe_str pa_nil)))))))), ?_⟩
    have hs : (getA R.HV ky).isSome = true := by
      rw [← A1.fh]
      cases e : r.held ky with
      | none => exact absurd e hk
      | some v => rfl
    refine ⟨_, rfl, p, c.C, dx, _, _, rfl, hp, T.cl, T.n3, zf_get (i := 3) (by decide +kernel) rfl, _, rfl, R.dv, _, Sum.inr ky, rfl, A1.va, rfl, by rw [A1.rv.isSome inr_inj]; exact hs, ?_⟩
    have hp1 : upd H R.dv (.dK (dropK R.vk (Sum.inr ky))) p = some (.ins c.C dx (rFl r R)) := by rw [upd_ne a4]; exact hp
    have hh1 : upd H R.dv (.dK (dropK R.vk (Sum.inr ky))) R.dh = some (.dK R.hk) := by rw [upd_ne e1.symm]; exact A1.ho
    refine ⟨_, rfl, p, c.C, dx, _, _, rfl, hp1, T.cl, T.n4, zf_get (i := 4) (by decide +kernel) rfl, _, rfl, R.dh, _, Sum.inr ky, rfl, hh1, rfl, by rw [A1.rh.isSome inr_inj]; exact hs, ?_⟩
    have ck : Ch H (upd (upd H R.dv (.dK (dropK R.vk (Sum.inr ky)))) R.dh (.dK (dropK R.hk (Sum.inr ky)))) [R.dv, R.dh] := ((Ch.refl _ _).mut (by simp) A1.va (fun _ z => by cases z)).mut (by simp) A1.ho (fun _ z => by cases z)
    have A2 : RcAt c (upd (upd H R.dv (.dK (dropK R.vk (Sum.inr ky)))) R.dh (.dK (dropK R.hk (Sum.inr ky)))) p { R with HV := dropA R.HV ky, vk := dropK R.vk (Sum.inr ky), hk := dropK R.hk (Sum.inr ky) } { r with held := getA (dropA R.HV ky) } :=
      A1.keys ck (by rw [upd_ne e1]; exact upd_same) upd_same (A1.rv.drop inr_inj ky) (A1.rh.drop inr_inj ky) (dropA_nodup A1.nH) (fun x hx => A1.kH x (List.mem_filter.mp hx).1)
    have eh : getA (dropA R.HV ky) = setF r.held ky none := by rw [setA_drop, A1.fh]
    rw [eh] at A2
    have hp2 := A2.ob
    generalize upd (upd H R.dv (.dK (dropK R.vk (Sum.inr ky)))) R.dh (.dK (dropK R.hk (Sum.inr ky))) = H2 at ck A2 hp2 ⊢
    obtain ⟨dx2, hp2⟩ := hp2
    obtain ⟨_, dy, fs, hg, hm⟩ := A2.lg.inst
    refine ⟨_, rfl, p, c.C, dx2, _, _, rfl, hp2, T.cl, T.n2, zf_get (i := 2) (by decide +kernel) rfl, R.pg, dy, fs, rfl, hg, hm _ (by simp), _, rfl, _, rfl, R.Fg, R.pg, t, "cut", ky, "", r.rows, r.gone, rfl, A2.lg, hl, ⟨by show PyData.strOk ("cut" : Str) = true; decide +kernel, A1.inK hk, TOk.nil.mono (by decide)⟩, fun F' H3 L3 g3 c3 => ?_⟩
    have A3 := A2.log L3 g3 c3
    have less := dropA_less (d := R.HV) (k := ky) (by rw [← A1.fh]; exact hk)
    have cko : Ch H H2 (R.F p) := ck.mono fun x hx => by
      simp only [List.mem_cons, List.not_mem_nil, or_false] at hx
      rcases hx with rfl | rfl <;> exact List.mem_append_left _ (by simp [Rc.o])
    refine k _ H3 ⟨A3, ⟨Nat.le_refl _, Nat.le_refl _, dropA_len _ _, rfl, ?_, ?_, rfl, rfl⟩, ?_, cko.trans (c3.mono fun x hx => List.mem_append_right _ hx)⟩
    · show (dropA R.HV ky).length + (r.rows ++ [_]).length ≤ _
      rw [List.length_append]
      simp only [List.length_cons, List.length_nil]
      omega
    · show r.rows.length ≤ (r.rows ++ [_]).length
      rw [List.length_append]
      exact Nat.le_add_right _ _
    · intro a ha
      rcases List.mem_append.mp ha with h | h
      · exact .inl (List.mem_append_left _ h)
      · rcases g3 a h with q | q
        · exact .inl (List.mem_append_right _ q)
        · exact .inr (ck.none a q)
end
end KL

namespace KL
open PySem L2 L2H LX KB KA1
/-! ### the program's room: a put -/
section
variable {P : Program} {w : World} {K : PySem.W.Frag} {mg : Str → Option Value} {base : Heap} {c : Cs} {kk : Kinds}
theorem ok_Room_put {f f1 f2 fN : Addr} {fd fd1 fd2 fdN : FuncData} {ps1 ps2 psN : List Str} (F : FunD K "put" "Room.put" (defArgs s_Room_put) (defBody s_Room_put) (defScope s_Room_put) [.int 0] [] f fd) (T : RomT K c.C) (TG : LogT K c.CG)
    (m1 : Meth K c.C "_refuse_lease" f1) (b1 : Binds K fd1 ps1 []) (G1 : FnOk P w K mg base (L2.CX P w) 2 f1 fd1 ps1 (spRefL c kk)) (m2 : Meth K c.C "_refuse_held" f2) (b2 : Binds K fd2 ps2 []) (G2 : FnOk P w K mg base (L2.CX P w) 2 f2 fd2 ps2 (spRefH c kk))
    (mN : Meth K c.CG "note" fN) (bN : Binds K fdN psN []) (GN : FnOk P w K mg base CX0 2 fN fdN psN (spLogNote (LgP c.CG))) : FnOk P w K mg base (L2.CX P w) 3 f fd p_Room_put (spRDo kk (RsP c) argP) := by
  refine F.ok sc_Room_put (fun vs H Q E h => ?_) (fun cdv A outer s H vs Q E hr h => ?_)
  · obtain ⟨Fo, p, s, d, xs, rfl, ⟨ky, v, h, rfl, rfl, _⟩, _⟩ := h
    rfl
  · obtain ⟨Fo, p, r, d, xs, rfl, ⟨ky, v, h, rfl, rfl, ok, ov⟩, ⟨R, rfl, A1, Z⟩, fit, k⟩ := h
    obtain ⟨dx, hp⟩ := A1.ob
    have hu := hu_of hr
    refine ⟨_, pss_cons (ps_expr (pe_meth (E := E) (pv 0) T.cl m1 G1 hr b1 .nil (passes_call (takes_of rfl rfl rfl rfl) (fun _ _ _ _ h => h)) (pa_cons (pv 3) pa_nil)))
      (pss_cons (ps_expr (pe_meth (E := E) (pv 0) T.cl m2 G2 hr b2 .nil (passes_call (takes_of rfl rfl rfl rfl) (fun _ _ _ _ h => h)) (pa_cons (pv 1) (pa_cons (pv 3) pa_nil))))
      (PSs.nox (pss_cons (ps_dput hu (pe_fld (pv 0) rfl) (pv 1) (pv 2) rfl)
      (pss_cons (ps_dput hu (pe_fld (pv 0) rfl) (pv 1) (pv 3) rfl)
      (pss_one (ps_ret (pe_meth (E := E0) (pe_fld (pv 0) rfl) TG.cl mN GN hr bN .nil pass0 (pa_cons (pe_fld (pv 0) rfl) (pa_cons pe_str (pa_cons (pv 1) (pa_cons (pv 2) pa_nil))))))))))), ?_⟩
    have fr := fit.rows
    have zh := Z.h
    refine ⟨_, rfl, p, dx, _, rfl, hp, zf_no (by decide +kernel), _, rfl, p, h, R, r, rfl, A1, fun n1 => ?_, fun n1 => ?_⟩
    · exact k (.bad .lease) r _ H (.inl ⟨n1, rfl, rfl⟩) ⟨R, rfl, A1, Z⟩ (Grow.refl _ _) (Ch.refl _ _)
    refine ⟨_, rfl, p, dx, _, rfl, hp, zf_no (by decide +kernel), _, rfl, _, rfl, p, ky, h, R, r, rfl, A1, fun n2 => ?_, fun n2 => ?_⟩
    · exact k (.bad .held) r _ H (.inr (.inl ⟨n1, n2, rfl, rfl⟩)) ⟨R, rfl, A1, Z⟩ (Grow.refl _ _) (Ch.refl _ _)
    obtain ⟨⟨a1, a2, a3, a4, a5, a6⟩, ⟨b1, b2, b3, b4, b5⟩, ⟨c1, c2, c3, c4⟩, ⟨d1, d2, d3⟩, ⟨e1, e2⟩, f1⟩ := A1.ne7
    have lv : R.vk.length < sizeLine := by
      have q := A1.rv.len
      exact smallS (by omega)
    have lh : R.hk.length < sizeLine := by
      have q := A1.rh.len
      exact smallS (by omega)
    refine ⟨_, rfl, _, rfl, p, c.C, dx, _, _, rfl, hp, T.cl, T.n3, zf_get (i := 3) (by decide +kernel) rfl, _, rfl, R.dv, _, rfl, DPut.k (k := Sum.inr ky) A1.va lv, ?_⟩
    have hp1 : upd H R.dv (.dK (putK R.vk (Sum.inr ky) (.str v))) p = some (.ins c.C dx (rFl r R)) := by rw [upd_ne a4]; exact hp
    have hh1 : upd H R.dv (.dK (putK R.vk (Sum.inr ky) (.str v))) R.dh = some (.dK R.hk) := by rw [upd_ne e1.symm]; exact A1.ho
    refine ⟨_, rfl, _, rfl, p, c.C, dx, _, _, rfl, hp1, T.cl, T.n4, zf_get (i := 4) (by decide +kernel) rfl, _, rfl, R.dh, _, rfl, DPut.k (k := Sum.inr ky) hh1 lh, ?_⟩
    have ck : Ch H (upd (upd H R.dv (.dK (putK R.vk (Sum.inr ky) (.str v)))) R.dh (.dK (putK R.hk (Sum.inr ky) (.int h)))) [R.dv, R.dh] := ((Ch.refl _ _).mut (by simp) A1.va (fun _ z => by cases z)).mut (by simp) A1.ho (fun _ z => by cases z)
    have kH : ∀ x ∈ putA R.HV ky (v, h), TOk 60 x.1 := fun x hx => by
      unfold putA at hx
      split at hx
      · obtain ⟨y, hy, rfl⟩ := List.mem_map.mp hx
        by_cases e : y.1 = ky
        · rw [if_pos e]; exact A1.kH y hy
        · rw [if_neg e]; exact A1.kH y hy
      · rcases List.mem_append.mp hx with hx | hx
        · exact A1.kH x hx
        · rw [List.mem_singleton.mp hx]; exact ok
    have A2 : RcAt c (upd (upd H R.dv (.dK (putK R.vk (Sum.inr ky) (.str v)))) R.dh (.dK (putK R.hk (Sum.inr ky) (.int h)))) p { R with HV := putA R.HV ky (v, h), vk := putK R.vk (Sum.inr ky) (.str v), hk := putK R.hk (Sum.inr ky) (.int h) } { r with held := getA (putA R.HV ky (v, h)) } :=
      A1.keys ck (by rw [upd_ne e1]; exact upd_same) upd_same (A1.rv.put inr_inj (b := (v, h)) rfl) (A1.rh.put inr_inj (b := (v, h)) rfl) (putA_nodup A1.nH) kH
    have eh : getA (putA R.HV ky (v, h)) = setF r.held ky (some (v, h)) := by rw [setA_put, A1.fh]
    rw [eh] at A2
    have hp2 := A2.ob
    dsimp only
    generalize upd (upd H R.dv (.dK (putK R.vk (Sum.inr ky) (.str v)))) R.dh (.dK (putK R.hk (Sum.inr ky) (.int h))) = H2 at ck A2 hp2 ⊢
    obtain ⟨dx2, hp2⟩ := hp2
    obtain ⟨_, dy, fs, hg, hm⟩ := A2.lg.inst
    refine ⟨_, rfl, p, c.C, dx2, _, _, rfl, hp2, T.cl, T.n2, zf_get (i := 2) (by decide +kernel) rfl, R.pg, dy, fs, rfl, hg, hm _ (by simp), _, rfl, p, c.C, dx2, _, _, rfl, hp2, T.cl, T.n0, zf_get (i := 0) (by decide +kernel) rfl, _, rfl, _, rfl,
      R.Fg, R.pg, r.now, "put", ky, v, r.rows, r.gone, rfl, A2.lg, by omega, ⟨by show PyData.strOk ("put" : Str) = true; decide +kernel, ok, ov⟩, fun F' H3 L3 g3 c3 => ?_⟩
    have A3 := A2.log L3 g3 c3
    have cko : Ch H H2 (R.F p) := ck.mono fun x hx => by
      simp only [List.mem_cons, List.not_mem_nil, or_false] at hx
      rcases hx with rfl | rfl <;> exact List.mem_append_left _ (by simp [Rc.o])
    refine k (.num ((r.rows.length : Int) + 1)) (putM r ky v h) _ H3 (.inr (.inr ⟨n1, n2, rfl, rfl⟩)) ⟨_, rfl, A3, ⟨Z.t, Z.e, ?_, Z.w, fun x hx => ?_⟩⟩ ?_ (cko.trans (c3.mono fun x hx => List.mem_append_right _ hx))
    · show (putA R.HV ky (v, h)).length ≤ (r.rows ++ [_]).length
      rw [List.length_append]
      exact Nat.le_trans (putA_len _ _ _) (Nat.succ_le_succ Z.h)
    · have q := Z.wt x hx
      show _ ≤ (((r.rows ++ [_]).length : Nat) : Int) ∧ _ ≤ (((r.rows ++ [_]).length : Nat) : Int)
      rw [List.length_append]
      simp only [List.length_cons, List.length_nil]
      omega
    · intro a ha
      rcases List.mem_append.mp ha with h | h
      · exact .inl (List.mem_append_left _ h)
      · rcases g3 a h with q | q
        · exact .inl (List.mem_append_right _ q)
        · exact .inr (ck.none a q)
end
end KL

namespace KL
open PySem L2 L2H LX KB KA1
/-! ### the program's room: a cut -/
section
variable {P : Program} {w : World} {K : PySem.W.Frag} {mg : Str → Option Value} {base : Heap} {c : Cs} {kk : Kinds}
theorem ok_Room_cut {f f1 f2 fT : Addr} {fd fd1 fd2 fdT : FuncData} {ps1 ps2 psT : List Str} (F : FunD K "cut" "Room.cut" (defArgs s_Room_cut) (defBody s_Room_cut) (defScope s_Room_cut) [.int 0] [] f fd) (T : RomT K c.C) (N : ErrT K mg "NoKey" kk.NK)
    (m1 : Meth K c.C "_refuse_lease" f1) (b1 : Binds K fd1 ps1 []) (G1 : FnOk P w K mg base (L2.CX P w) 2 f1 fd1 ps1 (spRefL c kk)) (m2 : Meth K c.C "_refuse_held" f2) (b2 : Binds K fd2 ps2 []) (G2 : FnOk P w K mg base (L2.CX P w) 2 f2 fd2 ps2 (spRefH c kk))
    (mT : Meth K c.C "_take_out" fT) (bT : Binds K fdT psT []) (GT : FnOk P w K mg base CX0 3 fT fdT psT (spTakeOut c)) : FnOk P w K mg base (L2.CX P w) 4 f fd p_Room_cut (spRDo kk (RsP c) argC) := by
  refine F.ok sc_Room_cut (fun vs H Q E h => ?_) (fun cdv A outer s H vs Q E hr h => ?_)
  · obtain ⟨Fo, p, s, d, xs, rfl, ⟨ky, h, rfl, rfl, _⟩, _⟩ := h
    rfl
  · obtain ⟨Fo, p, r, d, xs, rfl, ⟨ky, h, rfl, rfl, ok⟩, ⟨R, rfl, A1, Z⟩, fit, k⟩ := h
    obtain ⟨dx, hp⟩ := A1.ob
    have hu := hu_of hr
    have hr2 : Room 2 _ := hr.mono (by decide)
    refine ⟨_, pss_cons (ps_expr (pe_meth (E := E) (pv 0) T.cl m1 G1 hr2 b1 .nil (passes_call (takes_of rfl rfl rfl rfl) (fun _ _ _ _ h => h)) (pa_cons (pv 2) pa_nil)))
      (pss_cons (ps_if (pt_cmp (pc_dnotin hu (pv 1) (pe_fld (pv 0) rfl))) (pss_one (ps_raise rfl (takes_of rfl rfl rfl rfl) (pmk_own PySem.F.excBase_ValueError N.x N.g N.k (raises_own N.b N.t) rfl))) pss_nil)
      (pss_cons (ps_expr (pe_meth (E := E) (pv 0) T.cl m2 G2 hr2 b2 .nil (passes_call (takes_of rfl rfl rfl rfl) (fun _ _ _ _ h => h)) (pa_cons (pv 1) (pa_cons (pv 2) pa_nil))))
      (PSs.nox (pss_one (ps_ret (pe_meth (E := E0) (pv 0) T.cl mT GT hr bT .nil pass0 (pa_cons (pv 1) (pa_cons (pe_fld (pv 0) rfl) pa_nil)))))))), ?_⟩
    have fr := fit.rows
    refine ⟨_, rfl, p, dx, _, rfl, hp, zf_no (by decide +kernel), _, rfl, p, h, R, r, rfl, A1, fun n1 => ?_, fun n1 => ?_⟩
    · exact k (.bad .lease) r _ H (.inl ⟨n1, rfl, rfl⟩) ⟨R, rfl, A1, Z⟩ (Grow.refl _ _) (Ch.refl _ _)
    refine ⟨_, rfl, _, rfl, p, c.C, dx, _, _, rfl, hp, T.cl, T.n3, zf_get (i := 3) (by decide +kernel) rfl, R.dv, _, rfl, DGet.k (k := Sum.inr ky) A1.va, _, rfl, ?_⟩
    have ev := A1.rv.isSome inr_inj ky
    rw [← A1.fh] at ev
    cases e : valV R.vk (Sum.inr ky) with
    | none =>
      rw [e] at ev
      have en : r.held ky = none := by
        cases g : r.held ky with
        | none => rfl
        | some x => rw [g] at ev; cases ev
      refine iteT ?_
      exact k (.bad .key) r _ H (.inr (.inl ⟨n1, en, rfl, rfl⟩)) ⟨R, rfl, A1, Z⟩ (Grow.refl _ _) (Ch.refl _ _)
    | some x =>
      rw [e] at ev
      have en : r.held ky ≠ none := fun g => by rw [g] at ev; cases ev
      refine iteF ?_
      refine ⟨_, rfl, p, dx, _, rfl, hp, zf_no (by decide +kernel), _, rfl, _, rfl, p, ky, h, R, r, rfl, A1, fun n2 => ?_, fun n2 => ?_⟩
      · exact k (.bad .held) r _ H (.inr (.inr (.inl ⟨n1, n2, rfl, rfl⟩))) ⟨R, rfl, A1, Z⟩ (Grow.refl _ _) (Ch.refl _ _)
      refine ⟨_, rfl, p, dx, _, rfl, hp, zf_no (by decide +kernel), _, rfl, _, rfl, p, c.C, dx, _, _, rfl, hp, T.cl, T.n0, zf_get (i := 0) (by decide +kernel) rfl, p, ky, r.now, R, r, rfl, A1, en, by omega, fun R' H' W => ?_⟩
      exact k (.num ((r.rows.length : Int) + 1)) (cutM r.now r ky) _ H' (.inr (.inr (.inr ⟨n1, en, n2, rfl, rfl⟩))) ⟨R', rfl, W.at_, W.sub.sz Z⟩ W.gr W.ch
end
end KL

namespace KL
open PySem L2 L2H LX KB KA1
section
variable {P : Program} {w : World} {K : PySem.W.Frag} {mg : Str → Option Value} {base : Heap}
theorem ok_Leases_grant {f C BT : Addr} {fd : FuncData} {tm : Tok} (F : Fun K "grant" "Leases.grant" s_Leases_grant f fd) (T : LeaT K mg C) (N : ErrT K mg "BadTicks" BT) (mM : mg "MOST_TICKS" = some (.int 1000000 tm)) : FnOk P w K mg base (L2.CX P w) 1 f fd ["self", "now", "ticks"] (spLeGrant C BT) := by
  refine F.okX sc_Leases_grant (fun vs H Q E h => ?_) (fun cdv A outer s H vs Q E hr h => ?_)
  · obtain ⟨p, dt, de, n, now, t, T, En, rfl, _⟩ := h
    rfl
  · obtain ⟨p, dt, de, n, now, t, T1, En, rfl, L, l1, l2, h1, h2⟩ := h
    have hu := hu_of hr
    obtain ⟨⟨dx, hp⟩, ht, he, nte⟩ := id L
    have npt : p ≠ dt := ne_of hp ht (by intro z; cases z)
    have npe : p ≠ de := ne_of hp he (by intro z; cases z)
    refine ⟨_, pss_cons (ps_if (PW.pt (pw_or (pt_cmpR op_lt (pv 2) pe_int (nomark _)) (pw_or1 (pt_cmpR op_gt (pv 2) (pe_glob (v := V.int 1000000) rfl mM ⟨_, rfl⟩) (nomark _)))))
        (pss_one (ps_raise rfl (takes_of rfl rfl rfl rfl) (SkE.pmk_own1 PySem.F.excBase_ValueError N.x N.g N.k (raises_own N.b N.t) rfl
          (pe_joined (.cons pe_str (.cons (pe_fmt (pe_glob (v := V.int 1000000) rfl mM ⟨_, rfl⟩)) (.cons pe_str .nil))))))) pss_nil)
      (pss_cons (ps_fldaug (pv 0) pe_int in_add)
      (pss_cons (ps_set (i := 3) sc_Leases_grant.nd rfl (Or.inl rfl) (pe_fld (pv 0) rfl))
      (pss_cons (ps_dput hu (pe_fld (pv 0) rfl) (pv 3) (pv 2) rfl)
      (pss_cons (ps_dput hu (pe_fld (pv 0) rfl) (pv 3) (pe_op op_add (pv 1) (pv 2)) rfl)
      (pss_one (ps_ret (pv 3))))))), ?_⟩
    have bad : (t < 1 ∨ 1000000 < t) → tJs [tC (V.str "a lease is given for 1 to "), tFmt (tC (V.int 1000000)), tC (V.str " ticks")] Str.empty (L2.start ["self", "now", "ticks", "lease"] [V.ref p, V.int now, V.int t]) H fun out H1 => E (.ref BT) none H1 := fun hb => by
      refine ⟨_, rfl, (by decide +kernel), .inr ⟨1000000, rfl, (by decide +kernel), _, rfl, (by decide +kernel), _, rfl, (by decide +kernel), h1 hb⟩⟩
    refine ⟨_, rfl, _, _, rfl, rfl, _, rfl, ?_⟩
    by_cases c1 : t < 1
    · rw [decide_eq_true c1]
      refine iteT (iteT ?_)
      exact bad (.inl c1)
    rw [decide_eq_false c1]
    refine iteF ?_
    refine ⟨_, rfl, _, _, rfl, rfl, _, rfl, ?_⟩
    by_cases c2 : t > 1000000
    · rw [decide_eq_true c2]
      refine iteT ?_
      exact bad (.inr c2)
    rw [decide_eq_false c2]
    refine iteF ?_
    refine ⟨_, rfl, p, C, dx, _, _, rfl, hp, T.cl, T.nG, flds_n _ _ _, _, _, rfl, rfl, dx, _, hp, (by rw [flds_eq]; show 3 < 1000; decide), ?_⟩
    rw [flds_put]
    have hp1 : upd H p (.ins C dx (flds (n + 1) dt de)) p = some (.ins C dx (flds (n + 1) dt de)) := upd_same
    have ht1 : upd H p (.ins C dx (flds (n + 1) dt de)) dt = some (.dK (kv T1)) := by rw [upd_ne npt.symm]; exact ht
    have he1 : upd H p (.ins C dx (flds (n + 1) dt de)) de = some (.dK (kv En)) := by rw [upd_ne npe.symm]; exact he
    refine ⟨_, rfl, p, C, dx, _, _, rfl, hp1, T.cl, T.nG, flds_n _ _ _, ?_⟩
    refine ⟨_, rfl, _, rfl, p, C, dx, _, _, rfl, hp1, T.cl, T.nT, flds_t _ _ _, _, rfl, dt, _, rfl, DPut.k (k := Sum.inl (n + 1)) ht1 (small900 l1), ?_⟩
    rw [put_kv]
    have hp2 : ∀ o, upd (upd H p (.ins C dx (flds (n + 1) dt de))) dt o p = some (.ins C dx (flds (n + 1) dt de)) := fun o => by rw [upd_ne npt]; exact hp1
    have he2 : ∀ o, upd (upd H p (.ins C dx (flds (n + 1) dt de))) dt o de = some (.dK (kv En)) := fun o => by rw [upd_ne nte.symm]; exact he1
    refine ⟨_, rfl, _, rfl, _, _, rfl, rfl, _, rfl, p, C, dx, _, _, rfl, hp2 _, T.cl, T.nE, flds_e _ _ _, _, rfl, de, _, rfl, DPut.k (k := Sum.inl (n + 1)) (he2 _) (small900 l2), ?_⟩
    rw [put_kv]
    refine ⟨_, rfl, ?_⟩
    refine h2 (by omega) (by omega) _ ⟨⟨dx, ?_⟩, ?_, upd_same, nte⟩ ((((Ch.refl _ _).mut (by simp) hp (fun _ z => by cases z)).mut (by simp) ht (fun _ z => by cases z)).mut (by simp) he (fun _ z => by cases z))
    · rw [upd_ne npe]; exact hp2 _
    · rw [upd_ne nte]; exact upd_same
end
end KL

namespace KL
open PySem L2 L2H LX KB KA1
section
variable {P : Program} {w : World} {K : PySem.W.Frag} {mg : Str → Option Value} {base : Heap}
theorem nR : ¬ (("refuse_unknown" : Str) = "_given") ∧ ¬ (("refuse_unknown" : Str) = "_ticks") ∧ ¬ (("refuse_unknown" : Str) = "_ends") := by decide +kernel
theorem ok_Leases_renew {f fR C NL : Addr} {fd fdR : FuncData} (F : Fun K "renew" "Leases.renew" s_Leases_renew f fd) (T : LeaT K mg C) (N : ErrT K mg "NoLease" NL)
    (FR : Fun K "refuse_unknown" "Leases.refuse_unknown" s_Leases_refuse_unknown fR fdR) (bR : Binds K fdR ["self", "lease"] []) (mR : Meth K C "refuse_unknown" fR) :
    FnOk P w K mg base (L2.CX P w) 2 f fd ["self", "now", "lease"] (spLeRenew C NL) := by
  have GR : FnOk P w K mg base (L2.CX P w) 1 fR fdR ["self", "lease"] (spLeRefuse C NL) := ok_Leases_refuse FR T N
  refine F.okX sc_Leases_renew (fun vs H Q E h => ?_) (fun cdv A outer s H vs Q E hr h => ?_)
  · obtain ⟨p, dt, de, n, now, k, T, En, rfl, _⟩ := h
    rfl
  · obtain ⟨p, dt, de, n, now, k, T1, En, rfl, L, l1, h1, h2⟩ := h
    have hu := hu_of hr
    obtain ⟨⟨dx, hp⟩, ht, he, nte⟩ := id L
    have npt : p ≠ dt := ne_of hp ht (by intro z; cases z)
    have npe : p ≠ de := ne_of hp he (by intro z; cases z)
    refine ⟨_, pss_cons (ps_expr (pe_meth (E := E) (pv 0) T.cl mR GR hr bR .nil (passes_call (takes_of rfl rfl rfl rfl) (fun _ _ _ _ h => h)) (pa_cons (pv 2) pa_nil)))
      (pss_one (ps_dput hu (pe_fld (pv 0) rfl) (pv 2) (pe_op op_add (pv 1) (pe_dget hu (pe_fld (pv 0) rfl) (pv 2) (fun _ _ => rfl))) rfl)), ?_⟩
    refine ⟨_, rfl, p, dx, _, rfl, hp, flds_no _ _ _ nR.1 nR.2.1 nR.2.2, _, rfl, p, dt, de, n, k, T1, En, rfl, L, h1, fun hs => ?_⟩
    obtain ⟨t, et, q⟩ := h2 hs
    refine ⟨_, rfl, _, rfl, p, C, dx, _, _, rfl, hp, T.cl, T.nT, flds_t _ _ _, _, rfl, dt, V.int t, rfl, ?_, _, _, rfl, rfl, ?_⟩
    · have g := DGet.k (k := Sum.inl k) ht
      rw [valV_kv, et] at g
      exact g
    refine ⟨_, rfl, p, C, dx, _, _, rfl, hp, T.cl, T.nE, flds_e _ _ _, _, rfl, de, _, rfl, DPut.k (k := Sum.inl k) he (small900 l1), ?_⟩
    rw [put_kv]
    refine q _ ⟨⟨dx, ?_⟩, ?_, upd_same, nte⟩ ((Ch.refl _ _).mut (by simp) he (fun _ z => by cases z))
    · rw [upd_ne npe]; exact hp
    · rw [upd_ne nte]; exact ht
theorem ok_Leases_drop {f fR C NL : Addr} {fd fdR : FuncData} (F : Fun K "drop" "Leases.drop" s_Leases_drop f fd) (T : LeaT K mg C) (N : ErrT K mg "NoLease" NL)
    (FR : Fun K "refuse_unknown" "Leases.refuse_unknown" s_Leases_refuse_unknown fR fdR) (bR : Binds K fdR ["self", "lease"] []) (mR : Meth K C "refuse_unknown" fR) :
    FnOk P w K mg base (L2.CX P w) 2 f fd ["self", "lease"] (spLeDrop C NL) := by
  have GR : FnOk P w K mg base (L2.CX P w) 1 fR fdR ["self", "lease"] (spLeRefuse C NL) := ok_Leases_refuse FR T N
  refine F.okX sc_Leases_drop (fun vs H Q E h => ?_) (fun cdv A outer s H vs Q E hr h => ?_)
  · obtain ⟨p, dt, de, n, k, T, En, rfl, _⟩ := h
    rfl
  · obtain ⟨p, dt, de, n, k, T1, En, rfl, L, h1, h2⟩ := h
    have hu := hu_of hr
    obtain ⟨⟨dx, hp⟩, ht, he, nte⟩ := id L
    have npt : p ≠ dt := ne_of hp ht (by intro z; cases z)
    have npe : p ≠ de := ne_of hp he (by intro z; cases z)
    refine ⟨_, pss_cons (ps_expr (pe_meth (E := E) (pv 0) T.cl mR GR hr bR .nil (passes_call (takes_of rfl rfl rfl rfl) (fun _ _ _ _ h => h)) (pa_cons (pv 1) pa_nil)))
      (pss_cons (ps_ddel (pe_fld (pv 0) rfl) (pv 1)) (pss_one (ps_ddel (pe_fld (pv 0) rfl) (pv 1)))), ?_⟩
    refine ⟨_, rfl, p, dx, _, rfl, hp, flds_no _ _ _ nR.1 nR.2.1 nR.2.2, _, rfl, p, dt, de, n, k, T1, En, rfl, L, h1, fun hs => ?_⟩
    obtain ⟨et, q⟩ := h2 hs
    refine ⟨_, rfl, p, C, dx, _, _, rfl, hp, T.cl, T.nT, flds_t _ _ _, _, rfl, dt, _, Sum.inl k, rfl, ht, rfl, (by rw [valV_kv, Option.isSome_map]; exact et), ?_⟩
    rw [drop_kv]
    have hp2 : ∀ o, upd H dt o p = some (.ins C dx (flds n dt de)) := fun o => by rw [upd_ne npt]; exact hp
    refine ⟨_, rfl, p, C, dx, _, _, rfl, hp2 _, T.cl, T.nE, flds_e _ _ _, _, rfl, de, _, Sum.inl k, rfl, (by rw [upd_ne nte.symm]; exact he), rfl, (by rw [valV_kv, Option.isSome_map]; exact hs), ?_⟩
    rw [drop_kv]
    refine q _ ⟨⟨dx, ?_⟩, ?_, upd_same, nte⟩ (((Ch.refl _ _).mut (by simp) ht (fun _ z => by cases z)).mut (by simp) he (fun _ z => by cases z))
    · rw [upd_ne npe]; exact hp2 _
    · rw [upd_ne nte]; exact upd_same
end
end KL

namespace KL
open PySem L2 L2H LX KB KA1
/-! ### lists of pairs that are sorted -/
def leOf (H : Hp) (x : V) : Int × Int := match x with
  | .ref t => (match H t with
    | some (.tup [.int a, .int b]) => (a, b)
    | _ => (0, 0))
  | _ => (0, 0)
theorem leOf_at {H : Hp} {t : Addr} {p : Int × Int} (h : H t = some (.tup [.int p.1, .int p.2])) : leOf H (.ref t) = p := by
  unfold leOf
  simp only [h]
theorem lePrem {H : Hp} : ∀ {ts : List Addr} {qs : Al}, Tups H ts qs → ∀ x ∈ ts.map V.ref, ∃ t, x = V.ref t ∧ H t = some (.tup [.int (leOf H x).1, .int (leOf H x).2])
  | _, _, .nil, x, h => by cases h
  | _, _, .cons (a := t) (b := p) r m, x, h => by
    rcases List.mem_cons.mp h with e | h
    · subst e
      exact ⟨t, rfl, by rw [leOf_at r]; exact r⟩
    · exact lePrem m x h
theorem leKeys {H : Hp} : ∀ {ts : List Addr} {qs : Al}, Tups H ts qs → (ts.map V.ref).map (leOf H) = qs
  | _, _, .nil => rfl
  | _, _, .cons r m => by
    rw [List.map_cons, List.map_cons, leOf_at r, leKeys m]
theorem leBack {H : Hp} : ∀ {ys : List V}, (∀ x ∈ ys, ∃ t, x = V.ref t ∧ H t = some (.tup [.int (leOf H x).1, .int (leOf H x).2])) → ∃ ts, ys = ts.map V.ref ∧ Tups H ts (ys.map (leOf H))
  | [], _ => ⟨[], rfl, .nil⟩
  | y :: r, h => by
    obtain ⟨t, e, ht⟩ := h y List.mem_cons_self
    obtain ⟨ts, e2, m⟩ := leBack (ys := r) fun x hx => h x (List.mem_cons_of_mem _ hx)
    exact ⟨t :: ts, by rw [List.map_cons, ← e, ← e2], .cons ht m⟩
theorem leOut {H : Hp} {ts : List Addr} {qs : Al} {ys : List V} (m : Tups H ts qs) (hs : SrtO.Srtd (ltP (leOf H)) ys) (hp : ys.Perm (ts.map V.ref)) :
    ∃ ts' ps, ys = ts'.map V.ref ∧ Tups H ts' ps ∧ Asc ps ∧ ps.Perm qs := by
  obtain ⟨ts', e, m'⟩ := leBack (H := H) (ys := ys) fun x hx => lePrem m x (hp.mem_iff.mp hx)
  refine ⟨ts', _, e, m', ?_, ?_⟩
  · exact List.pairwise_map.mpr hs
  · have q := hp.map (leOf H)
    rw [leKeys m] at q
    exact q
theorem Tups.keep {H H' : Hp} {ts : List Addr} {ps : Al} (m : Tups H ts ps) (k : ∀ b xs, H b = some (.tup xs) → H' b = some (.tup xs)) : Tups H' ts ps := Paired.mono (fun _ _ h => k _ _ h) m
theorem dueL_snoc {E : Al} {u : Int} {i : Nat} {p : Int × Int} (h : E[i]? = some p) : dueL (E.take (i + 1)) u = dueL (E.take i) u ++ (if p.2 ≤ u then [(p.2, p.1)] else []) := by
  have e : E.take (i + 1) = E.take i ++ [p] := by
    rw [List.take_add_one, h]; rfl
  rw [e]
  unfold dueL
  rw [List.filter_append, List.map_append]
  congr 1
  by_cases c : p.2 ≤ u
  · simp [c]
  · simp [c]
theorem dueL_len (E : Al) (u : Int) : (dueL E u).length ≤ E.length := by
  unfold dueL
  rw [List.length_map]
  exact List.length_filter_le _ _
theorem kv_at {E : Al} {i : Nat} {p : Int × Int} (h : E[i]? = some p) : (kv E)[i]? = some (Sum.inl p.1, V.int p.2) := by
  unfold kv
  rw [List.getElem?_map, h]; rfl
section
variable {P : Program} {w : World} {K : PySem.W.Frag} {mg : Str → Option Value} {base : Heap}
theorem ok_Leases_due {f C : Addr} {fd : FuncData} (F : Fun K "due" "Leases.due" s_Leases_due f fd) (T : LeaT K mg C) (ms : mg "sorted" = none) : FnOk P w K mg base CX0 1 f fd ["self", "until"] (spLeDue C) := by
  refine F.ok sc_Leases_due (fun vs H Q E h => ?_) (fun cdv A outer s H vs Q E hr h => ?_)
  · obtain ⟨p, dt, de, n, u, T, En, rfl, _⟩ := h
    rfl
  · obtain ⟨p, dt, de, n, u, T1, En, rfl, L, l1, k⟩ := h
    obtain ⟨⟨dx, hp⟩, ht, he, nte⟩ := id L
    have npe : p ≠ de := ne_of hp he (by intro z; cases z)
    refine ⟨_, pss_one (ps_ret (pe_callB cr_sortedPO (by rfl) ms (by decide +kernel) (pa_cons (pe_lock
      (pe_lc (own := [("lease", 2), ("end", 3)]) (g := gTup K 2 (gCons (gName 2) (gCons (gName 3) gNil))) rfl sc_Leases_due.nd (pi_items (pe_fld (pv 0) rfl)) (blkOk_by (own := [("lease", 2), ("end", 3)]) (N := ["self", "until", "lease", "end"]) (sc := defScope s_Leases_due) (by decide +kernel))
        (fun _ _ _ _ _ => pg_tup (n := 2) rfl (pgs_cons (pg_name (i := 2) sc_Leases_due.nd rfl (Or.inl rfl) (Or.inr rfl)) (pgs_cons (pg_name (i := 3) sc_Leases_due.nd rfl (Or.inl rfl) (Or.inr rfl)) pgs_nil)))
        (fun _ _ _ _ _ => pts_one (pt_cmpR op_le (pv 3) (pv 1) (nomark _)))
        (fun _ _ _ _ _ => pe_tup (pa_cons (pv 3) (pa_cons (pv 2) pa_nil))))) pa_nil))), ?_⟩
    refine ⟨de, _, he, trivial, fun od => ?_⟩
    have hpL : upd H de (.frz od (.dK (kv En))) p = some (.ins C dx (flds n dt de)) := by rw [upd_ne npe]; exact hp
    refine ⟨_, rfl, p, C, dx, _, _, rfl, hpL, T.cl, T.nE, flds_e _ _ _, de, od, _, rfl, upd_same, fun D hD => ?_⟩
    refine lc_it walk_items (fun i H' => ∃ ts, Same (upd H de (.frz od (.dK (kv En)))) H' ∧ H' D = some (.lst (ts.map V.ref)) ∧ Tups H' ts (dueL (En.take i) u)) ?_ ?_ ?_ ?_
    · refine ⟨[], fun b o e => ?_, upd_same, ?_⟩
      · rw [upd_ne (ne_of_none e hD)]; exact e
      · exact .nil
    · rintro i H' _ ⟨ts, hs, _⟩
      exact hs _ _ upd_same
    · rintro i x H1 H' hi ⟨ts, hs, hl, m⟩ ⟨Tt, a, b, rfl, hn, rfl, ea, eb⟩
      have hi' : i < En.length := by rw [kv_len] at hi; exact hi
      obtain ⟨q, hq⟩ : ∃ q, En[i]? = some q := ⟨En[i], by simp [hi']⟩
      have ea : (kv En)[i]?.map (fun kv => kV kv.1) = some a := ea
      have eb : (kv En)[i]?.map Prod.snd = some b := eb
      rw [kv_at hq] at ea eb
      cases ea
      cases eb
      have hDT : D ≠ Tt := ne_of_none hl hn
      refine ⟨Tt, _, rfl, .inl (.inl upd_same), rfl, _, _, rfl, _, _, rfl, rfl, rfl, ?_⟩
      refine ⟨_, rfl, _, rfl, _, _, rfl, rfl, _, rfl, ?_⟩
      have hsT : Same H1 (upd H1 Tt (.tup [kV (Sum.inl q.1, V.int q.2).1, V.int q.2])) := fun b o e => by
        rw [upd_ne (ne_of_none e hn)]; exact e
      by_cases c : q.2 ≤ u
      · rw [decide_eq_true c]
        refine iteT ?_
        refine ⟨_, rfl, _, rfl, (by show 2 ≤ sizeLine; decide), fun z hz => ?_⟩
        have hz1 : H1 z = none := hsT.free hz
        have hDz : D ≠ z := ne_of_none hl hz1
        refine ⟨ts.map V.ref, ?_, ?_, ts ++ [z], fun b o e => ?_, ?_, ?_⟩
        · rw [upd_ne hDz]
          exact hsT _ _ hl
        · have := Paired.length m
          have l2 := dueL_len (En.take i) u
          have l3 := List.length_take_le i En
          rw [List.length_map]
          exact small1000 (by omega)
        · rw [upd_ne (ne_of_none e hD), upd_ne (ne_of_none (hs b o e) hz1)]
          exact hsT _ _ (hs b o e)
        · rw [upd_same, List.map_append]; rfl
        · rw [dueL_snoc hq, if_pos c]
          refine Paired.snoc (Tups.keep m fun b xs e => ?_) ?_
          · have nb : b ≠ D := ne_of e hl (by intro z; cases z)
            rw [upd_ne nb, upd_ne (ne_of_none e hz1)]
            exact hsT _ _ e
          · rw [upd_ne hDz.symm]; exact upd_same
      · rw [decide_eq_false c]
        refine iteF ⟨ts, fun b o e => hsT _ _ (hs b o e), hsT _ _ hl, ?_⟩
        rw [dueL_snoc hq, if_neg c, List.append_nil]
        exact Tups.keep m fun b xs e => hsT _ _ e
    · rintro H' ⟨ts, hs, hl, m⟩
      have hde : H' de = some (.frz od (.dK (kv En))) := hs _ _ upd_same
      rw [kv_len, List.take_length] at m
      have hDe : D ≠ de := ne_of hl hde (by intro z; cases z)
      have m2 : Tups (upd H' de (.dK (kv En))) ts (dueL En u) := Tups.keep m fun b xs e => by
        rw [upd_ne (ne_of e hde (by intro z; cases z))]; exact e
      refine ⟨hde, D, ts.map V.ref, leOf (upd H' de (.dK (kv En))), rfl, .inl (.inl (by rw [upd_ne hDe]; exact hl)), lePrem m2, fun ys q h1 h2 hq => ?_⟩
      obtain ⟨ts', ps, rfl, m3, asc, pm⟩ := leOut m2 h1 h2.perm
      have sm : Same H (upd H' de (.dK (kv En))) := fun b o e => by
        by_cases hb : b = de
        · subst hb
          rw [he] at e
          cases e
          exact upd_same
        · rw [upd_ne hb]
          exact hs b o (by rw [upd_ne hb]; exact e)
      refine k q ts' ps _ (sm.free hq) upd_same (Tups.keep m3 fun b xs e => ?_) asc pm fun b o e => ?_
      · rw [upd_ne (ne_of_none e hq)]; exact e
      · rw [upd_ne (ne_of_none (sm b o e) hq)]; exact sm b o e
end
end KL

namespace KL
open PySem L2 L2H LX KB KA1
/-! ### the program's room: a lease ends -/
def spEnd (c : Cs) (kk : Kinds) : Sp := fun vs H Q E => ∃ (p : Addr) (h t : Int) (R : Rc) (s : Rm), vs = [.ref p, .int h, .int t] ∧ RcAt c H p R s ∧ (s.ends h = none → E (.ref kk.NL) none H) ∧
  (s.ends h ≠ none → s.rows.length + R.HV.length ≤ 100000 ∧ ∀ R' H' s', OverR s h t s' → Way c p H R s H' R' s' → Q .non H')
/-- the keys that are held by h, as they stand in a table -/
def handL (h : Int) (l : List (Str × (Str × Int))) : List Str := (l.filter fun x => decide (x.2.2 = h)).map (·.1)
theorem handL_snoc {h : Int} {l : List (Str × (Str × Int))} {i : Nat} {x : Str × (Str × Int)} (e : l[i]? = some x) : handL h (l.take (i + 1)) = handL h (l.take i) ++ (if x.2.2 = h then [x.1] else []) := by
  have e1 : l.take (i + 1) = l.take i ++ [x] := by
    rw [List.take_add_one, e]; rfl
  rw [e1]
  unfold handL
  rw [List.filter_append, List.map_append]
  congr 1
  by_cases c : x.2.2 = h
  · simp [c]
  · simp [c]
theorem handL_len (h : Int) (l : List (Str × (Str × Int))) : (handL h l).length ≤ l.length := by
  unfold handL
  rw [List.length_map]
  exact List.length_filter_le _ _
theorem handL_keys {h : Int} {l : List (Str × (Str × Int))} (n : (l.map (·.1)).Nodup) {ks : List Str} (p : ks.Perm (handL h l)) (s : PyProof.Rows.sortedS ks = true) : HandKeys (getA l) h ks := by
  have nd : (handL h l).Nodup := by
    unfold handL
    exact n.sublist (List.filter_sublist.map _)
  refine ⟨s, p.nodup_iff.mpr nd, fun k => p.mem_iff.trans ?_⟩
  unfold handL
  rw [List.mem_map]
  constructor
  · rintro ⟨x, hx, rfl⟩
    obtain ⟨h1, h2⟩ := List.mem_filter.mp hx
    refine ⟨x.2.1, ?_⟩
    rw [getA_of n h1]
    have e := of_decide_eq_true h2
    rw [← e]
  · rintro ⟨v, hv⟩
    exact ⟨(k, (v, h)), List.mem_filter.mpr ⟨getA_mem hv, decide_eq_true rfl⟩, rfl⟩
section
variable {P : Program} {w : World} {K : PySem.W.Frag} {mg : Str → Option Value} {base : Heap} {c : Cs} {kk : Kinds}
theorem ok_Room_end {f fD fT : Addr} {fd fdD fdT : FuncData} {psD psT : List Str} (F : Fun K "_end" "Room._end" s_Room_u_end f fd) (T : RomT K c.C) (TL : LeaT K mg c.CL) (ms : mg "sorted" = none)
    (mD : Meth K c.CL "drop" fD) (bD : Binds K fdD psD []) (GD : FnOk P w K mg base (L2.CX P w) 2 fD fdD psD (spLeDrop c.CL kk.NL)) (mT : Meth K c.C "_take_out" fT) (bT : Binds K fdT psT []) (GT : FnOk P w K mg base CX0 3 fT fdT psT (spTakeOut c)) :
    FnOk P w K mg base (L2.CX P w) 4 f fd p_Room_u_end (spEnd c kk) := by
  refine F.okX sc_Room_u_end (fun vs H Q E h => ?_) (fun cdv A outer s H vs Q E hr h => ?_)
  · obtain ⟨p, h, t, R, s, rfl, _⟩ := h
    rfl
  · obtain ⟨p, h, t, R, r, rfl, A1, k1, k2⟩ := h
    obtain ⟨dx, hp⟩ := A1.ob
    obtain ⟨dy, hl⟩ := A1.lt.ob
    have hr2 : Room 2 _ := hr.mono (by decide)
    refine ⟨_, pss_cons (ps_expr (pe_meth (E := E) (pe_fld (pv 0) rfl) TL.cl mD GD hr2 bD .nil (passes_call (takes_of rfl rfl rfl rfl) (fun _ _ _ _ h => h)) (pa_cons (pv 1) pa_nil)))
      (PSs.nox (pss_cons (ps_set (i := 4) sc_Room_u_end.nd rfl (Or.inl rfl) (pe_callB cr_sortedSL (by rfl) ms (by decide +kernel) (pa_cons (pe_lock
        (pe_lc (own := [("key", 3), ("holder", 5)]) (g := gTup K 2 (gCons (gName 3) (gCons (gName 5) gNil))) rfl sc_Room_u_end.nd (pi_items (pe_fld (pv 0) rfl)) (blkOk_by (own := [("key", 3), ("holder", 5)]) (N := n_Room_u_end) (sc := defScope s_Room_u_end) (by decide +kernel))
          (fun _ _ _ _ _ => pg_tup (n := 2) rfl (pgs_cons (pg_name (i := 3) sc_Room_u_end.nd rfl (Or.inl rfl) (Or.inr rfl)) (pgs_cons (pg_name (i := 5) sc_Room_u_end.nd rfl (Or.inl rfl) (Or.inr rfl)) pgs_nil)))
          (fun _ _ _ _ _ => pts_one (pt_cmpR op_eq (pv 5) (pv 1) (nomark _)))
          (fun _ _ _ _ _ => pv 3))) pa_nil)))
      (pss_one (ps_for PassesOwn.never rfl (pi_list (pv 4)) (pg_name (i := 3) sc_Room_u_end.nd rfl (Or.inl rfl))
        (pss_one (ps_expr (pe_meth (E := E0) (pv 0) T.cl mT GT (hr.mono (by decide)) bT .nil pass0 (pa_cons (pv 3) (pa_cons (pv 2) pa_nil))))))))), ?_⟩
    have ee : ∀ h, aget R.E h = r.ends h := fun h => by rw [aget_eq, A1.fe]
    refine ⟨_, rfl, p, c.C, dx, _, _, rfl, hp, T.cl, T.n1, zf_get (i := 1) (by decide +kernel) rfl, R.pl, dy, _, rfl, hl, flds_no _ _ _ (by decide +kernel) (by decide +kernel) (by decide +kernel), _, rfl, R.pl, R.dt, R.de, _, h, R.T, R.E, rfl, A1.lt, fun z => ?_, fun z => ?_⟩
    · rw [ee] at z
      exact k1 z
    · rw [ee] at z
      have ne : r.ends h ≠ none := fun q => by rw [q] at z; cases z
      obtain ⟨hlen, k3⟩ := k2 ne
      obtain ⟨e0, he0⟩ : ∃ e0, getA R.E h = some e0 := by
        rw [A1.fe] at ne
        exact Option.ne_none_iff_exists'.mp ne
      obtain ⟨t0, ht0, _⟩ := A1.fs h e0 he0
      refine ⟨by rw [aget_eq, ht0]; rfl, fun H1 L1 c1 => ?_⟩
      have e1 : getA (adrop R.E h) = setF r.ends h none := by
        show getA (dropA R.E h) = _
        rw [setA_drop, A1.fe]
      have fs1 : ∀ j e, getA (adrop R.E h) j = some e → ∃ t, getA (adrop R.T h) j = some t ∧ r.span j = some t := fun j e he => by
        change getA (dropA R.E h) j = some e at he
        rw [getA_dropA] at he
        by_cases cj : h = j
        · rw [if_pos cj] at he; cases he
        · rw [if_neg cj] at he
          obtain ⟨t1, x1, x2⟩ := A1.fs j e he
          refine ⟨t1, ?_, x2⟩
          show getA (dropA R.T h) j = _
          rw [getA_dropA, if_neg cj]
          exact x1
      have A2 := A1.lot (n := r.given) (T := adrop R.T h) (E := adrop R.E h) (sp := r.span) L1 c1 (A1.nE.sublist (List.filter_sublist.map _)) fs1
      rw [e1] at A2
      have W2 : Way c p H R r H1 { R with T := adrop R.T h, E := adrop R.E h } { r with ends := setF r.ends h none } :=
        ⟨A2, ⟨List.length_filter_le _ _, List.length_filter_le _ _, Nat.le_refl _, rfl, Nat.le_refl _, Nat.le_refl _, rfl, rfl⟩, Grow.refl _ _, c1.mono fun x hx => by
          simp only [List.mem_cons, List.not_mem_nil, or_false] at hx
          rcases hx with rfl | rfl | rfl <;> exact List.mem_append_left _ (by simp [Rc.o])⟩
      clear A2 L1 fs1 c1
      have hlen2 : ({ r with ends := setF r.ends h none } : Rm).rows.length + (Rc.HV { R with T := adrop R.T h, E := adrop R.E h }).length ≤ 100000 := hlen
      have k4 : ∀ ks R' H' s', HandKeys r.held h ks → s' = cutAll { r with ends := setF r.ends h none } t ks → Way c p H1 { R with T := adrop R.T h, E := adrop R.E h } { r with ends := setF r.ends h none } H' R' s' → Q .non H' :=
        fun ks R' H' s' hk es W => k3 R' H' s' ⟨ks, hk, es⟩ (W2.trans W)
      have A2 := W2.at_
      have hheld : r.held = ({ r with ends := setF r.ends h none } : Rm).held := rfl
      rw [hheld] at k4
      clear hheld k3 k2 k1 hlen ne z ee he0 ht0 e1 W2 A1 hp hl
      generalize ({ R with T := adrop R.T h, E := adrop R.E h } : Rc) = R2 at A2 k4 hlen2
      generalize ({ r with ends := setF r.ends h none } : Rm) = r2 at A2 k4 hlen2
      obtain ⟨dx2, hp⟩ := A2.ob
      have nph : p ≠ R2.dh := A2.ne7.1.2.2.2.2.1
      have lv : R2.hk.length = R2.HV.length := A2.rh.len
      refine ⟨R2.dh, _, A2.ho, trivial, fun od => ?_⟩
      have hpL : upd H1 R2.dh (.frz od (.dK R2.hk)) p = some (.ins c.C dx2 (rFl r2 R2)) := by rw [upd_ne nph]; exact hp
      refine ⟨_, rfl, p, c.C, dx2, _, _, rfl, hpL, T.cl, T.n4, zf_get (i := 4) (by decide +kernel) rfl, R2.dh, od, _, rfl, upd_same, fun D hD => ?_⟩
      refine lc_it walk_items (fun i H' => Same (upd H1 R2.dh (.frz od (.dK R2.hk))) H' ∧ H' D = some (.lst ((handL h (R2.HV.take i)).map V.str))) ?_ ?_ ?_ ?_
      · exact ⟨same_new hD, upd_same⟩
      · rintro i H' _ ⟨hs, _⟩
        exact hs _ _ upd_same
      · rintro i x H3 H' hi ⟨hs, hlD⟩ ⟨Tt, a, b, rfl, hn, rfl, ea, eb⟩
        have hi' : i < R2.HV.length := by rw [← lv]; exact hi
        obtain ⟨q, hq⟩ : ∃ q, R2.HV[i]? = some q := ⟨R2.HV[i], by simp [hi']⟩
        obtain ⟨v, hv, rfl⟩ := DRel.atL A2.rh hq
        have ea : R2.hk[i]?.map (fun kv => kV kv.1) = some a := ea
        have eb : R2.hk[i]?.map Prod.snd = some b := eb
        rw [hv] at ea eb
        cases ea
        cases eb
        have hsT : Same H3 (upd H3 Tt (.tup [kV (Sum.inr q.1, V.int q.2.2).1, V.int q.2.2])) := same_new hn
        refine ⟨Tt, _, rfl, .inl (.inl upd_same), rfl, _, _, rfl, _, _, rfl, rfl, rfl, ?_⟩
        refine ⟨_, rfl, _, rfl, rfl, _, rfl, ?_⟩
        rw [handL_snoc hq]
        by_cases cc : q.2.2 = h
        · rw [decide_eq_true (congrArg V.int cc), if_pos cc]
          refine iteT ⟨_, rfl, _, hsT _ _ hlD, ?_, fun b o e => ?_, ?_⟩
          · have l2 := handL_len h (R2.HV.take i)
            have l3 := List.length_take_le' i R2.HV
            rw [List.length_map]
            exact smallS (by omega)
          · rw [upd_ne (ne_of_none e hD)]
            exact hsT _ _ (hs b o e)
          · rw [upd_same, List.map_append]; rfl
        · rw [decide_eq_false (fun z => cc (V.int.inj z)), if_neg cc, List.append_nil]
          exact iteF ⟨fun b o e => hsT _ _ (hs b o e), hsT _ _ hlD⟩
      · rintro H' ⟨hs, hlD⟩
        have hde : H' R2.dh = some (.frz od (.dK R2.hk)) := hs _ _ upd_same
        rw [lv, List.take_length] at hlD
        have hDe : D ≠ R2.dh := ne_of hlD hde (by intro z; cases z)
        refine ⟨hde, D, handL h R2.HV, rfl, .inl (.inl (by rw [upd_ne hDe]; exact hlD)), fun ks q h1 h2 hq => ?_⟩
        have sm : Same H1 (upd H' R2.dh (.dK R2.hk)) := fun b o e => by
          by_cases hb : b = R2.dh
          · subst hb
            rw [A2.ho] at e
            cases e
            exact upd_same
          · rw [upd_ne hb]
            exact hs b o (by rw [upd_ne hb]; exact e)
        have sm2 := sm.trans (same_new (o := .lst (ks.map V.str)) hq)
        have hq2 : upd (upd H' R2.dh (.dK R2.hk)) q (.lst (ks.map V.str)) q = some (.lst (ks.map V.str)) := upd_same
        have q0 : H1 q = none := sm.free hq
        have nq : q ∉ R2.F p := fun y => by
          obtain ⟨o, e⟩ := A2.own q y
          rw [q0] at e
          cases e
        have hk : HandKeys r2.held h ks := by
          rw [A2.fh]
          exact handL_keys A2.nH h1 h2
        have A3 := A2.ch (Ch.of sm2 []) (fun _ _ z => nomatch z)
        dsimp only
        generalize upd (upd H' R2.dh (.dK R2.hk)) q (.lst (ks.map V.str)) = H4 at sm2 hq2 A3 ⊢
        have lks : ks.length ≤ R2.HV.length := by
          rw [h1.length_eq]
          exact handL_len h R2.HV
        refine ⟨_, rfl, q, rfl, ⟨_, SqL.of hq2⟩, ?_⟩
        refine for_list (xs := ks.map V.str) (fun i σ H' => (∃ y3 y5 : Option V, σ = [some (.ref p), some (.int h), some (.int t), y3, some (.ref q), y5]) ∧ ∃ R', Way c p H4 R2 r2 H' R' (cutAll r2 t (ks.take i))) ⟨⟨_, _, rfl⟩, R2, Way.refl A3⟩ ?_ ?_ ?_
        · rintro i σ H5 _ ⟨⟨y3, y5, rfl⟩, R', W⟩
          exact SqL.of (W.ch.at hq2 nq)
        · rintro i x σ H5 hx ⟨⟨y3, y5, rfl⟩, R', W⟩
          rw [List.getElem?_map] at hx
          obtain ⟨ky, hky, rfl⟩ : ∃ ky, ks[i]? = some ky ∧ V.str ky = x := by
            cases e : ks[i]? with
            | none => rw [e] at hx; cases hx
            | some ky => rw [e] at hx; exact ⟨ky, rfl, Option.some.inj hx⟩
          have et : ks.take (i + 1) = ks.take i ++ [ky] := by
            rw [List.take_add_one, hky]; rfl
          have nin : ky ∉ ks.take i := fun m => by
            have nd := hk.nd
            rw [← List.take_append_drop (i + 1) ks, et, List.append_assoc] at nd
            exact (List.nodup_append.mp nd).2.2 ky m ky (by simp) rfl
          have hh : (cutAll r2 t (ks.take i)).held ky ≠ none := by
            rw [all_held _ _ _ _ nin]
            obtain ⟨v, e⟩ := (hk.mem ky).mp (List.mem_of_getElem? hky)
            rw [e]
            intro z
            cases z
          obtain ⟨dx5, hp5⟩ := W.at_.ob
          have l5 := W.sub.hr
          refine ⟨_, rfl, p, dx5, _, rfl, hp5, zf_no (by decide +kernel), _, rfl, _, rfl, p, ky, t, R', _, rfl, W.at_, hh, by omega, fun R6 H6 W6 => ?_⟩
          refine ⟨⟨_, _, rfl⟩, R6, ?_⟩
          rw [et, all_snoc]
          exact W.trans W6
        · rintro σ H5 ⟨⟨y3, y5, rfl⟩, R', W⟩
          rw [List.length_map, List.take_length] at W
          exact k4 ks R' H5 _ hk rfl ⟨W.at_, W.sub, fun a ha => (W.gr a ha).imp id fun e => sm2.free e, (Ch.of sm2 _).trans W.ch⟩
end
end KL

namespace KL
open PySem L2 L2H LX KB KA1
/-! ### the program's room: deeds on leases, and time -/
theorem aput_eq (l : Al) (k v : Int) : aput l k v = putA l k v := rfl
theorem over_ends {s s' : Rm} {h t : Int} (o : OverR s h t s') : s'.ends = setF s.ends h none := by
  obtain ⟨ks, _, rfl⟩ := o
  rw [all_ends]
theorem over_now {s s' : Rm} {h t n : Int} (o : OverR s h t s') : OverR { s with now := n } h t { s' with now := n } := by
  obtain ⟨ks, hk, rfl⟩ := o
  refine ⟨ks, hk, ?_⟩
  rw [← all_now]
theorem oversR_snoc : ∀ {es : List (Int × Int)} {s s1 s2 : Rm} {e : Int × Int}, OversR es s s1 → OverR s1 e.2 e.1 s2 → OversR (es ++ [e]) s s2
  | [], s, s1, s2, e, h, o => by
    have h : s1 = s := h
    subst h
    exact ⟨s2, o, rfl⟩
  | x :: es, s, s1, s2, e, ⟨y, h1, h2⟩, o => ⟨y, h1, oversR_snoc h2 o⟩
theorem overs_ends : ∀ {es : List (Int × Int)} {s s1 : Rm} {h : Int}, OversR es s s1 → h ∉ es.map (·.2) → s1.ends h = s.ends h
  | [], s, s1, h, o, _ => by
    have o : s1 = s := o
    rw [o]
  | x :: es, s, s1, h, ⟨y, h1, h2⟩, n => by
    rw [List.map_cons, List.mem_cons, not_or] at n
    rw [overs_ends h2 n.2, over_ends h1]
    unfold setF
    rw [if_neg fun z => n.1 z.symm]
/-- the list of what is due, by the table -/
theorem due_ends {E : Al} (n : (E.map (·.1)).Nodup) {u : Int} {ps : Al} (a : Asc ps) (p : ps.Perm (dueL E u)) : EndsTo (getA E) u ps := by
  have nd : (dueL E u).Nodup := by
    unfold dueL
    have n2 : (E.filter fun p => decide (p.2 ≤ u)).Nodup := (List.Pairwise.of_map (fun p : Int × Int => p.1) (fun _ _ h e => h (by rw [e])) n).sublist List.filter_sublist
    refine List.Pairwise.map _ (fun x y h e => h ?_) n2
    exact Prod.ext (congrArg Prod.snd e) (congrArg Prod.fst e)
  refine ⟨a, p.nodup_iff.mpr nd, fun e => p.mem_iff.trans ?_⟩
  unfold dueL
  rw [List.mem_map]
  constructor
  · rintro ⟨x, hx, rfl⟩
    obtain ⟨h1, h2⟩ := List.mem_filter.mp hx
    exact ⟨getA_of n h1, of_decide_eq_true h2⟩
  · rintro ⟨h1, h2⟩
    exact ⟨(e.2, e.1), List.mem_filter.mpr ⟨getA_mem h1, decide_eq_true h2⟩, rfl⟩
theorem tupsAt {H : Hp} : ∀ {ts : List Addr} {ps : Al} {j : Nat} {y : V}, Tups H ts ps → (ts.map V.ref)[j]? = some y → ∃ t r, y = V.ref t ∧ ps[j]? = some r ∧ H t = some (.tup [.int r.1, .int r.2])
  | _, _, j, y, .nil, h => by simp at h
  | _, _, 0, y, .cons r m, h => ⟨_, _, (Option.some.inj h).symm, rfl, r⟩
  | _, _, j + 1, y, .cons r m, h => tupsAt (j := j) m (by simpa using h)
/-- two ends of one lease are one -/
theorem ends_fst {f : Int → Option Int} {u : Int} {es : List (Int × Int)} (h : EndsTo f u es) : (es.map (·.2)).Nodup := by
  refine List.pairwise_map.mpr (List.Pairwise.imp_of_mem (fun {a b} ha hb n e => n ?_) h.nd)
  have x1 := ((h.mem a).mp ha).1
  have x2 := ((h.mem b).mp hb).1
  rw [e, x2] at x1
  exact Prod.ext (Option.some.inj x1).symm e
section
variable {P : Program} {w : World} {K : PySem.W.Frag} {mg : Str → Option Value} {base : Heap} {c : Cs} {kk : Kinds}
theorem ok_Room_grant {f fG : Addr} {fd fdG : FuncData} {psG : List Str} (F : Fun K "grant" "Room.grant" s_Room_grant f fd) (T : RomT K c.C) (TL : LeaT K mg c.CL) (mG : Meth K c.CL "grant" fG) (bG : Binds K fdG psG []) (GG : FnOk P w K mg base (L2.CX P w) 1 fG fdG psG (spLeGrant c.CL kk.BT)) :
    FnOk P w K mg base (L2.CX P w) 2 f fd p_Room_grant (spRDo kk (RsP c) argG) := by
  refine F.okX sc_Room_grant (fun vs H Q E h => ?_) (fun cdv A outer s H vs Q E hr h => ?_)
  · obtain ⟨Fo, p, s, d, xs, rfl, ⟨t, rfl, rfl⟩, _⟩ := h
    rfl
  · obtain ⟨Fo, p, r, d, xs, rfl, ⟨t, rfl, rfl⟩, ⟨R, rfl, A1, Z⟩, fit, k⟩ := h
    obtain ⟨dx, hp⟩ := A1.ob
    obtain ⟨dy, hl⟩ := A1.lt.ob
    refine ⟨_, pss_one (ps_ret (pe_meth (E := E) (pe_fld (pv 0) rfl) TL.cl mG GG hr bG .nil (passes_call (takes_of rfl rfl rfl rfl) (fun _ _ _ _ h => h)) (pa_cons (pe_fld (pv 0) rfl) (pa_cons (pv 1) pa_nil)))), ?_⟩
    have f1 := fit.given
    have z1 := Z.t
    have z2 := Z.e
    refine ⟨_, rfl, p, c.C, dx, _, _, rfl, hp, T.cl, T.n1, zf_get (i := 1) (by decide +kernel) rfl, R.pl, dy, _, rfl, hl, flds_no _ _ _ (by decide +kernel) (by decide +kernel) (by decide +kernel),
      _, rfl, p, c.C, dx, _, _, rfl, hp, T.cl, T.n0, zf_get (i := 0) (by decide +kernel) rfl, _, rfl, R.pl, R.dt, R.de, _, r.now, t, R.T, R.E, rfl, A1.lt, by omega, by omega, fun hb => ?_, fun h1 h2 H1 L1 c1 => ?_⟩
    · exact k (.bad .ticks) r _ H (.inl ⟨hb, rfl, rfl⟩) ⟨R, rfl, A1, Z⟩ (Grow.refl _ _) (Ch.refl _ _)
    · have eE : getA (aput R.E ((r.given : Int) + 1) (r.now + t)) = setF r.ends ((r.given : Int) + 1) (some (r.now + t)) := by
        rw [aput_eq, setA_put, A1.fe]
      have fs1 : ∀ j e, getA (aput R.E ((r.given : Int) + 1) (r.now + t)) j = some e → ∃ u, getA (aput R.T ((r.given : Int) + 1) t) j = some u ∧ setF r.span ((r.given : Int) + 1) (some t) j = some u := fun j e he => by
        rw [aput_eq, getA_putA] at he
        rw [aput_eq, getA_putA]
        unfold setF
        by_cases cj : (r.given : Int) + 1 = j
        · rw [if_pos cj, if_pos cj]; exact ⟨t, rfl, rfl⟩
        · rw [if_neg cj] at he
          rw [if_neg cj, if_neg cj]
          exact A1.fs j e he
      have A2 := A1.lot (n := r.given + 1) (sp := setF r.span ((r.given : Int) + 1) (some t)) L1 c1 (putA_nodup A1.nE) fs1
      rw [eE] at A2
      refine k (.num ((r.given : Int) + 1)) _ _ H1 (.inr ⟨fun z => ?_, rfl, rfl⟩) ⟨_, rfl, A2, ⟨?_, ?_, Z.h, Z.w, Z.wt⟩⟩ (Grow.refl _ _) (c1.mono fun x hx => ?_)
      · rcases z with z | z <;> omega
      · exact Nat.le_trans (putA_len _ _ _) (Nat.succ_le_succ Z.t)
      · exact Nat.le_trans (putA_len _ _ _) (Nat.succ_le_succ Z.e)
      · simp only [List.mem_cons, List.not_mem_nil, or_false] at hx
        rcases hx with rfl | rfl | rfl <;> exact List.mem_append_left _ (by simp [Rc.o])
theorem ok_Room_renew {f fG : Addr} {fd fdG : FuncData} {psG : List Str} (F : Fun K "renew" "Room.renew" s_Room_renew f fd) (T : RomT K c.C) (TL : LeaT K mg c.CL) (mG : Meth K c.CL "renew" fG) (bG : Binds K fdG psG []) (GG : FnOk P w K mg base (L2.CX P w) 2 fG fdG psG (spLeRenew c.CL kk.NL)) :
    FnOk P w K mg base (L2.CX P w) 3 f fd p_Room_renew (spRDo kk (RsP c) argR) := by
  refine F.okX sc_Room_renew (fun vs H Q E h => ?_) (fun cdv A outer s H vs Q E hr h => ?_)
  · obtain ⟨Fo, p, s, d, xs, rfl, ⟨t, rfl, rfl⟩, _⟩ := h
    rfl
  · obtain ⟨Fo, p, r, d, xs, rfl, ⟨h, rfl, rfl⟩, ⟨R, rfl, A1, Z⟩, fit, k⟩ := h
    obtain ⟨dx, hp⟩ := A1.ob
    obtain ⟨dy, hl⟩ := A1.lt.ob
    refine ⟨_, pss_one (ps_expr (pe_meth (E := E) (pe_fld (pv 0) rfl) TL.cl mG GG hr bG .nil (passes_call (takes_of rfl rfl rfl rfl) (fun _ _ _ _ h => h)) (pa_cons (pe_fld (pv 0) rfl) (pa_cons (pv 1) pa_nil)))), ?_⟩
    have f1 := fit.given
    have z2 := Z.e
    have ee : ∀ h, aget R.E h = r.ends h := fun h => by rw [aget_eq, A1.fe]
    refine ⟨_, rfl, p, c.C, dx, _, _, rfl, hp, T.cl, T.n1, zf_get (i := 1) (by decide +kernel) rfl, R.pl, dy, _, rfl, hl, flds_no _ _ _ (by decide +kernel) (by decide +kernel) (by decide +kernel),
      _, rfl, p, c.C, dx, _, _, rfl, hp, T.cl, T.n0, zf_get (i := 0) (by decide +kernel) rfl, _, rfl, R.pl, R.dt, R.de, _, r.now, h, R.T, R.E, rfl, A1.lt, by omega, fun z => ?_, fun z => ?_⟩
    · rw [ee] at z
      exact k (.bad .lease) r _ H (.inl ⟨z, rfl, rfl⟩) ⟨R, rfl, A1, Z⟩ (Grow.refl _ _) (Ch.refl _ _)
    · rw [ee] at z
      have ne : r.ends h ≠ none := fun q => by rw [q] at z; cases z
      obtain ⟨e0, he0⟩ : ∃ e0, getA R.E h = some e0 := by
        have ne2 := ne
        rw [A1.fe] at ne2
        exact Option.ne_none_iff_exists'.mp ne2
      obtain ⟨t0, ht0, hs0⟩ := A1.fs h e0 he0
      refine ⟨t0, by rw [aget_eq]; exact ht0, fun H1 L1 c1 => ?_⟩
      have eE : getA (aput R.E h (r.now + t0)) = setF r.ends h (some (r.now + t0)) := by
        rw [aput_eq, setA_put, A1.fe]
      have fs1 : ∀ j e, getA (aput R.E h (r.now + t0)) j = some e → ∃ u, getA R.T j = some u ∧ r.span j = some u := fun j e he => by
        rw [aput_eq, getA_putA] at he
        by_cases cj : h = j
        · subst cj; exact ⟨t0, ht0, hs0⟩
        · rw [if_neg cj] at he
          exact A1.fs j e he
      have A2 := A1.lot (n := r.given) (T := R.T) (sp := r.span) L1 c1 (putA_nodup A1.nE) fs1
      rw [eE] at A2
      have le : (aput R.E h (r.now + t0)).length = R.E.length := by
        have q := congrArg List.length (keys_putA_old (d := R.E) (k := h) (v := r.now + t0) (by rw [getA_any, he0]; rfl))
        rw [List.length_map, List.length_map] at q
        exact q
      refine k .non _ _ H1 (.inr ⟨ne, rfl, t0, hs0, rfl⟩) ⟨_, rfl, A2, ⟨Z.t, ?_, Z.h, Z.w, Z.wt⟩⟩ (Grow.refl _ _) (c1.mono fun x hx => ?_)
      · exact Nat.le_trans (Nat.le_of_eq le) Z.e
      · simp only [List.mem_cons, List.not_mem_nil, or_false] at hx
        rcases hx with rfl | rfl | rfl <;> exact List.mem_append_left _ (by simp [Rc.o])
theorem ok_Room_drop {f fG : Addr} {fd fdG : FuncData} {psG : List Str} (F : Fun K "drop" "Room.drop" s_Room_drop f fd) (T : RomT K c.C) (mG : Meth K c.C "_end" fG) (bG : Binds K fdG psG []) (GG : FnOk P w K mg base (L2.CX P w) 4 fG fdG psG (spEnd c kk)) :
    FnOk P w K mg base (L2.CX P w) 5 f fd p_Room_drop (spRDo kk (RsP c) argD) := by
  refine F.okX sc_Room_drop (fun vs H Q E h => ?_) (fun cdv A outer s H vs Q E hr h => ?_)
  · obtain ⟨Fo, p, s, d, xs, rfl, ⟨t, rfl, rfl⟩, _⟩ := h
    rfl
  · obtain ⟨Fo, p, r, d, xs, rfl, ⟨h, rfl, rfl⟩, ⟨R, rfl, A1, Z⟩, fit, k⟩ := h
    obtain ⟨dx, hp⟩ := A1.ob
    refine ⟨_, pss_one (ps_expr (pe_meth (E := E) (pv 0) T.cl mG GG hr bG .nil (passes_call (takes_of rfl rfl rfl rfl) (fun _ _ _ _ h => h)) (pa_cons (pv 1) (pa_cons (pe_fld (pv 0) rfl) pa_nil)))), ?_⟩
    have f1 := fit.rows
    have z2 := Z.h
    refine ⟨_, rfl, p, dx, _, rfl, hp, zf_no (by decide +kernel), _, rfl, _, rfl, p, c.C, dx, _, _, rfl, hp, T.cl, T.n0, zf_get (i := 0) (by decide +kernel) rfl, p, h, r.now, R, r, rfl, A1, fun z => ?_, fun z => ⟨by omega, fun R' H' s' o W => ?_⟩⟩
    · exact k (.bad .lease) r _ H (.inl ⟨z, rfl, rfl⟩) ⟨R, rfl, A1, Z⟩ (Grow.refl _ _) (Ch.refl _ _)
    · exact k .non s' _ H' (.inr ⟨z, rfl, o⟩) ⟨R', rfl, W.at_, W.sub.sz Z⟩ W.gr W.ch
theorem ok_Room_wait {f fE fU : Addr} {fd fdE fdU : FuncData} {psE psU : List Str} {tm : Tok} (F : Fun K "wait" "Room.wait" s_Room_wait f fd) (T : RomT K c.C) (TL : LeaT K mg c.CL) (N : ErrT K mg "BadTicks" kk.BT) (mM : mg "MOST_TICKS" = some (.int 1000000 tm))
    (mE : Meth K c.C "_end" fE) (bE : Binds K fdE psE []) (GE : FnOk P w K mg base (L2.CX P w) 4 fE fdE psE (spEnd c kk)) (mU : Meth K c.CL "due" fU) (bU : Binds K fdU psU []) (GU : FnOk P w K mg base CX0 1 fU fdU psU (spLeDue c.CL)) :
    FnOk P w K mg base (L2.CX P w) 5 f fd p_Room_wait (spRDo kk (RsP c) argW) := by
  refine F.okX sc_Room_wait (fun vs H Q E h => ?_) (fun cdv A outer s H vs Q E hr h => ?_)
  · obtain ⟨Fo, p, s, d, xs, rfl, ⟨t, rfl, rfl⟩, _⟩ := h
    rfl
  · obtain ⟨Fo, p, r, d, xs, rfl, ⟨t, rfl, rfl⟩, ⟨R, rfl, A1, Z⟩, fit, k⟩ := h
    obtain ⟨dx, hp⟩ := A1.ob
    obtain ⟨dy, hl⟩ := A1.lt.ob
    have hr1 : Room 1 _ := hr.mono (by decide)
    refine ⟨_, pss_cons (ps_if (PW.pt (pw_or (pt_cmpR op_lt (pv 1) pe_int (nomark _)) (pw_or1 (pt_cmpR op_gt (pv 1) (pe_glob (v := V.int 1000000) rfl mM ⟨_, rfl⟩) (nomark _)))))
        (pss_one (ps_raise rfl (takes_of rfl rfl rfl rfl) (SkE.pmk_own1 PySem.F.excBase_ValueError N.x N.g N.k (raises_own N.b N.t) rfl
          (pe_joined (.cons pe_str (.cons (pe_fmt (pe_glob (v := V.int 1000000) rfl mM ⟨_, rfl⟩)) (.cons pe_str .nil))))))) pss_nil)
      (PSs.nox (pss_cons (ps_fldaug (pv 0) (pv 1) in_add)
      (pss_cons (ps_set (i := 2) sc_Room_wait.nd rfl (Or.inl rfl) (pe_meth (E := E0) (pe_fld (pv 0) rfl) TL.cl mU GU hr1 bU .nil pass0 (pa_cons (pe_fld (pv 0) rfl) pa_nil)))
      (pss_one (ps_for PassesOwn.never rfl (pi_list (pv 2)) (pg_tup (n := 2) rfl (pgs_cons (pg_name (i := 3) sc_Room_wait.nd rfl (Or.inl rfl)) (pgs_cons (pg_name (i := 4) sc_Room_wait.nd rfl (Or.inl rfl)) pgs_nil)))
        (pss_one (ps_expr (pe_meth (E := E0) (pv 0) T.cl mE GE hr bE .nil (passes_call takes0 (fun _ _ _ _ h => h)) (pa_cons (pv 4) (pa_cons (pv 3) pa_nil)))))))))), ?_⟩
    have bad : badT 0 t → tJs [tC (V.str "a room waits 0 to "), tFmt (tC (V.int 1000000)), tC (V.str " ticks")] Str.empty (L2.start n_Room_wait [V.ref p, V.int t]) H fun out H1 => E (.ref kk.BT) none H1 := fun hb => by
      refine ⟨_, rfl, (by decide +kernel), .inr ⟨1000000, rfl, (by decide +kernel), _, rfl, (by decide +kernel), _, rfl, (by decide +kernel), ?_⟩⟩
      exact k (.bad .ticks) r _ H (.inl ⟨hb, rfl, rfl⟩) ⟨R, rfl, A1, Z⟩ (Grow.refl _ _) (Ch.refl _ _)
    refine ⟨_, rfl, _, _, rfl, rfl, _, rfl, ?_⟩
    by_cases c1 : t < 0
    · rw [decide_eq_true c1]
      exact iteT (iteT (bad (.inl c1)))
    rw [decide_eq_false c1]
    refine iteF ⟨_, rfl, _, _, rfl, rfl, _, rfl, ?_⟩
    by_cases c2 : t > 1000000
    · rw [decide_eq_true c2]
      exact iteT (bad (.inr c2))
    rw [decide_eq_false c2]
    refine iteF ?_
    have nb : ¬ badT 0 t := fun z => by rcases z with z | z <;> omega
    clear bad
    refine ⟨_, rfl, p, c.C, dx, _, _, rfl, hp, T.cl, T.n0, zf_get (i := 0) (by decide +kernel) rfl, _, rfl, _, _, rfl, rfl, dx, _, hp, (by show 7 < 1000; decide), ?_⟩
    rw [zf_put (i := 0) (by decide +kernel) rfl]
    have cp : Ch H (upd H p (.ins c.C dx (rFl { r with now := r.now + t } R))) [p] := (Ch.refl _ _).mut (by simp) hp (fun _ z => by cases z)
    have A2 := A1.tick (n := r.now + t) cp upd_same
    have hp2 : upd H p (.ins c.C dx (rFl { r with now := r.now + t } R)) p = some (.ins c.C dx (rFl { r with now := r.now + t } R)) := upd_same
    change tSeq _ _ _ _ (upd H p (.ins c.C dx (rFl { r with now := r.now + t } R)))
    generalize upd H p (.ins c.C dx (rFl { r with now := r.now + t } R)) = H2 at cp A2 hp2 ⊢
    obtain ⟨dy2, hl2⟩ := A2.lt.ob
    have f1 := fit.given
    have f2 := fit.rows
    have z2 := Z.e
    have z3 := Z.h
    refine ⟨_, rfl, p, c.C, dx, _, _, rfl, hp2, T.cl, T.n1, zf_get (i := 1) (by decide +kernel) rfl, R.pl, dy2, _, rfl, hl2, flds_no _ _ _ (by decide +kernel) (by decide +kernel) (by decide +kernel),
      _, rfl, p, c.C, dx, _, _, rfl, hp2, T.cl, T.n0, zf_get (i := 0) (by decide +kernel) rfl, R.pl, R.dt, R.de, _, r.now + t, R.T, R.E, rfl, A2.lt, by omega, fun q ts es H3 hq hq3 hts asc pm s3 => ?_⟩
    have hes : EndsTo r.ends (r.now + t) es := by
      rw [A1.fe]
      exact due_ends A1.nE asc pm
    have nq : q ∉ R.F p := fun y => by
      obtain ⟨o, e⟩ := A2.own q y
      rw [hq] at e
      cases e
    have A3 := A2.ch (Ch.of s3 []) (fun _ _ z => nomatch z)
    have len : (ts.map V.ref).length = es.length := by rw [List.length_map, Paired.length hts]
    refine ⟨_, rfl, q, rfl, ⟨_, SqL.of hq3⟩, ?_⟩
    refine for_list (xs := ts.map V.ref) (fun i σ H' => (∃ y3 y4 : Option V, σ = [some (.ref p), some (.int t), some (.ref q), y3, y4]) ∧ ∃ R' s', OversR (es.take i) r s' ∧ Way c p H3 R { r with now := r.now + t } H' R' { s' with now := r.now + t }) ⟨⟨_, _, rfl⟩, R, r, rfl, Way.refl A3⟩ ?_ ?_ ?_
    · rintro i σ H5 _ ⟨⟨y3, y4, rfl⟩, R', s', o, W⟩
      exact SqL.of (W.ch.at hq3 nq)
    · rintro i x σ H5 hx ⟨⟨y3, y4, rfl⟩, R', s', o, W⟩
      obtain ⟨ta, e, rfl, he, hta⟩ := tupsAt hts hx
      have hta5 := W.ch.tup _ _ hta
      have et : es.take (i + 1) = es.take i ++ [e] := by
        rw [List.take_add_one, he]; rfl
      have nin : e.2 ∉ (es.take i).map (·.2) := fun m => by
        have nd := ends_fst hes
        rw [← List.take_append_drop (i + 1) es, et, List.append_assoc, List.map_append] at nd
        exact (List.nodup_append.mp nd).2.2 e.2 m e.2 (by simp) rfl
      have hend : s'.ends e.2 ≠ none := by
        rw [overs_ends o nin, ((hes.mem e).mp (List.mem_of_getElem? he)).1]
        intro z
        cases z
      obtain ⟨dx5, hp5⟩ := W.at_.ob
      have l5 := W.sub.hr
      have l6 : ({ r with now := r.now + t } : Rm).rows.length = r.rows.length := rfl
      refine ⟨ta, _, rfl, SqT.of hta5, rfl, _, _, rfl, _, _, rfl, rfl, _, rfl, p, dx5, _, rfl, hp5, zf_no (by decide +kernel), _, rfl, _, rfl, p, e.2, e.1, R', _, rfl, W.at_, fun z => absurd z hend, fun _ => ⟨by omega, fun R6 H6 s6 o6 W6 => ?_⟩⟩
      obtain ⟨ks, hk, rfl⟩ := o6
      have o7 : OverR s' e.2 e.1 (cutAll { s' with ends := setF s'.ends e.2 none } e.1 ks) := ⟨ks, hk, rfl⟩
      refine ⟨⟨_, _, rfl⟩, R6, _, by rw [et]; exact oversR_snoc o o7, ?_⟩
      rw [← all_now]
      exact W.trans W6
    · rintro σ H5 ⟨⟨y3, y4, rfl⟩, R', s', o, W⟩
      rw [len, List.take_length] at o
      refine k .non _ _ H5 (.inr ⟨nb, rfl, es, s', hes, o, rfl⟩) ⟨R', rfl, W.at_, W.sub.sz ⟨Z.t, Z.e, Z.h, Z.w, Z.wt⟩⟩ (fun a ha => (W.gr a ha).imp id fun e => cp.none a (s3.free e)) ?_
      exact ((cp.mono fun x hx => by rw [List.mem_singleton.mp hx]; exact List.mem_append_left _ (by simp [Rc.o])).trans (Ch.of s3 _)).trans W.ch
end
end KL

namespace KL
open PySem L2 L2H LX KB KA1
/-! ### the program's room: pairs -/
def spPairs0 (c : Cs) : Sp := fun vs H Q _ => ∃ (p : Addr) (z : Str) (R : Rc) (s : Rm), vs = [.ref p, .str z] ∧ RcAt c H p R s ∧ R.HV.length ≤ 100000 ∧
  ∀ q ts ps H', Same H H' → H q = none → H' q = some (.lst (ts.map V.ref)) → PairsAt H' ts ps → Told (byPre s z) ps → Q (.ref q) H'
section
variable {P : Program} {w : World} {K : PySem.W.Frag} {mg : Str → Option Value} {base : Heap} {c : Cs}
theorem ok_Room_pairs {f : Addr} {fd : FuncData} (F : Fun K "pairs" "Room.pairs" s_Room_pairs f fd) (T : RomT K c.C) (ms : mg "sorted" = none) : FnOk P w K mg base CX0 1 f fd p_Room_pairs (spPairs0 c) := by
  refine F.ok sc_Room_pairs (fun vs H Q E h => ?_) (fun cdv A outer s H vs Q E hr h => ?_)
  · obtain ⟨p, z, R, s, rfl, _⟩ := h
    rfl
  · obtain ⟨p, z, R, r, rfl, A1, hl, k⟩ := h
    obtain ⟨dx, hp⟩ := A1.ob
    have npv : p ≠ R.dv := A1.ne7.1.2.2.2.1
    refine ⟨_, pss_one (ps_ret (pe_callB cr_sortTT (by rfl) ms (by decide +kernel) (pa_cons (pe_lock
      (pe_lc (own := [("key", 2), ("value", 3)]) (g := gTup K 2 (gCons (gName 2) (gCons (gName 3) gNil))) rfl sc_Room_pairs.nd (pi_items (pe_fld (pv 0) rfl)) (blkOk_by (own := [("key", 2), ("value", 3)]) (N := n_Room_pairs) (sc := defScope s_Room_pairs) (by decide +kernel))
        (fun _ _ _ _ _ => pg_tup (n := 2) rfl (pgs_cons (pg_name (i := 2) sc_Room_pairs.nd rfl (Or.inl rfl) (Or.inr rfl)) (pgs_cons (pg_name (i := 3) sc_Room_pairs.nd rfl (Or.inl rfl) (Or.inr rfl)) pgs_nil)))
        (fun _ _ _ _ _ => pts_one (pt_val (pe_m1 PySem.F.slot_str_startswith PySem.F.type_str_startswith mt_startswith (pv 2) (pv 1))))
        (fun _ _ _ _ _ => pe_tup (pa_cons (pv 2) (pa_cons (pv 3) pa_nil))))) pa_nil))), ?_⟩
    refine ⟨R.dv, _, A1.va, trivial, fun od => ?_⟩
    have hpL : upd H R.dv (.frz od (.dK R.vk)) p = some (.ins c.C dx (rFl r R)) := by rw [upd_ne npv]; exact hp
    refine ⟨_, rfl, p, c.C, dx, _, _, rfl, hpL, T.cl, T.n3, zf_get (i := 3) (by decide +kernel) rfl, R.dv, od, _, rfl, upd_same, fun D hD => ?_⟩
    have lv : R.vk.length = R.HV.length := A1.rv.len
    refine lc_it walk_items (fun i H' => ∃ ts, Same (upd H R.dv (.frz od (.dK R.vk))) H' ∧ H' D = some (.lst (ts.map V.ref)) ∧ PairsAt H' ts (preL z (R.HV.take i))) ?_ ?_ ?_ ?_
    · exact ⟨[], same_new hD, upd_same, .nil⟩
    · rintro i H' _ ⟨ts, hs, _⟩
      exact hs _ _ upd_same
    · rintro i x H1 H' hi ⟨ts, hs, hlD, m⟩ ⟨Tt, a, b, rfl, hn, rfl, ea, eb⟩
      have hi' : i < R.HV.length := by rw [← lv]; exact hi
      obtain ⟨q, hq⟩ : ∃ q, R.HV[i]? = some q := ⟨R.HV[i], by simp [hi']⟩
      obtain ⟨v, hv, rfl⟩ := DRel.atL A1.rv hq
      have ea : R.vk[i]?.map (fun kv => kV kv.1) = some a := ea
      have eb : R.vk[i]?.map Prod.snd = some b := eb
      rw [hv] at ea eb
      cases ea
      cases eb
      have hDT : D ≠ Tt := ne_of_none hlD hn
      refine ⟨Tt, _, rfl, .inl (.inl upd_same), rfl, _, _, rfl, _, _, rfl, rfl, rfl, ?_⟩
      refine ⟨_, rfl, ⟨_, rfl⟩, _, rfl, _, _, rfl, rfl, _, rfl, ?_⟩
      have hsT : Same H1 (upd H1 Tt (.tup [kV (Sum.inr q.1, V.str q.2.1).1, V.str q.2.1])) := same_new hn
      rw [starts_isPre]
      by_cases cc : isPre z q.1 = true
      · rw [cc]
        refine iteT ?_
        refine ⟨_, rfl, _, rfl, (by show 2 ≤ sizeLine; decide), fun y hy => ?_⟩
        have hy1 : H1 y = none := hsT.free hy
        have hDy : D ≠ y := ne_of_none hlD hy1
        refine ⟨ts.map V.ref, ?_, ?_, ts ++ [y], fun b o e => ?_, ?_, ?_⟩
        · rw [upd_ne hDy]
          exact hsT _ _ hlD
        · have := Paired.length m
          have l2 := preL_len z (R.HV.take i)
          have l3 := List.length_take_le i R.HV
          rw [List.length_map]
          exact smallS (by omega)
        · rw [upd_ne (ne_of_none e hD), upd_ne (ne_of_none (hs b o e) hy1)]
          exact hsT _ _ (hs b o e)
        · rw [upd_same, List.map_append]; rfl
        · rw [preL_snoc hq, if_pos cc]
          refine Paired.snoc (m.keep fun b xs e => ?_) ?_
          · have nb : b ≠ D := ne_of e hlD (by intro z; cases z)
            rw [upd_ne nb, upd_ne (ne_of_none e hy1)]
            exact hsT _ _ e
          · show upd _ D _ y = _
            rw [upd_ne hDy.symm]; exact upd_same
      · rw [Bool.eq_false_iff.mpr cc]
        refine iteF ⟨ts, fun b o e => hsT _ _ (hs b o e), hsT _ _ hlD, ?_⟩
        rw [preL_snoc hq, if_neg cc, List.append_nil]
        exact m.keep fun b xs e => hsT _ _ e
    · rintro H' ⟨ts, hs, hlD, m⟩
      have hde : H' R.dv = some (.frz od (.dK R.vk)) := hs _ _ upd_same
      rw [lv, List.take_length] at m
      have hDe : D ≠ R.dv := ne_of hlD hde (by intro z; cases z)
      have m2 : PairsAt (upd H' R.dv (.dK R.vk)) ts (preL z R.HV) := m.keep fun b xs e => by
        rw [upd_ne (ne_of e hde (by intro z; cases z))]; exact e
      refine ⟨hde, D, ts.map V.ref, kOfS (upd H' R.dv (.dK R.vk)), rfl, .inl (.inl (by rw [upd_ne hDe]; exact hlD)), tt_prem m2, fun ys q h1 h2 hq => ?_⟩
      have hb : ∀ x ∈ ys, ∃ t, x = V.ref t ∧ (upd H' R.dv (.dK R.vk)) t = some (.tup [.str (kOfS (upd H' R.dv (.dK R.vk)) x).1, .str (kOfS (upd H' R.dv (.dK R.vk)) x).2]) := fun x hx => tt_prem m2 x (h1.mem_iff.mp hx)
      obtain ⟨ts', rfl, m3⟩ := tt_back hb
      have pk : ((ts'.map V.ref).map (kOfS (upd H' R.dv (.dK R.vk)))).Perm (preL z R.HV) := by
        have e := h1.map (kOfS (upd H' R.dv (.dK R.vk)))
        rw [tt_keys m2] at e
        exact e
      have sm : Same H (upd H' R.dv (.dK R.vk)) := fun b o e => by
        by_cases hb : b = R.dv
        · subst hb
          rw [A1.va] at e
          cases e
          exact upd_same
        · rw [upd_ne hb]
          exact hs b o (by rw [upd_ne hb]; exact e)
      refine k q ts' _ _ (sm.trans (same_new hq)) (sm.free hq) upd_same (m3.keep fun b xs e => ?_) ?_
      · rw [upd_ne (ne_of_none e hq)]; exact e
      · have t := told_perm (preL_nodup A1.nH) pk (List.pairwise_map.mpr h2)
        have e : getP (preL z R.HV) = byPre r z := by
          funext k
          rw [preL_get]
          unfold byPre
          rw [A1.fh]
        rw [e] at t
        exact t
theorem api_pairs {k : Nat} {f : Addr} {fd : FuncData} {ps : List Str} (G : FnOk P w K mg base CX0 k f fd ps (spPairs0 c)) : FnOk P w K mg base CX0 k f fd ps (spRPairs (RsP c)) :=
  G.imp fun vs H Q E ⟨F, p, z, s, e, ⟨R, eF, A, Z⟩, oz, fit, q⟩ => ⟨p, z, R, s, e, A, Nat.le_trans (Nat.le_trans Z.h fit.rows) (by decide), fun x ts qs H' sm hx h1 h2 h3 =>
    q F x ts qs H' (RsP.frame ⟨R, eF, A, Z⟩ (Ch.of sm []) (fun _ _ z => nomatch z)) (Grow.refl _ _) (Ch.of sm _) hx (fun y => by
      subst eF
      obtain ⟨o, e⟩ := A.own x y
      rw [hx] at e
      cases e) h1 h2 h3⟩
end
end KL

namespace KL
open PySem L2 L2H LX KB KA1
/-! ### the program's room: watchers -/
structure WatT (K : PySem.W.Frag) (C : Addr) : Prop where
  cl : Cls K C
  n0 : NoAttr K C "prefix"
  n1 : NoAttr K C "told"
  n2 : NoAttr K C "had"
def spWatInit (C : Addr) : Sp := fun vs H Q _ => ∃ (p dx : Addr) (z : Str) (st : Int), vs = [.ref p, .str z, .int st] ∧ H p = some (.ins C dx []) ∧
  ∀ H', H' p = some (.ins C dx (wFl ⟨z, st - 1, st - 1⟩)) → Ch H H' [p] → Q .non H'
def spRefW (c : Cs) (kk : Kinds) : Sp := fun vs H Q E => ∃ (p : Addr) (n : Int) (R : Rc) (s : Rm), vs = [.ref p, .int n] ∧ RcAt c H p R s ∧ (s.wat n = none → E (.ref kk.NW) none H) ∧ (s.wat n ≠ none → Q .non H)
def spWatching (c : Cs) (kk : Kinds) : Sp := fun vs H Q E => ∃ (p : Addr) (n : Int) (R : Rc) (s : Rm), vs = [.ref p, .int n] ∧ RcAt c H p R s ∧ (s.wat n = none → E (.ref kk.NW) none H) ∧
  (∀ x w, getA R.WS n = some (x, w) → s.wat n = some w → Q (.ref x) H)
/-- a watcher goes on -/
def setW (R : Rc) (n : Int) (w : Wt) : List (Int × (Addr × Wt)) := R.WS.map fun y => if y.1 = n then (y.1, (y.2.1, w)) else y
theorem setW_addr (R : Rc) (n : Int) (w : Wt) : (setW R n w).map (·.2.1) = R.WS.map (·.2.1) := by
  unfold setW
  rw [List.map_map]
  refine List.map_congr_left fun y _ => ?_
  show (if y.1 = n then (y.1, (y.2.1, w)) else y).2.1 = y.2.1
  split <;> rfl
theorem setW_key (R : Rc) (n : Int) (w : Wt) : (setW R n w).map (·.1) = R.WS.map (·.1) := by
  unfold setW
  rw [List.map_map]
  refine List.map_congr_left fun y _ => ?_
  show (if y.1 = n then (y.1, (y.2.1, w)) else y).1 = y.1
  split <;> rfl
theorem setW_get {R : Rc} {n : Int} {w : Wt} {x : Addr} {w0 : Wt} (h : getA R.WS n = some (x, w0)) (j : Int) : getA (setW R n w) j = if n = j then some (x, w) else getA R.WS j := by
  unfold setW
  have go : ∀ l : List (Int × (Addr × Wt)), getA l n = some (x, w0) ∨ getA l n = none → getA (l.map fun y => if y.1 = n then (y.1, (y.2.1, w)) else y) j = if n = j then (getA l n).map fun y => (y.1, w) else getA l j := fun l => by
    induction l with
    | nil => intro _; split <;> rfl
    | cons q r ih =>
      intro hl
      rw [List.map_cons]
      by_cases e : q.1 = n
      · rw [if_pos e]
        by_cases c : n = j
        · rw [if_pos c, getA_pos (show ((q.1, (q.2.1, w)) : Int × (Addr × Wt)).1 = j from e.trans c), getA_pos e]
          rfl
        · rw [if_neg c, getA_neg (show ¬ ((q.1, (q.2.1, w)) : Int × (Addr × Wt)).1 = j from fun z => c (e.symm.trans z)), getA_neg fun z => c (e.symm.trans z)]
          have hr : ∀ r : List (Int × (Addr × Wt)), getA (r.map fun y => if y.1 = n then (y.1, (y.2.1, w)) else y) j = getA r j := fun r => by
            induction r with
            | nil => rfl
            | cons q r ih2 =>
              rw [List.map_cons]
              by_cases e2 : q.1 = n
              · rw [if_pos e2, getA_neg (show ¬ ((q.1, (q.2.1, w)) : Int × (Addr × Wt)).1 = j from fun z => c (e2.symm.trans z)), getA_neg fun z => c (e2.symm.trans z), ih2]
              · rw [if_neg e2]
                by_cases e3 : q.1 = j
                · rw [getA_pos e3, getA_pos e3]
                · rw [getA_neg e3, getA_neg e3, ih2]
          exact hr r
      · rw [if_neg e]
        rw [getA_neg e] at hl ⊢
        by_cases e3 : q.1 = j
        · have c : ¬ n = j := fun z => e (e3.trans z.symm)
          rw [getA_pos e3, if_neg c, getA_pos e3]
        · rw [getA_neg e3, ih hl, getA_neg e3]
  rw [go R.WS (.inl h), h]
  rfl
section
variable {c : Cs} {H H' : Hp} {p : Addr} {R : Rc} {s : Rm}
theorem RcAt.watF (A : RcAt c H p R s) {n : Int} {x : Addr} {w0 w : Wt} {dy : Addr} (g : getA R.WS n = some (x, w0)) (k : Ch H H' [x]) (h1 : H' x = some (.ins c.CW dy (wFl w))) (ep : w.pre = w0.pre) :
    RcAt c H' p { R with WS := setW R n w } { s with wat := setF s.wat n (some w) } := by
  have mx := getA_mem g
  obtain ⟨x1, x2, x3, x4, x5, x6, x7⟩ := A.neW mx
  have o : ∀ {a}, x ≠ a → a ∉ [x] := fun h z => h (List.mem_singleton.mp z).symm
  obtain ⟨dx, h⟩ := A.ob
  have an : (R.WS.map (·.2.1)).Nodup := by
    have n := A.nd
    unfold Rc.o at n
    simp only [List.nodup_cons, List.mem_cons, not_or] at n
    exact n.2.2.2.2.2.2.2
  have eo : Rc.o { R with WS := setW R n w } p = R.o p := by
    unfold Rc.o
    show _ :: _ :: _ :: _ :: _ :: _ :: _ :: (setW R n w).map (·.2.1) = _
    rw [setW_addr]
  have uniq : ∀ y ∈ R.WS, y.2.1 = x → y = (n, (x, w0)) := fun y hy e => by
    obtain ⟨i, hi⟩ := List.mem_iff_getElem?.mp hy
    obtain ⟨j, hj⟩ := List.mem_iff_getElem?.mp mx
    have hi2 : (R.WS.map (·.2.1))[i]? = some x := by rw [List.getElem?_map, hi]; exact congrArg some e
    have hj2 : (R.WS.map (·.2.1))[j]? = some x := by rw [List.getElem?_map, hj]; rfl
    have ij : i = j := (List.getElem?_inj (List.getElem?_eq_some_iff.mp hi2).1 an).mp (hi2.trans hj2.symm)
    subst ij
    rw [hi] at hj
    exact Option.some.inj hj
  refine ⟨⟨dx, k.at h (o x1)⟩, A.lt.ch k (o x2) (o x3) (o x4), A.lg.frame k (fun a ha => o fun z => A.dj a ha (by rw [← z]; exact A.wIn mx)), k.at A.va (o x5), k.at A.ho (o x6), k.at A.wa (o x7), fun y hy => ?_, A.rv, A.rh, ?_, by rw [eo]; exact A.nd, fun a ha => by rw [eo]; exact A.dj a ha,
    A.fe, A.fs, A.fh, ?_, A.nE, A.nH, by show ((setW R n w).map (·.1)).Nodup; rw [setW_key]; exact A.nW, fun y hy => ?_, A.kH, fun y hy => ?_⟩
  · obtain ⟨y0, hy0, rfl⟩ := List.mem_map.mp hy
    by_cases e : y0.1 = n
    · rw [if_pos e]
      have e2 : y0.2 = (x, w0) := by
        have g2 := getA_of A.nW hy0
        rw [e, g] at g2
        exact (Option.some.inj g2).symm
      refine ⟨dy, ?_⟩
      show H' y0.2.1 = _
      rw [e2]
      exact h1
    · rw [if_neg e]
      obtain ⟨dz, hz⟩ := A.wo y0 hy0
      exact ⟨dz, k.at hz (o fun z => e (by rw [uniq y0 hy0 z.symm]))⟩
  · show DRel Sum.inl isW (setW R n w) R.wk
    have go : ∀ {l : List (Int × (Addr × Wt))} {kvs : List (Key × V)}, DRel Sum.inl isW l kvs → DRel Sum.inl isW (l.map fun y => if y.1 = n then (y.1, (y.2.1, w)) else y) kvs := fun m => by
      induction m with
      | nil => exact .nil
      | cons r m ih =>
        rename_i a b l1 l2
        refine .cons ?_ ih
        show b.1 = Sum.inl (if a.1 = n then (a.1, (a.2.1, w)) else a).1 ∧ b.2 = V.ref (if a.1 = n then (a.1, (a.2.1, w)) else a).2.1
        by_cases e : a.1 = n
        · rw [if_pos e]; exact r
        · rw [if_neg e]; exact r
    exact go A.rw_
  · funext j
    show setF s.wat n (some w) j = (getA (setW R n w) j).map (·.2)
    rw [setW_get g, A.fw]
    unfold setF
    split <;> rfl
  · obtain ⟨y0, hy0, rfl⟩ := List.mem_map.mp hy
    have q := A.kW y0 hy0
    split <;> exact q
  · obtain ⟨y0, hy0, rfl⟩ := List.mem_map.mp hy
    by_cases e : y0.1 = n
    · rw [if_pos e]
      show TOk 60 w.pre
      rw [ep]
      exact A.wP _ mx
    · rw [if_neg e]
      exact A.wP y0 hy0
end
section
variable {P : Program} {w : World} {K : PySem.W.Frag} {mg : Str → Option Value} {base : Heap} {c : Cs} {kk : Kinds}
theorem ok_Watcher_init {f C : Addr} {fd : FuncData} (F : Fun K "__init__" "Watcher.__init__" s_Watcher_init f fd) (T : WatT K C) : FnOk P w K mg base CX0 1 f fd p_Watcher_init (spWatInit C) := by
  refine F.ok sc_Watcher_init (fun vs H Q E h => ?_) (fun cdv A outer s H vs Q E hr h => ?_)
  · obtain ⟨p, dx, z, st, rfl, _⟩ := h
    rfl
  · obtain ⟨p, dx, z, st, rfl, hp, k⟩ := h
    refine ⟨_, pss_cons (ps_fld (pv 0) (pv 1) rfl) (pss_cons (ps_fld (pv 0) (pe_op op_sub (pv 2) pe_int) rfl) (pss_one (ps_fld (pv 0) (pe_op op_sub (pv 2) pe_int) rfl))), ?_⟩
    refine ⟨_, rfl, _, rfl, p, C, dx, [], rfl, hp, T.cl, T.n0, (by show 0 < 1000; decide), ?_⟩
    refine ⟨_, rfl, _, _, rfl, rfl, _, rfl, p, C, dx, _, rfl, upd_same, T.cl, T.n1, (by show 1 < 1000; decide), ?_⟩
    refine ⟨_, rfl, _, _, rfl, rfl, _, rfl, p, C, dx, _, rfl, upd_same, T.cl, T.n2, (by show 2 < 1000; decide), ?_⟩
    exact k _ upd_same ((((Ch.refl H [p]).mut (by simp) hp (fun _ z => by cases z)).mut (by simp) hp (fun _ z => by cases z)).mut (by simp) hp (fun _ z => by cases z))
theorem ok_Room_refuse_watcher {f : Addr} {fd : FuncData} (F : Fun K "_refuse_watcher" "Room._refuse_watcher" s_Room_u_refuse_watcher f fd) (T : RomT K c.C) (N : ErrT K mg "NoWatch" kk.NW) : FnOk P w K mg base (L2.CX P w) 1 f fd p_Room_u_refuse_watcher (spRefW c kk) := by
  refine F.okX sc_Room_u_refuse_watcher (fun vs H Q E h => ?_) (fun cdv A outer s H vs Q E hr h => ?_)
  · obtain ⟨p, n, R, s, rfl, _⟩ := h
    rfl
  · obtain ⟨p, n, R, r, rfl, A1, k1, k2⟩ := h
    obtain ⟨dx, hp⟩ := A1.ob
    have hu := hu_of hr
    refine ⟨_, pss_one (ps_if (pt_cmp (pc_dnotin hu (pv 1) (pe_fld (pv 0) rfl))) (pss_one (ps_raise rfl (takes_of rfl rfl rfl rfl) (pmk_own PySem.F.excBase_ValueError N.x N.g N.k (raises_own N.b N.t) rfl))) pss_nil), ?_⟩
    refine ⟨_, rfl, _, rfl, p, c.C, dx, _, _, rfl, hp, T.cl, T.n6, zf_get (i := 6) (by decide +kernel) rfl, R.dw, _, rfl, DGet.k (k := Sum.inl n) A1.wa, _, rfl, ?_⟩
    have ev := A1.rw_.isSome inl_inj n
    have ew : r.wat n = (getA R.WS n).map (·.2) := congrFun A1.fw n
    cases e : valV R.wk (Sum.inl n) with
    | none =>
      rw [e] at ev
      refine iteT (k1 ?_)
      rw [ew]
      cases g : getA R.WS n with
      | none => rfl
      | some x => rw [g] at ev; cases ev
    | some x =>
      rw [e] at ev
      refine iteF (k2 fun z => ?_)
      rw [ew] at z
      cases g : getA R.WS n with
      | none => rw [g] at ev; cases ev
      | some x => rw [g] at z; cases z
theorem ok_Room_watching {f fW : Addr} {fd fdW : FuncData} {psW : List Str} (F : Fun K "_watching" "Room._watching" s_Room_u_watching f fd) (T : RomT K c.C) (mW : Meth K c.C "_refuse_watcher" fW) (bW : Binds K fdW psW []) (GW : FnOk P w K mg base (L2.CX P w) 1 fW fdW psW (spRefW c kk)) :
    FnOk P w K mg base (L2.CX P w) 2 f fd p_Room_u_watching (spWatching c kk) := by
  refine F.okX sc_Room_u_watching (fun vs H Q E h => ?_) (fun cdv A outer s H vs Q E hr h => ?_)
  · obtain ⟨p, n, R, s, rfl, _⟩ := h
    rfl
  · obtain ⟨p, n, R, r, rfl, A1, k1, k2⟩ := h
    obtain ⟨dx, hp⟩ := A1.ob
    have hu := hu_of hr
    refine ⟨_, pss_cons (ps_expr (pe_meth (E := E) (pv 0) T.cl mW GW hr bW .nil (passes_call (takes_of rfl rfl rfl rfl) (fun _ _ _ _ h => h)) (pa_cons (pv 1) pa_nil)))
      (pss_one (ps_ret (pe_dget hu (pe_fld (pv 0) rfl) (pv 1) (fun _ _ => rfl)))), ?_⟩
    refine ⟨_, rfl, p, dx, _, rfl, hp, zf_no (by decide +kernel), _, rfl, p, n, R, r, rfl, A1, k1, fun ne => ?_⟩
    have ew : r.wat n = (getA R.WS n).map (·.2) := congrFun A1.fw n
    cases g : getA R.WS n with
    | none => rw [ew, g] at ne; exact absurd rfl ne
    | some x =>
      obtain ⟨v, e1, e2⟩ := A1.rw_.some_ inl_inj g
      have gg := DGet.k (k := Sum.inl n) A1.wa
      rw [e1, e2] at gg
      refine ⟨_, rfl, p, c.C, dx, _, _, rfl, hp, T.cl, T.n6, zf_get (i := 6) (by decide +kernel) rfl, _, rfl, R.dw, _, rfl, gg, k2 x.1 x.2 g ?_⟩
      rw [ew, g]
      rfl
end
end KL

namespace KL
open PySem L2 L2H LX KB KA1
/-! ### the program's room: a watcher is put in -/
section
variable {c : Cs} {H H' : Hp} {p : Addr} {R : Rc} {s : Rm}
theorem RcAt.watN (A : RcAt c H p R s) {x dx dy : Addr} {w : Wt} (nx : H x = none) (k : Ch H H' [p, R.dw]) (h1 : H' p = some (.ins c.C dx (rFl { s with met := s.met + 1 } R))) (h2 : H' R.dw = some (.dK (putK R.wk (Sum.inl ((s.met : Int) + 1)) (.ref x)))) (h3 : H' x = some (.ins c.CW dy (wFl w))) (ok : TOk 60 w.pre) :
    RcAt c H' p { R with WS := R.WS ++ [((s.met : Int) + 1, (x, w))], wk := putK R.wk (Sum.inl ((s.met : Int) + 1)) (.ref x) } { s with met := s.met + 1, wat := setF s.wat ((s.met : Int) + 1) (some w) } := by
  obtain ⟨⟨a1, a2, a3, a4, a5, a6⟩, ⟨b1, b2, b3, b4, b5⟩, ⟨c1, c2, c3, c4⟩, ⟨d1, d2, d3⟩, ⟨e1, e2⟩, f1⟩ := A.ne7
  have o2 : ∀ {a}, a ≠ p → a ≠ R.dw → a ∉ [p, R.dw] := fun h1 h2 z => by
    simp only [List.mem_cons, List.not_mem_nil, or_false] at z
    rcases z with z | z
    · exact h1 z
    · exact h2 z
  have g : getA R.WS ((s.met : Int) + 1) = none := by
    refine getA_none.mpr fun m => ?_
    obtain ⟨y, hy, e⟩ := List.mem_map.mp m
    have q := A.kW y hy
    omega
  have eo : ∀ a, a ∈ Rc.o { R with WS := R.WS ++ [((s.met : Int) + 1, (x, w))], wk := putK R.wk (Sum.inl ((s.met : Int) + 1)) (.ref x) } p ↔ a ∈ R.o p ∨ a = x := fun a => by
    unfold Rc.o
    simp only [List.map_append, List.map_cons, List.map_nil, List.mem_cons, List.mem_append, List.not_mem_nil, or_false, or_assoc]
  have nin : x ∉ R.o p := fun m => by
    obtain ⟨o, e⟩ := A.own x (List.mem_append_left _ m)
    rw [nx] at e
    cases e
  have ng : x ∉ R.Fg := fun m => by
    obtain ⟨o, e⟩ := A.own x (List.mem_append_right _ m)
    rw [nx] at e
    cases e
  refine ⟨⟨dx, h1⟩, A.lt.ch k (o2 a1.symm b5) (o2 a2.symm c4) (o2 a3.symm d3), A.lg.frame k (fun a ha => o2 ?_ ?_), k.at A.va (o2 a4.symm e2), k.at A.ho (o2 a5.symm f1), h2, fun y hy => ?_, A.rv, A.rh, ?_, ?_, fun a ha z => ?_,
    A.fe, A.fs, A.fh, ?_, A.nE, A.nH, ?_, fun y hy => ?_, A.kH, fun y hy => ?_⟩
  · intro z; exact A.dj a ha (by rw [z]; simp [Rc.o])
  · intro z; exact A.dj a ha (by rw [z]; simp [Rc.o])
  · rcases List.mem_append.mp hy with hy | hy
    · obtain ⟨dz, hz⟩ := A.wo y hy
      have q := A.neW hy
      exact ⟨dz, k.at hz (o2 q.1 q.2.2.2.2.2.2)⟩
    · rw [List.mem_singleton.mp hy]
      exact ⟨dy, h3⟩
  · have q := A.rw_.put inl_inj (k := (s.met : Int) + 1) (b := (x, w)) (v := .ref x) rfl
    rw [putA_new g] at q
    exact q
  · have nd := A.nd
    unfold Rc.o at nd nin ⊢
    simp only [List.map_append, List.map_cons, List.map_nil]
    have e : p :: R.pl :: R.dt :: R.de :: R.dv :: R.dh :: R.dw :: (R.WS.map (·.2.1) ++ [x]) = (p :: R.pl :: R.dt :: R.de :: R.dv :: R.dh :: R.dw :: R.WS.map (·.2.1)) ++ [x] := rfl
    show (p :: R.pl :: R.dt :: R.de :: R.dv :: R.dh :: R.dw :: (R.WS.map (·.2.1) ++ [x])).Nodup
    rw [e]
    refine List.nodup_append.mpr ⟨nd, List.nodup_cons.mpr ⟨by simp, List.nodup_nil⟩, fun a ha b hb z => nin ?_⟩
    rw [← List.mem_singleton.mp hb, ← z]
    exact ha
  · rcases (eo a).mp z with z | z
    · exact A.dj a ha z
    · exact ng (z ▸ ha)
  · funext j
    show setF s.wat ((s.met : Int) + 1) (some w) j = (getA (R.WS ++ [((s.met : Int) + 1, (x, w))]) j).map (·.2)
    rw [getA_app g, A.fw]
    unfold setF
    split <;> rfl
  · rw [List.map_append]
    refine List.nodup_append.mpr ⟨A.nW, List.nodup_cons.mpr ⟨by simp, List.nodup_nil⟩, fun a ha b hb z => getA_none.mp g ?_⟩
    have hb : b = (s.met : Int) + 1 := List.mem_singleton.mp hb
    rw [← hb, ← z]
    exact ha
  · show y.1 ≤ (((s.met + 1 : Nat)) : Int)
    rcases List.mem_append.mp hy with hy | hy
    · have q := A.kW y hy
      omega
    · rw [List.mem_singleton.mp hy]
      show (s.met : Int) + 1 ≤ _
      omega
  · rcases List.mem_append.mp hy with hy | hy
    · exact A.wP y hy
    · rw [List.mem_singleton.mp hy]
      exact ok
end
section
variable {P : Program} {w : World} {K : PySem.W.Frag} {mg : Str → Option Value} {base : Heap} {c : Cs} {kk : Kinds}
theorem ok_Room_watch {f fI fF fL : Addr} {fd fdI fdF fdL : FuncData} {psI psF psL : List Str} (F : Fun K "watch" "Room.watch" s_Room_watch f fd) (T : RomT K c.C) (N : ErrT K mg "NoStart" kk.NS) (gW : mg "Watcher" = some (.ref c.CW)) (MW : Mk K c.CW fI) (bI : Binds K fdI psI []) (GI : FnOk P w K mg base CX0 1 fI fdI psI (spWatInit c.CW))
    (mF : Meth K c.C "first" fF) (bF : Binds K fdF psF []) (GF : FnOk P w K mg base CX0 2 fF fdF psF (spRFirst0 c)) (mL : Meth K c.C "last" fL) (bL : Binds K fdL psL []) (GL : FnOk P w K mg base CX0 2 fL fdL psL (spRLast0 c)) :
    FnOk P w K mg base (L2.CX P w) 3 f fd p_Room_watch (spRWatch kk (RsP c)) := by
  refine F.okX sc_Room_watch (fun vs H Q E h => ?_) (fun cdv A outer s H vs Q E hr h => ?_)
  · obtain ⟨Fo, p, z, st, s, rfl, _⟩ := h
    rfl
  · obtain ⟨Fo, p, z, st, r, rfl, ⟨R, rfl, A1, Z⟩, oz, fit, kb, k⟩ := h
    obtain ⟨dx, hp⟩ := A1.ob
    have hu := hu_of hr
    have hr2 : Room 2 _ := hr.mono (by decide)
    refine ⟨_, pss_cons (ps_if (PW.pt (pw_or (pt_cmpR op_lt (pv 2) (pe_meth0 (E := E0) (pv 0) T.cl mF GF hr2 bF .nil pass0) (nomark _)) (pw_or1 (pt_cmpR op_gt (pv 2) (pe_op op_add (pe_meth0 (E := E0) (pv 0) T.cl mL GL hr2 bL .nil pass0) pe_int) (nomark _)))))
        (pss_one (ps_raise rfl (takes_of rfl rfl rfl rfl) (pmk_own PySem.F.excBase_ValueError N.x N.g N.k (raises_own N.b N.t) rfl))) pss_nil)
      (PSs.nox (pss_cons (ps_fldaug (pv 0) pe_int in_add)
      (pss_cons (ps_dput hu (pe_fld (pv 0) rfl) (pe_fld (pv 0) rfl) (pe_make (E := E0) MW GI (hr.mono (by decide)) rfl gW bI .nil pass0 (pa_cons (pv 1) (pa_cons (pv 2) pa_nil))) rfl)
      (pss_one (ps_ret (pe_fld (pv 0) rfl)))))), ?_⟩
    refine ⟨_, rfl, _, rfl, p, dx, _, rfl, hp, zf_no (by decide +kernel), p, R, r, rfl, A1, _, _, rfl, rfl, _, rfl, ?_⟩
    by_cases c1 : st < (r.gone : Int) + 1
    · rw [decide_eq_true c1]
      exact iteT (iteT (kb (.inl c1) _ H ⟨R, rfl, A1, Z⟩ (Grow.refl _ _) (Ch.refl _ _)))
    rw [decide_eq_false c1]
    refine iteF ⟨_, rfl, _, rfl, p, dx, _, rfl, hp, zf_no (by decide +kernel), p, R, r, rfl, A1, _, _, rfl, rfl, _, _, rfl, rfl, _, rfl, ?_⟩
    by_cases c2 : st > (r.rows.length : Int) + 1
    · rw [decide_eq_true c2]
      exact iteT (kb (.inr c2) _ H ⟨R, rfl, A1, Z⟩ (Grow.refl _ _) (Ch.refl _ _))
    rw [decide_eq_false c2]
    refine iteF ?_
    have k := k (Int.not_lt.mp c1) (Int.not_lt.mp c2)
    refine ⟨_, rfl, p, c.C, dx, _, _, rfl, hp, T.cl, T.n5, zf_get (i := 5) (by decide +kernel) rfl, _, _, rfl, rfl, dx, _, hp, (by show 7 < 1000; decide), ?_⟩
    rw [zf_put (i := 5) (by decide +kernel) rfl]
    have cp : Ch H (upd H p (.ins c.C dx (rFl { r with met := r.met + 1 } R))) [p] := (Ch.refl _ _).mut (by simp) hp (fun _ z => by cases z)
    have hp2 : upd H p (.ins c.C dx (rFl { r with met := r.met + 1 } R)) p = some (.ins c.C dx (rFl { r with met := r.met + 1 } R)) := upd_same
    change tSeq _ _ _ _ (upd H p (.ins c.C dx (rFl { r with met := r.met + 1 } R)))
    generalize upd H p (.ins c.C dx (rFl { r with met := r.met + 1 } R)) = H2 at cp hp2 ⊢
    refine ⟨_, rfl, _, rfl, fun x dy nx ndy ndx => ⟨x, dy, z, st, rfl, upd_same, fun H3 h3 c3 => ⟨rfl, ?_⟩⟩⟩
    obtain ⟨s3, _⟩ := made_same nx ndy c3
    have hp3 := s3 _ _ hp2
    have nw : p ≠ R.dw := A1.ne7.1.2.2.2.2.2
    have hw3 : H3 R.dw = some (.dK R.wk) := s3 _ _ (cp.at A1.wa fun z => nw (List.mem_singleton.mp z).symm)
    have g5 : (rFl { r with met := r.met + 1 } R).lookup ("_entered" : Str) = some (.int ((r.met : Int) + 1)) := zf_get (i := 5) (by decide +kernel) rfl
    have f1 := fit.met
    have z1 := Z.w
    have z2 := A1.rw_.len
    refine ⟨_, rfl, p, c.C, dx, _, _, rfl, hp3, T.cl, T.n6, zf_get (i := 6) (by decide +kernel) rfl, _, rfl, p, c.C, dx, _, _, rfl, hp3, T.cl, T.n5, g5, R.dw, _, rfl, DPut.k (k := Sum.inl ((r.met : Int) + 1)) hw3 (smallS (by omega)), ?_⟩
    have nx0 : H x = none := cp.none x nx
    have npx : p ≠ x := ne_of_none hp nx0
    have nwx : R.dw ≠ x := ne_of_none A1.wa nx0
    have c4 : Ch H3 (upd H3 R.dw (.dK (putK R.wk (Sum.inl ((r.met : Int) + 1)) (.ref x)))) [R.dw] := (Ch.refl _ _).mut (by simp) hw3 (fun _ z => by cases z)
    have call : Ch H (upd H3 R.dw (.dK (putK R.wk (Sum.inl ((r.met : Int) + 1)) (.ref x)))) [p, R.dw] := ((cp.same s3).mono (by simp)).trans (c4.mono (by simp))
    have A2 := A1.watN (dx := dx) (dy := dy) (w := ⟨z, st - 1, st - 1⟩) nx0 call (by rw [upd_ne nw]; exact hp3) upd_same (by rw [upd_ne nwx.symm]; exact h3) oz
    refine ⟨_, rfl, p, c.C, dx, _, _, rfl, by rw [upd_ne nw]; exact hp3, T.cl, T.n5, g5, ?_⟩
    refine k _ _ ⟨_, rfl, A2, ⟨Z.t, Z.e, Z.h, ?_, fun y hy => ?_⟩⟩ (fun a ha => ?_) (call.mono fun a ha => ?_)
    · show (R.WS ++ [_]).length ≤ r.met + 1
      rw [List.length_append]
      exact Nat.succ_le_succ z1
    · rcases List.mem_append.mp hy with hy | hy
      · exact Z.wt y hy
      · rw [List.mem_singleton.mp hy]
        show st - 1 ≤ (r.rows.length : Int) ∧ st - 1 ≤ (r.rows.length : Int)
        omega
    · rcases List.mem_append.mp ha with h | h
      · unfold Rc.o at h
        simp only [List.map_append, List.map_cons, List.map_nil, List.mem_cons, List.mem_append, List.not_mem_nil, or_false] at h
        have q : a ∈ R.o p ∨ a = x := by
          unfold Rc.o
          simp only [List.mem_cons]
          rcases h with h | h | h | h | h | h | h | h | h
          · exact .inl (.inl h)
          · exact .inl (.inr (.inl h))
          · exact .inl (.inr (.inr (.inl h)))
          · exact .inl (.inr (.inr (.inr (.inl h))))
          · exact .inl (.inr (.inr (.inr (.inr (.inl h)))))
          · exact .inl (.inr (.inr (.inr (.inr (.inr (.inl h))))))
          · exact .inl (.inr (.inr (.inr (.inr (.inr (.inr (.inl h)))))))
          · exact .inl (.inr (.inr (.inr (.inr (.inr (.inr (.inr h)))))))
          · exact .inr h
        rcases q with q | q
        · exact .inl (List.mem_append_left _ q)
        · exact .inr (q ▸ nx0)
      · exact .inl (List.mem_append_right _ h)
    · simp only [List.mem_cons, List.not_mem_nil, or_false] at ha
      rcases ha with rfl | rfl <;> exact List.mem_append_left _ (by simp [Rc.o])
end
end KL

namespace KL
open PySem L2 L2H LX KB
/-! ### what a log is wanted for -/
theorem numDrop {rs : List Row} (h : Num rs) {g i : Nat} {r : Row} (e : (rs.drop g)[i]? = some r) : r.n = (g : Int) + i + 1 := by
  rw [List.getElem?_drop] at e
  have := h _ _ e
  omega
/-- the first ones that are not above b are passed over at once -/
theorem filter_from {rs : List Row} (h : Num rs) (g : Nat) (p : Str) (b : Int) : (rs.drop g).filter (fun r => decide (r.n > b) && isPre p r.k) = ((rs.drop g).drop (b - g).toNat).filter fun r => isPre p r.k := by
  rw [← List.take_append_drop (b - g).toNat (rs.drop g), List.filter_append]
  have e1 : ((rs.drop g).take (b - g).toNat).filter (fun r => decide (r.n > b) && isPre p r.k) = [] := by
    refine List.filter_eq_nil_iff.mpr fun r hr => ?_
    obtain ⟨i, hi⟩ := List.mem_iff_getElem?.mp hr
    rw [List.getElem?_take] at hi
    by_cases c : i < (b - g).toNat
    · rw [if_pos c] at hi
      have := numDrop h hi
      rw [decide_eq_false (by omega), Bool.false_and]
      decide
    · rw [if_neg c] at hi; cases hi
  have e2 : ((rs.drop g).drop (b - g).toNat).filter (fun r => decide (r.n > b) && isPre p r.k) = ((rs.drop g).drop (b - g).toNat).filter fun r => isPre p r.k := by
    refine List.filter_congr fun r hr => ?_
    obtain ⟨i, hi⟩ := List.mem_iff_getElem?.mp hr
    rw [List.drop_drop] at hi
    have := numDrop h hi
    rw [decide_eq_true (by omega), Bool.true_and]
  rw [e1, e2, List.nil_append, List.take_append_drop]
theorem take_snoc {l : List Row} {i : Nat} {r : Row} (h : l[i]? = some r) : l.take (i + 1) = l.take i ++ [r] := by
  rw [List.take_add_one, h]; rfl
section
variable {P : Program} {w : World} {K : PySem.W.Frag} {mg : Str → Option Value} {base : Heap}
theorem ok_Log_wanted {f C : Addr} {fd : FuncData} (F : Fun K "wanted" "Log.wanted" s_Log_wanted f fd) (T : LogT K C) (ml : mg "len" = none) (mm : mg "max" = none) (mr : mg "range" = none) : FnOk P w K mg base CX0 1 f fd p_Log_wanted (spLogWanted (LgP C)) := by
  refine F.ok sc_Log_wanted (fun vs H Q E h => ?_) (fun cdv A outer s H vs Q E hr h => ?_)
  · obtain ⟨Fs, p, z, b, m, rs, g, rfl, _⟩ := h
    rfl
  · obtain ⟨Fs, p, z, b, m, rs, g, rfl, LP, oz, hm, hb, hl, k⟩ := h
    obtain ⟨q, ts, rfl, L⟩ := id LP
    obtain ⟨dx, hp⟩ := L.ob
    refine ⟨_, pss_cons (ps_set (i := 4) sc_Log_wanted.nd rfl (Or.inl rfl) (pe_lst pa_nil))
      (pss_cons (ps_for PassesOwn.never rfl (pi_range2 (by rfl) mr (pa_cons (pe_callB (call_max2 rfl) (by rfl) mm (by decide +kernel) (pa_cons pe_int (pa_cons (pe_op op_sub (pv 2) (pe_fld (pv 0) rfl)) pa_nil)))
          (pa_cons (pe_callB call_len_seq (by rfl) ml PySem.boot_len (pa_cons (pe_fld (pv 0) rfl) pa_nil)) pa_nil))) (pg_name (i := 5) sc_Log_wanted.nd rfl (Or.inl rfl))
        (pss_cons (ps_if (pt_cmpR op_ge (pe_callB call_len_seq (by rfl) ml PySem.boot_len (pa_cons (pv 4) pa_nil)) (pv 3) (nomark _)) (pss_one ps_break) pss_nil)
        (pss_cons (ps_set (i := 6) sc_Log_wanted.nd rfl (Or.inl rfl) (pe_ix ix_list (pe_fld (pv 0) rfl) (pv 5) (fun _ _ => rfl)))
        (pss_one (ps_if (pt_val (pe_m1 PySem.F.slot_str_startswith PySem.F.type_str_startswith mt_startswith (pe_ix ix_tup (pv 6) pe_int (fun _ _ => rfl)) (pv 1))) (pss_one (ps_expr (pe_bm PySem.F.plainAttrs_list PySem.F.slot_list_append PySem.F.type_list_append mt_append (pv 4) (pa_cons (pv 6) pa_nil)))) pss_nil)))))
      (pss_one (ps_ret (pv 4)))), ?_⟩
    refine ⟨(by show 0 ≤ sizeLine; decide), fun d hd => ?_⟩
    have npd : p ≠ d := ne_of_none hp hd
    have nqd : q ≠ d := ne_of_none L.kp hd
    have hp1 : upd H d (.lst []) p = some (.ins C dx (nsLog.zip [.int g, .ref q])) := by rw [upd_ne npd]; exact hp
    have hq1 : upd H d (.lst []) q = some (.lst (ts.map V.ref)) := by rw [upd_ne nqd]; exact L.kp
    have gF : (nsLog.zip [V.int (g : Int), V.ref q]).lookup ("_forgotten" : Str) = some (.int g) := zf_get (i := 0) (by decide +kernel) rfl
    have gK : (nsLog.zip [V.int (g : Int), V.ref q]).lookup ("_kept" : Str) = some (.ref q) := zf_get (i := 1) (by decide +kernel) rfl
    have lt : (ts.map V.ref).length = rs.length - g := by rw [List.length_map, L.len]
    refine ⟨_, rfl, _, rfl, p, C, dx, _, _, rfl, hp1, T.cl, T.nF, gF, _, _, rfl, rfl, _, _, rfl, _, rfl, p, C, dx, _, _, rfl, hp1, T.cl, T.nK, gK, q, _, rfl, .inl (SqL.of hq1), _, _, rfl, ?_⟩
    have elo : (if b - (g : Int) > 0 then b - (g : Int) else 0) = (((b - g).toNat : Nat) : Int) := by split <;> omega
    rw [elo, lt]
    have le := L.le
    refine ⟨by omega, ?_⟩
    have en : (((rs.length - g : Nat) : Int) - (((b - g).toNat : Nat) : Int)).toNat = ((rs.drop g).drop (b - g).toNat).length := by
      rw [List.length_drop, List.length_drop]
      omega
    rw [en]
    have ekey : wantedM rs g z b m = (((rs.drop g).drop (b - g).toNat).filter fun r => isPre z r.k).take m.toNat := by
      unfold wantedM
      rw [filter_from L.num]
    generalize hks : (rs.drop g).drop (b - g).toNat = ks at en ekey ⊢
    have s1 : Same H (upd H d (.lst [])) := same_new hd
    -- what is told at the end
    have fin : ∀ {us : List Addr} {H' : Hp}, Same H H' → H' d = some (.lst (us.map V.ref)) → RowsAt H' us (wantedM rs g z b m) → Q (.ref d) H' := fun {us H'} sm h1 h2 =>
      k [p, q] d us H' (LP.frame (Ch.of sm []) (fun _ _ z => nomatch z)) (Grow.refl _ _) (Ch.of sm _) hd (fun y => by
        simp only [List.mem_cons, List.not_mem_nil, or_false] at y
        rcases y with y | y
        · exact npd y.symm
        · exact nqd y.symm) h1 h2
    refine for_range (lo := (((b - g).toNat : Nat) : Int)) (n := ks.length) (fun i σ H' => ∃ (us : List Addr) (y5 y6 : Option V), σ = [some (.ref p), some (.str z), some (.int b), some (.int m), some (.ref d), y5, y6] ∧ Same H H' ∧ H' d = some (.lst (us.map V.ref)) ∧
      RowsAt H' us ((ks.take i).filter fun r => isPre z r.k) ∧ (us.length : Int) ≤ m) ⟨[], none, none, rfl, s1, upd_same, .nil, hm⟩ ?_ ?_
    · rintro i σ H1 hi ⟨us, y5, y6, rfl, sm, hd1, hr1, hlm⟩
      obtain ⟨r, hr⟩ : ∃ r, ks[i]? = some r := ⟨ks[i], by simp [hi]⟩
      have hp2 := sm _ _ hp
      have hq2 := sm _ _ L.kp
      have hul : us.length ≤ rs.length := by
        have h1 := Paired.length hr1
        have h2 := List.length_filter_le (fun r => isPre z r.k) (ks.take i)
        have h3 := List.length_take_le i ks
        have h4 : ks.length ≤ rs.length := by
          rw [← hks, List.length_drop, List.length_drop]
          omega
        omega
      refine ⟨_, rfl, d, _, rfl, .inl (SqL.of hd1), _, rfl, _, _, rfl, rfl, _, rfl, ?_⟩
      rw [List.length_map]
      by_cases c1 : (us.length : Int) ≥ m
      · rw [decide_eq_true c1]
        refine iteT ⟨_, rfl, fin sm hd1 ?_⟩
        have e : wantedM rs g z b m = (ks.take i).filter fun r => isPre z r.k := by
          rw [ekey]
          have h1 := Paired.length hr1
          conv => lhs; rw [← List.take_append_drop i ks, List.filter_append]
          exact List.take_left' (by omega)
        rw [e]
        exact hr1
      rw [decide_eq_false c1]
      refine iteF ?_
      have hx : (rs.drop g)[(b - g).toNat + i]? = some r := by
        rw [← hks, List.getElem?_drop] at hr
        exact hr
      obtain ⟨t, ht, ht2⟩ : ∃ t, (ts.map V.ref)[(b - g).toNat + i]? = some (.ref t) ∧ H1 t = some (.tup r.V) := by
        have hlt : (b - g).toNat + i < (ts.map V.ref).length := by
          rw [List.length_map, Paired.length L.at_]
          exact (List.getElem?_eq_some_iff.mp hx).1
        obtain ⟨t, r', e1, e2, e3⟩ := RowsAt.at L.at_ (List.getElem?_eq_getElem hlt)
        rw [hx] at e2
        cases e2
        exact ⟨t, by rw [List.getElem?_eq_getElem hlt, e1], sm _ _ e3⟩
      have hat : atI (ts.map V.ref) ((((b - g).toNat : Nat) : Int) + (i : Int)) = some (.ref t) := by
        have e : ((((b - g).toNat : Nat) : Int) + (i : Int)) = (((b - g).toNat + i : Nat) : Int) := by omega
        rw [e]
        exact atI_nat ht
      refine ⟨_, rfl, p, C, dx, _, _, rfl, hp2, T.cl, T.nK, gK, _, rfl, q, _, _, _, rfl, rfl, SqL.of hq2, hat, ?_⟩
      refine ⟨_, rfl, t, _, 3, .str r.k, rfl, rfl, SqT.of ht2, rfl, ⟨_, rfl⟩, _, rfl, _, _, rfl, rfl, _, rfl, ?_⟩
      rw [starts_isPre, take_snoc hr, List.filter_append]
      by_cases c2 : isPre z r.k = true
      · rw [c2, List.filter_cons_of_pos (by exact c2), List.filter_nil]
        refine iteT ⟨_, rfl, .inl ⟨rfl, _, SqL.of hd1⟩, _, rfl, d, _, _, rfl, rfl, hd1, by rw [List.length_map]; exact smallS (by omega), ?_⟩
        have cD : Ch H1 (upd H1 d (.lst (us.map V.ref ++ [.ref t]))) [d] := (Ch.refl _ _).mut (List.mem_singleton.mpr rfl) hd1 (fun xs e => by cases e)
        refine ⟨us ++ [t], _, _, rfl, ?_, by rw [upd_same, List.map_append]; rfl, Paired.snoc (hr1.keep cD.tup) (cD.tup _ _ ht2), by rw [List.length_append]; simp only [List.length_cons, List.length_nil]; omega⟩
        exact fun b o e => cD.at (sm _ _ e) fun y => ne_of_none e hd (List.mem_singleton.mp y)
      · rw [Bool.eq_false_iff.mpr c2, List.filter_cons_of_neg (by exact c2), List.filter_nil, List.append_nil]
        exact iteF ⟨us, _, _, rfl, sm, hd1, hr1, hlm⟩
    · rintro σ H1 ⟨us, y5, y6, rfl, sm, hd1, hr1, hlm⟩
      rw [List.take_length] at hr1
      refine ⟨_, rfl, fin sm hd1 ?_⟩
      rw [ekey, List.take_of_length_le (by have := Paired.length hr1; omega)]
      exact hr1
end
end KL

namespace KL
open PySem L2 L2H LX KB KA1
/-! ### the program's room: a watcher goes on -/
section
variable {c : Cs} {H H' : Hp} {p : Addr} {R : Rc} {s : Rm}
theorem setW_F (R : Rc) (n : Int) (w : Wt) (p : Addr) : Rc.F { R with WS := setW R n w } p = R.F p := by
  unfold Rc.F Rc.o
  show (_ :: _ :: _ :: _ :: _ :: _ :: _ :: (setW R n w).map (·.2.1)) ++ _ = _
  rw [setW_addr]
theorem RsP.watU (A : RcAt c H p R s) (Z : RcSz R s) {n : Int} {x dy : Addr} {w0 w : Wt} (g : getA R.WS n = some (x, w0)) (hx : H x = some (.ins c.CW dy (wFl w0))) (ep : w.pre = w0.pre) (b1 : w.told ≤ s.rows.length) (b2 : w.had ≤ s.rows.length) :
    RsP c (R.F p) (upd H x (.ins c.CW dy (wFl w))) p { s with wat := setF s.wat n (some w) } ∧ Ch H (upd H x (.ins c.CW dy (wFl w))) (R.F p) := by
  have mx := getA_mem g
  have k : Ch H (upd H x (.ins c.CW dy (wFl w))) [x] := (Ch.refl _ _).mut (by simp) hx (fun _ z => by cases z)
  refine ⟨⟨_, (setW_F R n w p).symm, A.watF g k upd_same ep, ⟨Z.t, Z.e, Z.h, ?_, fun y hy => ?_⟩⟩, k.mono fun a ha => ?_⟩
  · show (setW R n w).length ≤ _
    unfold setW
    rw [List.length_map]
    exact Z.w
  · obtain ⟨y0, hy0, rfl⟩ := List.mem_map.mp hy
    by_cases e : y0.1 = n
    · rw [if_pos e]
      exact ⟨b1, b2⟩
    · rw [if_neg e]
      exact Z.wt y0 hy0
  · rw [List.mem_singleton.mp ha]
    exact List.mem_append_left _ (A.wIn mx)
theorem setF_same {f : Int → Option Wt} {n : Int} {w : Wt} (h : f n = some w) : setF f n (some w) = f := by
  funext j
  unfold setF
  by_cases e : n = j
  · rw [if_pos e, ← e, h]
  · rw [if_neg e]
theorem lastN_le {rs : List Row} {b : Int} {l : List Row} {t : Int} (hb : b - 1 ≤ t) (h : ∀ r ∈ l, r.n ≤ t) : lastN b l ≤ t := by
  unfold lastN
  cases e : l.getLast? with
  | none => exact hb
  | some r => exact h r (List.mem_of_getLast? e)
theorem wanted_le {rs : List Row} (hn : Num rs) {g : Nat} {z : Str} {b m : Int} : ∀ r ∈ wantedM rs g z b m, r.n ≤ rs.length := fun r hr => by
  have h := List.mem_of_mem_drop (List.mem_filter.mp (List.mem_of_mem_take hr)).1
  obtain ⟨i, hi⟩ := List.mem_iff_getElem?.mp h
  have q := hn i r hi
  have l := (List.getElem?_eq_some_iff.mp hi).1
  omega
end
section
variable {P : Program} {w : World} {K : PySem.W.Frag} {mg : Str → Option Value} {base : Heap} {c : Cs} {kk : Kinds}
theorem ok_Room_pull {f fW fN fL : Addr} {fd fdW fdN fdL : FuncData} {psW psN psL : List Str} (F : Fun K "pull" "Room.pull" s_Room_pull f fd) (T : RomT K c.C) (TW : WatT K c.CW) (TG : LogT K c.CG) (ml : mg "len" = none)
    (mW : Meth K c.C "_watching" fW) (bW : Binds K fdW psW []) (GW : FnOk P w K mg base (L2.CX P w) 2 fW fdW psW (spWatching c kk)) (mN : Meth K c.CG "wanted" fN) (bN : Binds K fdN psN []) (GN : FnOk P w K mg base CX0 1 fN fdN psN (spLogWanted (LgP c.CG)))
    (mL : Meth K c.C "last" fL) (bL : Binds K fdL psL []) (GL : FnOk P w K mg base CX0 2 fL fdL psL (spRLast0 c)) :
    FnOk P w K mg base (L2.CX P w) 3 f fd p_Room_pull (spRWat kk (RsP c) (fun ys => ∃ m : Int, ys = [.int m]) (thenPull (RsP c))) := by
  refine F.okX sc_Room_pull (fun vs H Q E h => ?_) (fun cdv A outer s H vs Q E hr h => ?_)
  · obtain ⟨Fo, p, n, ys, s, rfl, ⟨m, rfl⟩, _⟩ := h
    rfl
  · obtain ⟨Fo, p, n, ys, r, rfl, ⟨m, rfl⟩, ⟨R, rfl, A1, Z⟩, fit, kb, k⟩ := h
    obtain ⟨dx, hp⟩ := A1.ob
    have hr2 : Room 2 _ := hr.mono (by decide)
    refine ⟨_, pss_cons (ps_set (i := 3) sc_Room_pull.nd rfl (Or.inl rfl) (pe_meth (E := E) (pv 0) T.cl mW GW hr bW .nil (passes_call (takes_of rfl rfl rfl rfl) (fun _ _ _ _ h => h)) (pa_cons (pv 1) pa_nil)))
      (PSs.nox (pss_cons (ps_set (i := 4) sc_Room_pull.nd rfl (Or.inl rfl) (pe_meth (E := E0) (pe_fld (pv 0) rfl) TG.cl mN GN (hr.mono (by decide)) bN .nil pass0 (pa_cons (pe_fld (pv 3) rfl) (pa_cons (pe_fld (pv 3) rfl) (pa_cons (pv 2) pa_nil)))))
      (pss_cons (ps_if (pt_cmpR op_lt (pe_callB call_len_seq (by rfl) ml PySem.boot_len (pa_cons (pv 4) pa_nil)) (pv 2) (nomark _)) (pss_one (ps_fld (pv 3) (pe_meth0 (E := E0) (pv 0) T.cl mL GL hr2 bL .nil pass0) rfl))
        (pss_one (ps_if (pt_truth (pv 4) (fun _ => rfl)) (pss_one (ps_fld (pv 3) (pe_ix ix_tup (pe_ix ix_list (pv 4) (pe_un un_neg pe_int) (fun _ _ => rfl)) pe_int (fun _ _ => rfl)) rfl)) pss_nil)))
      (pss_one (ps_ret (pv 4)))))), ?_⟩
    refine ⟨_, rfl, p, dx, _, rfl, hp, zf_no (by decide +kernel), _, rfl, p, n, R, r, rfl, A1, fun e => kb e _ H ⟨R, rfl, A1, Z⟩ (Grow.refl _ _) (Ch.refl _ _), fun x w gx ew => ?_⟩
    obtain ⟨m', em, hm, k⟩ := k w ew
    cases em
    have mx := getA_mem gx
    obtain ⟨dz, hx⟩ := A1.wo _ mx
    have hx : H x = some (.ins c.CW dz (wFl w)) := hx
    obtain ⟨_, dy, fs, hg, hmm⟩ := A1.lg.inst
    have tb := Z.wt _ mx
    have tb1 : w.told ≤ r.rows.length := tb.1
    have tb2 : w.had ≤ r.rows.length := tb.2
    have f1 := fit.rows
    have hnum : Num r.rows := by
      obtain ⟨_, _, _, L⟩ := A1.lg
      exact L.num
    refine ⟨_, rfl, p, c.C, dx, _, _, rfl, hp, T.cl, T.n2, zf_get (i := 2) (by decide +kernel) rfl, R.pg, dy, fs, rfl, hg, hmm _ (by simp), _, rfl, x, c.CW, dz, _, _, rfl, hx, TW.cl, TW.n0, zf_get (i := 0) (by decide +kernel) rfl,
      _, rfl, x, c.CW, dz, _, _, rfl, hx, TW.cl, TW.n1, zf_get (i := 1) (by decide +kernel) rfl, _, rfl, R.Fg, R.pg, w.pre, w.told, m, r.rows, r.gone, rfl, A1.lg, A1.wP _ mx, hm, by omega, f1, fun F' q ts H2 L2 g2 c2 hq nq hq2 hts => ?_⟩
    have A2 : RcAt c H2 p { R with Fg := F' } r := A1.log L2 g2 c2
    have Z2 : RcSz { R with Fg := F' } r := ⟨Z.t, Z.e, Z.h, Z.w, Z.wt⟩
    have gx2 : getA (Rc.WS { R with Fg := F' }) n = some (x, w) := gx
    have xng : x ∉ R.Fg := fun z => A1.dj x z (A1.wIn mx)
    have hx2 : H2 x = some (.ins c.CW dz (wFl w)) := c2.at hx xng
    have gr : Grow (R.F p) (Rc.F { R with Fg := F' } p) H := fun a ha => by
      rcases List.mem_append.mp ha with h | h
      · exact .inl (List.mem_append_left _ h)
      · rcases g2 a h with z | z
        · exact .inl (List.mem_append_right _ z)
        · exact .inr z
    have nqF : q ∉ Rc.F { R with Fg := F' } p := fun y => by
      rcases List.mem_append.mp y with y | y
      · obtain ⟨o, e⟩ := A1.own q (List.mem_append_left _ y)
        rw [hq] at e
        cases e
      · exact nq y
    have cF : Ch H H2 (R.F p) := c2.mono fun a ha => List.mem_append_right _ ha
    have nxq : q ≠ x := fun z => nqF (by rw [z]; exact List.mem_append_left _ (A1.wIn mx))
    have ld := Paired.length hts
    -- what stands at the end, when the watcher is told up to t
    have fin : ∀ t : Int, t = toldW r w m → t ≤ r.rows.length → Q (.ref q) (upd H2 x (.ins c.CW dz (wFl { w with told := t }))) := fun t et ht => by
      obtain ⟨B1, B2⟩ := RsP.watU A2 Z2 (w := { w with told := t }) gx2 hx2 rfl ht tb2
      have B3 : RsP c (Rc.F { R with Fg := F' } p) (upd H2 x (.ins c.CW dz (wFl { w with told := t }))) p (pullM r n w m) := by
        unfold pullM
        rw [← et]
        exact B1
      have cx : Ch H2 (upd H2 x (.ins c.CW dz (wFl { w with told := t }))) [x] := (Ch.refl _ _).mut (by simp) hx2 (fun _ z => by cases z)
      refine k _ q ts _ B3 gr (cF.trans (cx.mono fun a ha => ?_)) hq nqF (by rw [upd_ne nxq]; exact hq2) (hts.keep cx.tup)
      rw [List.mem_singleton.mp ha]
      exact List.mem_append_left _ (A1.wIn mx)
    obtain ⟨dx2, hp2⟩ := A2.ob
    refine ⟨_, rfl, q, _, rfl, .inl (SqL.of hq2), _, rfl, _, _, rfl, rfl, _, rfl, ?_⟩
    rw [List.length_map]
    by_cases c1 : (ts.length : Int) < m
    · rw [decide_eq_true c1]
      refine iteT ⟨_, rfl, p, dx2, _, rfl, hp2, zf_no (by decide +kernel), p, _, r, rfl, A2, _, rfl, x, c.CW, dz, _, rfl, hx2, TW.cl, TW.n1, (by show 3 < 1000; decide), ?_⟩
      rw [zf_put (i := 1) (by decide +kernel) rfl]
      refine ⟨_, rfl, fin _ ?_ (Int.le_refl _)⟩
      unfold toldW dueW
      rw [if_pos (by omega)]
    rw [decide_eq_false c1]
    have et : toldW r w m = lastN (w.told + 1) (dueW r w m) := by
      unfold toldW
      rw [if_neg]
      show ¬ (((wantedM r.rows r.gone w.pre w.told m).length : Nat) : Int) < m
      omega
    refine iteF ⟨_, rfl, !(ts.map V.ref).isEmpty, .inl ⟨_, SqL.of hq2, rfl⟩, ?_⟩
    cases ts with
    | nil =>
      refine iteF ⟨_, rfl, ?_⟩
      have e0 : dueW r w m = [] := by
        unfold dueW
        exact List.length_eq_zero_iff.mp ld.symm
      have e1 : pullM r n w m = r := by
        unfold pullM
        rw [et, e0]
        show ({ r with wat := setF r.wat n (some { w with told := (w.told + 1) - 1 }) } : Rm) = r
        rw [Int.add_sub_cancel, setF_same ew]
      refine k _ q [] H2 ?_ gr cF hq nqF hq2 hts
      rw [e1]
      exact ⟨_, rfl, A2, Z2⟩
    | cons t ts =>
      obtain ⟨ta, ro, ha, hta, el⟩ := RowsAt.last hts (by rw [← ld]; simp)
      refine iteT ⟨_, rfl, _, rfl, q, _, _, _, rfl, rfl, SqL.of hq2, ha, ta, _, 0, .int ro.n, rfl, rfl, SqT.of hta, rfl, _, rfl, x, c.CW, dz, _, rfl, hx2, TW.cl, TW.n1, (by show 3 < 1000; decide), ?_⟩
      rw [zf_put (i := 1) (by decide +kernel) rfl]
      have e2 : ro.n = toldW r w m := by
        rw [et]
        unfold lastN dueW
        rw [List.getLast?_eq_getElem?, el]
      refine ⟨_, rfl, fin ro.n e2 ?_⟩
      exact wanted_le hnum ro (List.mem_of_getElem? el)
end
end KL

namespace KL
open PySem L2 L2H LX KB KA1
/-! ### the program's room: what a watcher has had -/
section
variable {P : Program} {w : World} {K : PySem.W.Frag} {mg : Str → Option Value} {base : Heap} {c : Cs} {kk : Kinds}
theorem ok_Room_confirm {f fW : Addr} {fd fdW : FuncData} {psW : List Str} (F : Fun K "confirm" "Room.confirm" s_Room_confirm f fd) (T : RomT K c.C) (TW : WatT K c.CW) (mW : Meth K c.C "_watching" fW) (bW : Binds K fdW psW []) (GW : FnOk P w K mg base (L2.CX P w) 2 fW fdW psW (spWatching c kk)) :
    FnOk P w K mg base (L2.CX P w) 3 f fd p_Room_confirm (spRWat kk (RsP c) (fun ys => ys = []) (thenSet (RsP c) fun w => some { w with had := w.told })) := by
  refine F.okX sc_Room_confirm (fun vs H Q E h => ?_) (fun cdv A outer s H vs Q E hr h => ?_)
  · obtain ⟨Fo, p, n, ys, s, rfl, rfl, _⟩ := h
    rfl
  · obtain ⟨Fo, p, n, ys, r, rfl, rfl, ⟨R, rfl, A1, Z⟩, fit, kb, k⟩ := h
    obtain ⟨dx, hp⟩ := A1.ob
    refine ⟨_, pss_cons (ps_set (i := 2) sc_Room_confirm.nd rfl (Or.inl rfl) (pe_meth (E := E) (pv 0) T.cl mW GW hr bW .nil (passes_call (takes_of rfl rfl rfl rfl) (fun _ _ _ _ h => h)) (pa_cons (pv 1) pa_nil)))
      (pss_one (ps_fld (pv 2) (pe_fld (pv 2) rfl) rfl)), ?_⟩
    refine ⟨_, rfl, p, dx, _, rfl, hp, zf_no (by decide +kernel), _, rfl, p, n, R, r, rfl, A1, fun e => kb e _ H ⟨R, rfl, A1, Z⟩ (Grow.refl _ _) (Ch.refl _ _), fun x w gx ew => ?_⟩
    have mx := getA_mem gx
    obtain ⟨dz, hx⟩ := A1.wo _ mx
    have hx : H x = some (.ins c.CW dz (wFl w)) := hx
    refine ⟨_, rfl, x, c.CW, dz, _, _, rfl, hx, TW.cl, TW.n1, zf_get (i := 1) (by decide +kernel) rfl, _, rfl, x, c.CW, dz, _, rfl, hx, TW.cl, TW.n2, (by show 3 < 1000; decide), ?_⟩
    rw [zf_put (i := 2) (by decide +kernel) rfl]
    obtain ⟨B1, B2⟩ := RsP.watU A1 Z (w := { w with had := w.told }) gx hx rfl (Z.wt _ mx).1 (Z.wt _ mx).1
    exact k w ew _ _ B1 (Grow.refl _ _) B2
theorem ok_Room_broken {f fW : Addr} {fd fdW : FuncData} {psW : List Str} (F : Fun K "broken" "Room.broken" s_Room_broken f fd) (T : RomT K c.C) (TW : WatT K c.CW) (mW : Meth K c.C "_watching" fW) (bW : Binds K fdW psW []) (GW : FnOk P w K mg base (L2.CX P w) 2 fW fdW psW (spWatching c kk)) :
    FnOk P w K mg base (L2.CX P w) 3 f fd p_Room_broken (spRWat kk (RsP c) (fun ys => ys = []) (thenSet (RsP c) fun w => some { w with told := w.had })) := by
  refine F.okX sc_Room_broken (fun vs H Q E h => ?_) (fun cdv A outer s H vs Q E hr h => ?_)
  · obtain ⟨Fo, p, n, ys, s, rfl, rfl, _⟩ := h
    rfl
  · obtain ⟨Fo, p, n, ys, r, rfl, rfl, ⟨R, rfl, A1, Z⟩, fit, kb, k⟩ := h
    obtain ⟨dx, hp⟩ := A1.ob
    refine ⟨_, pss_cons (ps_set (i := 2) sc_Room_broken.nd rfl (Or.inl rfl) (pe_meth (E := E) (pv 0) T.cl mW GW hr bW .nil (passes_call (takes_of rfl rfl rfl rfl) (fun _ _ _ _ h => h)) (pa_cons (pv 1) pa_nil)))
      (pss_one (ps_fld (pv 2) (pe_fld (pv 2) rfl) rfl)), ?_⟩
    refine ⟨_, rfl, p, dx, _, rfl, hp, zf_no (by decide +kernel), _, rfl, p, n, R, r, rfl, A1, fun e => kb e _ H ⟨R, rfl, A1, Z⟩ (Grow.refl _ _) (Ch.refl _ _), fun x w gx ew => ?_⟩
    have mx := getA_mem gx
    obtain ⟨dz, hx⟩ := A1.wo _ mx
    have hx : H x = some (.ins c.CW dz (wFl w)) := hx
    refine ⟨_, rfl, x, c.CW, dz, _, _, rfl, hx, TW.cl, TW.n2, zf_get (i := 2) (by decide +kernel) rfl, _, rfl, x, c.CW, dz, _, rfl, hx, TW.cl, TW.n1, (by show 3 < 1000; decide), ?_⟩
    rw [zf_put (i := 1) (by decide +kernel) rfl]
    obtain ⟨B1, B2⟩ := RsP.watU A1 Z (w := { w with told := w.had }) gx hx rfl (Z.wt _ mx).2 (Z.wt _ mx).2
    exact k w ew _ _ B1 (Grow.refl _ _) B2
end
end KL

namespace KL
open PySem L2 L2H LX KB
/-! ### what a log forgets -/
section
variable {P : Program} {w : World} {K : PySem.W.Frag} {mg : Str → Option Value} {base : Heap}
theorem ok_Log_forget {f fL C : Addr} {fd fdL : FuncData} {psL : List Str} (F : Fun K "forget" "Log.forget" s_Log_forget f fd) (T : LogT K C) (mx : mg "max" = none) (mn : mg "min" = none) (mL : Meth K C "last" fL) (bL : Binds K fdL psL []) (GL : FnOk P w K mg base CX0 1 fL fdL psL (spLast0 C)) :
    FnOk P w K mg base CX0 2 f fd p_Log_forget (spLogForget (LgP C)) := by
  refine F.ok sc_Log_forget (fun vs H Q E h => ?_) (fun cdv A outer s H vs Q E hr h => ?_)
  · obtain ⟨Fs, p, u, rs, g, rfl, _⟩ := h
    rfl
  · obtain ⟨Fs, p, u, rs, g, rfl, LP, hl, k⟩ := h
    obtain ⟨q, ts, rfl, L⟩ := id LP
    obtain ⟨dx, hp⟩ := L.ob
    have le := L.le
    refine ⟨_, pss_cons (ps_set (i := 2) sc_Log_forget.nd rfl (Or.inl rfl) (pe_callB (call_max2 rfl) (by rfl) mx (by decide +kernel) (pa_cons pe_int (pa_cons (pe_op op_sub (pe_callB (call_min2 rfl) (by rfl) mn (by decide +kernel)
        (pa_cons (pv 1) (pa_cons (pe_meth0 (pv 0) T.cl mL GL hr bL .nil pass0) pa_nil))) (pe_fld (pv 0) rfl)) pa_nil))))
      (pss_cons (ps_fld (pv 0) (pe_slice sl_list (pe_fld (pv 0) rfl) (po_some (pv 2)) po_none) rfl)
      (pss_cons (ps_fldaug (pv 0) (pv 2) in_add)
      (pss_one (ps_ret (pv 2))))), ?_⟩
    have gF : ∀ (x : Int) (y : Addr), (nsLog.zip [V.int x, V.ref y]).lookup ("_forgotten" : Str) = some (.int x) := fun x y => zf_get (i := 0) (by decide +kernel) rfl
    have gK : ∀ (x : Int) (y : Addr), (nsLog.zip [V.int x, V.ref y]).lookup ("_kept" : Str) = some (.ref y) := fun x y => zf_get (i := 1) (by decide +kernel) rfl
    refine ⟨_, rfl, _, rfl, p, dx, _, rfl, hp, zf_no (by decide +kernel), _, p, rs, g, rfl, LP, _, _, rfl, _, rfl, p, C, dx, _, _, rfl, hp, T.cl, T.nF, gF _ _, _, _, rfl, rfl, _, _, rfl, ?_⟩
    have em : (if (if (rs.length : Int) < u then (rs.length : Int) else u) - (g : Int) > 0 then (if (rs.length : Int) < u then (rs.length : Int) else u) - (g : Int) else 0) = ((goneM rs.length g u - g : Nat) : Int) := by
      unfold goneM
      by_cases c1 : (rs.length : Int) < u
      · rw [if_pos c1]
        split <;> omega
      · rw [if_neg c1]
        split <;> omega
    rw [em]
    have g1 := goneM_ge rs.length g u
    have g2 := goneM_le u le
    generalize goneM rs.length g u = n at g1 g2 k ⊢
    refine ⟨_, rfl, p, C, dx, _, _, rfl, hp, T.cl, T.nK, gK _ _, ?_⟩
    have lt : (ts.map V.ref).length = rs.length - g := by rw [List.length_map, L.len]
    refine ⟨_, rfl, _, rfl, q, _, rfl, SqL.of L.kp, fun q2 hq2 => ?_⟩
    rw [cutV_from _ (by rw [lt]; omega), ← List.map_drop]
    have npq : p ≠ q2 := ne_of_none hp hq2
    have nqq : q ≠ q2 := ne_of_none L.kp hq2
    have hp1 : upd H q2 (.lst ((ts.drop (n - g)).map V.ref)) p = some (.ins C dx (nsLog.zip [.int g, .ref q])) := by rw [upd_ne npq]; exact hp
    refine ⟨_, rfl, p, C, dx, _, rfl, hp1, T.cl, T.nK, (by show 2 < 1000; decide), ?_⟩
    rw [zf_put (i := 1) (by decide +kernel) rfl]
    refine ⟨_, rfl, p, C, dx, _, _, rfl, upd_same, T.cl, T.nF, gF _ _, _, rfl, _, _, rfl, rfl, dx, _, upd_same, (by show 2 < 1000; decide), ?_⟩
    rw [zf_put (i := 0) (by decide +kernel) rfl]
    refine ⟨_, rfl, ?_⟩
    have e1 : ((n - g : Nat) : Int) = (n : Int) - g := by omega
    have e2 : (g : Int) + ((n - g : Nat) : Int) = n := by omega
    rw [e2, e1]
    have c1 : Ch H (upd (upd (upd H q2 (.lst ((ts.drop (n - g)).map V.ref))) p (.ins C dx (nsLog.zip [.int g, .ref q2]))) p (.ins C dx (nsLog.zip [.int n, .ref q2]))) [p, q] :=
      (((Ch.refl H [p, q]).new _ hq2).mut (by simp) hp (fun _ z => by cases z)).mut (by simp) hp (fun _ z => by cases z)
    refine k [p, q2] _ ⟨q2, ts.drop (n - g), rfl, ⟨dx, upd_same⟩, ?_, ?_, g2, L.num⟩ (fun a ha => ?_) c1
    · rw [upd_ne npq.symm, upd_ne npq.symm]; exact upd_same
    · have e : rs.drop n = (rs.drop g).drop (n - g) := by
        rw [List.drop_drop]
        congr 1
        omega
      rw [e]
      exact (L.at_.drop (n - g)).keep c1.tup
    · simp only [List.mem_cons, List.not_mem_nil, or_false] at ha
      rcases ha with rfl | rfl
      · exact .inl (by simp)
      · exact .inr hq2
end
end KL

/-! a rule of our own: min(xs, default=d) of a list of ints -/
namespace LX
open PySem PySem.Spec PyProof.Rows L2 L2H
theorem ints_read {h : Heap} : ∀ {ns : List Int} {its : List Value}, Vals (ns.map V.int) its → ReadsAll h its (ns.map PyData.int) []
  | [], _, .nil => .nil
  | n :: ns, _, .cons r m => by
    obtain ⟨t, rfl⟩ := r
    exact .cons (as := []) (bs := []) (.int n t) (ints_read m)
theorem ints_flat : ∀ ns : List Int, PyData.depthAll (ns.map PyData.int) = 0
  | [] => rfl
  | n :: ns => by
    rw [List.map_cons]
    unfold PyData.depthAll
    rw [ints_flat ns]
    rfl
theorem ints_alike (ns : List Int) : PySem.W.AlikeAll (ns.map PyData.int) := by
  refine ⟨fun x hx y hy => ?_, fun x hx => ?_⟩
  · obtain ⟨a, _, rfl⟩ := List.mem_map.mp hx
    obtain ⟨b, _, rfl⟩ := List.mem_map.mp hy
    rfl
  · obtain ⟨a, _, rfl⟩ := List.mem_map.mp hx
    intro z
    cases z
theorem least_of : ∀ (ns : List Int) (n : Int), ns.foldl min n ∈ n :: ns ∧ ∀ y ∈ n :: ns, ns.foldl min n ≤ y
  | [], n => ⟨List.mem_cons_self, fun y hy => by rw [List.mem_singleton.mp hy]; exact Int.le_refl _⟩
  | k :: ns, n => by
    obtain ⟨h1, h2⟩ := least_of ns (min n k)
    rw [List.foldl_cons]
    refine ⟨?_, fun y hy => ?_⟩
    · rcases List.mem_cons.mp h1 with e | h1
      · rw [e]
        rcases Int.le_total n k with c | c
        · rw [Int.min_eq_left c]; exact List.mem_cons_self
        · rw [Int.min_eq_right c]; exact List.mem_cons_of_mem _ List.mem_cons_self
      · exact List.mem_cons_of_mem _ (List.mem_cons_of_mem _ h1)
    · have q := h2 _ List.mem_cons_self
      rcases List.mem_cons.mp hy with e | hy
      · rw [e]; omega
      · rcases List.mem_cons.mp hy with e | hy
        · rw [e]; omega
        · exact h2 y (List.mem_cons_of_mem _ hy)
def rLeastD (K : PySem.W.Frag) : List V → List V → Hp → VK → Prop := fun vs zs H Q => ∃ (a : Addr) (ns : List Int) (d : Int), vs = [.ref a] ∧ zs = [.int d] ∧ SqL K H a (ns.map V.int) ∧ (ns = [] → Q (.int d) H) ∧ ∀ m ∈ ns, (∀ y ∈ ns, m ≤ y) → Q (.int m) H
theorem cr_leastD {X : Cx} (hc : X.calm = true) (hu : X.A.units + 1 < cLine) : CallRK X (.builtin "min") ["default"] (rLeastD X.K) := by
  intro pins s σ H xs zs us ws Q I rx rz h
  obtain ⟨a, ns, d, rfl, rfl, hs, q0, q1⟩ := h
  obtain ⟨its, rv, hl, _⟩ := I.list hs
  obtain rfl : us = [Value.ref a] := by
    cases rx with
    | cons r m =>
      cases m
      exact congrArg (· :: []) r
  obtain ⟨t, rfl⟩ : ∃ t, ws = [Value.int d t] := by
    cases rz with
    | cons r m =>
      obtain ⟨t, rfl⟩ := r
      cases m
      exact ⟨t, rfl⟩
  refine PySem.W.min_list_default (I.ok.hd hc) hl.isList (ints_read rv) (ints_alike ns) (by rw [ints_flat]; exact hu) (fun e h' tk k => ?_) fun y ys i v h' tk bs e hi rd k => ?_
  · exact ⟨.int d, H, I.kept k, ⟨_, rfl⟩, q0 (List.map_eq_nil_iff.mp e)⟩
  · cases ns with
    | nil => cases e
    | cons n ns =>
      rw [List.map_cons] at e
      cases e
      rw [PySem.W.minD_ints] at rd
      obtain ⟨t2, rfl⟩ : ∃ t2, v = Value.int (ns.foldl min n) t2 := by
        cases rd
        exact ⟨_, rfl⟩
      obtain ⟨h1, h2⟩ := least_of ns n
      exact ⟨.int _, H, I.kept k, ⟨_, rfl⟩, q1 _ h1 h2⟩
end LX
namespace KL
open PySem L2 L2H LX KB KA1
/-! ### the program's room: what all have had is forgotten -/
section
variable {c : Cs} {H H' : Hp} {p : Addr} {R : Rc} {s : Rm}
def hads (l : List (Int × (Addr × Wt))) : List Int := l.map fun x => x.2.2.had
theorem RcAt.wat_of (A : RcAt c H p R s) {y : Int × (Addr × Wt)} (h : y ∈ R.WS) : s.wat y.1 = some y.2.2 := by
  rw [A.fw]
  show (getA R.WS y.1).map (·.2) = _
  rw [getA_of A.nW h]
  rfl
theorem RcAt.of_wat (A : RcAt c H p R s) {n : Int} {w : Wt} (h : s.wat n = some w) : ∃ x, (n, (x, w)) ∈ R.WS := by
  rw [A.fw] at h
  change (getA R.WS n).map (·.2) = some w at h
  cases e : getA R.WS n with
  | none => rw [e] at h; cases h
  | some x =>
    rw [e] at h
    cases h
    exact ⟨x.1, getA_mem e⟩
theorem RcAt.trim0 (A : RcAt c H p R s) (e : hads R.WS = []) : TrimTo s s.rows.length := by
  have e := List.map_eq_nil_iff.mp e
  refine ⟨fun n w h => ?_, .inr ⟨fun n => ?_, rfl⟩⟩
  · obtain ⟨x, m⟩ := A.of_wat h
    rw [e] at m
    cases m
  · rw [A.fw]
    show (getA R.WS n).map (·.2) = none
    rw [e]
    rfl
theorem RcAt.trim1 (A : RcAt c H p R s) {m : Int} (h1 : m ∈ hads R.WS) (h2 : ∀ y ∈ hads R.WS, m ≤ y) : TrimTo s m := by
  obtain ⟨y, hy, rfl⟩ := List.mem_map.mp h1
  refine ⟨fun n w h => ?_, .inl ⟨y.1, y.2.2, A.wat_of hy, rfl⟩⟩
  obtain ⟨x, m⟩ := A.of_wat h
  exact h2 _ (List.mem_map.mpr ⟨_, m, rfl⟩)
end
section
variable {P : Program} {w : World} {K : PySem.W.Frag} {mg : Str → Option Value} {base : Heap} {c : Cs} {kk : Kinds}
theorem ok_Room_trim {f fL fG : Addr} {fd fdL fdG : FuncData} {psL psG : List Str} (F : Fun K "trim" "Room.trim" s_Room_trim f fd) (T : RomT K c.C) (TW : WatT K c.CW) (TG : LogT K c.CG) (mn : mg "min" = none)
    (mL : Meth K c.C "last" fL) (bL : Binds K fdL psL []) (GL : FnOk P w K mg base CX0 2 fL fdL psL (spRLast0 c)) (mG : Meth K c.CG "forget" fG) (bG : Binds K fdG psG []) (GG : FnOk P w K mg base CX0 2 fG fdG psG (spLogForget (LgP c.CG))) :
    FnOk P w K mg base CX0 3 f fd p_Room_trim (spRTrim (RsP c)) := by
  refine F.ok sc_Room_trim (fun vs H Q E h => ?_) (fun cdv A outer s H vs Q E hr h => ?_)
  · obtain ⟨Fo, p, s, rfl, _⟩ := h
    rfl
  · obtain ⟨Fo, p, r, rfl, ⟨R, rfl, A1, Z⟩, fit, k⟩ := h
    obtain ⟨dx, hp⟩ := A1.ob
    have hu := hu_of hr
    have hr2 : Room 2 _ := hr.mono (by decide)
    refine ⟨_, pss_cons (ps_set (i := 1) sc_Room_trim.nd rfl (Or.inl rfl) (pe_callBK (cr_leastD (by rfl) hu) (by rfl) mn (by decide +kernel) (pa_cons (pe_lock
        (pe_lc (own := [("watching", 2)]) (g := gName 2) (te := tFld K (tVar 2) "had") rfl sc_Room_trim.nd (pi_values (pe_fld (pv 0) rfl)) (blkOk_by (own := [("watching", 2)]) (N := n_Room_trim) (sc := defScope s_Room_trim) (by decide +kernel))
          (fun _ _ _ _ _ => pg_name (i := 2) sc_Room_trim.nd rfl (Or.inl rfl) (Or.inr rfl)) (fun _ _ _ _ _ => pts_nil) (fun _ _ _ _ _ => pe_fld (pv 2) rfl))) pa_nil)
        (pk_cons (pe_meth0 (E := E0) (pv 0) T.cl mL GL hr2 bL .nil pass0) pk_nil)))
      (pss_one (ps_ret (pe_meth (E := E0) (pe_fld (pv 0) rfl) TG.cl mG GG hr2 bG .nil pass0 (pa_cons (pv 1) pa_nil)))), ?_⟩
    have npw : p ≠ R.dw := A1.ne7.1.2.2.2.2.2
    have f1 := fit.met
    have f2 := fit.rows
    have zw := Z.w
    have lv : R.wk.length = R.WS.length := A1.rw_.len
    refine ⟨R.dw, _, A1.wa, trivial, fun od => ?_⟩
    have hpL : upd H R.dw (.frz od (.dK R.wk)) p = some (.ins c.C dx (rFl r R)) := by rw [upd_ne npw]; exact hp
    refine ⟨_, rfl, p, c.C, dx, _, _, rfl, hpL, T.cl, T.n6, zf_get (i := 6) (by decide +kernel) rfl, R.dw, od, _, rfl, upd_same, fun D hD => ?_⟩
    refine lc_it walk_values (fun i H' => Same (upd H R.dw (.frz od (.dK R.wk))) H' ∧ H' D = some (.lst ((hads (R.WS.take i)).map V.int))) ?_ ?_ ?_ ?_
    · exact ⟨same_new hD, upd_same⟩
    · rintro i H' _ ⟨hs, _⟩
      exact hs _ _ upd_same
    · rintro i x H3 H' hi ⟨hs, hlD⟩ ⟨rfl, ky, ek⟩
      have hi' : i < R.WS.length := by rw [← lv]; exact hi
      obtain ⟨q, hq⟩ : ∃ q, R.WS[i]? = some q := ⟨R.WS[i], by simp [hi']⟩
      obtain ⟨v, hv, rfl⟩ := DRel.atL A1.rw_ hq
      rw [hv] at ek
      cases ek
      have mq := List.mem_of_getElem? hq
      obtain ⟨dz, hx⟩ := A1.wo q mq
      have nxw := (A1.neW mq).2.2.2.2.2.2
      have hx3 : H' q.2.1 = some (.ins c.CW dz (wFl q.2.2)) := hs _ _ (by rw [upd_ne nxw]; exact hx)
      refine ⟨rfl, _, rfl, q.2.1, c.CW, dz, _, _, rfl, hx3, TW.cl, TW.n2, zf_get (i := 2) (by decide +kernel) rfl, _, hlD, ?_, fun b o e => ?_, ?_⟩
      · unfold hads
        rw [List.length_map, List.length_map]
        have l3 := List.length_take_le' i R.WS
        exact smallS (by omega)
      · rw [upd_ne (ne_of_none e hD)]
        exact hs b o e
      · have e1 : R.WS.take (i + 1) = R.WS.take i ++ [q] := by
          rw [List.take_add_one, hq]; rfl
        rw [upd_same, e1]
        unfold hads
        rw [List.map_append, List.map_append]
        rfl
    · rintro H' ⟨hs, hlD⟩
      have hde : H' R.dw = some (.frz od (.dK R.wk)) := hs _ _ upd_same
      rw [lv, List.take_length] at hlD
      have hDe : D ≠ R.dw := ne_of hlD hde (by intro z; cases z)
      refine ⟨hde, ?_⟩
      have sm : Same H (upd H' R.dw (.dK R.wk)) := fun b o e => by
        by_cases hb : b = R.dw
        · subst hb
          rw [A1.wa] at e
          cases e
          exact upd_same
        · rw [upd_ne hb]
          exact hs b o (by rw [upd_ne hb]; exact e)
      have hlD2 : upd H' R.dw (.dK R.wk) D = some (.lst ((hads R.WS).map V.int)) := by rw [upd_ne hDe]; exact hlD
      generalize upd H' R.dw (.dK R.wk) = H2 at sm hlD2 ⊢
      have A2 : RcAt c H2 p R r := A1.ch (Ch.of sm []) (fun _ _ z => nomatch z)
      obtain ⟨dx2, hp2⟩ := A2.ob
      -- what is forgotten, up to u
      have fin : ∀ u : Int, TrimTo r u → tMeth c.CG "forget" (spLogForget (LgP c.CG)) [] E0 (tFld K (tVar 0) "_log") (tCons (tVar 1) tNil) [some (.ref p), some (.int u), none] H2 Q := fun u tu => by
        obtain ⟨_, dy, fs, hg, hmm⟩ := A2.lg.inst
        refine ⟨_, rfl, p, c.C, dx2, _, _, rfl, hp2, T.cl, T.n2, zf_get (i := 2) (by decide +kernel) rfl, R.pg, dy, fs, rfl, hg, hmm _ (by simp), _, rfl, R.Fg, R.pg, u, r.rows, r.gone, rfl, A2.lg, f2, fun F' H3 L3 g3 c3 => ?_⟩
        have A3 := A2.log L3 g3 c3
        refine k u _ H3 tu ⟨_, rfl, A3, ⟨Z.t, Z.e, Z.h, Z.w, Z.wt⟩⟩ (fun a ha => ?_) ((Ch.of sm _).trans (c3.mono fun a ha => List.mem_append_right _ ha))
        rcases List.mem_append.mp ha with h | h
        · exact .inl (List.mem_append_left _ h)
        · rcases g3 a h with z | z
          · exact .inl (List.mem_append_right _ z)
          · exact .inr (sm.free z)
      refine ⟨_, rfl, p, dx2, _, rfl, hp2, zf_no (by decide +kernel), p, R, r, rfl, A2, D, _, _, rfl, rfl, SqL.of hlD2, fun e => ?_, fun m h1 h2 => ?_⟩
      · exact fin _ (A2.trim0 e)
      · exact fin _ (A2.trim1 h1 h2)
end
end KL

namespace LX
open PySem PySem.Spec PyProof.Rows L2 L2H
/-- a name that holds a list or a tuple, walked -/
def iSeq (K : PySem.W.Frag) (i : Nat) : TI := fun σ H R => ∃ a, σ[i]? = some (some (.ref a)) ∧ (((∃ xs, SqL K H a xs) ∧ R (Itl K a) H) ∨ ((∃ xs, SqT K H a xs) ∧ R (Itt K a) H))
theorem pi_seq {X : Cx} {tg : Expr} {i : Nat} {x : Str} {pos : Pos} (h : PE X (.Name x pos) (tVar i)) : PI X tg (.Name x pos) (iSeq X.K i) := by
  refine ⟨fun pins s σ H R I q => ?_⟩
  obtain ⟨a, e, ⟨h1, h2⟩ | ⟨h1, h2⟩⟩ := q
  · exact (pi_list (tg := tg) h).run pins s σ H R I ⟨_, e, a, rfl, h1, h2⟩
  · exact (pi_tup (tg := tg) h).run pins s σ H R I ⟨_, e, a, rfl, h1, h2⟩
end LX
namespace KL
open PySem L2 L2H LX KB
/-! ### the program's ear -/
abbrev nsEar : List Str := ["_last", "_taken", "_standing"]
structure EarT (K : PySem.W.Frag) (C : Addr) : Prop where
  cl : Cls K C
  nL : NoAttr K C "_last"
  nT : NoAttr K C "_taken"
  nS : NoAttr K C "_standing"
structure EaAt (C : Addr) (H : Hp) (p q d : Addr) (ts : List Addr) (ps : KVs) (b : Int) (gv : KVs) (tk : List Row) : Prop where
  ob : ∃ dx, H p = some (.ins C dx (nsEar.zip [.int (lastN b tk), .ref q, .ref d]))
  kp : H q = some (.lst (ts.map V.ref))
  at_ : RowsAt H ts tk
  st : H d = some (.dK (dV ps))
  nd : (ps.map (·.1)).Nodup
  fn : getP ps = holdM gv tk
  ln : ps.length ≤ gv.length + tk.length
def ErP (C : Addr) : ErT := fun F H p b gv tk => ∃ q d ts ps, F = [p, q, d] ∧ EaAt C H p q d ts ps b gv tk
section
variable {C : Addr} {H H' : Hp} {p q d : Addr} {ts : List Addr} {ps : KVs} {b : Int} {gv : KVs} {tk : List Row} {F l : List Addr}
theorem EaAt.ne (L : EaAt C H p q d ts ps b gv tk) : p ≠ q ∧ p ≠ d ∧ q ≠ d := by
  obtain ⟨dx, h⟩ := L.ob
  exact ⟨ne_of h L.kp (by intro z; cases z), ne_of h L.st (by intro z; cases z), ne_of L.kp L.st (by intro z; cases z)⟩
theorem EaAt.len (L : EaAt C H p q d ts ps b gv tk) : ts.length = tk.length := Paired.length L.at_
theorem ErP.frame (L : ErP C F H p b gv tk) (c : Ch H H' l) (k : ∀ a ∈ F, a ∉ l) : ErP C F H' p b gv tk := by
  obtain ⟨q, d, ts, ps, rfl, L⟩ := L
  obtain ⟨dx, h⟩ := L.ob
  exact ⟨q, d, ts, ps, rfl, ⟨dx, c.at h (k p (by simp))⟩, c.at L.kp (k q (by simp)), L.at_.keep c.tup, c.at L.st (k d (by simp)), L.nd, L.fn, L.ln⟩
theorem ErP.own (L : ErP C F H p b gv tk) : ∀ a ∈ F, ∃ o, H a = some o := by
  obtain ⟨q, d, ts, ps, rfl, L⟩ := L
  obtain ⟨dx, h⟩ := L.ob
  intro a ha
  simp only [List.mem_cons, List.not_mem_nil, or_false] at ha
  rcases ha with rfl | rfl | rfl
  · exact ⟨_, h⟩
  · exact ⟨_, L.kp⟩
  · exact ⟨_, L.st⟩
theorem ErP.inst (L : ErP C F H p b gv tk) : p ∈ F ∧ ∃ dx fs, H p = some (.ins C dx fs) ∧ ∀ m ∈ ([("hear" : Str), "heard", "state", "many"] : List Str), fs.lookup m = none := by
  obtain ⟨q, d, ts, ps, rfl, L⟩ := L
  obtain ⟨dx, h⟩ := L.ob
  refine ⟨by simp, dx, _, h, fun m hm => ?_⟩
  simp only [List.mem_cons, List.not_mem_nil, or_false] at hm
  rcases hm with rfl | rfl | rfl | rfl <;> exact zf_no (by decide +kernel)
end
/-- one change is taken in -/
def spTakeIn (C : Addr) : Sp := fun vs H Q _ => ∃ (p q d t : Addr) (ts : List Addr) (ps : KVs) (b : Int) (gv : KVs) (tk : List Row) (r : Row), vs = [.ref p, .ref t] ∧ EaAt C H p q d ts ps b gv tk ∧ H t = some (.tup r.V) ∧ GoodR r ∧ gv.length + tk.length ≤ 989 ∧
  ∀ ps' H', EaAt C H' p q d (ts ++ [t]) ps' b gv (tk ++ [r]) → Ch H H' [p, q, d] → Q .non H'
def spMany (C : Addr) : Sp := fun vs H Q _ => ∃ (F : List Addr) (p : Addr) (b : Int) (gv : KVs) (tk : List Row), vs = [.ref p] ∧ ErP C F H p b gv tk ∧ Q (.int tk.length) H
theorem holdM_snoc (gv : KVs) (tk : List Row) (r : Row) : holdM gv (tk ++ [r]) = stepM (holdM gv tk) r := by
  unfold holdM
  rw [List.foldl_append]
  rfl
theorem putK_pairs (ps : KVs) (k v : Str) : putK (dV ps) (Sum.inr k) (.str v) = dV (putP ps k v) := putK_dV ps k v
/-- pairs put in one by one -/
def putAll (ps qs : KVs) : KVs := qs.foldl (fun d x => putP d x.1 x.2) ps
theorem putAll_new : ∀ {qs ps : KVs}, ((ps ++ qs).map (·.1)).Nodup → putAll ps qs = ps ++ qs
  | [], ps, _ => (List.append_nil ps).symm
  | x :: qs, ps, n => by
    have h : ¬ (ps.any fun y => decide (y.1 = x.1)) = true := by
      rw [getP_any]
      have : getP ps x.1 = none := by
        refine getP_none.mpr fun z => ?_
        rw [List.map_append] at n
        exact (List.nodup_append.mp n).2.2 _ z _ (by simp) rfl
      rw [this]
      decide
    show putAll (putP ps x.1 x.2) qs = _
    have e : putP ps x.1 x.2 = ps ++ [x] := by
      unfold putP
      rw [if_neg h]
    rw [e, putAll_new (by rw [List.append_assoc]; exact n), List.append_assoc]
    rfl
section
variable {P : Program} {w : World} {K : PySem.W.Frag} {mg : Str → Option Value} {base : Heap}
theorem ok_Ear_take_in {f C : Addr} {fd : FuncData} (F : Fun K "_take_in" "Ear._take_in" s_Ear_u_take_in f fd) (T : EarT K C) : FnOk P w K mg base CX0 1 f fd p_Ear_u_take_in (spTakeIn C) := by
  refine F.ok sc_Ear_u_take_in (fun vs H Q E h => ?_) (fun cdv A outer s H vs Q E hr h => ?_)
  · obtain ⟨p, q, d, t, ts, ps, b, gv, tk, r, rfl, _⟩ := h
    rfl
  · obtain ⟨p, q, d, t, ts, ps, b, gv, tk, r, rfl, L, ht, gr, hl, k⟩ := h
    have hu := hu_of hr
    obtain ⟨dx, hp⟩ := L.ob
    obtain ⟨npq, npd, nqd⟩ := L.ne
    refine ⟨_, pss_cons (ps_asg (pv 1) (pg_tup (n := 5) rfl (pgs_cons (pg_name (i := 2) sc_Ear_u_take_in.nd rfl (Or.inl rfl)) (pgs_cons (pg_name (i := 3) sc_Ear_u_take_in.nd rfl (Or.inl rfl)) (pgs_cons (pg_name (i := 4) sc_Ear_u_take_in.nd rfl (Or.inl rfl))
        (pgs_cons (pg_name (i := 5) sc_Ear_u_take_in.nd rfl (Or.inl rfl)) (pgs_cons (pg_name (i := 6) sc_Ear_u_take_in.nd rfl (Or.inl rfl)) pgs_nil)))))))
      (pss_cons (ps_fld (pv 0) (pv 2) rfl)
      (pss_cons (ps_expr (pe_bm PySem.F.plainAttrs_list PySem.F.slot_list_append PySem.F.type_list_append mt_append (pe_fld (pv 0) rfl) (pa_cons (pv 1) pa_nil)))
      (pss_one (ps_if (pt_cmpR op_eq (pv 4) pe_str (nomark _)) (pss_one (ps_dput hu (pe_fld (pv 0) rfl) (pv 5) (pv 6) rfl))
        (pss_one (ps_expr (pe_dpop2 (pe_fld (pv 0) rfl) (pv 5) pe_non ⟨by rfl, by rfl, by rfl, by rfl⟩))))))), ?_⟩
    refine ⟨_, rfl, t, _, rfl, SqT.of ht, rfl, ?_⟩
    refine ⟨_, _, rfl, _, _, rfl, _, _, rfl, _, _, rfl, _, _, rfl, rfl, ?_⟩
    refine ⟨_, rfl, _, rfl, p, C, dx, _, rfl, hp, T.cl, T.nL, (by show 3 < 1000; decide), ?_⟩
    rw [zf_put (i := 0) (by decide +kernel) rfl]
    have c1 : Ch H (upd H p (.ins C dx (nsEar.zip [.int r.n, .ref q, .ref d]))) [p, q, d] := (Ch.refl H [p, q, d]).mut (by simp) hp (fun _ z => by cases z)
    have q1 : upd H p (.ins C dx (nsEar.zip [.int r.n, .ref q, .ref d])) q = some (.lst (ts.map V.ref)) := by rw [upd_ne npq.symm]; exact L.kp
    refine ⟨_, rfl, p, C, dx, _, _, rfl, upd_same, T.cl, T.nT, zf_get (i := 1) (by decide +kernel) rfl, .inl ⟨rfl, _, .inl (.inl q1)⟩, _, rfl, q, _, .ref t, rfl, rfl, q1, ?_, ?_⟩
    · rw [List.length_map, L.len]
      exact smallS (by omega)
    have c2 : Ch H (upd (upd H p (.ins C dx (nsEar.zip [.int r.n, .ref q, .ref d]))) q (.lst (ts.map V.ref ++ [.ref t]))) [p, q, d] := c1.mut (by simp) L.kp (fun _ z => by cases z)
    have p2 : (upd (upd H p (.ins C dx (nsEar.zip [.int r.n, .ref q, .ref d]))) q (.lst (ts.map V.ref ++ [.ref t]))) p = some (.ins C dx (nsEar.zip [.int r.n, .ref q, .ref d])) := by rw [upd_ne npq]; exact upd_same
    have q2 : (upd (upd H p (.ins C dx (nsEar.zip [.int r.n, .ref q, .ref d]))) q (.lst (ts.map V.ref ++ [.ref t]))) q = some (.lst ((ts ++ [t]).map V.ref)) := by rw [upd_same, List.map_append]; rfl
    have d2 : (upd (upd H p (.ins C dx (nsEar.zip [.int r.n, .ref q, .ref d]))) q (.lst (ts.map V.ref ++ [.ref t]))) d = some (.dK (dV ps)) := by rw [upd_ne nqd.symm, upd_ne npd.symm]; exact L.st
    have a2 : RowsAt (upd (upd H p (.ins C dx (nsEar.zip [.int r.n, .ref q, .ref d]))) q (.lst (ts.map V.ref ++ [.ref t]))) (ts ++ [t]) (tk ++ [r]) := Paired.snoc (L.at_.keep c2.tup) (c2.tup _ _ ht)
    dsimp only [List.set]
    generalize upd (upd H p (.ins C dx (nsEar.zip [.int r.n, .ref q, .ref d]))) q (.lst (ts.map V.ref ++ [.ref t])) = H2 at c2 p2 q2 d2 a2 ⊢
    have gS : (nsEar.zip [V.int r.n, V.ref q, V.ref d]).lookup ("_standing" : Str) = some (.ref d) := zf_get (i := 2) (by decide +kernel) rfl
    have eh : ∀ {ps' : KVs}, getP ps' = stepM (getP ps) r → getP ps' = holdM gv (tk ++ [r]) := fun {ps'} e => by rw [holdM_snoc, ← L.fn]; exact e
    have lz : (dV ps).length < sizeLine := by
      show (ps.map _).length < sizeLine
      rw [List.length_map]
      have := L.ln
      exact smallS (by omega)
    have fin : ∀ (ps' : KVs) (H' : Hp), H' d = some (.dK (dV ps')) → (ps'.map (·.1)).Nodup → getP ps' = stepM (getP ps) r → ps'.length ≤ ps.length + 1 → Ch H2 H' [d] → Q .non H' := fun ps' H' h1 h2 h3 h4 ck => by
      have o : ∀ {a}, a ≠ d → a ∉ [d] := fun h z => h (List.mem_singleton.mp z)
      refine k ps' H' ⟨⟨dx, ?_⟩, ck.at q2 (o nqd), a2.keep ck.tup, h1, h2, eh h3, ?_⟩ (c2.trans (ck.mono fun x hx => by rw [List.mem_singleton.mp hx]; simp))
      · rw [lastN_snoc]
        exact ck.at p2 (o npd)
      · have := L.ln
        rw [List.length_append]
        simp only [List.length_cons, List.length_nil]
        omega
    refine ⟨_, rfl, rfl, _, rfl, ?_⟩
    rcases gr.wd with ew | ew
    · rw [decide_eq_true (congrArg V.str ew)]
      refine iteT ⟨_, rfl, _, rfl, p, C, dx, _, _, rfl, p2, T.cl, T.nS, gS, _, rfl, d, _, rfl, DPut.k (k := Sum.inr r.k) d2 lz, ?_⟩
      rw [putK_dV]
      refine fin _ _ upd_same (putP_nodup L.nd) ?_ (putP_len _ _ _) ((Ch.refl _ _).mut (by simp) d2 (fun _ z => by cases z))
      funext j
      rw [getP_putP]
      unfold stepM
      rw [if_pos ew]
    · have nw : ¬ r.w = "put" := fun z => absurd (ew.symm.trans z) (by decide +kernel)
      rw [decide_eq_false fun z => nw (V.str.inj z)]
      refine iteF ⟨_, rfl, p, C, dx, _, _, rfl, p2, T.cl, T.nS, gS, d, rfl, .inl ⟨_, .inl d2⟩, _, rfl, _, Sum.inr r.k, d2, rfl, fun v hv => ?_, fun hn => ?_⟩
      · rw [dropK_dV]
        refine fin _ _ upd_same (dropP_nodup L.nd) ?_ (Nat.le_succ_of_le (dropP_len _ _)) ((Ch.refl _ _).mut (by simp) d2 (fun _ z => by cases z))
        funext j
        rw [getP_dropP]
        unfold stepM
        rw [if_neg nw]
      · refine fin ps _ d2 L.nd ?_ (Nat.le_succ _) (Ch.refl _ _)
        funext j
        unfold stepM
        by_cases c : r.k = j
        · rw [if_pos c, if_neg nw, ← c]
          rw [valV_dV] at hn
          cases g : getP ps r.k with
          | none => rfl
          | some v => rw [g] at hn; cases hn
        · rw [if_neg c]
theorem ok_Ear_hear {f fT C : Addr} {fd fdT : FuncData} {psT : List Str} (F : Fun K "hear" "Ear.hear" s_Ear_hear f fd) (T : EarT K C) (mT : Meth K C "_take_in" fT) (bT : Binds K fdT psT []) (GT : FnOk P w K mg base CX0 1 fT fdT psT (spTakeIn C)) :
    FnOk P w K mg base CX0 2 f fd p_Ear_hear (spEarHear (ErP C)) := by
  refine F.ok sc_Ear_hear (fun vs H Q E h => ?_) (fun cdv A outer s H vs Q E hr h => ?_)
  · obtain ⟨Fo, p, q, b, gv, tk, rs, ts, rfl, _⟩ := h
    rfl
  · obtain ⟨Fo, p, ql, b, gv, tk, rs, rts, rfl, LP, hql, nq, hrs, gr, hl, k⟩ := h
    obtain ⟨q, d, ts, ps, rfl, L⟩ := id LP
    obtain ⟨npq, npd, nqd⟩ := L.ne
    refine ⟨_, pss_cons (ps_for PassesOwn.never rfl (pi_list (pv 1)) (pg_name (i := 2) sc_Ear_hear.nd rfl (Or.inl rfl))
        (pss_one (ps_if (pt_cmpR op_gt (pe_ix ix_tup (pv 2) pe_int (fun _ _ => rfl)) (pe_fld (pv 0) rfl) (nomark _)) (pss_one (ps_expr (pe_meth (E := E0) (pv 0) T.cl mT GT hr bT .nil pass0 (pa_cons (pv 2) pa_nil)))) pss_nil)))
      (pss_one (ps_ret (pe_fld (pv 0) rfl))), ?_⟩
    have nql : ∀ a ∈ [p, q, d], a ≠ ql := fun a ha z => nq (z ▸ ha)
    refine ⟨_, rfl, ql, rfl, ⟨_, SqL.of hql⟩, ?_⟩
    refine for_list (xs := rts.map V.ref) (fun i σ H' => ∃ (y : Option V) (ts' : List Addr) (ps' : KVs), σ = [some (.ref p), some (.ref ql), y] ∧ EaAt C H' p q d ts' ps' b gv (takeM b tk (rs.take i)) ∧ Ch H H' [p, q, d]) ⟨none, ts, ps, rfl, L, Ch.refl _ _⟩ ?_ ?_ ?_
    · rintro i σ H1 _ ⟨y, ts', ps', rfl, L1, c1⟩
      exact SqL.of (c1.at hql nq)
    · rintro i x σ H1 hx ⟨y, ts', ps', rfl, L1, c1⟩
      obtain ⟨t, r, rfl, er, et⟩ := RowsAt.at hrs hx
      have et1 := c1.tup _ _ et
      obtain ⟨dx, hp⟩ := L1.ob
      have e1 : rs.take (i + 1) = rs.take i ++ [r] := by
        rw [List.take_add_one, er]; rfl
      have e2 : takeM b tk (rs.take (i + 1)) = if r.n > lastN b (takeM b tk (rs.take i)) then takeM b tk (rs.take i) ++ [r] else takeM b tk (rs.take i) := by
        rw [e1, takeM_app]
        rfl
      refine ⟨_, rfl, t, _, 0, .int r.n, rfl, rfl, SqT.of et1, rfl, _, rfl, p, C, dx, _, _, rfl, hp, T.cl, T.nL, zf_get (i := 0) (by decide +kernel) rfl, _, _, rfl, rfl, _, rfl, ?_⟩
      rw [e2]
      by_cases cc : r.n > lastN b (takeM b tk (rs.take i))
      · rw [decide_eq_true cc, if_pos cc]
        have ln := takeM_len b (rs.take i) tk
        have l2 := List.length_take_le i rs
        have l3 : i < rs.length := (List.getElem?_eq_some_iff.mp er).1
        have l4 : (rs.take i).length = i := List.length_take_of_le (Nat.le_of_lt l3)
        refine iteT ⟨_, rfl, p, dx, _, rfl, hp, zf_no (by decide +kernel), _, rfl, p, q, d, t, ts', ps', b, gv, _, r, rfl, L1, et1, gr r (List.mem_of_getElem? er), by omega, fun ps2 H2 L2 c2 => ?_⟩
        exact ⟨_, _, ps2, rfl, L2, c1.trans c2⟩
      · rw [decide_eq_false cc, if_neg cc]
        exact iteF ⟨_, ts', ps', rfl, L1, c1⟩
    · rintro σ H1 ⟨y, ts', ps', rfl, L1, c1⟩
      rw [List.length_map, Paired.length hrs, List.take_length] at L1
      obtain ⟨dx, hp⟩ := L1.ob
      exact ⟨_, rfl, p, C, dx, _, _, rfl, hp, T.cl, T.nL, zf_get (i := 0) (by decide +kernel) rfl, k [p, q, d] H1 ⟨q, d, ts', ps', rfl, L1⟩ (Grow.refl _ _) c1⟩
theorem ok_Ear_heard {f C : Addr} {fd : FuncData} (F : Fun K "heard" "Ear.heard" s_Ear_heard f fd) (T : EarT K C) (ml : mg "list" = none) : FnOk P w K mg base CX0 1 f fd p_Ear_heard (spEarHeard (ErP C)) := by
  refine F.ok sc_Ear_heard (fun vs H Q E h => ?_) (fun cdv A outer s H vs Q E hr h => ?_)
  · obtain ⟨Fo, p, b, gv, tk, rfl, _⟩ := h
    rfl
  · obtain ⟨Fo, p, b, gv, tk, rfl, LP, k⟩ := h
    obtain ⟨q, d, ts, ps, rfl, L⟩ := id LP
    obtain ⟨dx, hp⟩ := L.ob
    refine ⟨_, pss_one (ps_ret (pe_callTy call_list_of (by rfl) ml (by decide +kernel) (pa_cons (pe_fld (pv 0) rfl) pa_nil))), ?_⟩
    refine ⟨_, rfl, p, C, dx, _, _, rfl, hp, T.cl, T.nT, zf_get (i := 1) (by decide +kernel) rfl, q, _, rfl, .inl (SqL.of L.kp), fun l hl => ?_⟩
    have sm := same_new (o := .lst (ts.map V.ref)) hl
    refine k [p, q, d] l ts _ (LP.frame (Ch.of sm []) (fun _ _ z => nomatch z)) (Grow.refl _ _) (Ch.of sm _) hl (fun y => ?_) upd_same (L.at_.keep fun b xs e => sm _ _ e)
    obtain ⟨o, e⟩ := LP.own l y
    rw [hl] at e
    cases e
theorem pairsAt2 {H : Hp} : ∀ {ts : List Addr} {ps : KVs} {j : Nat} {y : V}, PairsAt H ts ps → (ts.map V.ref)[j]? = some y → ∃ t r, y = V.ref t ∧ ps[j]? = some r ∧ H t = some (.tup [.str r.1, .str r.2])
  | _, _, j, y, .nil, h => by simp at h
  | _, _, 0, y, .cons r m, h => ⟨_, _, (Option.some.inj h).symm, rfl, r⟩
  | _, _, j + 1, y, .cons r m, h => pairsAt2 (j := j) m (by simpa using h)
/-- a new ear -/
theorem ok_Ear_init {f C : Addr} {fd : FuncData} (F : FunD K "__init__" "Ear.__init__" (defArgs s_Ear_init) (defBody s_Ear_init) (defScope s_Ear_init) [.int 1, .non] [] f fd) (T : EarT K C) : FnOk P w K mg base CX0 1 f fd p_Ear_init (spEarInit K C (ErP C)) := by
  refine F.ok sc_Ear_init (fun vs H Q E h => ?_) (fun cdv A outer s H vs Q E hr h => ?_)
  · obtain ⟨p, dx, b, gv, pv, rfl, _⟩ := h
    rfl
  · obtain ⟨p, dx, b, gv, pw, rfl, hp, hb, nd, okp, hl, hpv, k⟩ := h
    have hu := hu_of hr
    refine ⟨_, PSs.nox (pss_cons (ps_fld (pv 0) (pe_op op_sub (pv 1) pe_int) rfl) (pss_cons (ps_fld (pv 0) (pe_lst pa_nil) rfl) (pss_cons (ps_fld (pv 0) pe_dnewK rfl)
      (pss_one (ps_if (pt_cmp (pc_notN (pv 2))) (pss_one (ps_for PassesOwn.never rfl (pi_seq (pv 2)) (pg_tup (n := 2) rfl (pgs_cons (pg_name (i := 3) sc_Ear_init.nd rfl (Or.inl rfl)) (pgs_cons (pg_name (i := 4) sc_Ear_init.nd rfl (Or.inl rfl)) pgs_nil)))
        (pss_one (ps_dput hu (pe_fld (pv 0) rfl) (pv 3) (pv 4) rfl)))) pss_nil))))), ?_⟩
    refine ⟨_, rfl, _, _, rfl, rfl, _, rfl, p, C, dx, [], rfl, hp, T.cl, T.nL, (by show 0 < 1000; decide), ?_⟩
    refine ⟨(by show 0 ≤ sizeLine; decide), fun q hq => ?_⟩
    have npq : p ≠ q := ne_of_none upd_same hq
    refine ⟨_, rfl, p, C, dx, _, rfl, (by rw [upd_ne npq]; exact upd_same), T.cl, T.nT, (by show 1 < 1000; decide), ?_⟩
    intro d hd
    have npd : p ≠ d := ne_of_none upd_same hd
    have nqd : q ≠ d := ne_of_none (by rw [upd_ne npq.symm]; exact upd_same) hd
    refine ⟨_, rfl, p, C, dx, _, rfl, (by rw [upd_ne npd]; exact upd_same), T.cl, T.nS, (by show 2 < 1000; decide), ?_⟩
    have q0 : H q = none := by rw [upd_ne npq.symm] at hq; exact hq
    have d0 : H d = none := by rw [upd_ne npd.symm, upd_ne nqd.symm, upd_ne npd.symm] at hd; exact hd
    have ed : putF "_standing" (V.ref d) (putF "_taken" (V.ref q) (putF "_last" (V.int (b - 1)) [])) = nsEar.zip [.int (b - 1), .ref q, .ref d] := rfl
    rw [ed]
    have c0 : Ch H (upd (upd (upd (upd (upd H p (.ins C dx (putF "_last" (V.int (b - 1)) []))) q (.lst [])) p (.ins C dx (putF "_taken" (V.ref q) (putF "_last" (V.int (b - 1)) [])))) d (.dK [])) p (.ins C dx (nsEar.zip [.int (b - 1), .ref q, .ref d]))) [p] :=
      ((((((Ch.refl H [p]).mut (by simp) hp (fun _ z => by cases z)).new _ q0).mut (by simp) hp (fun _ z => by cases z)).new _ d0).mut (by simp) hp (fun _ z => by cases z))
    have e1 : ∀ H0 : Hp, upd H0 p (.ins C dx (nsEar.zip [.int (b - 1), .ref q, .ref d])) p = some (.ins C dx (nsEar.zip [.int (b - 1), .ref q, .ref d])) := fun _ => upd_same
    have e2 : (upd (upd (upd (upd (upd H p (.ins C dx (putF "_last" (V.int (b - 1)) []))) q (.lst [])) p (.ins C dx (putF "_taken" (V.ref q) (putF "_last" (V.int (b - 1)) [])))) d (.dK [])) p (.ins C dx (nsEar.zip [.int (b - 1), .ref q, .ref d]))) q = some (.lst []) := by
      rw [upd_ne npq.symm, upd_ne nqd, upd_ne npq.symm]; exact upd_same
    have e3 : (upd (upd (upd (upd (upd H p (.ins C dx (putF "_last" (V.int (b - 1)) []))) q (.lst [])) p (.ins C dx (putF "_taken" (V.ref q) (putF "_last" (V.int (b - 1)) [])))) d (.dK [])) p (.ins C dx (nsEar.zip [.int (b - 1), .ref q, .ref d]))) d = some (.dK []) := by
      rw [upd_ne npd.symm]; exact upd_same
    have e1 := e1 (upd (upd (upd (upd H p (.ins C dx (putF "_last" (V.int (b - 1)) []))) q (.lst [])) p (.ins C dx (putF "_taken" (V.ref q) (putF "_last" (V.int (b - 1)) [])))) d (.dK []))
    generalize upd (upd (upd (upd (upd H p (.ins C dx (putF "_last" (V.int (b - 1)) []))) q (.lst [])) p (.ins C dx (putF "_taken" (V.ref q) (putF "_last" (V.int (b - 1)) [])))) d (.dK [])) p (.ins C dx (nsEar.zip [.int (b - 1), .ref q, .ref d])) = H1 at c0 e1 e2 e3 ⊢
    -- the pairs, one by one
    have gS : (nsEar.zip [V.int (b - 1), V.ref q, V.ref d]).lookup ("_standing" : Str) = some (.ref d) := zf_get (i := 2) (by decide +kernel) rfl
    have fin : ∀ {H' : Hp}, H' d = some (.dK (dV gv)) → Ch H1 H' [d] → Q .non H' := fun {H'} h1 ck => by
      have o : ∀ {a}, a ≠ d → a ∉ [d] := fun h z => h (List.mem_singleton.mp z)
      have cc : Ch H H' [p] := ⟨fun x u e n => ck.st x u (c0.st x u e n) (.inl (o (ne_of_none e d0))), fun x u e => let ⟨_, z⟩ := c0.th x u e; ck.th x _ z⟩
      refine k [p, q, d] H' ⟨q, d, [], gv, rfl, ⟨dx, ck.at e1 (o npd)⟩, ck.at e2 (o nqd), .nil, h1, nd, rfl, Nat.le_refl _⟩ (fun a ha => ?_) cc
      simp only [List.mem_cons, List.not_mem_nil, or_false] at ha
      rcases ha with rfl | rfl | rfl
      · exact .inl rfl
      · exact .inr q0
      · exact .inr d0
    have nsq : ∀ {qs ps : KVs} {x : Str × Str}, ((ps ++ x :: qs).map (·.1)).Nodup → putP ps x.1 x.2 = ps ++ [x] := fun {qs ps x} n => by
      have h : getP ps x.1 = none := by
        refine getP_none.mpr fun z => ?_
        rw [List.map_append] at n
        exact (List.nodup_append.mp n).2.2 _ z _ (by simp) rfl
      unfold putP
      rw [getP_any, h]
      rfl
    -- a turn
    have turn : ∀ {i : Nat} {x : Str × Str} {y3 y4 : Option V} {H2 : Hp}, gv[i]? = some x → H2 d = some (.dK (dV (gv.take i))) → Ch H1 H2 [d] →
        H2 p = some (.ins C dx (nsEar.zip [.int (b - 1), .ref q, .ref d])) ∧ (dV (gv.take i)).length < sizeLine ∧ upd H2 d (.dK (putK (dV (gv.take i)) (Sum.inr x.1) (.str x.2))) d = some (.dK (dV (gv.take (i + 1)))) ∧ Ch H1 (upd H2 d (.dK (putK (dV (gv.take i)) (Sum.inr x.1) (.str x.2)))) [d] := fun {i x y3 y4 H2} hx h1 ck => by
      have o : ∀ {a}, a ≠ d → a ∉ [d] := fun h z => h (List.mem_singleton.mp z)
      have et : gv.take (i + 1) = gv.take i ++ [x] := by
        rw [List.take_add_one, hx]; rfl
      refine ⟨ck.at e1 (o npd), ?_, ?_, ck.mut (by simp) e3 (fun _ z => by cases z)⟩
      · show ((gv.take i).map _).length < sizeLine
        rw [List.length_map]
        have := List.length_take_le' i gv
        exact smallS (by omega)
      · rw [upd_same, putK_dV, nsq (qs := gv.drop (i + 1)), et]
        have e : gv.take i ++ x :: gv.drop (i + 1) = gv := by
          have h2 := List.take_append_drop i gv
          rw [List.drop_eq_getElem_cons (List.getElem?_eq_some_iff.mp hx).1] at h2
          rw [← (List.getElem?_eq_some_iff.mp hx).2]
          exact h2
        rw [e]
        exact nd
    have one : ∀ {a x : Addr}, a ≠ x → a ∉ [x] := fun h z => h (List.mem_singleton.mp z)
    have keepL : ∀ {H2 : Hp} {a : Addr} {xs : List V}, Ch H1 H2 [d] → SqL K H a xs → SqL K H2 a xs := fun {H2 a xs} ck h => by
      rcases h with (h | ⟨u, h⟩) | h
      · exact .inl (.inl (ck.st _ _ (c0.st _ _ h (.inl (one (ne_of h hp (by intro z; cases z))))) (.inl (one (ne_of_none h d0)))))
      · exact .inl (.inr ⟨u, ck.st _ _ (c0.st _ _ h (.inl (one (ne_of h hp (by intro z; cases z))))) (.inl (one (ne_of_none h d0)))⟩)
      · exact .inr h
    have keepT : ∀ {H2 : Hp} {a : Addr} {xs : List V}, Ch H1 H2 [d] → SqT K H a xs → SqT K H2 a xs := fun {H2 a xs} ck h => by
      rcases h with (h | ⟨u, h⟩) | h
      · exact .inl (.inl (ck.st _ _ (c0.st _ _ h (.inl (one (ne_of h hp (by intro z; cases z))))) (.inl (one (ne_of_none h d0)))))
      · exact .inl (.inr ⟨u, ck.st _ _ (c0.st _ _ h (.inl (one (ne_of h hp (by intro z; cases z))))) (.inl (one (ne_of_none h d0)))⟩)
      · exact .inr h
    rcases hpv with ⟨rfl, rfl⟩ | ⟨pq, pts, rfl, hsq, hpt⟩
    · exact ⟨_, rfl, false, by rw [decide_eq_true rfl]; rfl, iteF (fin e3 (Ch.refl _ _))⟩
    · refine ⟨_, rfl, true, by rw [decide_eq_false (fun z => by cases z)]; rfl, iteT ?_⟩
      have len : (pts.map V.ref).length = gv.length := by rw [List.length_map, Paired.length hpt]
      have step : ∀ {i : Nat} {x : V} {y3 y4 : Option V} {H2 : Hp} {D : Ends}, (pts.map V.ref)[i]? = some x → H2 d = some (.dK (dV (gv.take i))) → Ch H1 H2 [d] →
          (∀ y3 y4 H3, H3 d = some (.dK (dV (gv.take (i + 1)))) → Ch H1 H3 [d] → D.nx [some (V.ref p), some (V.int b), some (V.ref pq), y3, y4] H3) →
          gTup K 2 (gCons (gName 3) (gCons (gName 4) gNil)) x [some (V.ref p), some (V.int b), some (V.ref pq), y3, y4] H2 fun σ2 H3 => sDPut (tFld K (tVar 0) "_standing") (tVar 3) (tVar 4) D σ2 H3 := fun {i x y3 y4 H2 D} hx h1 ck hN => by
        obtain ⟨t, a, v, rfl, ht⟩ := PairsAt.at hpt hx
        have hlt : i < gv.length := by rw [← len]; exact (List.getElem?_eq_some_iff.mp hx).1
        obtain ⟨x, hgx⟩ : ∃ x, gv[i]? = some x := ⟨gv[i], by simp [hlt]⟩
        have ht2 := ck.tup _ _ (c0.tup _ _ ht)
        have exv : x = (a, v) := by
          obtain ⟨t', r', e1', e2', e3'⟩ := pairsAt2 hpt hx
          cases e1'
          rw [hgx] at e2'
          cases e2'
          rw [ht] at e3'
          cases e3'
          rfl
        subst exv
        obtain ⟨t1, t2, t3, t4⟩ := turn (y3 := none) (y4 := none) hgx h1 ck
        exact ⟨t, _, rfl, SqT.of ht2, rfl, _, _, rfl, _, _, rfl, rfl, _, rfl, _, rfl, p, C, dx, _, _, rfl, t1, T.cl, T.nS, gS, _, rfl, d, _, rfl, DPut.k (k := Sum.inr a) h1 t2, hN _ _ _ t3 t4⟩
      rcases hsq with hs | hs
      · refine ⟨pq, rfl, .inl ⟨⟨_, keepL (Ch.refl _ _) hs⟩, ?_⟩⟩
        refine for_list (xs := pts.map V.ref) (fun i σ H' => (∃ y3 y4 : Option V, σ = [some (.ref p), some (.int b), some (.ref pq), y3, y4]) ∧ H' d = some (.dK (dV (gv.take i))) ∧ Ch H1 H' [d]) ⟨⟨none, none, rfl⟩, e3, Ch.refl _ _⟩ ?_ ?_ ?_
        · rintro i σ H2 _ ⟨⟨y3, y4, rfl⟩, h1, ck⟩
          exact keepL ck hs
        · rintro i x σ H2 hx ⟨⟨y3, y4, rfl⟩, h1, ck⟩
          exact step hx h1 ck fun y3 y4 H3 h3 c3 => ⟨⟨y3, y4, rfl⟩, h3, c3⟩
        · rintro σ H2 ⟨⟨y3, y4, rfl⟩, h1, ck⟩
          rw [len, List.take_length] at h1
          exact fin h1 ck
      · refine ⟨pq, rfl, .inr ⟨⟨_, keepT (Ch.refl _ _) hs⟩, ?_⟩⟩
        refine for_tup (xs := pts.map V.ref) (fun i σ H' => (∃ y3 y4 : Option V, σ = [some (.ref p), some (.int b), some (.ref pq), y3, y4]) ∧ H' d = some (.dK (dV (gv.take i))) ∧ Ch H1 H' [d]) ⟨⟨none, none, rfl⟩, e3, Ch.refl _ _⟩ ?_ ?_ ?_
        · rintro i σ H2 _ ⟨⟨y3, y4, rfl⟩, h1, ck⟩
          exact keepT ck hs
        · rintro i x σ H2 hx ⟨⟨y3, y4, rfl⟩, h1, ck⟩
          exact step hx h1 ck fun y3 y4 H3 h3 c3 => ⟨⟨y3, y4, rfl⟩, h3, c3⟩
        · rintro σ H2 ⟨⟨y3, y4, rfl⟩, h1, ck⟩
          rw [len, List.take_length] at h1
          exact fin h1 ck
end
end KL

namespace KL
open PySem L2 L2H LX KB
section
variable {P : Program} {w : World} {K : PySem.W.Frag} {mg : Str → Option Value} {base : Heap}
theorem ok_Ear_state {f C : Addr} {fd : FuncData} (F : Fun K "state" "Ear.state" s_Ear_state f fd) (T : EarT K C) (ms : mg "sorted" = none) : FnOk P w K mg base CX0 1 f fd p_Ear_state (spEarState (ErP C)) := by
  refine F.ok sc_Ear_state (fun vs H Q E h => ?_) (fun cdv A outer s H vs Q E hr h => ?_)
  · obtain ⟨Fo, p, b, gv, tk, rfl, _⟩ := h
    rfl
  · obtain ⟨Fo, p, b, gv, tk, rfl, LP, hl, gr, k⟩ := h
    obtain ⟨q, d, ts, ps, rfl, L⟩ := id LP
    obtain ⟨dx, hp⟩ := L.ob
    refine ⟨_, pss_one (ps_ret (pe_callB (cr_sortItK rfl) (by rfl) ms (by decide +kernel) (pa_cons (pe_bm0 PySem.F.plainAttrs_dict PySem.F.slot_dict_items PySem.F.type_dict_items mt_itemsK (pe_fld (pv 0) rfl)) pa_nil))), ?_⟩
    refine ⟨_, rfl, p, C, dx, _, _, rfl, hp, T.cl, T.nS, zf_get (i := 2) (by decide +kernel) rfl, .inr (.inr (.inl ⟨rfl, .inl ⟨_, L.st⟩⟩)), d, _, rfl, rfl, L.st, fun v hv => ?_⟩
    have s1 := same_new (o := L2.DX.itemsO v d) hv
    refine ⟨v, d, ps, rfl, upd_same, s1 _ _ L.st, fun H' l us qs s2 hl2 hat m pm so => ?_⟩
    have sm := s1.trans s2
    have t := told_perm L.nd pm so
    rw [L.fn] at t
    refine k [p, q, d] l us qs H' (LP.frame (Ch.of sm []) (fun _ _ z => nomatch z)) (Grow.refl _ _) (Ch.of sm _) (s1.free hl2) (fun y => ?_) hat m t
    obtain ⟨o, e⟩ := LP.own l y
    rw [s1 _ _ e] at hl2
    cases hl2
end
end KL

namespace KL
open PySem L2 L2H LX KB
section
variable {P : Program} {w : World} {K : PySem.W.Frag} {mg : Str → Option Value} {base : Heap}
theorem ok_Ear_many {f C : Addr} {fd : FuncData} (F : Fun K "many" "Ear.many" s_Ear_many f fd) (T : EarT K C) (ml : mg "len" = none) : FnOk P w K mg base CX0 1 f fd p_Ear_many (spMany C) := by
  refine F.ok sc_Ear_many (fun vs H Q E h => ?_) (fun cdv A outer s H vs Q E hr h => ?_)
  · obtain ⟨Fo, p, b, gv, tk, rfl, _⟩ := h
    rfl
  · obtain ⟨Fo, p, b, gv, tk, rfl, ⟨q, d, ts, ps, rfl, L⟩, k⟩ := h
    obtain ⟨dx, hp⟩ := L.ob
    refine ⟨_, pss_one (ps_ret (pe_callB call_len_seq (by rfl) ml PySem.boot_len (pa_cons (pe_fld (pv 0) rfl) pa_nil))), ?_⟩
    refine ⟨_, rfl, p, C, dx, _, _, rfl, hp, T.cl, T.nT, zf_get (i := 1) (by decide +kernel) rfl, q, _, rfl, .inl (SqL.of L.kp), ?_⟩
    rw [List.length_map, L.len]
    exact k
theorem api_many {k : Nat} {f C : Addr} {fd : FuncData} {ps : List Str} (G : FnOk P w K mg base CX0 k f fd ps (spMany C)) : FnOk P w K mg base CX0 k f fd ps (spEarMany (ErP C)) :=
  G.imp fun vs H Q E ⟨F, p, b, gv, tk, e, L, q⟩ => ⟨F, p, b, gv, tk, e, L, q F H L (Grow.refl _ _) (Ch.refl _ _)⟩
end
end KL

namespace KL
open PySem L2 L2H LX KB
/-! ### a law's plain helpers: whole, cell_at, sign, text, pool, prefix -/
structure LTxt (mg : Str → Option Value) : Prop where
  isi : mg "isinstance" = none
  int : mg "int" = none
  bool : mg "bool" = none
  str : mg "str" = none
  len : mg "len" = none
  sorted : mg "sorted" = none
  list : mg "list" = none
  tuple : mg "tuple" = none
  range : mg "range" = none
/-- a def of the law as its callers see it -/
structure Def (P : Program) (w : World) (K : PySem.W.Frag) (mg : Str → Option Value) (base : Heap) (x : Str) (k : Nat) (ps : List Str) (sp : Sp) : Prop where
  ex : ∃ f fd, mg x = some (.ref f) ∧ PySem.W.keepIn K (.ref f) = true ∧ Binds K fd ps [] ∧ FnOk P w K mg base CX0 k f fd ps sp
def Plain (v : V) (b : Bool) : Prop := ((∃ i, v = .int i) ∧ b = true) ∨ ((v = .non ∨ ∃ z, v = .str z) ∧ b = false)
def spWhole : Sp := fun vs H Q _ => ∃ (v : V) (b : Bool), vs = [v] ∧ Plain v b ∧ Q (.bl b) H
def spCellA (K : PySem.W.Frag) : Sp := fun vs H Q _ => ∃ (a : Addr) (ns : List Int) (j : Nat), vs = [.ref a, .int j] ∧ SqL K H a (ns.map V.int) ∧ ∀ t, Q (.int t) H
def spSign : Sp := fun vs H Q _ => ∃ (c : Int), vs = [.int c] ∧ ∀ z, TOk 1 z → z.length = 1 → Q (.str z) H
def spText : Sp := fun vs H Q _ => ∃ (c n : Int), vs = [.int c, .int n] ∧ 0 ≤ n ∧ n ≤ 60 ∧ ∀ z H', TOk n.toNat z → z.length = n.toNat → Same H H' → Q (.str z) H'
def spPool : Sp := fun vs H Q _ => ∃ (c o : Int), vs = [.int c, .int o] ∧ ∀ (q : Addr) (zs : List Str) (H' : Hp), H q = none → H' q = some (.lst (zs.map V.str)) → zs.length = 6 → (∀ z ∈ zs, TOk 60 z) → (∀ z, zs[0]? = some z → 0 < z.length) → Same H H' → Q (.ref q) H'
def spPrefix : Sp := fun vs H Q _ => ∃ (q : Addr) (zs : List Str) (c : Int), vs = [.ref q, .int c] ∧ H q = some (.lst (zs.map V.str)) ∧ zs.length = 6 ∧ (∀ z ∈ zs, TOk 60 z) ∧ ∀ z H', TOk 60 z → Same H H' → Q (.str z) H'
section
variable {P : Program} {w : World} {K : PySem.W.Frag} {mg : Str → Option Value} {base : Heap}
theorem ok_whole {f : Addr} {fd : FuncData} (F : Fun K "_law_whole" "_law_whole" s_whole f fd) (T : LTxt mg) : FnOk P w K mg base CX0 1 f fd p_whole spWhole := by
  refine F.ok sc_whole (fun vs H Q E h => ?_) (fun cdv A outer s H vs Q E hr h => ?_)
  · obtain ⟨v, b, rfl, _⟩ := h
    rfl
  · obtain ⟨v, b, rfl, hb, k⟩ := h
    refine ⟨_, pss_one (ps_ret (pe_and (pe_callB call_isi (by rfl) T.isi (by decide +kernel) (pa_cons (pv 0) (pa_cons (pe_bltn (v := V.ty "int") (by rfl) T.int (by decide +kernel) rfl) pa_nil)))
      (pe_one (pe_not (pe_callB call_isi (by rfl) T.isi (by decide +kernel) (pa_cons (pv 0) (pa_cons (pe_bltn (v := V.ty "bool") (by rfl) T.bool (by decide +kernel) rfl) pa_nil))))))), ?_⟩
    rcases hb with ⟨⟨i, rfl⟩, rfl⟩ | ⟨hv, rfl⟩
    · refine ⟨_, rfl, _, _, _, _, true, rfl, .ty _, .base (.int i), kit_ty (by decide +kernel), true, rfl, ?_⟩
      refine iteT ?_
      exact ⟨_, rfl, _, _, _, _, false, rfl, .ty _, .base (.int i), kit_ty (by decide +kernel), false, rfl, k⟩
    · rcases hv with rfl | ⟨z, rfl⟩
      · refine ⟨_, rfl, _, _, _, _, false, rfl, .ty _, .base .non, kit_ty (by decide +kernel), false, rfl, ?_⟩
        exact iteF k
      · refine ⟨_, rfl, _, _, _, _, false, rfl, .ty _, .base (.str z), kit_ty (by decide +kernel), false, rfl, ?_⟩
        exact iteF k
theorem ok_cell {f : Addr} {fd : FuncData} (F : Fun K "_law_cell_at" "_law_cell_at" s_cell_at f fd) (T : LTxt mg) : FnOk P w K mg base CX0 1 f fd p_cell_at (spCellA K) := by
  refine F.ok sc_cell_at (fun vs H Q E h => ?_) (fun cdv A outer s H vs Q E hr h => ?_)
  · obtain ⟨a, ns, j, rfl, _⟩ := h
    rfl
  · obtain ⟨a, ns, j, rfl, hs, k⟩ := h
    refine ⟨_, pss_cons (ps_if (pt_cmpR op_lt (pv 1) (pe_callB call_len_seq (by rfl) T.len PySem.boot_len (pa_cons (pv 0) pa_nil)) (nomark _)) (pss_one (ps_ret (pe_ix ix_list (pv 0) (pv 1) (fun _ _ => rfl)))) pss_nil)
      (pss_one (ps_ret pe_int)), ?_⟩
    refine ⟨_, rfl, _, rfl, a, _, rfl, .inl hs, _, _, rfl, rfl, _, rfl, ?_⟩
    rw [List.length_map]
    by_cases c : (j : Int) < ns.length
    · rw [decide_eq_true c]
      refine iteT ?_
      obtain ⟨t, _, e⟩ := at_ints (ns := ns) (z := (j : Int)) (by omega) c
      exact ⟨_, rfl, _, rfl, a, _, _, _, rfl, rfl, hs, e, k t⟩
    · rw [decide_eq_false c]
      refine iteF ?_
      exact k 0
theorem sign_go {z : Str} {i : Int} {H : Hp} {Q : VK} (h1 : z.length = 94) (h2 : PyData.strOk z = true) (k : ∀ y, TOk 1 y → y.length = 1 → Q (.str y) H) :
    ∃ x j c, V.str z = .str x ∧ V.int (i % 94) = .int j ∧ x.length ≤ sizeLine ∧ atI x.cps.toList j = some c ∧ Q (.str ⟨#[c]⟩) H := by
  have hl : z.cps.toList.length = 94 := by rw [Array.length_toList]; exact h1
  obtain ⟨j, hj⟩ := Int.eq_ofNat_of_zero_le (a := i % 94) (by omega)
  have hlt : j < z.cps.toList.length := by omega
  refine ⟨z, _, z.cps.toList[j], rfl, rfl, by rw [h1]; decide, by rw [hj]; exact atI_nat (List.getElem?_eq_getElem hlt), k _ (TOk.one ?_) rfl⟩
  unfold PyData.strOk at h2
  rw [← Array.all_toList, List.all_eq_true] at h2
  exact of_decide_eq_true (h2 _ (List.getElem_mem hlt))
theorem ok_sign {f : Addr} {fd : FuncData} (F : Fun K "_law_sign" "_law_sign" s_sign f fd) : FnOk P w K mg base CX0 1 f fd p_sign spSign := by
  refine F.ok sc_sign (fun vs H Q E h => ?_) (fun cdv A outer s H vs Q E hr h => ?_)
  · obtain ⟨c, rfl, _⟩ := h
    rfl
  · obtain ⟨c, rfl, k⟩ := h
    refine ⟨_, pss_cons (ps_set (i := 1) sc_sign.nd rfl (Or.inl rfl) pe_str) (pss_cons (ps_set (i := 1) sc_sign.nd rfl (Or.inl rfl) (pe_op op_add_str (pv 1) pe_str))
      (pss_one (ps_ret (pe_ix ix_str (pv 1) (pe_op op_mod (pv 0) pe_int) (fun _ _ => rfl))))), ?_⟩
    refine ⟨_, rfl, _, _, rfl, rfl, (by decide +kernel), ?_⟩
    refine ⟨_, rfl, _, rfl, _, _, rfl, rfl, (by show (0 : Int) < 94; decide), ?_⟩
    exact sign_go (by decide +kernel) (by decide +kernel) k
theorem join_full : ∀ {ys : List Str}, (∀ y ∈ ys, y.length = 1) → (Str.join "" ys).length = ys.length
  | [], _ => rfl
  | [x], h => h x List.mem_cons_self
  | x :: z :: r, h => by
    have a := h x List.mem_cons_self
    have b := join_full (ys := z :: r) fun y hy => h y (List.mem_cons_of_mem _ hy)
    show ((x ++ ("" : Str)) ++ Str.join "" (z :: r)).length = _
    have lap : ∀ x y : Str, (x ++ y).length = x.length + y.length := fun x y => by
      have e : tl (x ++ y) = tl x ++ tl y := TL.tl_append x y
      rw [← tl_len, e, List.length_append, tl_len, tl_len]
    rw [lap, lap, a, b]
    show 1 + 0 + _ = _
    simp only [List.length_cons]
    omega
theorem ok_text {f : Addr} {fd : FuncData} (F : Fun K "_law_text" "_law_text" s_text f fd) (T : LTxt mg) (D1 : Def P w K mg base "_law_sign" 1 p_sign spSign) : FnOk P w K mg base CX0 2 f fd p_text spText := by
  obtain ⟨fS, fdS, gS, kS, bS, GS⟩ := D1.ex
  refine F.ok sc_text (fun vs H Q E h => ?_) (fun cdv A outer s H vs Q E hr h => ?_)
  · obtain ⟨c, n, rfl, _⟩ := h
    rfl
  · obtain ⟨c, n, rfl, n0, n1, k⟩ := h
    refine ⟨_, pss_one (ps_ret (pe_join pe_str (pe_lc (own := [("_law_k", 2)]) (g := gName 2) rfl sc_text.nd (pi_range1 (by rfl) T.range (pa_cons (pv 1) pa_nil)) (blkOk_by (own := [("_law_k", 2)]) (N := n_text) (sc := defScope s_text) (by decide +kernel))
      (fun _ _ _ _ _ => pg_name (i := 2) sc_text.nd rfl (Or.inl rfl) (Or.inr rfl)) (fun _ _ _ _ _ => pts_nil)
      (fun _ _ _ _ _ => pe_call GS hr rfl gS kS bS .nil pass0 (pa_cons (pe_op op_add (pv 0) (pe_op op_mul (pe_op op_mul pe_int (pv 2)) (pv 2))) pa_nil))))), ?_⟩
    refine ⟨⟨_, rfl⟩, _, rfl, n, rfl, by omega, by omega, fun D hD => ?_⟩
    refine lc_range (lo := 0) (n := n.toNat) (fun i H' => ∃ ys : List Str, Same H H' ∧ H' D = some (.lst (ys.map V.str)) ∧ ys.length = i ∧ (∀ y ∈ ys, TOk 1 y) ∧ ∀ y ∈ ys, y.length = 1) ⟨[], same_new hD, upd_same, rfl, (fun y hy => by cases hy), fun y hy => by cases hy⟩ ?_ ?_
    · rintro i H1 hi ⟨ys, hs, hl, len, ok, one⟩
      refine ⟨rfl, _, rfl, _, rfl, _, _, rfl, rfl, .inl ⟨by decide, by decide⟩, _, rfl, _, _, rfl, rfl, .inl ⟨by omega, by omega⟩, _, _, rfl, rfl, _, rfl, fun z hz hz1 => ?_⟩
      refine ⟨_, hl, by rw [List.length_map]; exact small1000 (by omega), ys ++ [z], fun b o e => ?_, by rw [upd_same, List.map_append]; rfl, by rw [List.length_append, len]; rfl, fun y hy => ?_, fun y hy => ?_⟩
      · rw [upd_ne (ne_of_none e hD)]; exact hs b o e
      · rcases List.mem_append.mp hy with hy | hy
        · exact ok y hy
        · rw [List.mem_singleton.mp hy]; exact hz
      · rcases List.mem_append.mp hy with hy | hy
        · exact one y hy
        · rw [List.mem_singleton.mp hy]; exact hz1
    · rintro H1 ⟨ys, hs, hl, len, ok, one⟩
      refine ⟨_, D, ys, rfl, rfl, .inl (SqL.of hl), Nat.le_trans (join_len ok) (by omega), ?_⟩
      rw [TL.join_eq]
      refine k _ _ ?_ ?_ hs
      · rw [← len]
        exact join_ok ok
      · rw [← len]
        exact join_full one
theorem ok_pool {f : Addr} {fd : FuncData} (F : Fun K "_law_pool" "_law_pool" s_pool f fd) (T : LTxt mg) (D1 : Def P w K mg base "_law_sign" 1 p_sign spSign) (D2 : Def P w K mg base "_law_text" 2 p_text spText) : FnOk P w K mg base CX0 3 f fd p_pool spPool := by
  obtain ⟨fS, fdS, gS, kS, bS, GS⟩ := D1.ex
  obtain ⟨fT, fdT, gT, kT, bT, GT⟩ := D2.ex
  refine F.ok sc_pool (fun vs H Q E h => ?_) (fun cdv A outer s H vs Q E hr h => ?_)
  · obtain ⟨c, o, rfl, _⟩ := h
    rfl
  · obtain ⟨c, o, rfl, k⟩ := h
    have hr1 : Room 1 _ := hr.mono (by decide)
    refine ⟨_, pss_cons (ps_set (i := 2) sc_pool.nd rfl (Or.inl rfl) (pe_call GT hr rfl gT kT bT .nil pass0 (pa_cons (pv 0) (pa_cons (pe_ix ix_list (pe_lst (pa_cons (pe_op op_add pe_int (pe_op op_mod (pv 0) pe_int)) (pa_cons (pe_op op_add pe_int (pe_op op_mod (pv 0) pe_int)) pa_nil)))
          (pe_op op_mod (pe_op op_fdiv (pv 0) pe_int) pe_int) (fun _ _ => rfl)) pa_nil))))
      (pss_cons (ps_set (i := 3) sc_pool.nd rfl (Or.inl rfl) (pe_call GS hr1 rfl gS kS bS .nil pass0 (pa_cons (pv 1) pa_nil)))
      (pss_cons (ps_set (i := 4) sc_pool.nd rfl (Or.inl rfl) (pe_call GS hr1 rfl gS kS bS .nil pass0 (pa_cons (pe_op op_fdiv (pv 1) pe_int) pa_nil)))
      (pss_cons (ps_set (i := 5) sc_pool.nd rfl (Or.inl rfl) (pe_op op_mod (pe_op op_fdiv (pv 1) pe_int) (pe_op op_add (pe_callB call_len_str (by rfl) T.len PySem.boot_len (pa_cons (pv 2) pa_nil)) pe_int)))
      (pss_one (ps_ret (pe_lst (pa_cons (pv 2) (pa_cons (pe_op op_add_str (pv 2) (pv 3)) (pa_cons (pe_op op_add_str (pe_op op_add_str (pe_slice sl_str (pv 2) po_none (po_some (pv 5))) (pv 4)) (pe_slice sl_str (pv 2) (po_some (pv 5)) po_none))
        (pa_cons (pv 3) (pa_cons (pe_op op_add_str (pv 4) (pv 2)) (pa_cons (pe_call GT hr rfl gT kT bT .nil pass0 (pa_cons (pv 1) (pa_cons (pe_op op_sub pe_int (pe_op op_mod (pv 1) pe_int)) pa_nil))) pa_nil)))))))))))), ?_⟩
    refine ⟨_, rfl, _, rfl, _, _, rfl, rfl, (by show (0 : Int) < 4; decide), _, _, rfl, rfl, _, rfl, _, _, rfl, rfl, (by show (0 : Int) < 18; decide), _, _, rfl, rfl, (by show 2 ≤ sizeLine; decide), fun l hl => ?_⟩
    obtain ⟨n, hn, e⟩ := at_ints (ns := [1 + c % 4, 1 + c % 18]) (z := c / 4 % 2) (by omega) (by show c / 4 % 2 < 2; omega)
    have hn1 : 1 ≤ n ∧ n ≤ 18 := by
      simp only [List.mem_cons, List.not_mem_nil, or_false] at hn
      omega
    refine ⟨_, rfl, _, _, rfl, rfl, ⟨by decide, by decide⟩, _, _, rfl, rfl, (by show (0 : Int) < 2; decide), l, _, _, _, rfl, rfl, SqL.of upd_same, e, c, n, rfl, by omega, by omega, fun z1 H1 t1 l1 s1 => ?_⟩
    have t1 : TOk 18 z1 := t1.mono (by omega)
    refine ⟨_, rfl, _, rfl, fun z2 t2 _ => ?_⟩
    refine ⟨_, rfl, _, _, rfl, rfl, ⟨by decide, by decide⟩, _, rfl, fun z3 t3 _ => ?_⟩
    refine ⟨_, rfl, _, _, rfl, rfl, ⟨by decide, by decide⟩, _, rfl, _, rfl, t1.line (by decide), _, _, rfl, rfl, _, _, rfl, rfl, ?_, ?_⟩
    · show (0 : Int) < (z1.length : Int) + 1
      omega
    have c1 := t1.cut none (some (o / 8836 % ((z1.length : Int) + 1)))
    have c2 := t1.cut (some (o / 8836 % ((z1.length : Int) + 1))) none
    have a1 := (c1.app t3).app c2
    have a2 := t1.app t2
    have a3 := t3.app t1
    have L1 : ∀ {x y : Str} {n m : Nat}, TOk n x → TOk m y → n + m ≤ 1000 → x.length + y.length ≤ sizeLine := fun {x y n m} a b h => by
      have := a.le
      have := b.le
      exact Nat.le_of_lt (small1000 (by omega))
    refine ⟨_, rfl, _, rfl, _, rfl, _, _, rfl, rfl, L1 t1 t2 (by decide), ?_⟩
    refine ⟨_, rfl, _, rfl, _, rfl, _, rfl, t1.line (by decide), _, rfl, _, _, rfl, rfl, L1 c1 t3 (by decide), ?_⟩
    refine ⟨_, rfl, _, rfl, _, rfl, _, rfl, t1.line (by decide), _, _, rfl, rfl, L1 (c1.app t3) c2 (by decide), ?_⟩
    refine ⟨_, rfl, _, rfl, _, rfl, _, _, rfl, rfl, L1 t3 t1 (by decide), ?_⟩
    refine ⟨_, rfl, _, rfl, _, _, rfl, rfl, (by show (0 : Int) < 3; decide), _, _, rfl, rfl, o, 20 - o % 3, rfl, by omega, by omega, fun z4 H2 t4 _ s2 => ?_⟩
    refine ⟨(by show 6 ≤ sizeLine; decide), fun q hq => ?_⟩
    have s0 : Same H H2 := fun b u e => s2 _ _ (s1 _ _ (same_new hl _ _ e))
    refine k q [z1, z1 ++ z2, cutS z1 none (some (o / 8836 % ((z1.length : Int) + 1))) ++ z3 ++ cutS z1 (some (o / 8836 % ((z1.length : Int) + 1))) none, z2, z3 ++ z1, z4] _ (s0.free hq) upd_same rfl (fun z hz => ?_) (fun z hz => ?_) fun b u e => ?_
    · simp only [List.mem_cons, List.not_mem_nil, or_false] at hz
      rcases hz with rfl | rfl | rfl | rfl | rfl | rfl
      · exact t1.mono (by decide)
      · exact a2.mono (by decide)
      · exact a1.mono (by decide)
      · exact t2.mono (by decide)
      · exact a3.mono (by decide)
      · exact t4.mono (by omega)
    · cases hz
      rw [l1]
      omega
    · rw [upd_ne (ne_of_none (s0 _ _ e) hq)]; exact s0 _ _ e
theorem ok_prefix {f : Addr} {fd : FuncData} (F : Fun K "_law_prefix" "_law_prefix" s_prefix f fd) : FnOk P w K mg base CX0 1 f fd p_prefix spPrefix := by
  refine F.ok sc_prefix (fun vs H Q E h => ?_) (fun cdv A outer s H vs Q E hr h => ?_)
  · obtain ⟨q, zs, c, rfl, _⟩ := h
    rfl
  · obtain ⟨q, zs, c, rfl, hq, hl, ok, k⟩ := h
    obtain ⟨z0, z1, z2, z3, z4, z5, rfl⟩ : ∃ z0 z1 z2 z3 z4 z5, zs = [z0, z1, z2, z3, z4, z5] := by
      match zs, hl with
      | [z0, z1, z2, z3, z4, z5], _ => exact ⟨z0, z1, z2, z3, z4, z5, rfl⟩
    have o4 := ok z4 (by simp)
    refine ⟨_, pss_one (ps_ret (pe_ix ix_list (pe_lst (pa_cons pe_str (pa_cons pe_str (pa_cons (pe_ix ix_list (pv 0) pe_int (fun _ _ => rfl)) (pa_cons (pe_ix ix_list (pv 0) pe_int (fun _ _ => rfl)) (pa_cons (pe_ix ix_list (pv 0) pe_int (fun _ _ => rfl))
      (pa_cons (pe_slice sl_str (pe_ix ix_list (pv 0) pe_int (fun _ _ => rfl)) po_none (po_some pe_int)) (pa_cons (pe_ix ix_list (pv 0) pe_int (fun _ _ => rfl)) pa_nil))))))))
      (pe_op op_mod (pv 1) pe_int) (fun _ _ => rfl))), ?_⟩
    refine ⟨_, rfl, q, _, 0, .str z0, rfl, rfl, SqL.of hq, rfl, _, rfl, q, _, 3, .str z3, rfl, rfl, SqL.of hq, rfl, _, rfl, q, _, 1, .str z1, rfl, rfl, SqL.of hq, rfl, _, rfl, q, _, 4, .str z4, rfl, rfl, SqL.of hq, rfl, _, rfl, _, rfl, o4.line (by decide),
      _, rfl, q, _, 5, .str z5, rfl, rfl, SqL.of hq, rfl, (by show 7 ≤ sizeLine; decide), fun l hl => ?_⟩
    obtain ⟨z, hz, e⟩ := at_strs (ns := ["", "", z0, z3, z1, cutS z4 none (some 1), z5]) (z := c % 7) (by omega) (by show c % 7 < 7; omega)
    refine ⟨_, rfl, _, _, rfl, rfl, (by show (0 : Int) < 7; decide), l, _, _, _, rfl, rfl, SqL.of upd_same, e, ?_⟩
    refine k z _ ?_ (same_new hl)
    simp only [List.mem_cons, List.not_mem_nil, or_false] at hz
    rcases hz with rfl | rfl | rfl | rfl | rfl | rfl | rfl
    · exact TOk.nil.mono (by decide)
    · exact TOk.nil.mono (by decide)
    · exact ok _ (by simp)
    · exact ok _ (by simp)
    · exact ok _ (by simp)
    · exact o4.cut _ _
    · exact ok _ (by simp)
end
end KL

namespace KB
open PySem L2 L2H LX
/-! ### a line: a watcher of a room, and an ear with the same start -/
abbrev nsLine : List Str := ["_room", "watcher", "ear"]
def LnAt (C : Addr) (H : Hp) (p pr : Addr) (n : Int) (e : Addr) : Prop := ∃ dx, H p = some (.ins C dx (nsLine.zip [.ref pr, .int n, .ref e]))
/-- what of a row comes to the ear -/
def arriveM (row : List Row) (luck : Int) : List Row := if luck = 1 then [] else if luck = 3 then row.take (row.length / 2) else row
/-- a line is put in: refused where its start is, else its watcher and its ear stand -/
def spLnInit (C : Addr) (kk : Kinds) (Rs : RsT) (Er : ErT) : Sp := fun vs H Q E => ∃ (p dx pr : Addr) (z : Str) (st : Int) (pv : V) (gv : KVs) (F : List Addr) (s : Rm), vs = [.ref p, .ref pr, .str z, .int st, pv] ∧ H p = some (.ins C dx []) ∧ Rs F H pr s ∧ p ∉ F ∧ TOk 60 z ∧ Fits s ∧
  (gv.map (·.1)).Nodup ∧ (∀ x ∈ gv, PairOk x) ∧ gv.length ≤ 200 ∧ ((pv = .non ∧ gv = []) ∨ ∃ q ts, pv = .ref q ∧ q ∉ F ∧ q ≠ p ∧ (H q = some (.lst (ts.map V.ref)) ∨ H q = some (.tup (ts.map V.ref))) ∧ PairsAt H ts gv) ∧
  (st < (s.gone : Int) + 1 ∨ (s.rows.length : Int) + 1 < st → ∀ F' H', Rs F' H' pr s → Grow F F' H → Ch H H' (p :: F) → E (.ref kk.NS) none H') ∧
  ((s.gone : Int) + 1 ≤ st → st ≤ (s.rows.length : Int) + 1 → ∀ F' Fe e H', Rs F' H' pr { s with met := s.met + 1, wat := setF s.wat ((s.met : Int) + 1) (some ⟨z, st - 1, st - 1⟩) } → LnAt C H' p pr ((s.met : Int) + 1) e → Er Fe H' e st gv [] →
    Grow F F' H → (∀ a ∈ Fe, H a = none) → (∀ a ∈ Fe, a ∉ F') → p ∉ F' → Ch H H' (p :: F) → Q .non H')
/-- a turn -/
def spLnTurn (C : Addr) (kk : Kinds) (Rs : RsT) (Er : ErT) : Sp := fun vs H Q E => ∃ (p pr e : Addr) (n most luck : Int) (F Fe : List Addr) (s : Rm) (b : Int) (gv : KVs) (tk : List Row), vs = [.ref p, .int most, .int luck] ∧ LnAt C H p pr n e ∧ Rs F H pr s ∧ Er Fe H e b gv tk ∧ p ∉ F ∧ p ∉ Fe ∧ (∀ a ∈ Fe, a ∉ F) ∧ Fits s ∧ 0 ≤ most ∧
  gv.length + tk.length + s.rows.length ≤ 990 ∧ (∀ r ∈ s.rows, GoodR r) ∧
  (s.wat n = none → ∀ F' H', Rs F' H' pr s → Grow F F' H → Ch H H' F → E (.ref kk.NW) none H') ∧
  ∀ w, s.wat n = some w → ∀ F' Fe' H' s' w', (luck = 0 → w' = { w with told := toldW s w most, had := toldW s w most }) → (luck ≠ 0 → w' = { w with told := w.had }) →
    s' = { s with wat := setF (setF s.wat n (some { w with told := toldW s w most })) n (some w') } → Rs F' H' pr s' → Er Fe' H' e b gv (takeM b tk (arriveM (dueW s w most) luck)) → LnAt C H' p pr n e →
    Grow F F' H → Grow Fe Fe' H → (∀ a ∈ Fe', a ∉ F') → p ∉ F' → p ∉ Fe' → Ch H H' (F ++ Fe) → Q (.int (((takeM b tk (arriveM (dueW s w most) luck)).length : Int) - tk.length)) H'
end KB

namespace KL
open PySem L2 L2H LX KB
/-! ### the program's line: what of a row comes to the ear -/
def spArr : Sp := fun vs H Q _ => ∃ (q : Addr) (ts : List Addr) (rs : List Row) (luck : Int), vs = [.ref q, .int luck] ∧ H q = some (.lst (ts.map V.ref)) ∧ RowsAt H ts rs ∧
  ∀ q' ts' H', H' q' = some (.lst (ts'.map V.ref)) → RowsAt H' ts' (arriveM rs luck) → Same H H' → (q' = q ∨ H q' = none) → Q (.ref q') H'
section
variable {P : Program} {w : World} {K : PySem.W.Frag} {mg : Str → Option Value} {base : Heap}
theorem ok_arriving {f : Addr} {fd : FuncData} {t1 t3 : Tok} (F : Fun K "arriving" "arriving" s_arriving f fd) (gR : mg "ROW_LOST" = some (.int 1 t1)) (gB : mg "BROKEN_MIDST" = some (.int 3 t3)) (ml : mg "len" = none) : FnOk P w K mg base CX0 1 f fd p_arriving spArr := by
  refine F.ok sc_arriving (fun vs H Q E h => ?_) (fun cdv A outer s H vs Q E hr h => ?_)
  · obtain ⟨q, ts, rs, luck, rfl, _⟩ := h
    rfl
  · obtain ⟨q, ts, rs, luck, rfl, hq, mq, k⟩ := h
    refine ⟨_, pss_cons (ps_if (pt_cmpR op_eq (pv 1) (pe_glob (v := V.int 1) rfl gR ⟨_, rfl⟩) (nomark _)) (pss_one (ps_ret (pe_lst pa_nil))) pss_nil)
      (pss_cons (ps_if (pt_cmpR op_eq (pv 1) (pe_glob (v := V.int 3) rfl gB ⟨_, rfl⟩) (nomark _)) (pss_one (ps_ret (pe_slice sl_list (pv 0) po_none (po_some (pe_op op_fdiv (pe_callB call_len_seq (by rfl) ml PySem.boot_len (pa_cons (pv 0) pa_nil)) pe_int))))) pss_nil)
      (pss_one (ps_ret (pv 0)))), ?_⟩
    refine ⟨_, rfl, rfl, _, rfl, ?_⟩
    by_cases c1 : luck = 1
    · rw [decide_eq_true (congrArg V.int c1)]
      refine iteT ⟨(by show 0 ≤ sizeLine; decide), fun l hl => k l [] _ upd_same ?_ (same_new hl) (.inr hl)⟩
      unfold arriveM
      rw [if_pos c1]
      exact .nil
    rw [decide_eq_false fun z => c1 (V.int.inj z)]
    refine iteF ⟨_, rfl, rfl, _, rfl, ?_⟩
    by_cases c3 : luck = 3
    · rw [decide_eq_true (congrArg V.int c3)]
      refine iteT ⟨_, rfl, _, rfl, q, _, rfl, .inl (SqL.of hq), _, _, rfl, rfl, ⟨by decide, by decide⟩, _, rfl, q, _, rfl, SqL.of hq, fun l hl => ?_⟩
      have e : ((((ts.map V.ref).length : Nat) : Int) / 2).toNat = rs.length / 2 := by
        rw [List.length_map, Paired.length mq]
        omega
      rw [cutV_upto _ (by omega), ← List.map_take, e]
      have s1 := same_new (o := .lst ((ts.take (rs.length / 2)).map V.ref)) hl
      refine k l _ _ upd_same ?_ s1 (.inr hl)
      unfold arriveM
      rw [if_neg c1, if_pos c3]
      exact (mq.take _).keep fun a xs e => s1 _ _ e
    rw [decide_eq_false fun z => c3 (V.int.inj z)]
    refine iteF ⟨_, rfl, ?_⟩
    refine k q ts H hq ?_ (Same.refl H) (.inl rfl)
    unfold arriveM
    rw [if_neg c1, if_neg c3]
    exact mq
theorem mk_same {C : Addr} {H H' : Hp} {x dx : Addr} (nx : H x = none) (ndx : H dx = none) (c : Ch (upd (upd H dx (.own x)) x (.ins C dx [])) H' [x]) : Same H H' ∧ Same H (upd (upd H dx (.own x)) x (.ins C dx [])) := by
  have s0 : Same H (upd (upd H dx (.own x)) x (.ins C dx [])) := fun b o e => by
    rw [upd_ne (ne_of_none e nx), upd_ne (ne_of_none e ndx)]; exact e
  exact ⟨fun b o e => c.at (s0 _ _ e) fun z => ne_of_none e nx (List.mem_singleton.mp z), s0⟩
structure LineT (K : PySem.W.Frag) (C : Addr) : Prop where
  cl : Cls K C
  n0 : NoAttr K C "_room"
  n1 : NoAttr K C "watcher"
  n2 : NoAttr K C "ear"
theorem ok_Line_init {f fW fE CL CR CE : Addr} {fd fdW fdE : FuncData} {psW psE : List Str} {kk : Kinds} {Rs : RsT} {Er : ErT} (F : FunD K "__init__" "Line.__init__" (defArgs s_Line_init) (defBody s_Line_init) (defScope s_Line_init) [.non] [] f fd) (T : LineT K CL) (clR : Cls K CR)
    (rfr : ∀ {F H H' p s l}, Rs F H p s → Ch H H' l → (∀ a ∈ F, a ∉ l) → Rs F H' p s) (rown : ∀ {F H p s}, Rs F H p s → ∀ a ∈ F, ∃ o, H a = some o) (rin : ∀ {F H p s}, Rs F H p s → p ∈ F ∧ ∃ dx fs, H p = some (.ins CR dx fs) ∧ fs.lookup ("watch" : Str) = none)
    (efr : ∀ {F H H' p b gv tk l}, Er F H p b gv tk → Ch H H' l → (∀ a ∈ F, a ∉ l) → Er F H' p b gv tk) (eown : ∀ {F H p b gv tk}, Er F H p b gv tk → ∀ a ∈ F, ∃ o, H a = some o) (ein : ∀ {F H p b gv tk}, Er F H p b gv tk → p ∈ F)
    (mW : Meth K CR "watch" fW) (bW : Binds K fdW psW []) (GW : FnOk P w K mg base (L2.CX P w) 8 fW fdW psW (spRWatch kk Rs)) (gE : mg "Ear" = some (.ref CE)) (ME : Mk K CE fE) (bE : Binds K fdE psE []) (GE : FnOk P w K mg base CX0 4 fE fdE psE (spEarInit K CE Er)) :
    FnOk P w K mg base (L2.CX P w) 9 f fd p_Line_init (spLnInit CL kk Rs Er) := by
  refine F.ok sc_Line_init (fun vs H Q E h => ?_) (fun cdv A outer s H vs Q E hr h => ?_)
  · obtain ⟨p, dx, pr, z, st, pv, gv, Fo, s, rfl, _⟩ := h
    rfl
  · obtain ⟨p, dx, pr, z, st, pvv, gv, Fo, r, rfl, hp, R0, pF, oz, fit, gn, go, gl, hpv, kb, k⟩ := h
    refine ⟨_, pss_cons (ps_fld (pv 0) (pv 1) rfl) (pss_cons (ps_fld (pv 0) (pe_meth (E := E) (pv 1) clR mW GW hr bW .nil (passes_call (takes_of rfl rfl rfl rfl) (fun _ _ _ _ h => h)) (pa_cons (pv 2) (pa_cons (pv 3) pa_nil))) rfl)
      (PSs.nox (pss_one (ps_fld (pv 0) (pe_make (E := E0) ME GE (hr.mono (by decide)) rfl gE bE .nil pass0 (pa_cons (pv 3) (pa_cons (pv 4) pa_nil))) rfl)))), ?_⟩
    refine ⟨_, rfl, _, rfl, p, CL, dx, [], rfl, hp, T.cl, T.n0, (by show 0 < 1000; decide), ?_⟩
    have nt : ∀ fs : List (Str × V), ∀ xs, HO.ins CL dx fs ≠ .tup xs := fun fs xs z => by cases z
    have c1 : Ch H (upd H p (.ins CL dx (putF "_room" (.ref pr) []))) [p] := (Ch.refl _ _).mut (List.mem_singleton.mpr rfl) hp (nt _)
    have hp1 : upd H p (.ins CL dx (putF "_room" (.ref pr) [])) p = some (.ins CL dx (putF "_room" (.ref pr) [])) := upd_same
    generalize upd H p (.ins CL dx (putF "_room" (.ref pr) [])) = H1 at c1 hp1 ⊢
    have R1 := rfr R0 c1 fun a ha z => pF (by rw [← List.mem_singleton.mp z]; exact ha)
    obtain ⟨_, dxr, fsr, hobr, hfsr⟩ := rin R1
    refine ⟨_, rfl, pr, dxr, fsr, rfl, hobr, hfsr, _, rfl, _, rfl, Fo, pr, z, st, r, rfl, R1, oz, fit, fun bad F2 H2 R2 gr2 c2 => ?_, fun h1 h2 F2 H2 R2 gr2 c2 => ?_⟩
    · exact kb bad F2 H2 R2 (fun a ha => (gr2 a ha).imp id fun e => c1.none a e) ((c1.mono fun a ha => by rw [List.mem_singleton.mp ha]; exact List.mem_cons_self).trans (c2.mono fun a ha => List.mem_cons_of_mem _ ha))
    have hp2 := c2.at hp1 pF
    have pF2 : p ∉ F2 := fun z => by
      rcases gr2 p z with z | z
      · exact pF z
      · rw [hp1] at z; cases z
    refine ⟨_, rfl, p, CL, dx, _, rfl, hp2, T.cl, T.n1, (by show 1 < 1000; decide), ?_⟩
    have c3 : Ch H2 (upd H2 p (.ins CL dx (putF "watcher" (.int ((r.met : Int) + 1)) (putF "_room" (.ref pr) [])))) [p] := (Ch.refl _ _).mut (List.mem_singleton.mpr rfl) hp2 (nt _)
    have hp3 : upd H2 p (.ins CL dx (putF "watcher" (.int ((r.met : Int) + 1)) (putF "_room" (.ref pr) []))) p = some (.ins CL dx (putF "watcher" (.int ((r.met : Int) + 1)) (putF "_room" (.ref pr) []))) := upd_same
    generalize upd H2 p (.ins CL dx (putF "watcher" (.int ((r.met : Int) + 1)) (putF "_room" (.ref pr) []))) = H3 at c3 hp3 ⊢
    have R3 := rfr R2 c3 fun a ha z => pF2 (by rw [← List.mem_singleton.mp z]; exact ha)
    have c03 : Ch H H3 (p :: Fo) := ((c1.mono fun a ha => by rw [List.mem_singleton.mp ha]; exact List.mem_cons_self).trans (c2.mono fun a ha => List.mem_cons_of_mem _ ha)).trans (c3.mono fun a ha => by rw [List.mem_singleton.mp ha]; exact List.mem_cons_self)
    refine ⟨_, rfl, _, rfl, fun e de ne nde nee => ⟨e, de, st, gv, pvv, rfl, upd_same, by omega, gn, go, gl, ?_, fun Fe H5 E5 fe c5 => ⟨rfl, ?_⟩⟩⟩
    · have sx : Same H3 (upd (upd H3 de (.own e)) e (.ins CE de [])) := fun b o q => by
        rw [upd_ne (ne_of_none q ne), upd_ne (ne_of_none q nde)]; exact q
      rcases hpv with h | ⟨q, ts, rfl, qF, qp, hq, mq⟩
      · exact .inl h
      · have qn : q ∉ p :: Fo := fun z => by
          rcases List.mem_cons.mp z with z | z
          · exact qp z
          · exact qF z
        exact .inr ⟨q, ts, rfl, hq.imp (fun h => SqL.of (sx _ _ (c03.at h qn))) (fun h => SqT.of (sx _ _ (c03.at h qn))), (mq.keep c03.tup).keep fun b xs q => sx _ _ q⟩
    obtain ⟨s35, s3x⟩ := mk_same ne nde c5
    have hp5 := s35 _ _ hp3
    refine ⟨_, rfl, p, CL, dx, _, rfl, hp5, T.cl, T.n2, (by show 2 < 1000; decide), ?_⟩
    have c6 : Ch H5 (upd H5 p (.ins CL dx (nsLine.zip [.ref pr, .int ((r.met : Int) + 1), .ref e]))) [p] := (Ch.refl _ _).mut (List.mem_singleton.mpr rfl) hp5 (nt _)
    have ef : putF "ear" (V.ref e) (putF "watcher" (.int ((r.met : Int) + 1)) (putF "_room" (.ref pr) [])) = nsLine.zip [.ref pr, .int ((r.met : Int) + 1), .ref e] := rfl
    rw [ef]
    have freshE : ∀ a ∈ Fe, H3 a = none := fun a ha => by
      rcases fe a ha with q | q
      · rw [q]; exact ne
      · exact s3x.free q
    have pFe : p ∉ Fe := fun z => by rw [freshE p z] at hp3; cases hp3
    have one : ∀ {l : List Addr}, p ∉ l → ∀ a ∈ l, a ∉ [p] := fun n a ha z => n (by rw [← List.mem_singleton.mp z]; exact ha)
    have R6 := rfr (rfr R3 (Ch.of s35 []) (fun _ _ z => nomatch z)) c6 (one pF2)
    refine k h1 h2 F2 Fe e _ R6 ⟨dx, upd_same⟩ (efr E5 c6 (one pFe)) (fun a ha => (gr2 a ha).imp id fun q => c1.none a q) (fun a ha => c03.none a (freshE a ha)) (fun a ha z => ?_) pF2 ((c03.same s35).trans (c6.mono fun a ha => by rw [List.mem_singleton.mp ha]; exact List.mem_cons_self))
    obtain ⟨o, q⟩ := rown R3 a z
    rw [freshE a ha] at q; cases q
end
end KL

namespace KL
open PySem L2 L2H LX KB
/-! ### the program's line: a turn -/
def spManyE (Er : ErT) : Sp := fun vs H Q _ => ∃ (F : List Addr) (p : Addr) (b : Int) (gv : KVs) (tk : List Row), vs = [.ref p] ∧ Er F H p b gv tk ∧ ∀ F' H', Er F' H' p b gv tk → Grow F F' H → Ch H H' F → Q (.int tk.length) H'
section
variable {P : Program} {w : World} {K : PySem.W.Frag} {mg : Str → Option Value} {base : Heap}
theorem ok_Line_turn {f fA fU fC fB fM fH CL CR CE : Addr} {fd fdA fdU fdC fdB fdM fdH : FuncData} {psU psC psB psM psH : List Str} {t0 : Tok} {kk : Kinds} {Rs : RsT} {Er : ErT} (F : Fun K "turn" "Line.turn" s_Line_turn f fd) (T : LineT K CL) (clR : Cls K CR) (clE : Cls K CE)
    (rfr : ∀ {F H H' p s l}, Rs F H p s → Ch H H' l → (∀ a ∈ F, a ∉ l) → Rs F H' p s) (rown : ∀ {F H p s}, Rs F H p s → ∀ a ∈ F, ∃ o, H a = some o) (rin : ∀ {F H p s}, Rs F H p s → ∃ dx fs, H p = some (.ins CR dx fs) ∧ fs.lookup ("pull" : Str) = none ∧ fs.lookup ("confirm" : Str) = none ∧ fs.lookup ("broken" : Str) = none)
    (efr : ∀ {F H H' p b gv tk l}, Er F H p b gv tk → Ch H H' l → (∀ a ∈ F, a ∉ l) → Er F H' p b gv tk) (eown : ∀ {F H p b gv tk}, Er F H p b gv tk → ∀ a ∈ F, ∃ o, H a = some o) (ein : ∀ {F H p b gv tk}, Er F H p b gv tk → ∃ dx fs, H p = some (.ins CE dx fs) ∧ fs.lookup ("many" : Str) = none ∧ fs.lookup ("hear" : Str) = none)
    (gA : mg "arriving" = some (.ref fA)) (kA : PySem.W.keepIn K (.ref fA) = true) (bA : Binds K fdA p_arriving []) (GA : FnOk P w K mg base CX0 1 fA fdA p_arriving spArr) (gW : mg "WELL" = some (.int 0 t0))
    (mU : Meth K CR "pull" fU) (bU : Binds K fdU psU []) (GU : FnOk P w K mg base (L2.CX P w) 8 fU fdU psU (spRWat kk Rs (fun ys => ∃ m : Int, ys = [.int m]) (thenPull Rs)))
    (mC : Meth K CR "confirm" fC) (bC : Binds K fdC psC []) (GC : FnOk P w K mg base (L2.CX P w) 8 fC fdC psC (spRWat kk Rs (fun ys => ys = []) (thenSet Rs fun w => some { w with had := w.told })))
    (mB : Meth K CR "broken" fB) (bB : Binds K fdB psB []) (GB : FnOk P w K mg base (L2.CX P w) 8 fB fdB psB (spRWat kk Rs (fun ys => ys = []) (thenSet Rs fun w => some { w with told := w.had })))
    (mM : Meth K CE "many" fM) (bM : Binds K fdM psM []) (GM : FnOk P w K mg base CX0 4 fM fdM psM (spManyE Er)) (mH : Meth K CE "hear" fH) (bH : Binds K fdH psH []) (GH : FnOk P w K mg base CX0 4 fH fdH psH (spEarHear Er)) :
    FnOk P w K mg base (L2.CX P w) 9 f fd p_Line_turn (spLnTurn CL kk Rs Er) := by
  refine F.okX sc_Line_turn (fun vs H Q E h => ?_) (fun cdv A outer s H vs Q E hr h => ?_)
  · obtain ⟨p, pr, e, n, most, luck, Fo, Fe, s, b, gv, tk, rfl, _⟩ := h
    rfl
  · obtain ⟨p, pr, e, n, most, luck, Fo, Fe, r, b, gv, tk, rfl, ⟨dx, hp⟩, R0, E0', pF, pFe, dj, fit, hm, hlen, good, kb, k⟩ := h
    have R : ∀ j, j ≤ 8 → Room j _ := fun j h => hr.mono h
    refine ⟨_, pss_cons (ps_set (i := 3) sc_Line_turn.nd rfl (Or.inl rfl) (pe_meth (E := E) (pe_fld (pv 0) rfl) clR mU GU hr bU .nil (passes_call (takes_of rfl rfl rfl rfl) (fun _ _ _ _ h => h)) (pa_cons (pe_fld (pv 0) rfl) (pa_cons (pv 1) pa_nil))))
      (PSs.nox (pss_cons (ps_set (i := 4) sc_Line_turn.nd rfl (Or.inl rfl) (pe_meth0 (E := E0) (pe_fld (pv 0) rfl) clE mM GM (R 4 (by decide)) bM .nil pass0))
      (pss_cons (ps_expr (pe_meth (E := E0) (pe_fld (pv 0) rfl) clE mH GH (R 4 (by decide)) bH .nil pass0 (pa_cons (pe_call GA (R 1 (by decide)) rfl gA kA bA .nil pass0 (pa_cons (pv 3) (pa_cons (pv 2) pa_nil))) pa_nil)))
      (C8.pss_cut (ps_if (pt_cmpR op_eq (pv 2) (pe_glob (v := V.int 0) rfl gW ⟨_, rfl⟩) (nomark _))
        (pss_one (ps_expr (pe_meth (E := E0) (pe_fld (pv 0) rfl) clR mC GC (R 8 (by decide)) bC .nil (passes_call takes0 (fun _ _ _ _ h => h)) (pa_cons (pe_fld (pv 0) rfl) pa_nil))))
        (pss_one (ps_expr (pe_meth (E := E0) (pe_fld (pv 0) rfl) clR mB GB (R 8 (by decide)) bB .nil (passes_call takes0 (fun _ _ _ _ h => h)) (pa_cons (pe_fld (pv 0) rfl) pa_nil)))))
      (pss_one (ps_ret (pe_op op_sub (pe_meth0 (E := E0) (pe_fld (pv 0) rfl) clE mM GM (R 4 (by decide)) bM .nil pass0) (pv 4)))))))), ?_⟩
    obtain ⟨dxr, fsr, hobr, hf1, _, _⟩ := rin R0
    refine ⟨_, rfl, p, CL, dx, _, _, rfl, hp, T.cl, T.n0, zf_get (i := 0) (by decide +kernel) rfl, pr, dxr, fsr, rfl, hobr, hf1, _, rfl, p, CL, dx, _, _, rfl, hp, T.cl, T.n1, zf_get (i := 1) (by decide +kernel) rfl, _, rfl, Fo, pr, n, _, r, rfl, ⟨most, rfl⟩, R0, fit, kb, fun wt hw => ⟨most, rfl, hm, fun F2 q ts H2 R2 gr2 c2 hq qF2 hqt mq => ?_⟩⟩
    have hp2 := c2.at hp pF
    have E2 := efr E0' c2 fun a ha => dj a ha
    have dj2 : ∀ a ∈ Fe, a ∉ F2 := fun a ha z => by
      rcases gr2 a z with z | z
      · exact dj a ha z
      · obtain ⟨o, q⟩ := eown E0' a ha
        rw [q] at z; cases z
    have pF2 : p ∉ F2 := fun z => by
      rcases gr2 p z with z | z
      · exact pF z
      · rw [hp] at z; cases z
    obtain ⟨dxe, fse, hobe, he1, _⟩ := ein E2
    refine ⟨_, rfl, p, CL, dx, _, _, rfl, hp2, T.cl, T.n2, zf_get (i := 2) (by decide +kernel) rfl, e, dxe, fse, rfl, hobe, he1, Fe, e, b, gv, tk, rfl, E2, fun Fe3 H3 E3 gr3 c3 => ?_⟩
    have hp3 := c3.at hp2 pFe
    have R3 := rfr R2 c3 fun a ha z => dj2 a z ha
    have qFe : q ∉ Fe := fun z => by
      obtain ⟨o, z⟩ := eown E0' q z
      rw [hq] at z; cases z
    have hq3 := c3.at hqt qFe
    have mq3 := mq.keep c3.tup
    have dj3 : ∀ a ∈ Fe3, a ∉ F2 := fun a ha z => by
      rcases gr3 a ha with y | y
      · exact dj2 a y z
      · obtain ⟨o, x⟩ := rown R2 a z
        rw [y] at x; cases x
    have pFe3 : p ∉ Fe3 := fun z => by
      rcases gr3 p z with z | z
      · exact pFe z
      · rw [hp2] at z; cases z
    have qFe3 : q ∉ Fe3 := fun z => by
      rcases gr3 q z with z | z
      · exact qFe z
      · rw [hqt] at z; cases z
    obtain ⟨dx3, fs3, hob3, _, he3⟩ := ein E3
    have gdue : ∀ x ∈ dueW r wt most, x ∈ r.rows := fun x hx => List.mem_of_mem_drop (List.mem_filter.mp (List.mem_of_mem_take hx)).1
    have ldue : (dueW r wt most).length ≤ r.rows.length := by
      unfold dueW wantedM
      rw [List.length_take]
      refine Nat.le_trans (Nat.min_le_right _ _) (Nat.le_trans (List.length_filter_le _ _) ?_)
      rw [List.length_drop]; omega
    have garr : ∀ {rs : List Row} {x : Row}, x ∈ arriveM rs luck → x ∈ rs := fun {rs x} h => by
      unfold arriveM at h
      by_cases c1 : luck = 1
      · rw [if_pos c1] at h; cases h
      rw [if_neg c1] at h
      by_cases c3 : luck = 3
      · rw [if_pos c3] at h; exact List.mem_of_mem_take h
      · rw [if_neg c3] at h; exact h
    have larr : ∀ {rs : List Row}, (arriveM rs luck).length ≤ rs.length := fun {rs} => by
      unfold arriveM
      by_cases c1 : luck = 1
      · rw [if_pos c1]; exact Nat.zero_le _
      rw [if_neg c1]
      by_cases c3 : luck = 3
      · rw [if_pos c3, List.length_take]; omega
      · rw [if_neg c3]; exact Nat.le_refl _
    refine ⟨_, rfl, p, CL, dx, _, _, rfl, hp3, T.cl, T.n2, zf_get (i := 2) (by decide +kernel) rfl, e, dx3, fs3, rfl, hob3, he3, _, rfl, _, rfl, q, ts, dueW r wt most, luck, rfl, hq3, mq3, fun q4 ts4 H4 hq4 mq4 s4 nq4 => ?_⟩
    have q4F : q4 ∉ Fe3 := by
      rcases nq4 with z | z
      · rw [z]; exact qFe3
      · intro y
        obtain ⟨o, x⟩ := eown E3 q4 y
        rw [z] at x; cases x
    have E4 := efr E3 (Ch.of s4 []) (fun _ _ z => nomatch z)
    have R4 := rfr R3 (Ch.of s4 []) (fun _ _ z => nomatch z)
    have hp4 := s4 _ _ hp3
    refine ⟨Fe3, e, q4, b, gv, tk, arriveM (dueW r wt most) luck, ts4, rfl, E4, hq4, q4F, mq4, fun x hx => good x (gdue x (garr hx)), by have := larr (rs := dueW r wt most); omega, fun Fe5 H5 E5 gr5 c5 => ?_⟩
    have hp5 := c5.at hp4 pFe3
    have R5 := rfr R4 c5 fun a ha z => dj3 a z ha
    have pFe5 : p ∉ Fe5 := fun z => by
      rcases gr5 p z with z | z
      · exact pFe3 z
      · rw [hp4] at z; cases z
    have dj5 : ∀ a ∈ Fe5, a ∉ F2 := fun a ha z => by
      rcases gr5 a ha with y | y
      · exact dj3 a y z
      · obtain ⟨o, x⟩ := rown R4 a z
        rw [y] at x; cases x
    have w5 : (pullM r n wt most).wat n = some { wt with told := toldW r wt most } := by
      show setF r.wat n _ n = _
      unfold setF
      rw [if_pos rfl]
    have fit5 : Fits (pullM r n wt most) := ⟨fit.rows, fit.given, fit.met⟩
    have c25 : Ch H H5 (Fo ++ Fe) := by
      have a1 : Ch H H2 (Fo ++ Fe) := c2.mono fun a ha => List.mem_append_left _ ha
      have a2 : Ch H H3 (Fo ++ Fe) := a1.trans (c3.mono fun a ha => List.mem_append_right _ ha)
      have a3 : Ch H H4 (Fo ++ Fe) := a2.same s4
      refine ⟨fun x o e2 nn => c5.st x o (a3.st x o e2 nn) ?_, fun x o e2 => let ⟨_, z⟩ := a3.th x o e2; c5.th _ _ z⟩
      rcases nn with nn | nn
      · refine .inl fun z => ?_
        rcases gr3 x z with z | z
        · exact nn (List.mem_append_right _ z)
        · obtain ⟨o2, y⟩ := c2.th x o e2
          rw [y] at z; cases z
      · exact .inr nn
    refine ⟨fun σ H' => σ = [some (.ref p), some (.int most), some (.int luck), some (.ref q), some (.int tk.length)] ∧ ∃ F6 s' w', (luck = 0 → w' = { wt with told := toldW r wt most, had := toldW r wt most }) ∧ (luck ≠ 0 → w' = { wt with told := wt.had }) ∧
        s' = { r with wat := setF (setF r.wat n (some { wt with told := toldW r wt most })) n (some w') } ∧ Rs F6 H' pr s' ∧ Grow F2 F6 H5 ∧ Ch H5 H' F2, ?_, ?_⟩
    · refine ⟨_, rfl, rfl, _, rfl, ?_⟩
      obtain ⟨dx5, fs5, hob5, _, hf2, hf3⟩ := rin R5
      by_cases c : luck = 0
      · rw [decide_eq_true (congrArg V.int c)]
        refine iteT ⟨_, rfl, p, CL, dx, _, _, rfl, hp5, T.cl, T.n0, zf_get (i := 0) (by decide +kernel) rfl, pr, dx5, fs5, rfl, hob5, hf2, _, rfl, p, CL, dx, _, _, rfl, hp5, T.cl, T.n1, zf_get (i := 1) (by decide +kernel) rfl, F2, pr, n, _, _, rfl, rfl, R5, fit5, (fun z => by rw [w5] at z; cases z), fun w6 e6 => ?_⟩
        rw [w5] at e6
        cases e6
        exact fun F6 H6 R6 gr6 c6 => ⟨rfl, F6, _, _, fun _ => rfl, fun z => absurd c z, rfl, R6, gr6, c6⟩
      · rw [decide_eq_false fun z => c (V.int.inj z)]
        refine iteF ⟨_, rfl, p, CL, dx, _, _, rfl, hp5, T.cl, T.n0, zf_get (i := 0) (by decide +kernel) rfl, pr, dx5, fs5, rfl, hob5, hf3, _, rfl, p, CL, dx, _, _, rfl, hp5, T.cl, T.n1, zf_get (i := 1) (by decide +kernel) rfl, F2, pr, n, _, _, rfl, rfl, R5, fit5, (fun z => by rw [w5] at z; cases z), fun w6 e6 => ?_⟩
        rw [w5] at e6
        cases e6
        exact fun F6 H6 R6 gr6 c6 => ⟨rfl, F6, _, _, fun z => absurd z c, fun _ => rfl, rfl, R6, gr6, c6⟩
    rintro σ H6 ⟨rfl, F6, s', w', e1, e2, es, R6, gr6, c6⟩
    have hp6 := c6.at hp5 pF2
    have E6 := efr E5 c6 dj5
    have pF6 : p ∉ F6 := fun z => by
      rcases gr6 p z with z | z
      · exact pF2 z
      · rw [hp5] at z; cases z
    have dj6 : ∀ a ∈ Fe5, a ∉ F6 := fun a ha z => by
      rcases gr6 a z with z | z
      · exact dj5 a ha z
      · obtain ⟨o, x⟩ := eown E5 a ha
        rw [x] at z; cases z
    obtain ⟨dx6, fs6, hob6, he6, _⟩ := ein E6
    refine ⟨_, rfl, p, CL, dx, _, _, rfl, hp6, T.cl, T.n2, zf_get (i := 2) (by decide +kernel) rfl, e, dx6, fs6, rfl, hob6, he6, Fe5, e, b, gv, _, rfl, E6, fun Fe7 H7 E7 gr7 c7 => ⟨_, rfl, _, _, rfl, rfl, ?_⟩⟩
    have R7 := rfr R6 c7 fun a ha z => dj6 a z ha
    have hp7 := c7.at hp6 pFe5
    have up : ∀ {a : Addr}, H5 a = none → H a = none := fun {a} z => c25.none a z
    have g5 : Grow Fe Fe5 H := fun a ha => by
      rcases gr5 a ha with z | z
      · rcases gr3 a z with y | y
        · exact .inl y
        · exact .inr (c2.none a y)
      · exact .inr (c2.none a (c3.none a (s4.free z)))
    have c56 : Ch H H6 (Fo ++ Fe) := by
      refine ⟨fun x o e2 nn => c6.st x o (c25.st x o e2 nn) ?_, fun x o e2 => let ⟨_, z⟩ := c25.th x o e2; c6.th _ _ z⟩
      rcases nn with nn | nn
      · refine .inl fun z => ?_
        rcases gr2 x z with z | z
        · exact nn (List.mem_append_left _ z)
        · rw [e2] at z; cases z
      · exact .inr nn
    refine k wt hw F6 Fe7 H7 s' w' e1 e2 es R7 E7 ⟨dx, hp7⟩ (fun a ha => ?_) (fun a ha => ?_) (fun a ha z => ?_) pF6 (fun z => ?_) ?_
    · rcases gr6 a ha with z | z
      · exact gr2 a z
      · exact .inr (up z)
    · rcases gr7 a ha with z | z
      · exact g5 a z
      · exact .inr (c56.none a z)
    · rcases gr7 a ha with y | y
      · exact dj6 a y z
      · obtain ⟨o, x⟩ := rown R6 a z
        rw [y] at x; cases x
    · rcases gr7 p z with z | z
      · exact pFe5 z
      · rw [hp6] at z; cases z
    · refine ⟨fun x o e2 nn => c7.st x o (c56.st x o e2 nn) ?_, fun x o e2 => let ⟨_, z⟩ := c56.th x o e2; c7.th _ _ z⟩
      rcases nn with nn | nn
      · refine .inl fun z => ?_
        rcases g5 x z with z | z
        · exact nn (List.mem_append_right _ z)
        · rw [e2] at z; cases z
      · exact .inr nn
end
end KL

/-! rules of our own: o.m(e, .., k = v) -/
namespace LX
open PySem PySem.Spec PyProof.Rows L2 L2H
def tMethN (C : Addr) (m : Str) (n nk : Nat) (sp : Sp) (gV : List V → List V → List V) (E : XK) (ta : TE) (t tk : TA) : TE := fun σ H Q => ta σ H fun x H1 => ∃ a dx fs, x = .ref a ∧ H1 a = some (.ins C dx fs) ∧ fs.lookup m = none ∧
  t σ H1 fun vs H2 => tk σ H2 fun zs H3 => (x :: vs).length = n ∧ zs.length = nk ∧ sp (gV (x :: vs) zs) H3 Q E
section
variable {X : Cx} {CX : CXT} {k n : Nat} {f C : Addr} {fd : FuncData} {ps ks : List Str} {sp : Sp} {E : XK} {m : Str} {pos apos : Pos} {e o : Expr} {es : List Expr} {kws : List Keyword} {ta : TE} {t tk : TA} {g : List Value → List Value → List Value} {gV : List V → List V → List V}
theorem pe_methN {pl : Sem Bool} (he : PE X o ta) (c : Cls X.K C) (hm : Meth X.K C m f) (F : FnOk X.prog X.w X.K X.mg X.base CX k f fd ps sp) (hr : Room k X.A) (hb : KBn X.K fd ps n ks g gV) (hx : Passes CX X E) (ha : PA X (e :: es) t) (hkw : PK X kws tk)
    (hall : (backToKw pos (keywordEach kws X.env)).all (·.1.isSome) = true := by rfl) (hks : (backToKw pos (keywordEach kws X.env)).filterMap (·.1) = ks := by rfl)
    (hst : starEach (e :: es) X.env = (false, eval e X.env) :: starEach es X.env := by rfl)
    (hpl : ((backTo pos (starEach (e :: es) X.env)).any (·.1) || (backToKw pos (keywordEach kws X.env)).any (·.1.isNone)) = false := by rfl)
    (ht : eval (.Call (.Attribute o m apos) (e :: es) kws pos) X.env = (do
      let ov ← eval o X.env
      standAt apos.atName
      let (f, first) ← holding [ov] (getMethod ov m pl)
      callWith pos f first (backTo pos (starEach (e :: es) X.env)) (backToKw pos (keywordEach kws X.env))) := by rfl) :
    PE X (.Call (.Attribute o m apos) (e :: es) kws pos) (tMethN C m n ks.length sp gV E ta t tk) := by
  refine ⟨fun pins s σ H Q I h => ?_⟩
  refine PySem.W.methodCall_KW (pl := pl) (thn (he.run pins s σ H _ I h) fun u s1 ⟨x, H1, I1, rx, a, dx, fs, ex, ea, l, q⟩ => ?_) ht
  subst ex
  obtain rfl : u = Value.ref a := rx
  refine getmeth_ok I1 ea c hm l ?_
  refine PySem.W.callWith_KW (first := [.ref a]) (h₀ := X.base) I.ok.mod.kin hm.kp hall (thn (ha.run pos pins s1 σ H1 _ I1 q) fun us s2 ⟨vs, H2, I2, r, q2⟩ => ?_) hpl hst
  refine thn (hkw.run pos pins s2 σ H2 _ I2 q2) fun ws s3 ⟨zs, H3, I3, rz, l1, l2, q3⟩ => ⟨I3.kIn, ?_⟩
  rw [hks]
  exact run_fnN (us := .ref a :: us) (vs := .ref a :: vs) F hr hb hx I3 (.cons rfl r) rz l1 l2 q3
end
end LX

namespace LX
open PySem PySem.Spec PyProof.Rows L2 L2H
/-! an instance is made where what its `__init__` raises may be caught -/
section
variable {X : Cx} {CX : CXT} {k n : Nat} {f C : Addr} {fd : FuncData} {ps ks : List Str} {sp : Sp} {x : Str} {p pos : Pos} {e : Expr} {es : List Expr} {kws : List Keyword} {t tk : TA}
theorem run_mk {E : XK} {pins : List (Addr × Obj)} {σ : St} {H : Hp} {s : Shared} {Q : VK} {us : List Value} {kw : List (Str × Value)} {lu : Addr → List Value} {lv : Addr → List V} (M : Mk X.K C f) (G : FnOk X.prog X.w X.K X.mg X.base CX k f fd ps sp) (room : Room (k + 1) X.A)
    (hb : ∀ y (z : Shared), X.K.In z.heap → BindsTo z fd ⟨Value.ref y :: us, kw⟩ (ps.zip (lu y))) (hv : ∀ y, Vals (lv y) (lu y)) (pass : PassesAt CX X σ E) (J : Inv X pins σ H s)
    (h : ∀ a b, H a = none → H b = none → b ≠ a → sp (lv a) (upd (upd H b (.own a)) a (.ins C b [])) (fun v G => v = .non ∧ Q (.ref a) G) E) : wpAny (model X.prog X.w) X.A (call (.ref C) us kw) (EP X pins σ Q) X.xe s := by
  have q := h _ s.heap.objs.size (J.hok.fresh (Nat.le_succ _)) (J.hok.fresh (Nat.le_refl _)) (Nat.ne_of_lt (Nat.lt_succ_self _))
  have J2 := Inv.made (C := C) J
  have body := G.run _ X.stack _ _ ⟨_ :: us, kw⟩ (lu _) _ _ E (room.make C us kw) (J2.env0.make C us kw) (hb _ _ J2.kIn) (hv _) q
  refine wpAny_call (make_map (f := f) J.kIn M.makes M.init (beq_iff_eq.mp M.fn) (codeAny_mono body fun r z w => ?_))
  match r, w with
  | .error y, w => exact pass pins _ _ y z J2 w
  | .ok (.ret u), w =>
    obtain ⟨v, G2, J3, rv, ev, w3⟩ := J2.after w
    subst ev
    exact ⟨rv, V.ref _, G2, J3, rfl, w3⟩
  | .ok .next, w => cases w
  | .ok .brk, w => cases w
  | .ok .cont, w => cases w
/-- tuple(xs), its rule by a name -/
def rTupOf (K : PySem.W.Frag) : List V → Hp → VK → Prop := fun xs H Q => ∃ p ys, xs = [.ref p] ∧
  ((SqL K H p ys ∧ ∀ l, H l = none → Q (.ref l) (upd H l (.tup ys))) ∨
    (SqT K H p ys ∧ Q (.ref p) H))
theorem call_tupOf : CallR X (.type "tuple") (rTupOf X.K) := call_tuple_of
/-- C(e, ..): what is given by place, and the defaults -/
def tMkE (C : Addr) (sp : Sp) (dvs : List V) (E : St → XK) (t : TA) : TE := fun σ H Q => t σ H fun vs H1 => ∀ a b, H1 a = none → H1 b = none → b ≠ a → sp (.ref a :: (vs ++ dvs)) (upd (upd H1 b (.own a)) a (.ins C b [])) (fun v G => v = .non ∧ Q (.ref a) G) (E σ)
theorem pe_mkE {E : St → XK} {ds : List Value} {dvs : List V} (M : Mk X.K C f) (G : FnOk X.prog X.w X.K X.mg X.base CX k f fd ps sp) (room : Room (k + 1) X.A) (hg : Gl X x) (hm : X.mg x = some (.ref C)) (hb : Binds X.K fd ps ds) (hd : Vals dvs ds) (pass : ∀ σ, PassesAt CX X σ (E σ))
    (ha : PA X (e :: es) t) (hdb : (x == ("__debug__" : Str)) = false := by decide) (he : starEach (e :: es) X.env = (false, eval e X.env) :: starEach es X.env := by rfl) (hpl : (backTo pos (starEach es X.env)).any (·.1) = false := by rfl) : PE X (.Call (.Name x p) (e :: es) [] pos) (tMkE C sp dvs E t) := by
  constructor
  intro pins s σ H Q J w
  refine wpAny_Call_Name_kw (ld_glob J hg hm ?_ hdb)
  refine PySem.W.callWith_K (h₀ := X.base) J.ok.mod.kin M.kp (thn (ha.run pos pins s σ H _ J w) fun us s2 ⟨vs, H2, J2, r, w2⟩ => ⟨J2.kIn, ?_⟩) he hpl
  have r2 : ∀ y, Vals (V.ref y :: (vs ++ dvs)) (Value.ref y :: (us ++ ds)) := fun y => .cons rfl (r.append hd)
  refine run_mk (lu := fun y => Value.ref y :: (us ++ ds)) (lv := fun y => V.ref y :: (vs ++ dvs)) M G room (fun y z kin => hb z (Value.ref y :: us) kin ?_) r2 (pass σ) J2 w2
  have w3 := w2 (s2.heap.objs.size + 1) s2.heap.objs.size (J2.hok.fresh (Nat.le_succ _)) (J2.hok.fresh (Nat.le_refl _)) (Nat.ne_of_lt (Nat.lt_succ_self _))
  have l := (r2 (s2.heap.objs.size + 1)).length
  rw [G.len _ _ _ _ w3] at l
  rw [l]; rfl
/-- C(e, .., k = v, ..) -/
def tMkKE (C : Addr) (n m : Nat) (sp : Sp) (gV : List V → List V → List V) (E : St → XK) (t tk : TA) : TE := fun σ H Q => t σ H fun vs H1 => tk σ H1 fun zs H2 => vs.length = n ∧ zs.length = m ∧
  ∀ a b, H2 a = none → H2 b = none → b ≠ a → sp (gV (.ref a :: vs) zs) (upd (upd H2 b (.own a)) a (.ins C b [])) (fun v G => v = .non ∧ Q (.ref a) G) (E σ)
theorem pe_mkKE {E : St → XK} {g : List Value → List Value → List Value} {gV : List V → List V → List V} (M : Mk X.K C f) (G : FnOk X.prog X.w X.K X.mg X.base CX k f fd ps sp) (room : Room (k + 1) X.A) (hg : Gl X x) (hm : X.mg x = some (.ref C)) (hb : KBn X.K fd ps (n + 1) ks g gV) (pass : ∀ σ, PassesAt CX X σ (E σ))
    (ha : PA X (e :: es) t) (hkw : PK X kws tk) (hall : (backToKw pos (keywordEach kws X.env)).all (·.1.isSome) = true := by rfl) (hks : (backToKw pos (keywordEach kws X.env)).filterMap (·.1) = ks := by rfl) (hdb : (x == ("__debug__" : Str)) = false := by decide)
    (he : starEach (e :: es) X.env = (false, eval e X.env) :: starEach es X.env := by rfl) (hpl : ((backTo pos (starEach (e :: es) X.env)).any (·.1) || (backToKw pos (keywordEach kws X.env)).any (·.1.isNone)) = false := by rfl) :
    PE X (.Call (.Name x p) (e :: es) kws pos) (tMkKE C n ks.length sp gV E t tk) := by
  constructor
  intro pins s σ H Q J w
  refine wpAny_Call_Name_kw (ld_glob J hg hm ?_ hdb)
  refine PySem.W.callWith_KW (h₀ := X.base) J.ok.mod.kin M.kp hall (thn (ha.run pos pins s σ H _ J w) fun us s2 ⟨vs, H2, J2, r, w2⟩ => ?_) hpl he
  refine thn (hkw.run pos pins s2 σ H2 _ J2 w2) fun ws s3 ⟨zs, H3, J3, rz, l1, l2, w3⟩ => ⟨J3.kIn, ?_⟩
  rw [hks]
  have r2 : ∀ y, Vals (V.ref y :: vs) (Value.ref y :: us) := fun y => .cons rfl r
  refine run_mk (lu := fun y => g (Value.ref y :: us) ws) (lv := fun y => gV (V.ref y :: vs) zs) M G room (fun y z kin => hb.to z (Value.ref y :: us) ws kin ?_ (rz.length.symm.trans l2)) (fun y => hb.rel (r2 y) rz) (pass σ) J3 w3
  rw [← (r2 y).length, List.length_cons, l1]
end
end LX

namespace KB
open PySem L2 L2H LX
/-! ### lines by themselves -/
structure LineApi (P : Program) (w : World) (K : PySem.W.Frag) (mg : Str → Option Value) (base : Heap) (C : Addr) (kk : Kinds) (Rs : RsT) (Er : ErT) : Prop where
  cl : Cls K C
  n0 : NoAttr K C "_room"
  n1 : NoAttr K C "watcher"
  n2 : NoAttr K C "ear"
  make : ∃ f fd ps, Mk K C f ∧ FnOk P w K mg base (L2.CX P w) 9 f fd ps (spLnInit C kk Rs Er) ∧ Binds K fd ps [] ∧ (∃ ds, Vals [.non] ds ∧ Binds K fd ps ds) ∧ ∃ g, KBn K fd ps 4 ["pairs"] g fun vs zs => vs ++ zs
  turn : ∃ f fd ps, Meth K C "turn" f ∧ Binds K fd ps [] ∧ FnOk P w K mg base (L2.CX P w) 9 f fd ps (spLnTurn C kk Rs Er)
/-- an own class, as isinstance sees what is made of it -/
structure InsC (K : PySem.W.Frag) (C : Addr) : Prop where
  cl : Cls K C
  ha : PySem.W.findIn K (.ref C) "__class__" = some (some (.builtin "object.__class__"))
  sp : PySem.W.specialIn K (.builtin "object.__class__") "__get__" = some (some (.builtin "getset_descriptor.__get__"))
  tk : PySem.W.takesIn K (.builtin "object.__class__") = some true
  mr : PySem.W.mroIn K C (.type "object") = some true
theorem InsC.ty {K : PySem.W.Frag} {C : Addr} (A : InsC K C) {H : Hp} {a dx : Addr} {fs : List (Str × V)} (e : H a = some (.ins C dx fs)) : TyX K H (.ref a) (.ref C) := .base (.ins e A.cl A.ha A.sp A.tk A.mr)
theorem kit_self {K : PySem.W.Frag} {C : Addr} : PySem.W.kitOne K (.ref C) (.ref C) = some true := by
  unfold PySem.W.kitOne
  rw [if_pos (by rw [beq_iff_eq])]
theorem cutV_ints (ns : List Int) (lo hi : Option Int) : ∃ ms : List Int, cutV (ns.map V.int) lo hi = ms.map V.int ∧ ms.length ≤ ns.length := by
  refine ⟨(ns.drop (HT.sIx (ns.map V.int).length 0 lo)).take (HT.sIx (ns.map V.int).length (ns.map V.int).length hi - HT.sIx (ns.map V.int).length 0 lo), ?_, ?_⟩
  · unfold cutV
    rw [List.map_take, List.map_drop]
  · rw [List.length_take, List.length_drop]; omega
theorem ints_at {ms : List Int} {i : Nat} {x : V} (h : (ms.map V.int)[i]? = some x) : ∃ c, x = .int c ∧ i < ms.length := by
  rw [List.getElem?_map] at h
  cases e : ms[i]? with
  | none => rw [e] at h; cases h
  | some c => rw [e] at h; exact ⟨c, (Option.some.inj h).symm, (List.getElem?_eq_some_iff.mp e).1⟩
end KB

namespace KL
open PySem L2 L2H LX KB
/-! ### the program's line that begins with what stands -/
def spLnNow (C : Addr) (Rs : RsT) (Er : ErT) : Sp := fun vs H Q _ => ∃ (pr : Addr) (z : Str) (F : List Addr) (s : Rm), vs = [.ref pr, .str z] ∧ Rs F H pr s ∧ TOk 60 z ∧ Fits s ∧ s.gone ≤ s.rows.length ∧ (∀ ps, Told (byPre s z) ps → ps.length ≤ 200 ∧ ∀ x ∈ ps, PairOk x) ∧
  ∀ F' Fe lp e gv H', Rs F' H' pr { s with met := s.met + 1, wat := setF s.wat ((s.met : Int) + 1) (some ⟨z, (s.rows.length : Int) + 1 - 1, (s.rows.length : Int) + 1 - 1⟩) } → LnAt C H' lp pr ((s.met : Int) + 1) e → Er Fe H' e ((s.rows.length : Int) + 1) gv [] → Told (byPre s z) gv →
    Grow F F' H → (∀ a ∈ Fe, H a = none) → (∀ a ∈ Fe, a ∉ F') → H lp = none → lp ∉ F' → lp ∉ Fe → Ch H H' F → Q (.ref lp) H'
section
variable {P : Program} {w : World} {K : PySem.W.Frag} {mg : Str → Option Value} {base : Heap}
theorem ok_line_now {f C CL : Addr} {fd : FuncData} {kk : Kinds} {Rs : RsT} {Er : ErT} (F : Fun K "line_now" "line_now" s_line_now f fd) (cl : Cls K C) (A1 : RoomApi P w K mg base C kk Rs hsL) (A3 : LineApi P w K mg base CL kk Rs Er) (mgL : mg (Str.ofString "Line") = some (Value.ref CL)) : FnOk P w K mg base CX0 11 f fd p_line_now (spLnNow CL Rs Er) := by
  obtain ⟨fI, fdI, psI, MI, GI, bI0, _, _⟩ := A3.make
  obtain ⟨fLa, fdLa, psLa, mLa, bLa, GLa⟩ := (A1.last (by decide +kernel)).ex
  obtain ⟨fPa, fdPa, psPa, mPa, bPa, GPa⟩ := (A1.pairs (by decide +kernel)).ex
  refine F.ok sc_line_now (fun vs H Q E h => ?_) (fun cdv A outer s H vs Q E hr h => ?_)
  · obtain ⟨pr, z, F, s, rfl, _⟩ := h
    rfl
  · obtain ⟨pr, z, Fo, r, rfl, R0, oz, fit, gg, small, k⟩ := h
    have R : ∀ j, j ≤ 10 → Room j _ := fun j h => hr.mono h
    refine ⟨_, pss_one (ps_ret (pe_make (E := E0) MI GI (R 10 (by decide)) rfl mgL bI0 .nil (passes_call takes0 (fun _ _ _ _ h => h)) (pa_cons (pv 0) (pa_cons (pv 1) (pa_cons (pe_op op_add (pe_meth0 (E := E0) (pv 0) cl mLa GLa (R 8 (by decide)) bLa .nil pass0) pe_int)
      (pa_cons (pe_meth (E := E0) (pv 0) cl mPa GPa (R 8 (by decide)) bPa .nil pass0 (pa_cons (pv 1) pa_nil)) pa_nil)))))), ?_⟩
    obtain ⟨_, dx, fs, hob, _, hfs⟩ := A1.inst R0
    refine ⟨_, rfl, _, rfl, _, rfl, pr, dx, fs, rfl, hob, hfs _ (by simp [roomMs]), Fo, pr, r, rfl, R0, fun F1 H1 R1 gr1 c1 => ?_⟩
    obtain ⟨_, dx1, fs1, hob1, _, hfs1⟩ := A1.inst R1
    refine ⟨_, _, rfl, rfl, _, rfl, pr, dx1, fs1, rfl, hob1, hfs1 _ (by simp [roomMs]), _, rfl, F1, pr, z, r, rfl, R1, oz, fit, fun F2 q ts ps H2 R2 gr2 c2 q0 qF hq mq told => ?_⟩
    obtain ⟨l200, okp⟩ := small ps told
    intro x dl nx ndx nex
    have sN : Same H2 (upd (upd H2 dl (.own x)) x (.ins CL dl [])) := fun b o e => by rw [upd_ne (ne_of_none e nx), upd_ne (ne_of_none e ndx)]; exact e
    have RN := A1.frame R2 (Ch.of sN []) (fun _ _ z => nomatch z)
    have xF : x ∉ F2 := fun y => by
      obtain ⟨o, e⟩ := A1.own R2 x y
      rw [nx] at e; cases e
    have c02 : Ch H H2 Fo := by
      refine ⟨fun b o e nn => c2.st b o (c1.st b o e nn) (nn.imp (fun y z => ?_) id), fun b o e => let ⟨_, z⟩ := c1.th b o e; c2.th _ _ z⟩
      rcases gr1 b z with w1 | w1
      · exact y w1
      · rw [e] at w1; cases w1
    refine ⟨x, dl, pr, z, (r.rows.length : Int) + 1, .ref q, ps, F2, r, rfl, upd_same, RN, xF, oz, fit, told.nd, okp, l200, .inr ⟨q, ts, rfl, qF, ne_of_none hq nx, .inl (sN _ _ hq), mq.keep fun a xs e => sN _ _ e⟩, fun bad => absurd bad (by omega), fun _ _ F6 Fe e H6 R6 L6 E6 gr6 fe6 fef pF6 c6 => ⟨rfl, ?_⟩⟩
    have up : ∀ {y : Addr}, H2 y = none → H y = none := fun z => c02.none _ z
    refine k F6 Fe x e ps H6 R6 L6 E6 told (fun y hy => ?_) (fun y hy => up (sN.free (fe6 y hy))) fef (up nx) pF6 (fun y => ?_) ?_
    · rcases gr6 y hy with w1 | w1
      · rcases gr2 y w1 with w2 | w2
        · exact gr1 y w2
        · exact .inr (c1.none _ w2)
      · exact .inr (up (sN.free w1))
    · have e2 := fe6 x y
      rw [upd_same] at e2; cases e2
    · refine ⟨fun b o eb nn => ?_, fun b o eb => let ⟨_, y⟩ := c02.th b o eb; c6.th b _ (sN _ _ y)⟩
      refine c6.st b o (sN _ _ (c02.st b o eb nn)) (nn.imp (fun y z => ?_) id)
      rcases List.mem_cons.mp z with z | z
      · rw [z, up nx] at eb; cases eb
      · rcases gr2 b z with w2 | w2
        · rcases gr1 b w2 with w3 | w3
          · exact y w3
          · rw [eb] at w3; cases w3
        · rw [c1.none _ w2] at eb; cases eb
end
end KL

namespace KL
open PySem L2 L2H LX KB
/-! ### the law's own: a number of ticks -/
def spTicks : Sp := fun vs H Q _ => ∃ (c m : Int), vs = [.int c, .int m] ∧ ∀ t H', Same H H' → Q (.int t) H'
section
variable {P : Program} {w : World} {K : PySem.W.Frag} {mg : Str → Option Value} {base : Heap}
theorem ok_ticks {f : Addr} {fd : FuncData} (F : Fun K "_law_ticks" "_law_ticks" s_ticks f fd) : FnOk P w K mg base CX0 1 f fd p_ticks spTicks := by
  refine F.ok sc_ticks (fun vs H Q E h => ?_) (fun cdv A outer s H vs Q E hr h => ?_)
  · obtain ⟨c, m, rfl, _⟩ := h
    rfl
  · obtain ⟨c, m, rfl, k⟩ := h
    refine ⟨_, pss_cons (ps_if (pt_cmpR op_eq (pe_op op_mod (pv 1) pe_int) pe_int (nomark _)) (pss_one (ps_ret (pe_ix ix_list
          (pe_lst (pa_cons pe_int (pa_cons pe_int (pa_cons pe_int (pa_cons pe_int (pa_cons (pe_un un_neg pe_int) (pa_cons (pe_op op_pow pe_int pe_int) (pa_cons (pe_op op_pow pe_int pe_int) (pa_cons (pe_un un_neg (pe_op op_pow pe_int pe_int)) pa_nil)))))))))
          (pe_op op_mod (pv 0) pe_int) (fun _ _ => rfl)))) pss_nil)
      (pss_cons (ps_if (pt_cmpR op_eq (pe_op op_mod (pv 1) pe_int) pe_int (nomark _)) (pss_one (ps_ret (pe_op op_mod (pv 0) pe_int))) pss_nil)
      (pss_one (ps_ret (pe_op op_add pe_int (pe_op op_mod (pv 0) pe_int))))), ?_⟩
    refine ⟨_, rfl, _, _, rfl, rfl, (by show (0 : Int) < 4; decide), rfl, _, rfl, ?_⟩
    refine ite2 (fun _ => ?_) fun _ => ?_
    · refine ⟨_, rfl, _, _, rfl, rfl, ⟨by decide, by decide, by decide⟩, _, _, rfl, rfl, ⟨by decide, by decide, by decide⟩, _, _, rfl, rfl, ⟨by decide, by decide, by decide⟩, _, rfl, (by show 8 ≤ sizeLine; decide), fun l hl => ?_⟩
      obtain ⟨t, _, e⟩ := at_ints (ns := [0, 1, 1000000, 1000001, -1, 10 ^ 9, 10 ^ 30, -(10 ^ 9)]) (z := c % 8) (by omega) (by show c % 8 < 8; omega)
      refine ⟨_, rfl, _, _, rfl, rfl, (by show (0 : Int) < 8; decide), l, _, _, _, rfl, rfl, SqL.of upd_same, e, ?_⟩
      exact k t _ fun b o e => by rw [upd_ne (ne_of_none e hl)]; exact e
    · refine ⟨_, rfl, _, _, rfl, rfl, (by show (0 : Int) < 4; decide), rfl, _, rfl, ?_⟩
      refine ite2 (fun _ => ?_) fun _ => ?_
      · exact ⟨_, rfl, _, _, rfl, rfl, (by show (0 : Int) < 1000003; decide), k _ _ (Same.refl _)⟩
      · exact ⟨_, rfl, _, _, rfl, rfl, (by show (0 : Int) < 6; decide), _, _, rfl, rfl, k _ _ (Same.refl _)⟩
end
end KL

namespace KL
open PySem L2 L2H LX KB
/-! ### deeds that a law may ask for -/
def DeedOk : Deed → Prop
  | .put k v _ => TOk 60 k ∧ TOk 60 v
  | .cut k _ => TOk 60 k
  | _ => True
def onKey : Deed → Prop
  | .put _ _ _ => True
  | .cut _ _ => True
  | _ => False
end KL

namespace KL
open PySem L2 L2H LX KB
/-! ### the law's own: a deed, by a table that says how many leases were given -/
def spDeed9 : Sp := fun vs H Q _ => ∃ (m q : Addr) (g : Int) (zs : List Str) (a b c : Int), vs = [.ref m, .ref q, .int a, .int b, .int c] ∧ DGet H m (.str "given") (some (.int g)) ∧ 0 ≤ g ∧ H q = some (.lst (zs.map V.str)) ∧ zs.length = 6 ∧ (∀ z ∈ zs, TOk 60 z) ∧
  ∀ tp d H', H tp = none → H' tp = some (.tup d.V) → DeedOk d → Same H H' → Q (.ref tp) H'
section
variable {P : Program} {w : World} {K : PySem.W.Frag} {mg : Str → Option Value} {base : Heap}
theorem ok_deed {f : Addr} {fd : FuncData} (F : Fun K "_law_deed" "_law_deed" s_deed f fd) (DT : Def P w K mg base "_law_ticks" 1 p_ticks spTicks) (DX : Def P w K mg base "_law_text" 2 p_text spText) : FnOk P w K mg base CX0 3 f fd p_deed spDeed9 := by
  obtain ⟨f1, fd1, g1, k1, b1, G1⟩ := DT.ex
  obtain ⟨f2, fd2, g2, k2, b2, G2⟩ := DX.ex
  refine F.ok sc_deed (fun vs H Q E h => ?_) (fun cdv A outer s H vs Q E hr h => ?_)
  · obtain ⟨m, q, g, zs, a, b, c, rfl, _⟩ := h
    rfl
  · obtain ⟨m, q, g, zs, kind, cell, more, rfl, gG, g0, hq, hz6, hzs, k⟩ := h
    have hu := hu_of hr
    have hr1 : Room 1 _ := hr.mono (by decide)
    refine ⟨_, pss_cons (ps_set (i := 5) sc_deed.nd rfl (Or.inl rfl) (pe_op op_mod (pv 3) (pe_op op_add (pe_dget hu (pv 0) pe_str (fun _ _ => rfl)) pe_int)))
      (C8.pss_cut (ps_if (pt_cmpR op_eq (pe_op op_mod (pe_op op_fdiv (pv 4) pe_int) pe_int) pe_int (nomark _)) (pss_one (ps_set (i := 5) sc_deed.nd rfl (Or.inl rfl) (pe_ix ix_list (pe_lst (pa_cons (pe_un un_neg pe_int) (pa_cons (pe_un un_neg pe_int) (pa_cons (pe_op op_pow pe_int pe_int) pa_nil)))) (pe_op op_mod (pv 3) pe_int) (fun _ _ => rfl)))) pss_nil)
      (pss_cons (ps_if (pt_cmpR op_lt (pe_op op_mod (pv 2) pe_int) pe_int (nomark _)) (pss_one (ps_ret (pe_tup (pa_cons pe_str (pa_cons (pe_call G1 hr1 rfl g1 k1 b1 .nil pass0 (pa_cons (pv 3) (pa_cons (pv 4) pa_nil))) pa_nil))))) pss_nil)
      (pss_cons (ps_if (pt_cmpR op_eq (pe_op op_mod (pv 2) pe_int) pe_int (nomark _)) (pss_one (ps_ret (pe_tup (pa_cons pe_str (pa_cons (pv 5) pa_nil))))) pss_nil)
      (pss_cons (ps_if (pt_cmpR op_eq (pe_op op_mod (pv 2) pe_int) pe_int (nomark _)) (pss_one (ps_ret (pe_tup (pa_cons pe_str (pa_cons (pv 5) pa_nil))))) pss_nil)
      (pss_cons (ps_if (pt_cmpR op_lt (pe_op op_mod (pv 2) pe_int) pe_int (nomark _)) (pss_one (ps_ret (pe_tup (pa_cons pe_str (pa_cons (pe_op op_sub (pe_call G1 hr1 rfl g1 k1 b1 .nil pass0 (pa_cons (pv 3) (pa_cons (pe_op op_add (pv 4) pe_int) pa_nil))) (pe_op op_mod (pv 4) pe_int)) pa_nil))))) pss_nil)
      (pss_cons (ps_set (i := 6) sc_deed.nd rfl (Or.inl rfl) (pe_ix ix_list (pv 1) (pe_op op_mod (pv 4) pe_int) (fun _ _ => rfl)))
      (pss_cons (ps_if (pt_cmpR op_lt (pe_op op_mod (pv 2) pe_int) pe_int (nomark _)) (pss_one (ps_ret (pe_tup (pa_cons pe_str (pa_cons (pv 6) (pa_cons (pe_call G2 hr rfl g2 k2 b2 .nil pass0 (pa_cons (pv 4) (pa_cons (pe_ix ix_list (pe_lst (pa_cons (pe_op op_mod (pv 3) pe_int) (pa_cons (pe_op op_mod (pv 3) pe_int) pa_nil)))
          (pe_op op_fdiv (pe_op op_mod (pe_op op_fdiv (pv 4) pe_int) pe_int) pe_int) (fun _ _ => rfl)) pa_nil))) (pa_cons (pv 5) pa_nil))))))) pss_nil)
      (pss_one (ps_ret (pe_tup (pa_cons pe_str (pa_cons (pv 6) (pa_cons (pv 5) pa_nil))))))))))))), ?_⟩
    have res : ∀ {H2 : Hp} {tp : Addr} (d : Deed), Same H H2 → H2 tp = none → DeedOk d → Q (.ref tp) (upd H2 tp (.tup d.V)) := fun {H2 tp} d s2 ht o => k tp d _ (s2.free ht) upd_same o (s2.trans (same_new ht))
    refine ⟨_, rfl, _, rfl, m, _, rfl, gG, _, _, rfl, rfl, _, _, rfl, rfl, (by show (0 : Int) < g + 2; omega), ?_⟩
    refine ⟨fun σ H' => ∃ hh : Int, σ = [some (.ref m), some (.ref q), some (.int kind), some (.int cell), some (.int more), some (.int hh), none] ∧ Same H H', ?_, ?_⟩
    · refine ⟨_, rfl, _, _, rfl, rfl, ⟨by decide, by decide⟩, _, _, rfl, rfl, (by show (0 : Int) < 11; decide), rfl, _, rfl, ?_⟩
      refine ite2 (fun _ => ?_) fun _ => ⟨_, rfl, Same.refl _⟩
      refine ⟨_, rfl, _, rfl, _, _, rfl, rfl, ⟨by decide, by decide, by decide⟩, (by show 3 ≤ sizeLine; decide), fun l hl => ?_⟩
      obtain ⟨t, _, e⟩ := at_ints (ns := [-1, -2, 10 ^ 12]) (z := cell % 3) (by omega) (by show cell % 3 < 3; omega)
      exact ⟨_, rfl, _, _, rfl, rfl, (by show (0 : Int) < 3; decide), l, _, _, _, rfl, rfl, SqL.of upd_same, e, t, rfl, same_new hl⟩
    rintro σ H1 ⟨hh, rfl, s1⟩
    refine ⟨_, rfl, _, _, rfl, rfl, (by show (0 : Int) < 12; decide), _, _, rfl, rfl, _, rfl, ?_⟩
    refine ite2 (fun _ => ?_) fun _ => ?_
    · exact ⟨_, rfl, _, rfl, cell, more, rfl, fun t H2 s2 => ⟨(by show 2 ≤ sizeLine; decide), fun tp htp => res (.grant t) (s1.trans s2) htp trivial⟩⟩
    refine ⟨_, rfl, _, _, rfl, rfl, (by show (0 : Int) < 12; decide), rfl, _, rfl, ?_⟩
    refine ite2 (fun _ => ?_) fun _ => ?_
    · exact ⟨_, rfl, (by show 2 ≤ sizeLine; decide), fun tp htp => res (.renew hh) s1 htp trivial⟩
    refine ⟨_, rfl, _, _, rfl, rfl, (by show (0 : Int) < 12; decide), rfl, _, rfl, ?_⟩
    refine ite2 (fun _ => ?_) fun _ => ?_
    · exact ⟨_, rfl, (by show 2 ≤ sizeLine; decide), fun tp htp => res (.drop hh) s1 htp trivial⟩
    refine ⟨_, rfl, _, _, rfl, rfl, (by show (0 : Int) < 12; decide), _, _, rfl, rfl, _, rfl, ?_⟩
    refine ite2 (fun _ => ?_) fun _ => ?_
    · exact ⟨_, rfl, _, rfl, _, _, rfl, rfl, cell, more + 2, rfl, fun t H2 s2 => ⟨_, rfl, _, _, rfl, rfl, (by show (0 : Int) < 2; decide), _, _, rfl, rfl, (by show 2 ≤ sizeLine; decide), fun tp htp => res (.wait (t - more % 2)) (s1.trans s2) htp trivial⟩⟩
    obtain ⟨ky, hky, e3⟩ := at_strs (ns := zs) (z := more % 6) (by omega) (by rw [hz6]; show more % 6 < 6; omega)
    refine ⟨_, rfl, _, rfl, _, _, rfl, rfl, (by show (0 : Int) < 6; decide), q, _, _, _, rfl, rfl, SqL.of (s1 _ _ hq), e3, ?_⟩
    refine ⟨_, rfl, _, _, rfl, rfl, (by show (0 : Int) < 12; decide), _, _, rfl, rfl, _, rfl, ?_⟩
    refine ite2 (fun _ => ?_) fun _ => ?_
    · refine ⟨_, rfl, _, rfl, _, rfl, _, _, rfl, rfl, (by show (0 : Int) < 5; decide), _, rfl, _, _, rfl, rfl, (by show (0 : Int) < 41; decide), (by show 2 ≤ sizeLine; decide), fun l hl => ?_⟩
      obtain ⟨n1, hn1, e1⟩ := at_ints (ns := [cell % 5, cell % 41]) (z := more / 6 % 5 / 4) (by omega) (by show more / 6 % 5 / 4 < 2; omega)
      have hn : 0 ≤ n1 ∧ n1 ≤ 40 := by
        simp only [List.mem_cons, List.not_mem_nil, or_false] at hn1
        omega
      refine ⟨_, rfl, _, _, rfl, rfl, ⟨by decide, by decide⟩, _, _, rfl, rfl, (by show (0 : Int) < 5; decide), _, _, rfl, rfl, ⟨by decide, by decide⟩, l, _, _, _, rfl, rfl, SqL.of upd_same, e1, more, n1, rfl, hn.1, by omega, fun val H2 tv _ s2 => ?_⟩
      have tv : TOk 60 val := tv.mono (by omega)
      exact ⟨_, rfl, (by show 4 ≤ sizeLine; decide), fun tp htp => res (.put ky val hh) ((s1.trans (same_new hl)).trans s2) htp ⟨hzs _ hky, tv⟩⟩
    · exact ⟨_, rfl, _, rfl, (by show 3 ≤ sizeLine; decide), fun tp htp => res (.cut ky hh) s1 htp (hzs _ hky)⟩
end
end KL

namespace KL
open PySem L2 L2H LX KB
/-! ### the law's own: a deed in a room -/
def spCall (kk : Kinds) (Rs : RsT) : Sp := fun vs H Q E => ∃ (F : List Addr) (p : Addr) (s : Rm) (dt : Addr) (d : Deed), vs = [.ref p, .ref dt] ∧ H dt = some (.tup d.V) ∧ DeedOk d ∧ Rs F H p s ∧ Fits s ∧
  ∀ a s' F' H', DoR s d a s' → Rs F' H' p s' → Grow F F' H → Ch H H' F → Out kk Q E H' a
section
variable {P : Program} {w : World} {K : PySem.W.Frag} {mg : Str → Option Value} {base : Heap}
theorem ok_call {f C : Addr} {fd : FuncData} {kk : Kinds} {Rs : RsT} (F : Fun K "_law_call" "_law_call" s_call f fd) (cl : Cls K C) (A1 : RoomApi P w K mg base C kk Rs hsL) : FnOk P w K mg base (L2.CX P w) 9 f fd p_call (spCall kk Rs) := by
  obtain ⟨fG, fdG, psG, mG, bG, GG⟩ := (A1.grant (by decide +kernel)).ex
  obtain ⟨fR, fdR, psR, mR, bR, GR⟩ := (A1.renew (by decide +kernel)).ex
  obtain ⟨fD, fdD, psD, mD', bD, GD⟩ := (A1.drop (by decide +kernel)).ex
  obtain ⟨fW, fdW, psW, mW, bW, GW⟩ := (A1.wait (by decide +kernel)).ex
  obtain ⟨fP, fdP, psP, mP, bP, ⟨dP, vP, b2P⟩, ⟨gP, kP⟩, GP⟩ := A1.put (by decide +kernel)
  obtain ⟨fC, fdC, psC, mC, bC, ⟨dC, vC, b2C⟩, ⟨gC, kC⟩, GC⟩ := A1.cut (by decide +kernel)
  refine F.okX sc_call (fun vs H Q E h => ?_) (fun cdv A outer s H vs Q E hr h => ?_)
  · obtain ⟨F, p, s, dt, d, rfl, _⟩ := h
    rfl
  · obtain ⟨Fo, p, r, dt, d, rfl, hd, hok, S, fit, k⟩ := h
    refine ⟨_, pss_cons (ps_if (pt_cmpR op_eq (pe_ix ix_tup (pv 1) pe_int (fun _ _ => rfl)) pe_str (nomark _)) (pss_one (ps_ret (pe_meth (E := E) (pv 0) cl mG GG hr bG .nil (passes_call (takes_of rfl rfl rfl rfl) (fun _ _ _ _ h => h)) (pa_cons (pe_ix ix_tup (pv 1) pe_int (fun _ _ => rfl)) pa_nil)))) pss_nil)
      (pss_cons (ps_if (pt_cmpR op_eq (pe_ix ix_tup (pv 1) pe_int (fun _ _ => rfl)) pe_str (nomark _)) (pss_one (ps_ret (pe_meth (E := E) (pv 0) cl mW GW hr bW .nil (passes_call (takes_of rfl rfl rfl rfl) (fun _ _ _ _ h => h)) (pa_cons (pe_ix ix_tup (pv 1) pe_int (fun _ _ => rfl)) pa_nil)))) pss_nil)
      (pss_cons (ps_if (pt_cmpR op_eq (pe_ix ix_tup (pv 1) pe_int (fun _ _ => rfl)) pe_str (nomark _)) (pss_one (ps_ret (pe_meth (E := E) (pv 0) cl mR GR hr bR .nil (passes_call (takes_of rfl rfl rfl rfl) (fun _ _ _ _ h => h)) (pa_cons (pe_ix ix_tup (pv 1) pe_int (fun _ _ => rfl)) pa_nil)))) pss_nil)
      (pss_cons (ps_if (pt_cmpR op_eq (pe_ix ix_tup (pv 1) pe_int (fun _ _ => rfl)) pe_str (nomark _)) (pss_one (ps_ret (pe_meth (E := E) (pv 0) cl mD' GD hr bD .nil (passes_call (takes_of rfl rfl rfl rfl) (fun _ _ _ _ h => h)) (pa_cons (pe_ix ix_tup (pv 1) pe_int (fun _ _ => rfl)) pa_nil)))) pss_nil)
      (pss_cons (ps_if (PW.pt (pw_and (pt_cmpR op_eq (pe_ix ix_tup (pv 1) pe_int (fun _ _ => rfl)) pe_str (nomark _)) (pw_and1 (pt_cmpR op_eq (pe_ix ix_tup (pv 1) pe_int (fun _ _ => rfl)) pe_int (nomark _))))) (pss_one (ps_ret (pe_meth (E := E) (pv 0) cl mP GP hr b2P vP (passes_call (takes_of rfl rfl rfl rfl) (fun _ _ _ _ h => h)) (pa_cons (pe_ix ix_tup (pv 1) pe_int (fun _ _ => rfl)) (pa_cons (pe_ix ix_tup (pv 1) pe_int (fun _ _ => rfl)) pa_nil))))) pss_nil)
      (pss_cons (ps_if (PW.pt (pw_and (pt_cmpR op_eq (pe_ix ix_tup (pv 1) pe_int (fun _ _ => rfl)) pe_str (nomark _)) (pw_and1 (pt_cmpR op_eq (pe_op op_mod (pe_ix ix_tup (pv 1) pe_int (fun _ _ => rfl)) pe_int) pe_int (nomark _))))) (pss_one (ps_ret (pe_methN (E := E) (pv 0) cl mP GP hr kP (passes_call (takes_of rfl rfl rfl rfl) (fun _ _ _ _ h => h)) (pa_cons (pe_ix ix_tup (pv 1) pe_int (fun _ _ => rfl)) (pa_cons (pe_ix ix_tup (pv 1) pe_int (fun _ _ => rfl)) pa_nil)) (pk_cons (pe_ix ix_tup (pv 1) pe_int (fun _ _ => rfl)) pk_nil)))) pss_nil)
      (pss_cons (ps_if (pt_cmpR op_eq (pe_ix ix_tup (pv 1) pe_int (fun _ _ => rfl)) pe_str (nomark _)) (pss_one (ps_ret (pe_meth (E := E) (pv 0) cl mP GP hr bP .nil (passes_call (takes_of rfl rfl rfl rfl) (fun _ _ _ _ h => h)) (pa_cons (pe_ix ix_tup (pv 1) pe_int (fun _ _ => rfl)) (pa_cons (pe_ix ix_tup (pv 1) pe_int (fun _ _ => rfl)) (pa_cons (pe_ix ix_tup (pv 1) pe_int (fun _ _ => rfl)) pa_nil)))))) pss_nil)
      (pss_cons (ps_if (pt_cmpR op_eq (pe_op op_mod (pe_ix ix_tup (pv 1) pe_int (fun _ _ => rfl)) pe_int) pe_int (nomark _)) (pss_one (ps_ret (pe_methN (E := E) (pv 0) cl mC GC hr kC (passes_call (takes_of rfl rfl rfl rfl) (fun _ _ _ _ h => h)) (pa_cons (pe_ix ix_tup (pv 1) pe_int (fun _ _ => rfl)) pa_nil) (pk_cons (pe_ix ix_tup (pv 1) pe_int (fun _ _ => rfl)) pk_nil)))) pss_nil)
      (pss_one (ps_ret (pe_meth (E := E) (pv 0) cl mC GC hr bC .nil (passes_call (takes_of rfl rfl rfl rfl) (fun _ _ _ _ h => h)) (pa_cons (pe_ix ix_tup (pv 1) pe_int (fun _ _ => rfl)) (pa_cons (pe_ix ix_tup (pv 1) pe_int (fun _ _ => rfl)) pa_nil)))))))))))), ?_⟩
    obtain ⟨hpF, dx, fs, hob, _, hfs⟩ := A1.inst S
    have wd : ∀ {a b : Str}, ¬ a = b → decide (V.str a = V.str b) = false := fun h => decide_eq_false fun e => h (V.str.inj e)
    have q1 := SqT.of (K := K) hd
    cases d with
    | grant t =>
      refine ⟨_, rfl, dt, _, 0, .str "grant", rfl, rfl, SqT.of hd, rfl, rfl, _, rfl, ?_⟩
      rw [decide_eq_true rfl]
      exact iteT ⟨_, rfl, p, dx, fs, rfl, hob, hfs _ (by simp [roomMs]), _, rfl, dt, _, 1, .int t, rfl, rfl, SqT.of hd, rfl, Fo, p, r, .grant t, [.int t], rfl, ⟨t, rfl, rfl⟩, S, fit, k⟩
    | wait t =>
      refine ⟨_, rfl, dt, _, 0, .str "wait", rfl, rfl, SqT.of hd, rfl, rfl, _, rfl, ?_⟩
      rw [wd (by decide +kernel)]
      refine iteF ⟨_, rfl, dt, _, 0, .str "wait", rfl, rfl, SqT.of hd, rfl, rfl, _, rfl, ?_⟩
      rw [decide_eq_true rfl]
      exact iteT ⟨_, rfl, p, dx, fs, rfl, hob, hfs _ (by simp [roomMs]), _, rfl, dt, _, 1, .int t, rfl, rfl, SqT.of hd, rfl, Fo, p, r, .wait t, [.int t], rfl, ⟨t, rfl, rfl⟩, S, fit, k⟩
    | renew h =>
      refine ⟨_, rfl, dt, _, 0, .str "renew", rfl, rfl, SqT.of hd, rfl, rfl, _, rfl, ?_⟩
      rw [wd (by decide +kernel)]
      refine iteF ⟨_, rfl, dt, _, 0, .str "renew", rfl, rfl, SqT.of hd, rfl, rfl, _, rfl, ?_⟩
      rw [wd (by decide +kernel)]
      refine iteF ⟨_, rfl, dt, _, 0, .str "renew", rfl, rfl, SqT.of hd, rfl, rfl, _, rfl, ?_⟩
      rw [decide_eq_true rfl]
      exact iteT ⟨_, rfl, p, dx, fs, rfl, hob, hfs _ (by simp [roomMs]), _, rfl, dt, _, 1, .int h, rfl, rfl, SqT.of hd, rfl, Fo, p, r, .renew h, [.int h], rfl, ⟨h, rfl, rfl⟩, S, fit, k⟩
    | drop h =>
      refine ⟨_, rfl, dt, _, 0, .str "drop", rfl, rfl, SqT.of hd, rfl, rfl, _, rfl, ?_⟩
      rw [wd (by decide +kernel)]
      refine iteF ⟨_, rfl, dt, _, 0, .str "drop", rfl, rfl, SqT.of hd, rfl, rfl, _, rfl, ?_⟩
      rw [wd (by decide +kernel)]
      refine iteF ⟨_, rfl, dt, _, 0, .str "drop", rfl, rfl, SqT.of hd, rfl, rfl, _, rfl, ?_⟩
      rw [wd (by decide +kernel)]
      refine iteF ⟨_, rfl, dt, _, 0, .str "drop", rfl, rfl, SqT.of hd, rfl, rfl, _, rfl, ?_⟩
      rw [decide_eq_true rfl]
      exact iteT ⟨_, rfl, p, dx, fs, rfl, hob, hfs _ (by simp [roomMs]), _, rfl, dt, _, 1, .int h, rfl, rfl, SqT.of hd, rfl, Fo, p, r, .drop h, [.int h], rfl, ⟨h, rfl, rfl⟩, S, fit, k⟩
    | put ky v h =>
      have sp : argP (.put ky v h) [.str ky, .str v, .int h] := ⟨ky, v, h, rfl, rfl, hok.1, hok.2⟩
      refine ⟨_, rfl, dt, _, 0, .str "put", rfl, rfl, SqT.of hd, rfl, rfl, _, rfl, ?_⟩
      rw [wd (by decide +kernel)]
      refine iteF ⟨_, rfl, dt, _, 0, .str "put", rfl, rfl, SqT.of hd, rfl, rfl, _, rfl, ?_⟩
      rw [wd (by decide +kernel)]
      refine iteF ⟨_, rfl, dt, _, 0, .str "put", rfl, rfl, SqT.of hd, rfl, rfl, _, rfl, ?_⟩
      rw [wd (by decide +kernel)]
      refine iteF ⟨_, rfl, dt, _, 0, .str "put", rfl, rfl, SqT.of hd, rfl, rfl, _, rfl, ?_⟩
      rw [wd (by decide +kernel)]
      refine iteF ⟨_, rfl, dt, _, 0, .str "put", rfl, rfl, SqT.of hd, rfl, rfl, _, rfl, ?_⟩
      rw [decide_eq_true rfl]
      refine iteT ⟨_, rfl, dt, _, 3, .int h, rfl, rfl, SqT.of hd, rfl, rfl, _, rfl, ?_⟩
      by_cases h0 : h = 0
      · rw [decide_eq_true (congrArg V.int h0)]
        subst h0
        exact iteT ⟨_, rfl, p, dx, fs, rfl, hob, hfs _ (by simp [roomMs]), _, rfl, dt, _, 1, .str ky, rfl, rfl, SqT.of hd, rfl, _, rfl, dt, _, 2, .str v, rfl, rfl, SqT.of hd, rfl, Fo, p, r, _, _, rfl, sp, S, fit, k⟩
      rw [decide_eq_false (fun e => h0 (V.int.inj e))]
      refine iteF ⟨_, rfl, dt, _, 0, .str "put", rfl, rfl, SqT.of hd, rfl, rfl, _, rfl, ?_⟩
      rw [decide_eq_true rfl]
      refine iteT ⟨_, rfl, dt, _, 3, .int h, rfl, rfl, SqT.of hd, rfl, _, _, rfl, rfl, (by show (0 : Int) < 2; decide), rfl, _, rfl, ?_⟩
      refine ite2 (fun _ => ?_) fun _ => ?_
      · exact ⟨_, rfl, p, dx, fs, rfl, hob, hfs _ (by simp [roomMs]), _, rfl, dt, _, 1, .str ky, rfl, rfl, SqT.of hd, rfl, _, rfl, dt, _, 2, .str v, rfl, rfl, SqT.of hd, rfl, _, rfl, dt, _, 3, .int h, rfl, rfl, SqT.of hd, rfl, rfl, rfl, Fo, p, r, _, _, rfl, sp, S, fit, k⟩
      refine ⟨_, rfl, dt, _, 0, .str "put", rfl, rfl, SqT.of hd, rfl, rfl, _, rfl, ?_⟩
      rw [decide_eq_true rfl]
      exact iteT ⟨_, rfl, p, dx, fs, rfl, hob, hfs _ (by simp [roomMs]), _, rfl, dt, _, 1, .str ky, rfl, rfl, SqT.of hd, rfl, _, rfl, dt, _, 2, .str v, rfl, rfl, SqT.of hd, rfl, _, rfl, dt, _, 3, .int h, rfl, rfl, SqT.of hd, rfl, Fo, p, r, _, _, rfl, sp, S, fit, k⟩
    | cut ky h =>
      have sp : argC (.cut ky h) [.str ky, .int h] := ⟨ky, h, rfl, rfl, hok⟩
      refine ⟨_, rfl, dt, _, 0, .str "cut", rfl, rfl, SqT.of hd, rfl, rfl, _, rfl, ?_⟩
      rw [wd (by decide +kernel)]
      refine iteF ⟨_, rfl, dt, _, 0, .str "cut", rfl, rfl, SqT.of hd, rfl, rfl, _, rfl, ?_⟩
      rw [wd (by decide +kernel)]
      refine iteF ⟨_, rfl, dt, _, 0, .str "cut", rfl, rfl, SqT.of hd, rfl, rfl, _, rfl, ?_⟩
      rw [wd (by decide +kernel)]
      refine iteF ⟨_, rfl, dt, _, 0, .str "cut", rfl, rfl, SqT.of hd, rfl, rfl, _, rfl, ?_⟩
      rw [wd (by decide +kernel)]
      refine iteF ⟨_, rfl, dt, _, 0, .str "cut", rfl, rfl, SqT.of hd, rfl, rfl, _, rfl, ?_⟩
      rw [wd (by decide +kernel)]
      refine iteF ⟨_, rfl, dt, _, 0, .str "cut", rfl, rfl, SqT.of hd, rfl, rfl, _, rfl, ?_⟩
      rw [wd (by decide +kernel)]
      refine iteF ⟨_, rfl, dt, _, 0, .str "cut", rfl, rfl, SqT.of hd, rfl, rfl, _, rfl, ?_⟩
      rw [wd (by decide +kernel)]
      refine iteF ⟨_, rfl, dt, _, 2, .int h, rfl, rfl, SqT.of hd, rfl, _, _, rfl, rfl, (by show (0 : Int) < 2; decide), rfl, _, rfl, ?_⟩
      refine ite2 (fun _ => ?_) fun _ => ?_
      · exact ⟨_, rfl, p, dx, fs, rfl, hob, hfs _ (by simp [roomMs]), _, rfl, dt, _, 1, .str ky, rfl, rfl, SqT.of hd, rfl, _, rfl, dt, _, 2, .int h, rfl, rfl, SqT.of hd, rfl, rfl, rfl, Fo, p, r, _, _, rfl, sp, S, fit, k⟩
      exact ⟨_, rfl, p, dx, fs, rfl, hob, hfs _ (by simp [roomMs]), _, rfl, dt, _, 1, .str ky, rfl, rfl, SqT.of hd, rfl, _, rfl, dt, _, 2, .int h, rfl, rfl, SqT.of hd, rfl, Fo, p, r, _, _, rfl, sp, S, fit, k⟩
end
end KL

namespace KL
open PySem L2 L2H LX KB
/-! ### the law's own: of which class a refusal is -/
inductive K6
  | ticks
  | lease
  | key
  | held
  | start
  | watch
deriving DecidableEq
def K6.s : K6 → Str
  | .ticks => "BadTicks"
  | .lease => "NoLease"
  | .key => "NoKey"
  | .held => "Held"
  | .start => "NoStart"
  | .watch => "NoWatch"
def K6.at_ (kk : Kinds) : K6 → Addr
  | .ticks => kk.BT
  | .lease => kk.NL
  | .key => kk.NK
  | .held => kk.HE
  | .start => kk.NS
  | .watch => kk.NW
/-- just that one of the six, and a ValueError -/
structure OnlyT (K : PySem.W.Frag) (kk : Kinds) (D : Addr) (i : K6) : Prop where
  C : ExcC K D
  k : ∀ j : K6, PySem.W.kitOne K (.ref D) (.ref (j.at_ kk)) = some (decide (i = j))
  kv : PySem.W.kitOne K (.ref D) (.type "ValueError") = some true
structure Errs (K : PySem.W.Frag) (mg : Str → Option Value) (kk : Kinds) : Prop where
  gL : mg "LeaseError" = some (.ref kk.LE)
  ve : mg "ValueError" = none
  isi : mg "isinstance" = none
  g : ∀ i : K6, mg i.s = some (.ref (i.at_ kk))
  o : ∀ i : K6, OnlyT K kk (i.at_ kk) i
  e : ∀ i : K6, PySem.W.exmOne K (.ref (i.at_ kk)) (.ref kk.LE) = some true
def spO (kk : Kinds) (a : Addr) (cls : Value) (d : Option Addr) : Sp := fun vs H Q _ => ∃ (i : K6) (w : Str) (r : Bool), vs = [.ref a, .str w] ∧ d = none ∧ cls = .ref (i.at_ kk) ∧ SeqAt.shaped (.list [.str w]) = true ∧ PyData.eqv (.list [.str i.s]) (.list [.str w]) = r ∧ ∀ H', Same H H' → Q (.bl r) H'
def spOnly (kk : Kinds) (p : Addr × Obj) : Sp := spO kk p.1 p.2.cls p.2.dict
theorem k6_shaped (i : K6) : SeqAt.shaped (.list [.str i.s]) = true := by cases i <;> decide +kernel
theorem k6_eqv (i j : K6) : PyData.eqv (.list [.str i.s]) (.list [.str j.s]) = decide (i = j) := by cases i <;> cases j <;> decide +kernel
section
variable {P : Program} {w : World} {K : PySem.W.Frag} {mg : Str → Option Value} {base : Heap}
theorem ok_only {f : Addr} {fd : FuncData} {kk : Kinds} (F : Fun K "_law_only" "_law_only" s_only f fd) (M : Errs K mg kk) : FnP P w K mg base 1 f fd p_only (spOnly kk) := by
  refine okP F sc_only (fun p vs H Q E h => ?_) (fun cdv A outer s H vs Q E p hr hf h => ?_)
  · obtain ⟨i, z, r, rfl, _⟩ := h
    rfl
  · obtain ⟨i, z, r, rfl, hd, hc, hsh, hq, k⟩ := h
    have hu : (A.deeper (PyProof.Rows.envOfC "_law_only" (defScope s_only) s.heap.objs.size f cdv)).units + 64 < cLine := by have := hr.un; omega
    have hz : Zc (.ref (i.at_ kk)) none p.2 := ⟨hc, hd⟩
    have oT := M.o i
    have isP : CallR (cxH CX0 P w K mg base n_only "_law_only" (defScope s_only) f cdv A outer s H E p) (.builtin "isinstance") (rIsE K (i.at_ kk) p.1) := call_isP (a := p.1) (oe := p.2) oT.C (List.mem_singleton.mpr rfl) hz hf
    refine ⟨_, pss_cons (ps_set (i := 2) sc_only.nd rfl (Or.inl rfl) (pe_lst pa_nil))
      (pss_cons (ps_if (pt_val (pe_callB isP (by rfl) M.isi (by decide +kernel) (pa_cons (pv 0) (pa_cons (pe_glob (v := V.ref kk.BT) (by rfl) (M.g .ticks) rfl) pa_nil)))) (pss_one (ps_expr (pe_bm PySem.F.plainAttrs_list PySem.F.slot_list_append PySem.F.type_list_append mt_append (pv 2) (pa_cons pe_str pa_nil)))) pss_nil)
      (pss_cons (ps_if (pt_val (pe_callB isP (by rfl) M.isi (by decide +kernel) (pa_cons (pv 0) (pa_cons (pe_glob (v := V.ref kk.NL) (by rfl) (M.g .lease) rfl) pa_nil)))) (pss_one (ps_expr (pe_bm PySem.F.plainAttrs_list PySem.F.slot_list_append PySem.F.type_list_append mt_append (pv 2) (pa_cons pe_str pa_nil)))) pss_nil)
      (pss_cons (ps_if (pt_val (pe_callB isP (by rfl) M.isi (by decide +kernel) (pa_cons (pv 0) (pa_cons (pe_glob (v := V.ref kk.NK) (by rfl) (M.g .key) rfl) pa_nil)))) (pss_one (ps_expr (pe_bm PySem.F.plainAttrs_list PySem.F.slot_list_append PySem.F.type_list_append mt_append (pv 2) (pa_cons pe_str pa_nil)))) pss_nil)
      (pss_cons (ps_if (pt_val (pe_callB isP (by rfl) M.isi (by decide +kernel) (pa_cons (pv 0) (pa_cons (pe_glob (v := V.ref kk.HE) (by rfl) (M.g .held) rfl) pa_nil)))) (pss_one (ps_expr (pe_bm PySem.F.plainAttrs_list PySem.F.slot_list_append PySem.F.type_list_append mt_append (pv 2) (pa_cons pe_str pa_nil)))) pss_nil)
      (pss_cons (ps_if (pt_val (pe_callB isP (by rfl) M.isi (by decide +kernel) (pa_cons (pv 0) (pa_cons (pe_glob (v := V.ref kk.NS) (by rfl) (M.g .start) rfl) pa_nil)))) (pss_one (ps_expr (pe_bm PySem.F.plainAttrs_list PySem.F.slot_list_append PySem.F.type_list_append mt_append (pv 2) (pa_cons pe_str pa_nil)))) pss_nil)
      (pss_cons (ps_if (pt_val (pe_callB isP (by rfl) M.isi (by decide +kernel) (pa_cons (pv 0) (pa_cons (pe_glob (v := V.ref kk.NW) (by rfl) (M.g .watch) rfl) pa_nil)))) (pss_one (ps_expr (pe_bm PySem.F.plainAttrs_list PySem.F.slot_list_append PySem.F.type_list_append mt_append (pv 2) (pa_cons pe_str pa_nil)))) pss_nil)
      (pss_one (ps_ret (pe_and (pe_callB isP (by rfl) M.isi (by decide +kernel) (pa_cons (pv 0) (pa_cons (pe_bltn (v := V.ty "ValueError") (by rfl) M.ve (by decide +kernel) rfl) pa_nil)))
        (pe_one (pe_cmpR (op_eqD hu) (pv 2) (pe_lst (pa_cons (pv 1) pa_nil)) (nomark _)))))))))))), ?_⟩
    refine ⟨(by show 0 ≤ sizeLine; decide), fun l hl => ?_⟩
    have dl : ∀ (H' : Hp) (q : Addr) (y : Str), H' q = some (.lst [V.str y]) → Dp K H' (.ref q) (.list [.str y]) := fun H' q y e => .lst (SqL.of e) (.cons (.str _) .nil)
    have small : ([] : List V).length < sizeLine := by show 0 < sizeLine; decide
    cases i with
    | ticks =>
      refine ⟨_, rfl, _, _, _, rfl, (fun _ e => e), oT.k .ticks, _, rfl, iteT ⟨_, rfl, .inl ⟨rfl, _, SqL.of upd_same⟩, l, _, _, rfl, rfl, upd_same, small, ?_⟩⟩
      refine ⟨_, rfl, _, _, _, rfl, (fun _ e => e), oT.k .lease, _, rfl, iteF ?_⟩
      refine ⟨_, rfl, _, _, _, rfl, (fun _ e => e), oT.k .key, _, rfl, iteF ?_⟩
      refine ⟨_, rfl, _, _, _, rfl, (fun _ e => e), oT.k .held, _, rfl, iteF ?_⟩
      refine ⟨_, rfl, _, _, _, rfl, (fun _ e => e), oT.k .start, _, rfl, iteF ?_⟩
      refine ⟨_, rfl, _, _, _, rfl, (fun _ e => e), oT.k .watch, _, rfl, iteF ?_⟩
      refine ⟨_, rfl, _, _, _, rfl, (fun _ e => e), oT.kv, true, rfl, iteT ?_⟩
      refine ⟨_, rfl, _, rfl, (by show 1 ≤ sizeLine; decide), fun q hq2 => ?_⟩
      have ql : q ≠ l := fun e => by rw [e, upd_same] at hq2; cases hq2
      refine ⟨.list [.str "BadTicks"], .list [.str z], dl _ l _ (by rw [upd_ne ql.symm]; exact upd_same), dl _ q _ upd_same, (by decide +kernel), hsh, ?_⟩
      have hq3 : PyData.eqv (.list [.str "BadTicks"]) (.list [.str z]) = r := hq
      rw [hq3]
      refine k _ fun b o e => ?_
      have h1 : b ≠ l := ne_of_none e hl
      have h2 : b ≠ q := ne_of_none (H := upd (upd H l (.lst [])) l (.lst ([] ++ [V.str "BadTicks"]))) (by rw [upd_ne h1, upd_ne h1]; exact e) hq2
      rw [upd_ne h2, upd_ne h1, upd_ne h1]
      exact e
    | lease =>
      refine ⟨_, rfl, _, _, _, rfl, (fun _ e => e), oT.k .ticks, _, rfl, iteF ?_⟩
      refine ⟨_, rfl, _, _, _, rfl, (fun _ e => e), oT.k .lease, _, rfl, iteT ⟨_, rfl, .inl ⟨rfl, _, SqL.of upd_same⟩, l, _, _, rfl, rfl, upd_same, small, ?_⟩⟩
      refine ⟨_, rfl, _, _, _, rfl, (fun _ e => e), oT.k .key, _, rfl, iteF ?_⟩
      refine ⟨_, rfl, _, _, _, rfl, (fun _ e => e), oT.k .held, _, rfl, iteF ?_⟩
      refine ⟨_, rfl, _, _, _, rfl, (fun _ e => e), oT.k .start, _, rfl, iteF ?_⟩
      refine ⟨_, rfl, _, _, _, rfl, (fun _ e => e), oT.k .watch, _, rfl, iteF ?_⟩
      refine ⟨_, rfl, _, _, _, rfl, (fun _ e => e), oT.kv, true, rfl, iteT ?_⟩
      refine ⟨_, rfl, _, rfl, (by show 1 ≤ sizeLine; decide), fun q hq2 => ?_⟩
      have ql : q ≠ l := fun e => by rw [e, upd_same] at hq2; cases hq2
      refine ⟨.list [.str "NoLease"], .list [.str z], dl _ l _ (by rw [upd_ne ql.symm]; exact upd_same), dl _ q _ upd_same, (by decide +kernel), hsh, ?_⟩
      have hq3 : PyData.eqv (.list [.str "NoLease"]) (.list [.str z]) = r := hq
      rw [hq3]
      refine k _ fun b o e => ?_
      have h1 : b ≠ l := ne_of_none e hl
      have h2 : b ≠ q := ne_of_none (H := upd (upd H l (.lst [])) l (.lst ([] ++ [V.str "NoLease"]))) (by rw [upd_ne h1, upd_ne h1]; exact e) hq2
      rw [upd_ne h2, upd_ne h1, upd_ne h1]
      exact e
    | key =>
      refine ⟨_, rfl, _, _, _, rfl, (fun _ e => e), oT.k .ticks, _, rfl, iteF ?_⟩
      refine ⟨_, rfl, _, _, _, rfl, (fun _ e => e), oT.k .lease, _, rfl, iteF ?_⟩
      refine ⟨_, rfl, _, _, _, rfl, (fun _ e => e), oT.k .key, _, rfl, iteT ⟨_, rfl, .inl ⟨rfl, _, SqL.of upd_same⟩, l, _, _, rfl, rfl, upd_same, small, ?_⟩⟩
      refine ⟨_, rfl, _, _, _, rfl, (fun _ e => e), oT.k .held, _, rfl, iteF ?_⟩
      refine ⟨_, rfl, _, _, _, rfl, (fun _ e => e), oT.k .start, _, rfl, iteF ?_⟩
      refine ⟨_, rfl, _, _, _, rfl, (fun _ e => e), oT.k .watch, _, rfl, iteF ?_⟩
      refine ⟨_, rfl, _, _, _, rfl, (fun _ e => e), oT.kv, true, rfl, iteT ?_⟩
      refine ⟨_, rfl, _, rfl, (by show 1 ≤ sizeLine; decide), fun q hq2 => ?_⟩
      have ql : q ≠ l := fun e => by rw [e, upd_same] at hq2; cases hq2
      refine ⟨.list [.str "NoKey"], .list [.str z], dl _ l _ (by rw [upd_ne ql.symm]; exact upd_same), dl _ q _ upd_same, (by decide +kernel), hsh, ?_⟩
      have hq3 : PyData.eqv (.list [.str "NoKey"]) (.list [.str z]) = r := hq
      rw [hq3]
      refine k _ fun b o e => ?_
      have h1 : b ≠ l := ne_of_none e hl
      have h2 : b ≠ q := ne_of_none (H := upd (upd H l (.lst [])) l (.lst ([] ++ [V.str "NoKey"]))) (by rw [upd_ne h1, upd_ne h1]; exact e) hq2
      rw [upd_ne h2, upd_ne h1, upd_ne h1]
      exact e
    | held =>
      refine ⟨_, rfl, _, _, _, rfl, (fun _ e => e), oT.k .ticks, _, rfl, iteF ?_⟩
      refine ⟨_, rfl, _, _, _, rfl, (fun _ e => e), oT.k .lease, _, rfl, iteF ?_⟩
      refine ⟨_, rfl, _, _, _, rfl, (fun _ e => e), oT.k .key, _, rfl, iteF ?_⟩
      refine ⟨_, rfl, _, _, _, rfl, (fun _ e => e), oT.k .held, _, rfl, iteT ⟨_, rfl, .inl ⟨rfl, _, SqL.of upd_same⟩, l, _, _, rfl, rfl, upd_same, small, ?_⟩⟩
      refine ⟨_, rfl, _, _, _, rfl, (fun _ e => e), oT.k .start, _, rfl, iteF ?_⟩
      refine ⟨_, rfl, _, _, _, rfl, (fun _ e => e), oT.k .watch, _, rfl, iteF ?_⟩
      refine ⟨_, rfl, _, _, _, rfl, (fun _ e => e), oT.kv, true, rfl, iteT ?_⟩
      refine ⟨_, rfl, _, rfl, (by show 1 ≤ sizeLine; decide), fun q hq2 => ?_⟩
      have ql : q ≠ l := fun e => by rw [e, upd_same] at hq2; cases hq2
      refine ⟨.list [.str "Held"], .list [.str z], dl _ l _ (by rw [upd_ne ql.symm]; exact upd_same), dl _ q _ upd_same, (by decide +kernel), hsh, ?_⟩
      have hq3 : PyData.eqv (.list [.str "Held"]) (.list [.str z]) = r := hq
      rw [hq3]
      refine k _ fun b o e => ?_
      have h1 : b ≠ l := ne_of_none e hl
      have h2 : b ≠ q := ne_of_none (H := upd (upd H l (.lst [])) l (.lst ([] ++ [V.str "Held"]))) (by rw [upd_ne h1, upd_ne h1]; exact e) hq2
      rw [upd_ne h2, upd_ne h1, upd_ne h1]
      exact e
    | start =>
      refine ⟨_, rfl, _, _, _, rfl, (fun _ e => e), oT.k .ticks, _, rfl, iteF ?_⟩
      refine ⟨_, rfl, _, _, _, rfl, (fun _ e => e), oT.k .lease, _, rfl, iteF ?_⟩
      refine ⟨_, rfl, _, _, _, rfl, (fun _ e => e), oT.k .key, _, rfl, iteF ?_⟩
      refine ⟨_, rfl, _, _, _, rfl, (fun _ e => e), oT.k .held, _, rfl, iteF ?_⟩
      refine ⟨_, rfl, _, _, _, rfl, (fun _ e => e), oT.k .start, _, rfl, iteT ⟨_, rfl, .inl ⟨rfl, _, SqL.of upd_same⟩, l, _, _, rfl, rfl, upd_same, small, ?_⟩⟩
      refine ⟨_, rfl, _, _, _, rfl, (fun _ e => e), oT.k .watch, _, rfl, iteF ?_⟩
      refine ⟨_, rfl, _, _, _, rfl, (fun _ e => e), oT.kv, true, rfl, iteT ?_⟩
      refine ⟨_, rfl, _, rfl, (by show 1 ≤ sizeLine; decide), fun q hq2 => ?_⟩
      have ql : q ≠ l := fun e => by rw [e, upd_same] at hq2; cases hq2
      refine ⟨.list [.str "NoStart"], .list [.str z], dl _ l _ (by rw [upd_ne ql.symm]; exact upd_same), dl _ q _ upd_same, (by decide +kernel), hsh, ?_⟩
      have hq3 : PyData.eqv (.list [.str "NoStart"]) (.list [.str z]) = r := hq
      rw [hq3]
      refine k _ fun b o e => ?_
      have h1 : b ≠ l := ne_of_none e hl
      have h2 : b ≠ q := ne_of_none (H := upd (upd H l (.lst [])) l (.lst ([] ++ [V.str "NoStart"]))) (by rw [upd_ne h1, upd_ne h1]; exact e) hq2
      rw [upd_ne h2, upd_ne h1, upd_ne h1]
      exact e
    | watch =>
      refine ⟨_, rfl, _, _, _, rfl, (fun _ e => e), oT.k .ticks, _, rfl, iteF ?_⟩
      refine ⟨_, rfl, _, _, _, rfl, (fun _ e => e), oT.k .lease, _, rfl, iteF ?_⟩
      refine ⟨_, rfl, _, _, _, rfl, (fun _ e => e), oT.k .key, _, rfl, iteF ?_⟩
      refine ⟨_, rfl, _, _, _, rfl, (fun _ e => e), oT.k .held, _, rfl, iteF ?_⟩
      refine ⟨_, rfl, _, _, _, rfl, (fun _ e => e), oT.k .start, _, rfl, iteF ?_⟩
      refine ⟨_, rfl, _, _, _, rfl, (fun _ e => e), oT.k .watch, _, rfl, iteT ⟨_, rfl, .inl ⟨rfl, _, SqL.of upd_same⟩, l, _, _, rfl, rfl, upd_same, small, ?_⟩⟩
      refine ⟨_, rfl, _, _, _, rfl, (fun _ e => e), oT.kv, true, rfl, iteT ?_⟩
      refine ⟨_, rfl, _, rfl, (by show 1 ≤ sizeLine; decide), fun q hq2 => ?_⟩
      have ql : q ≠ l := fun e => by rw [e, upd_same] at hq2; cases hq2
      refine ⟨.list [.str "NoWatch"], .list [.str z], dl _ l _ (by rw [upd_ne ql.symm]; exact upd_same), dl _ q _ upd_same, (by decide +kernel), hsh, ?_⟩
      have hq3 : PyData.eqv (.list [.str "NoWatch"]) (.list [.str z]) = r := hq
      rw [hq3]
      refine k _ fun b o e => ?_
      have h1 : b ≠ l := ne_of_none e hl
      have h2 : b ≠ q := ne_of_none (H := upd (upd H l (.lst [])) l (.lst ([] ++ [V.str "NoWatch"]))) (by rw [upd_ne h1, upd_ne h1]; exact e) hq2
      rw [upd_ne h2, upd_ne h1, upd_ne h1]
      exact e
end
end KL

namespace KL
open PySem L2 L2H LX KB
/-! ### the law's own: a deed's answer, or its refusal's word -/
def spDone (Rs : RsT) : Sp := fun vs H Q _ => ∃ (F : List Addr) (p : Addr) (s : Rm) (dt : Addr) (d : Deed), vs = [.ref p, .ref dt] ∧ H dt = some (.tup d.V) ∧ DeedOk d ∧ Rs F H p s ∧ Fits s ∧
  ∀ a s' F' H', DoR s d a s' → Rs F' H' p s' → Grow F F' H → Ch H H' F → Q a.V H'
def Kd.k6 : Kd → K6
  | .ticks => .ticks
  | .lease => .lease
  | .key => .key
  | .held => .held
section
variable {P : Program} {w : World} {K : PySem.W.Frag} {mg : Str → Option Value} {base : Heap}
theorem ok_done {f fO C : Addr} {fd fdO : FuncData} {kk : Kinds} {Rs : RsT} (F : Fun K "_law_done" "_law_done" s_done f fd) (A1 : RoomApi P w K mg base C kk Rs hsL) (M : Errs K mg kk)
    (DC : ∃ f fd, mg (Str.ofString "_law_call") = some (.ref f) ∧ PySem.W.keepIn K (.ref f) = true ∧ Binds K fd p_call [] ∧ FnOk P w K mg base (L2.CX P w) 9 f fd p_call (spCall kk Rs))
    (FO : FnP P w K mg base 1 fO fdO p_only (spOnly kk)) (gO : mg "_law_only" = some (.ref fO)) (kO : PySem.W.keepIn K (.ref fO) = true) (bO : Binds K fdO p_only []) : FnOk P w K mg base CX0 10 f fd p_done (spDone Rs) := by
  obtain ⟨fC, fdC, gC, kC, bC, GC⟩ := DC
  refine F.ok sc_done (fun vs H Q E h => ?_) (fun cdv A outer s H vs Q E hr h => ?_)
  · obtain ⟨F, p, s, dt, d, rfl, _⟩ := h
    rfl
  · obtain ⟨Fo, p, r, dt, d, rfl, hd, hok, S, fit, k⟩ := h
    have hr1 : Room 1 _ := hr.mono (by decide)
    refine ⟨_, pss_one (ps_try_as (i := 2) rfl rfl sc_done.nd rfl rfl ⟨rfl, by decide, .inl M.gL⟩ takes0
      (fun W pn xe tk _ => pss_one (ps_ret (pe_callS (E := WE W) GC hr rfl gC kC bC (fun σ => passAt tk σ) (pa_cons (pv 0) (pa_cons (pv 1) pa_nil)))))
      (ts := fun a cls d => tSeq (tForLP K (tLst (tCons (tC (.str "BadTicks")) (tCons (tC (.str "NoLease")) (tCons (tC (.str "NoKey")) (tCons (tC (.str "Held")) tNil))))) (gName 3) (tIfS (tB (tCallP (spO kk a cls d) (tCons (tVar 2) (tCons (tVar 3) tNil)))) (tRet (tVar 3)) tNext)) (tRet (tC (.str "another refusal"))))
      (fun a oe cls d pn hz hf => ?_)), ?_⟩
    · obtain ⟨rfl, rfl⟩ := hz
      exact pss_cons (ps_forLP PassesOwn.never (pe_lst (pa_cons pe_str (pa_cons pe_str (pa_cons pe_str (pa_cons pe_str pa_nil))))) (pg_name (i := 3) sc_done.nd rfl (Or.inl rfl) (Or.inr rfl))
        (pss_one (ps_if (pt_val (pe_callP (sp := spOnly kk) (p := (a, oe)) FO ⟨hr1.dp, hr1.un⟩ List.mem_cons_self hf (by rfl) gO kO bO (pa_cons (pv 2) (pa_cons (pv 3) pa_nil)))) (pss_one (ps_ret (pv 3))) pss_nil)))
        (pss_one (ps_ret pe_str))
    · have four : (4 : Nat) ≤ sizeLine := by decide
      refine ⟨_, rfl, _, rfl, Fo, p, r, dt, d, rfl, hd, hok, S, fit, fun a s' F' H1 o S' G' C' => ?_⟩
      have q : ∀ {H2 : Hp}, Same H1 H2 → Q a.V H2 := fun {H2} h => k a s' F' H2 o (A1.frame S' (Ch.of h []) (fun _ _ z => nomatch z)) G' (C'.same h)
      cases a with
      | num n => exact q (Same.refl H1)
      | non => exact q (Same.refl H1)
      | bad wk =>
        cases wk with
        | ticks =>
          refine ⟨true, M.e .ticks, fun _ a ha => ?_, fun z => nomatch z⟩
          refine ⟨four, fun l hl => ⟨l, _, rfl, SqL.of upd_same, fun i σ H' => (i = 0) ∧ (∃ y : Option V, σ = [some (.ref p), some (.ref dt), some (.ref a), y]) ∧ Same (upd H1 l (.lst [.str "BadTicks", .str "NoLease", .str "NoKey", .str "Held"])) H', ⟨by simp, ⟨_, rfl⟩, Same.refl _⟩, ?_⟩⟩
          rintro i σ H' ⟨hi, ⟨y, rfl⟩, hs⟩
          refine ⟨SqL.of (hs _ _ upd_same), ?_⟩
          rcases hi with rfl
          · exact ⟨_, rfl, _, rfl, _, rfl, .ticks, _, _, rfl, rfl, rfl, k6_shaped .ticks, k6_eqv .ticks .ticks, fun H2 hs2 => ⟨_, rfl, iteT ⟨_, rfl, q fun b o e => hs2 _ _ (hs _ _ (by rw [upd_ne (ne_of_none e hl)]; exact e))⟩⟩⟩
        | lease =>
          refine ⟨true, M.e .lease, fun _ a ha => ?_, fun z => nomatch z⟩
          refine ⟨four, fun l hl => ⟨l, _, rfl, SqL.of upd_same, fun i σ H' => (i = 0 ∨ i = 1) ∧ (∃ y : Option V, σ = [some (.ref p), some (.ref dt), some (.ref a), y]) ∧ Same (upd H1 l (.lst [.str "BadTicks", .str "NoLease", .str "NoKey", .str "Held"])) H', ⟨by simp, ⟨_, rfl⟩, Same.refl _⟩, ?_⟩⟩
          rintro i σ H' ⟨hi, ⟨y, rfl⟩, hs⟩
          refine ⟨SqL.of (hs _ _ upd_same), ?_⟩
          rcases hi with rfl | rfl
          · exact ⟨_, rfl, _, rfl, _, rfl, .lease, _, _, rfl, rfl, rfl, k6_shaped .ticks, k6_eqv .lease .ticks, fun H2 hs2 => ⟨_, rfl, iteF ⟨by simp, ⟨_, rfl⟩, hs.trans hs2⟩⟩⟩
          · exact ⟨_, rfl, _, rfl, _, rfl, .lease, _, _, rfl, rfl, rfl, k6_shaped .lease, k6_eqv .lease .lease, fun H2 hs2 => ⟨_, rfl, iteT ⟨_, rfl, q fun b o e => hs2 _ _ (hs _ _ (by rw [upd_ne (ne_of_none e hl)]; exact e))⟩⟩⟩
        | key =>
          refine ⟨true, M.e .key, fun _ a ha => ?_, fun z => nomatch z⟩
          refine ⟨four, fun l hl => ⟨l, _, rfl, SqL.of upd_same, fun i σ H' => (i = 0 ∨ i = 1 ∨ i = 2) ∧ (∃ y : Option V, σ = [some (.ref p), some (.ref dt), some (.ref a), y]) ∧ Same (upd H1 l (.lst [.str "BadTicks", .str "NoLease", .str "NoKey", .str "Held"])) H', ⟨by simp, ⟨_, rfl⟩, Same.refl _⟩, ?_⟩⟩
          rintro i σ H' ⟨hi, ⟨y, rfl⟩, hs⟩
          refine ⟨SqL.of (hs _ _ upd_same), ?_⟩
          rcases hi with rfl | rfl | rfl
          · exact ⟨_, rfl, _, rfl, _, rfl, .key, _, _, rfl, rfl, rfl, k6_shaped .ticks, k6_eqv .key .ticks, fun H2 hs2 => ⟨_, rfl, iteF ⟨by simp, ⟨_, rfl⟩, hs.trans hs2⟩⟩⟩
          · exact ⟨_, rfl, _, rfl, _, rfl, .key, _, _, rfl, rfl, rfl, k6_shaped .lease, k6_eqv .key .lease, fun H2 hs2 => ⟨_, rfl, iteF ⟨by simp, ⟨_, rfl⟩, hs.trans hs2⟩⟩⟩
          · exact ⟨_, rfl, _, rfl, _, rfl, .key, _, _, rfl, rfl, rfl, k6_shaped .key, k6_eqv .key .key, fun H2 hs2 => ⟨_, rfl, iteT ⟨_, rfl, q fun b o e => hs2 _ _ (hs _ _ (by rw [upd_ne (ne_of_none e hl)]; exact e))⟩⟩⟩
        | held =>
          refine ⟨true, M.e .held, fun _ a ha => ?_, fun z => nomatch z⟩
          refine ⟨four, fun l hl => ⟨l, _, rfl, SqL.of upd_same, fun i σ H' => (i = 0 ∨ i = 1 ∨ i = 2 ∨ i = 3) ∧ (∃ y : Option V, σ = [some (.ref p), some (.ref dt), some (.ref a), y]) ∧ Same (upd H1 l (.lst [.str "BadTicks", .str "NoLease", .str "NoKey", .str "Held"])) H', ⟨by simp, ⟨_, rfl⟩, Same.refl _⟩, ?_⟩⟩
          rintro i σ H' ⟨hi, ⟨y, rfl⟩, hs⟩
          refine ⟨SqL.of (hs _ _ upd_same), ?_⟩
          rcases hi with rfl | rfl | rfl | rfl
          · exact ⟨_, rfl, _, rfl, _, rfl, .held, _, _, rfl, rfl, rfl, k6_shaped .ticks, k6_eqv .held .ticks, fun H2 hs2 => ⟨_, rfl, iteF ⟨by simp, ⟨_, rfl⟩, hs.trans hs2⟩⟩⟩
          · exact ⟨_, rfl, _, rfl, _, rfl, .held, _, _, rfl, rfl, rfl, k6_shaped .lease, k6_eqv .held .lease, fun H2 hs2 => ⟨_, rfl, iteF ⟨by simp, ⟨_, rfl⟩, hs.trans hs2⟩⟩⟩
          · exact ⟨_, rfl, _, rfl, _, rfl, .held, _, _, rfl, rfl, rfl, k6_shaped .key, k6_eqv .held .key, fun H2 hs2 => ⟨_, rfl, iteF ⟨by simp, ⟨_, rfl⟩, hs.trans hs2⟩⟩⟩
          · exact ⟨_, rfl, _, rfl, _, rfl, .held, _, _, rfl, rfl, rfl, k6_shaped .held, k6_eqv .held .held, fun H2 hs2 => ⟨_, rfl, iteT ⟨_, rfl, q fun b o e => hs2 _ _ (hs _ _ (by rw [upd_ne (ne_of_none e hl)]; exact e))⟩⟩⟩
end
end KL

namespace KB
open PySem L2 L2H LX
/-! ### a room's whole history: what all its changes say of the keys that stand -/
/-- what stands behind some changes -/
abbrev vF (rs : List Row) : Str → Option Str := holdM [] rs
theorem vF_snoc (rs : List Row) (r : Row) : vF (rs ++ [r]) = stepM (vF rs) r := by
  unfold vF holdM
  rw [List.foldl_append]
  rfl
structure Hist (rows : List Row) (held : Str → Option (Str × Int)) (mn : List (Int × Row)) (T : Int) : Prop where
  nu : Num rows
  good : ∀ r ∈ rows, GoodR r
  asc : rows.Pairwise fun x y => x.t ≤ y.t
  tk : ∀ r ∈ rows, 0 ≤ r.t ∧ r.t ≤ T
  T0 : 0 ≤ T
  st : vF rows = fun k => (held k).map (·.1)
  cu : ∀ (i : Nat) (r : Row), rows[i]? = some r → r.w = "cut" → vF (rows.take i) r.k ≠ none
  mi : ∀ x ∈ mn, ∃ i : Nat, x.1 = (i : Int) + 1 ∧ rows[i]? = some x.2
  mk_ : (mn.map (·.1)).Nodup
  nm : ∀ r ∈ rows, r.n ∉ mn.map (·.1) → r.w = "cut" ∧ r.v = ""
  ct : ∃ hl : List Str, hl.Nodup ∧ (∀ k, k ∈ hl ↔ held k ≠ none) ∧ rows.length + hl.length ≤ 2 * mn.length
theorem fold_key : ∀ {rs : List Row} {f : Str → Option Str} {k : Str}, rs.foldl stepM f k ≠ none → f k ≠ none ∨ ∃ r ∈ rs, r.k = k
  | [], f, k, h => .inl h
  | r :: rs, f, k, h => by
    rcases fold_key (rs := rs) h with q | ⟨x, hx, e⟩
    · by_cases e : r.k = k
      · exact .inr ⟨r, List.mem_cons_self, e⟩
      · unfold stepM at q
        rw [if_neg e] at q
        exact .inl q
    · exact .inr ⟨x, List.mem_cons_of_mem _ hx, e⟩
theorem vF_key {rs : List Row} {k : Str} (h : vF rs k ≠ none) : ∃ r ∈ rs, r.k = k := (fold_key h).resolve_left fun z => z rfl
section
variable {rows : List Row} {held : Str → Option (Str × Int)} {mn : List (Int × Row)} {T : Int}
theorem Hist.init : Hist [] (fun _ => none) [] 0 :=
  ⟨Num.nil, (fun _ z => nomatch z), .nil, (fun _ z => nomatch z), Int.le_refl _, rfl, (fun i r h => by simp at h), (fun _ z => nomatch z), .nil, (fun _ z => nomatch z), [], .nil, (fun k => ⟨(fun z => nomatch z), fun z => absurd rfl z⟩), Nat.le_refl _⟩
theorem Hist.mono {T' : Int} (A : Hist rows held mn T) (h : T ≤ T') : Hist rows held mn T' :=
  ⟨A.nu, A.good, A.asc, fun r hr => ⟨(A.tk r hr).1, by have := (A.tk r hr).2; omega⟩, by have := A.T0; omega, A.st, A.cu, A.mi, A.mk_, A.nm, A.ct⟩
theorem Hist.heldOk (A : Hist rows held mn T) {k : Str} (h : held k ≠ none) : TOk 60 k := by
  have h2 : vF rows k ≠ none := by
    rw [A.st]
    show (held k).map (·.1) ≠ none
    cases e : held k with
    | none => exact absurd e h
    | some v => intro z; cases z
  obtain ⟨r, hr, rfl⟩ := vF_key h2
  exact (A.good r hr).ok.k
theorem Hist.key_le (A : Hist rows held mn T) : ∀ x ∈ mn, x.1 ≤ rows.length := fun x hx => by
  obtain ⟨i, e, h⟩ := A.mi x hx
  have := (List.getElem?_eq_some_iff.mp h).1
  omega
/-- one row more -/
theorem Hist.row (A : Hist rows held mn T) {t : Int} {w k v : Str} {x : Option (Str × Int)} {mn' : List (Int × Row)} (hT : T ≤ t) (ok : TOk 60 k) (ov : TOk 60 v) (wd : w = "put" ∨ w = "cut") (hx : x.map (·.1) = if w = "put" then some v else none) (hc : w = "cut" → held k ≠ none)
    (hm : mn' = mn ++ [((rows.length : Int) + 1, ⟨(rows.length : Int) + 1, t, w, k, v⟩)] ∨ (mn' = mn ∧ w = "cut" ∧ v = "")) : Hist (rows ++ [⟨(rows.length : Int) + 1, t, w, k, v⟩]) (setF held k x) mn' t := by
  have okw : PyData.strOk w = true := by rcases wd with rfl | rfl <;> decide +kernel
  have hnew : (rows ++ [(⟨(rows.length : Int) + 1, t, w, k, v⟩ : Row)])[rows.length]? = some ⟨(rows.length : Int) + 1, t, w, k, v⟩ := by
    rw [List.getElem?_append_right (Nat.le_refl _), Nat.sub_self]; rfl
  have mi' : ∀ x ∈ mn, ∃ i : Nat, x.1 = (i : Int) + 1 ∧ (rows ++ [(⟨(rows.length : Int) + 1, t, w, k, v⟩ : Row)])[i]? = some x.2 := fun x hx => by
    obtain ⟨i, e, h⟩ := A.mi x hx
    exact ⟨i, e, by rw [List.getElem?_append_left (List.getElem?_eq_some_iff.mp h).1]; exact h⟩
  have kl := A.key_le
  obtain ⟨hl, h1, h2, h3⟩ := A.ct
  refine ⟨A.nu.snoc rfl, fun r hr => ?_, ?_, fun r hr => ?_, by have := A.T0; omega, ?_, fun i r hi hw => ?_, ?_, ?_, fun r hr hn => ?_, ?_⟩
  · rcases List.mem_append.mp hr with h | h
    · exact A.good r h
    · rw [List.mem_singleton.mp h]; exact ⟨⟨okw, ok, ov⟩, wd⟩
  · refine List.pairwise_append.mpr ⟨A.asc, List.pairwise_singleton _ _, fun a ha b hb => ?_⟩
    rw [List.mem_singleton.mp hb]
    have := (A.tk a ha).2
    show a.t ≤ t
    omega
  · rcases List.mem_append.mp hr with h | h
    · have := A.tk r h
      exact ⟨this.1, by omega⟩
    · rw [List.mem_singleton.mp h]
      have := A.T0
      exact ⟨by show 0 ≤ t; omega, Int.le_refl _⟩
  · rw [vF_snoc, A.st]
    funext j
    show (if k = j then (if w = "put" then some v else none) else (held j).map (·.1)) = (setF held k x j).map (·.1)
    unfold setF
    by_cases e : k = j
    · rw [if_pos e, if_pos e, hx]
    · rw [if_neg e, if_neg e]
  · by_cases c : i < rows.length
    · rw [List.getElem?_append_left c] at hi
      rw [List.take_append_of_le_length (Nat.le_of_lt c)]
      exact A.cu i r hi hw
    · have e : i = rows.length := by
        have := (List.getElem?_eq_some_iff.mp hi).1
        rw [List.length_append, List.length_cons, List.length_nil] at this
        omega
      subst e
      rw [hnew] at hi
      cases hi
      rw [List.take_append_of_le_length (Nat.le_refl _), List.take_length, A.st]
      show (held k).map (·.1) ≠ none
      cases e : held k with
      | none => exact absurd e (hc hw)
      | some v => intro z; cases z
  · rcases hm with rfl | ⟨rfl, _⟩
    · intro x hx
      rcases List.mem_append.mp hx with h | h
      · exact mi' x h
      · rw [List.mem_singleton.mp h]; exact ⟨rows.length, rfl, hnew⟩
    · exact mi'
  · rcases hm with rfl | ⟨rfl, _⟩
    · rw [List.map_append]
      refine List.nodup_append.mpr ⟨A.mk_, List.nodup_cons.mpr ⟨(fun z => nomatch z), List.nodup_nil⟩, fun a ha b hb => ?_⟩
      obtain ⟨x, hx, rfl⟩ := List.mem_map.mp ha
      rw [List.map_cons, List.map_nil] at hb
      rw [List.mem_singleton.mp hb]
      have := kl x hx
      show x.1 ≠ (rows.length : Int) + 1
      omega
    · exact A.mk_
  · rcases List.mem_append.mp hr with h | h
    · refine A.nm r h fun z => hn ?_
      rcases hm with rfl | ⟨rfl, _⟩
      · rw [List.map_append]; exact List.mem_append_left _ z
      · exact z
    · rw [List.mem_singleton.mp h] at hn ⊢
      rcases hm with rfl | ⟨rfl, e1, e2⟩
      · refine absurd ?_ hn
        rw [List.map_append]; exact List.mem_append_right _ (List.mem_singleton.mpr rfl)
      · exact ⟨e1, e2⟩
  · rw [List.length_append, List.length_cons, List.length_nil]
    rcases wd with e | e
    · -- a put
      rcases hm with rfl | ⟨_, e2, _⟩
      · rw [if_pos e] at hx
        have hs : ∀ j, setF held k x j ≠ none ↔ (k = j ∨ held j ≠ none) := fun j => by
          unfold setF
          by_cases c : k = j
          · rw [if_pos c]
            exact ⟨fun _ => .inl c, fun _ z => by rw [z] at hx; cases hx⟩
          · rw [if_neg c]
            exact ⟨.inr, fun z => z.resolve_left c⟩
        rw [List.length_append, List.length_cons, List.length_nil]
        by_cases c : k ∈ hl
        · exact ⟨hl, h1, fun j => by rw [hs, h2]; exact ⟨.inr, fun z => z.elim (fun y => (h2 j).mp (y ▸ c)) id⟩, by omega⟩
        · refine ⟨k :: hl, List.nodup_cons.mpr ⟨c, h1⟩, fun j => ?_, by rw [List.length_cons]; omega⟩
          rw [hs, List.mem_cons, h2]
          exact ⟨fun z => z.imp Eq.symm id, fun z => z.imp Eq.symm id⟩
      · rw [e] at e2; exact absurd e2 (by decide +kernel)
    · -- a cut
      have ne : ¬ w = "put" := by rw [e]; decide +kernel
      rw [if_neg ne] at hx
      have xn : x = none := by
        cases x with
        | none => rfl
        | some y => cases hx
      have hs : ∀ j, setF held k x j ≠ none ↔ (j ≠ k ∧ held j ≠ none) := fun j => by
        unfold setF
        by_cases c : k = j
        · rw [if_pos c, xn]
          exact ⟨fun z => absurd rfl z, fun z => absurd c.symm z.1⟩
        · rw [if_neg c]
          exact ⟨fun z => ⟨fun y => c y.symm, z⟩, fun z => z.2⟩
      have km := (h2 k).mpr (hc e)
      refine ⟨hl.erase k, h1.erase k, fun j => by rw [hs, h1.mem_erase_iff, h2], ?_⟩
      have l := List.length_erase_of_mem km
      have p : 0 < hl.length := List.length_pos_of_mem km
      rcases hm with rfl | ⟨rfl, _⟩
      · rw [List.length_append, List.length_cons, List.length_nil]; omega
      · omega
end
/-! ### deeds -/
theorem cutAll_same : ∀ (ks : List Str) (s : Rm) (t : Int), (cutAll s t ks).now = s.now ∧ (cutAll s t ks).given = s.given ∧ (cutAll s t ks).span = s.span ∧ (cutAll s t ks).ends = s.ends ∧ (cutAll s t ks).gone = s.gone ∧ (cutAll s t ks).met = s.met ∧ (cutAll s t ks).wat = s.wat ∧ ∃ new, (cutAll s t ks).rows = s.rows ++ new
  | [], s, t => ⟨rfl, rfl, rfl, rfl, rfl, rfl, rfl, [], (List.append_nil _).symm⟩
  | k :: ks, s, t => by
    obtain ⟨a, b, c, d, e, f, g, new, h⟩ := cutAll_same ks (cutM t s k) t
    refine ⟨a, b, c, d, e, f, g, ⟨(s.rows.length : Int) + 1, t, "cut", k, ""⟩ :: new, ?_⟩
    show (cutAll (cutM t s k) t ks).rows = _
    rw [h]
    show (s.rows ++ [(⟨(s.rows.length : Int) + 1, t, "cut", k, ""⟩ : Row)]) ++ new = _
    rw [List.append_assoc]
    rfl
theorem Hist.all {mn : List (Int × Row)} {t : Int} : ∀ {ks : List Str} {s : Rm}, ks.Nodup → (∀ k ∈ ks, s.held k ≠ none) → Hist s.rows s.held mn t → Hist (cutAll s t ks).rows (cutAll s t ks).held mn t
  | [], s, _, _, A => A
  | k :: ks, s, n, h, A => by
    obtain ⟨n1, n2⟩ := List.nodup_cons.mp n
    have hk := h k List.mem_cons_self
    have B := A.row (t := t) (w := "cut") (k := k) (v := "") (x := none) (mn' := mn) (Int.le_refl _) (A.heldOk hk) (TOk.nil.mono (by decide)) (.inr rfl) (by rw [if_neg (by decide +kernel)]; rfl) (fun _ => hk) (.inr ⟨rfl, rfl, rfl⟩)
    refine Hist.all (s := cutM t s k) n2 (fun j hj => ?_) B
    show setF s.held k none j ≠ none
    unfold setF
    rw [if_neg (fun (z : k = j) => n1 (by rw [z]; exact hj))]
    exact h j (List.mem_cons_of_mem _ hj)
theorem Hist.over {mn : List (Int × Row)} {s s' : Rm} {h t T : Int} (A : Hist s.rows s.held mn T) (hT : T ≤ t) (o : OverR s h t s') : Hist s'.rows s'.held mn t := by
  obtain ⟨ks, hk, rfl⟩ := o
  refine Hist.all hk.nd (fun k m => ?_) (A.mono hT)
  obtain ⟨v, e⟩ := (hk.mem k).mp m
  show s.held k ≠ none
  rw [e]
  exact fun z => nomatch z
/-- what the end of leases leaves as it was -/
structure EndSame (s s' : Rm) : Prop where
  now : s'.now = s.now
  given : s'.given = s.given
  span : s'.span = s.span
  gone : s'.gone = s.gone
  met : s'.met = s.met
  wat : s'.wat = s.wat
  rows : ∃ new, s'.rows = s.rows ++ new
theorem over_same {s s' : Rm} {h t : Int} (o : OverR s h t s') : EndSame s s' ∧ s'.ends = setF s.ends h none := by
  obtain ⟨ks, _, rfl⟩ := o
  obtain ⟨a, b, c, d, e, f, g, n⟩ := cutAll_same ks { s with ends := setF s.ends h none } t
  exact ⟨⟨a, b, c, e, f, g, n⟩, d⟩
theorem EndSame.refl (s : Rm) : EndSame s s := ⟨rfl, rfl, rfl, rfl, rfl, rfl, [], (List.append_nil _).symm⟩
theorem EndSame.trans {a b c : Rm} (x : EndSame a b) (y : EndSame b c) : EndSame a c := by
  obtain ⟨n1, e1⟩ := x.rows
  obtain ⟨n2, e2⟩ := y.rows
  exact ⟨y.now.trans x.now, y.given.trans x.given, y.span.trans x.span, y.gone.trans x.gone, y.met.trans x.met, y.wat.trans x.wat, n1 ++ n2, by rw [e2, e1, List.append_assoc]⟩
theorem Hist.overs {mn : List (Int × Row)} {U : Int} : ∀ {es : List (Int × Int)} {s s' : Rm} {T : Int}, OversR es s s' → AscE es → (∀ e ∈ es, T ≤ e.1 ∧ e.1 ≤ U) → T ≤ U → Hist s.rows s.held mn T → Hist s'.rows s'.held mn U ∧ EndSame s s' ∧ ∀ h, s'.ends h ≠ none → s.ends h = s'.ends h ∧ h ∉ es.map (·.2)
  | [], s, s', T, o, _, _, hU, A => by
    have o : s' = s := o
    subst o
    exact ⟨A.mono hU, EndSame.refl _, fun h e => ⟨rfl, fun z => nomatch z⟩⟩
  | e :: es, s, s', T, ⟨s1, o1, o2⟩, asc, hb, hU, A => by
    obtain ⟨b1, b2⟩ := hb e List.mem_cons_self
    obtain ⟨a1, a2⟩ := List.pairwise_cons.mp asc
    have B := A.over b1 o1
    obtain ⟨q1, q2⟩ := over_same o1
    obtain ⟨r1, r2, r3⟩ := Hist.overs o2 a2 (fun x hx => ⟨by have := SrtO.lexB_no.mp (a1 x hx); omega, (hb x (List.mem_cons_of_mem _ hx)).2⟩) b2 B
    refine ⟨r1, q1.trans r2, fun h eh => ?_⟩
    obtain ⟨x1, x2⟩ := r3 h eh
    rw [q2] at x1
    unfold setF at x1
    by_cases c : e.2 = h
    · rw [if_pos c] at x1; exact absurd x1.symm eh
    · rw [if_neg c] at x1
      refine ⟨x1, fun z => ?_⟩
      rcases List.mem_cons.mp z with z | z
      · exact c z.symm
      · exact x2 z
/-- a room's history, and its leases -/
structure HistR (s : Rm) (mn : List (Int × Row)) : Prop where
  h : Hist s.rows s.held mn s.now
  en : ∀ h e, s.ends h = some e → s.now < e
  sp : ∀ h t, s.span h = some t → 1 ≤ t
/-- what the law itself did -/
def mineM (s : Rm) (mn : List (Int × Row)) : Deed → Ans → List (Int × Row)
  | .put k v _, .num n => mn ++ [(n, ⟨n, s.now, "put", k, v⟩)]
  | .cut k _, .num n => mn ++ [(n, ⟨n, s.now, "cut", k, ""⟩)]
  | _, _ => mn
def DeedT : Deed → Prop
  | .put k v _ => TOk 60 k ∧ TOk 60 v
  | .cut k _ => TOk 60 k
  | _ => True
def nowM (s : Rm) : Deed → Ans → Int
  | .wait t, .non => s.now + t
  | _, _ => s.now
structure DidT (s : Rm) (d : Deed) (a : Ans) (s' : Rm) : Prop where
  now : s'.now = nowM s d a
  gone : s'.gone = s.gone
  met : s'.met = s.met
  wat : s'.wat = s.wat
  rows : ∃ new, s'.rows = s.rows ++ new
  given : (∀ t n, d = .grant t → a = .num n → n = s'.given) ∧ (∀ t, d = .grant t → (∀ n, a ≠ .num n) → s'.given = s.given) ∧ ((∀ t, d ≠ .grant t) → s'.given = s.given) ∧ s'.given ≤ s.given + 1
theorem DidT.none {s : Rm} {d : Deed} {k : Kd} : DidT s d (.bad k) s := by
  refine ⟨by cases d <;> rfl, rfl, rfl, rfl, ⟨[], (List.append_nil _).symm⟩, (fun t n _ e => nomatch e), fun _ _ _ => rfl, fun _ => rfl, Nat.le_succ _⟩
theorem HistR.bad {s : Rm} {mn : List (Int × Row)} {d : Deed} {k : Kd} (A : HistR s mn) : HistR s (mineM s mn d (.bad k)) := by
  cases d <;> exact A
theorem HistR.did {s s' : Rm} {mn : List (Int × Row)} {d : Deed} {a : Ans} (A : HistR s mn) (hd : DeedT d) (o : DoR s d a s') : HistR s' (mineM s mn d a) ∧ DidT s d a s' := by
  cases d with
  | grant t =>
    rcases o with ⟨_, rfl, rfl⟩ | ⟨nb, rfl, rfl⟩
    · exact ⟨A.bad, .none⟩
    · unfold badT at nb
      refine ⟨⟨A.h, fun h e q => ?_, fun h u q => ?_⟩, rfl, rfl, rfl, rfl, ⟨[], (List.append_nil _).symm⟩, fun _ n _ e => ?_, fun _ _ q => absurd rfl (q _), fun q => absurd rfl (q t), Nat.le_refl _⟩
      · change setF s.ends ((s.given : Int) + 1) (some (s.now + t)) h = some e at q
        unfold setF at q
        by_cases c : (s.given : Int) + 1 = h
        · rw [if_pos c] at q
          cases q
          show s.now < s.now + t
          omega
        · rw [if_neg c] at q
          exact A.en h e q
      · change setF s.span ((s.given : Int) + 1) (some t) h = some u at q
        unfold setF at q
        by_cases c : (s.given : Int) + 1 = h
        · rw [if_pos c] at q
          cases q
          omega
        · rw [if_neg c] at q
          exact A.sp h u q
      · cases e; rfl
  | renew h =>
    rcases o with ⟨_, rfl, rfl⟩ | ⟨_, rfl, t, e1, rfl⟩
    · exact ⟨A.bad, .none⟩
    · refine ⟨⟨A.h, fun j e q => ?_, A.sp⟩, rfl, rfl, rfl, rfl, ⟨[], (List.append_nil _).symm⟩, fun _ n z _ => (nomatch z), fun _ z => (nomatch z), fun _ => rfl, Nat.le_succ _⟩
      change setF s.ends h (some (s.now + t)) j = some e at q
      unfold setF at q
      by_cases c : h = j
      · rw [if_pos c] at q
        cases q
        have := A.sp h t e1
        show s.now < s.now + t
        omega
      · rw [if_neg c] at q
        exact A.en j e q
  | drop h =>
    rcases o with ⟨_, rfl, rfl⟩ | ⟨_, rfl, o⟩
    · exact ⟨A.bad, .none⟩
    · obtain ⟨q1, q2⟩ := over_same o
      have B := A.h.over (Int.le_refl _) o
      refine ⟨⟨by rw [q1.now]; exact B, fun j e q => ?_, by rw [q1.span]; exact A.sp⟩, q1.now, q1.gone, q1.met, q1.wat, q1.rows, fun _ n z _ => (nomatch z), fun _ z => (nomatch z), fun _ => q1.given, by rw [q1.given]; exact Nat.le_succ _⟩
      rw [q2] at q
      unfold setF at q
      by_cases c : h = j
      · rw [if_pos c] at q; cases q
      · rw [if_neg c] at q
        rw [q1.now]
        exact A.en j e q
  | wait t =>
    rcases o with ⟨_, rfl, rfl⟩ | ⟨nb, rfl, es, s1, e1, e2, rfl⟩
    · exact ⟨A.bad, .none⟩
    · unfold badT at nb
      obtain ⟨B, q1, q2⟩ := Hist.overs e2 e1.asc (fun e he => by
        obtain ⟨m1, m2⟩ := (e1.mem e).mp he
        have := A.en _ _ m1
        exact ⟨by omega, m2⟩) (by omega) A.h
      refine ⟨⟨B, fun j e q => ?_, by show ∀ h u, s1.span h = some u → 1 ≤ u; rw [q1.span]; exact A.sp⟩, rfl, q1.gone, q1.met, q1.wat, q1.rows, fun _ n z _ => (nomatch z), fun _ z => (nomatch z), fun _ => q1.given, by show s1.given ≤ _; rw [q1.given]; exact Nat.le_succ _⟩
      change s1.ends j = some e at q
      obtain ⟨x1, x2⟩ := q2 j (by rw [q]; exact fun z => nomatch z)
      rw [q] at x1
      show s.now + t < e
      by_cases c : e ≤ s.now + t
      · exact absurd (List.mem_map.mpr ⟨(e, j), (e1.mem (e, j)).mpr ⟨x1, c⟩, rfl⟩) x2
      · omega
  | put k v h =>
    rcases o with ⟨_, rfl, rfl⟩ | ⟨_, _, rfl, rfl⟩ | ⟨_, _, rfl, rfl⟩
    · exact ⟨A.bad, .none⟩
    · exact ⟨A.bad, .none⟩
    · exact ⟨⟨A.h.row (Int.le_refl _) hd.1 hd.2 (.inl rfl) (by rw [if_pos rfl]; rfl) (fun z => absurd z (by decide +kernel)) (.inl rfl), A.en, A.sp⟩, rfl, rfl, rfl, rfl, ⟨_, rfl⟩, fun _ n z _ => (nomatch z), fun _ z => (nomatch z), fun _ => rfl, Nat.le_succ _⟩
  | cut k h =>
    rcases o with ⟨_, rfl, rfl⟩ | ⟨_, _, rfl, rfl⟩ | ⟨_, _, rfl, rfl⟩ | ⟨_, hk, _, rfl, rfl⟩
    · exact ⟨A.bad, .none⟩
    · exact ⟨A.bad, .none⟩
    · exact ⟨A.bad, .none⟩
    · exact ⟨⟨A.h.row (Int.le_refl _) hd (TOk.nil.mono (by decide)) (.inr rfl) (by rw [if_neg (by decide +kernel)]; rfl) (fun _ => hk) (.inl rfl), A.en, A.sp⟩, rfl, rfl, rfl, rfl, ⟨_, rfl⟩, fun _ n z _ => (nomatch z), fun _ z => (nomatch z), fun _ => rfl, Nat.le_succ _⟩
end KB

namespace KB
open PySem L2 L2H LX
/-! ### what a line is to hear, and what it has heard -/
abbrev AscN (rs : List Row) : Prop := rs.Pairwise fun x y => x.n < y.n
theorem num_ascN {rs : List Row} (h : Num rs) : AscN rs := List.pairwise_iff_getElem.mpr fun i j hi hj l => by
  have a := h i rs[i] (List.getElem?_eq_getElem hi)
  have b := h j rs[j] (List.getElem?_eq_getElem hj)
  omega
theorem num_le {rs : List Row} (h : Num rs) {r : Row} (hr : r ∈ rs) : 1 ≤ r.n ∧ r.n ≤ rs.length := by
  obtain ⟨i, hi⟩ := List.mem_iff_getElem?.mp hr
  have q := h i r hi
  have l := (List.getElem?_eq_some_iff.mp hi).1
  omega
/-- all that a line wants, from its start on -/
def wantR (rs : List Row) (z : Str) (b : Int) : List Row := rs.filter fun r => decide (r.n ≥ b) && isPre z r.k
theorem wantR_asc {rs : List Row} (h : Num rs) {z : Str} {b : Int} : AscN (wantR rs z b) := (num_ascN h).sublist (List.filter_sublist)
theorem wantR_mem {rs : List Row} {z : Str} {b : Int} {r : Row} (h : r ∈ wantR rs z b) : r ∈ rs ∧ b ≤ r.n ∧ isPre z r.k = true := by
  obtain ⟨h1, h2⟩ := List.mem_filter.mp h
  rw [Bool.and_eq_true] at h2
  exact ⟨h1, of_decide_eq_true h2.1, h2.2⟩
theorem wantR_app (rs ns : List Row) (z : Str) (b : Int) : wantR (rs ++ ns) z b = wantR rs z b ++ wantR ns z b := List.filter_append _ _
theorem wantR_len (rs : List Row) (z : Str) (b : Int) : (wantR rs z b).length ≤ rs.length := List.length_filter_le _ _
theorem asc_split {x : Int} : ∀ {W : List Row}, AscN W → (W.filter fun r => decide (r.n ≤ x)) = W.take (W.filter fun r => decide (r.n ≤ x)).length ∧ (W.filter fun r => decide (r.n > x)) = W.drop (W.filter fun r => decide (r.n ≤ x)).length
  | [], _ => ⟨rfl, rfl⟩
  | r :: W, h => by
    obtain ⟨h1, h2⟩ := List.pairwise_cons.mp h
    obtain ⟨i1, i2⟩ := asc_split (x := x) h2
    by_cases c : r.n ≤ x
    · rw [List.filter_cons_of_pos (by rw [decide_eq_true c]), List.filter_cons_of_neg (by rw [decide_eq_false (by omega)]; decide), List.length_cons, List.take_succ_cons, List.drop_succ_cons, ← i1, ← i2]
      exact ⟨rfl, rfl⟩
    · have e1 : (W.filter fun r => decide (r.n ≤ x)) = [] := List.filter_eq_nil_iff.mpr fun y hy => by
        have := h1 y hy
        rw [decide_eq_false (by omega)]; decide
      have e2 : (W.filter fun r => decide (r.n > x)) = W := List.filter_eq_self.mpr fun y hy => by
        have := h1 y hy
        exact decide_eq_true (by omega)
      rw [List.filter_cons_of_neg (by rw [decide_eq_false c]; decide), List.filter_cons_of_pos (by rw [decide_eq_true (by omega)]), e1, e2]
      exact ⟨rfl, rfl⟩
theorem cnt_at {W : List Row} (h : AscN W) {i : Nat} {r : Row} (hi : W[i]? = some r) : (W.filter fun y => decide (y.n ≤ r.n)).length ≤ i + 1 := by
  obtain ⟨e1, _⟩ := asc_split (x := r.n) h
  generalize hc : (W.filter fun y => decide (y.n ≤ r.n)).length = c at e1
  refine Nat.le_of_not_lt fun l => ?_
  have lw : c ≤ W.length := by rw [← hc]; exact List.length_filter_le _ _
  have l1 : i + 1 < W.length := by omega
  have g : W[i + 1] ∈ W.take c := by
    refine List.mem_iff_getElem?.mpr ⟨i + 1, ?_⟩
    rw [List.getElem?_take, if_pos l]
    exact List.getElem?_eq_getElem l1
  rw [← e1] at g
  have q := of_decide_eq_true (List.mem_filter.mp g).2
  have p := List.pairwise_iff_getElem.mp h i (i + 1) (by omega) l1 (by omega)
  have er : W[i] = r := (List.getElem?_eq_some_iff.mp hi).2
  rw [er] at p
  omega
theorem lastN_take {b : Int} {W : List Row} (h : AscN W) (hb : ∀ r ∈ W, b ≤ r.n) {m i : Nat} (hm : m ≤ W.length) {r : Row} (hi : W[i]? = some r) : (i < m → r.n ≤ lastN b (W.take m)) ∧ (m ≤ i → lastN b (W.take m) < r.n) := by
  have il := (List.getElem?_eq_some_iff.mp hi).1
  have er : W[i] = r := (List.getElem?_eq_some_iff.mp hi).2
  cases m with
  | zero =>
    refine ⟨fun l => absurd l (Nat.not_lt_zero _), fun _ => ?_⟩
    have := hb r (List.mem_of_getElem? hi)
    show b - 1 < r.n
    omega
  | succ m =>
    have e : lastN b (W.take (m + 1)) = W[m].n := by
      unfold lastN
      have q : (W.take (m + 1)).getLast? = some W[m] := by
        rw [List.getLast?_eq_getElem?, List.length_take, Nat.min_eq_left hm, List.getElem?_take, if_pos (by omega)]
        exact List.getElem?_eq_getElem (by omega)
      rw [q]
    rw [e]
    refine ⟨fun l => ?_, fun l => ?_⟩
    · by_cases c : i = m
      · subst c; rw [er]; exact Int.le_refl _
      · have := List.pairwise_iff_getElem.mp h i m il (by omega) (by omega)
        rw [er] at this
        omega
    · have := List.pairwise_iff_getElem.mp h m i (by omega) il (by omega)
      rw [er] at this
      exact this
theorem takeM_appN (b : Int) : ∀ (rs tk ss : List Row), takeM b tk (rs ++ ss) = takeM b (takeM b tk rs) ss
  | [], _, _ => rfl
  | r :: rs, tk, ss => takeM_appN b rs _ ss
theorem takeM_win {b : Int} {W : List Row} (h : AscN W) (hb : ∀ r ∈ W, b ≤ r.n) {c m : Nat} (cm : c ≤ m) (hm : m ≤ W.length) : ∀ j, c + j ≤ W.length → takeM b (W.take m) ((W.drop c).take j) = W.take (max m (c + j))
  | 0, _ => by
    rw [List.take_zero, Nat.add_zero, Nat.max_eq_left cm]; rfl
  | j + 1, hj => by
    have hi : c + j < W.length := by omega
    have e : (W.drop c).take (j + 1) = (W.drop c).take j ++ [W[c + j]] := by
      rw [List.take_add_one, List.getElem?_drop, List.getElem?_eq_getElem hi]; rfl
    rw [e, takeM_appN, takeM_win h hb cm hm j (by omega)]
    have ml : max m (c + j) ≤ W.length := by omega
    obtain ⟨q1, q2⟩ := lastN_take h hb ml (List.getElem?_eq_getElem hi)
    show (if W[c + j].n > lastN b (W.take (max m (c + j))) then W.take (max m (c + j)) ++ [W[c + j]] else W.take (max m (c + j))) = _
    by_cases l : c + j < m
    · have e1 : max m (c + j) = m := by omega
      have e2 : max m (c + (j + 1)) = m := by omega
      rw [e2]
      rw [e1] at q1 ⊢
      rw [if_neg (by have := q1 l; omega)]
    · have e1 : max m (c + j) = c + j := by omega
      have e2 : max m (c + (j + 1)) = c + j + 1 := by omega
      rw [e2]
      rw [e1] at q2 ⊢
      rw [if_pos (by have := q2 (Nat.le_refl _); omega), List.take_add_one, List.getElem?_eq_getElem hi]
      rfl
/-- what a line has heard, of what it had confirmed up to a change -/
def Hd (rows : List Row) (z : Str) (b had : Int) (tk : List Row) : Prop := ∃ m, m ≤ (wantR rows z b).length ∧ tk = (wantR rows z b).take m ∧ ((wantR rows z b).filter fun r => decide (r.n ≤ had)).length ≤ m
theorem Hd.grow {rows new : List Row} {z : Str} {b had : Int} {tk : List Row} (A : Hd rows z b had tk) (hn : Num (rows ++ new)) (h : had ≤ rows.length) : Hd (rows ++ new) z b had tk := by
  obtain ⟨m, h1, h2, h3⟩ := A
  refine ⟨m, ?_, ?_, ?_⟩
  · rw [wantR_app, List.length_append]; omega
  · rw [wantR_app, List.take_append_of_le_length h1]; exact h2
  · rw [wantR_app, List.filter_append]
    have e : ((wantR new z b).filter fun r => decide (r.n ≤ had)) = [] := List.filter_eq_nil_iff.mpr fun r hr => by
      have m := (wantR_mem hr).1
      obtain ⟨i, hi⟩ := List.mem_iff_getElem?.mp m
      have q := hn (rows.length + i) r (by rw [List.getElem?_append_right (by omega), Nat.add_sub_cancel_left]; exact hi)
      rw [decide_eq_false (by omega)]; decide
    rw [e, List.append_nil]
    exact h3
theorem Hd.nil {rows : List Row} {z : Str} {b : Int} : Hd rows z b (b - 1) [] := by
  refine ⟨0, Nat.zero_le _, rfl, ?_⟩
  rw [List.filter_eq_nil_iff.mpr fun r hr => by
    have := (wantR_mem hr).2.1
    rw [decide_eq_false (by omega)]; decide]
  exact Nat.le_refl _
theorem Hd.asc {rows : List Row} {z : Str} {b had : Int} {tk : List Row} (A : Hd rows z b had tk) (h : Num rows) : AscN tk ∧ (∀ r ∈ tk, r ∈ rows) ∧ tk.length ≤ rows.length := by
  obtain ⟨m, h1, rfl, _⟩ := A
  have s : ((wantR rows z b).take m).Sublist rows := (List.take_sublist _ _).trans List.filter_sublist
  exact ⟨(num_ascN h).sublist s, fun r hr => s.subset hr, s.length_le⟩
theorem due_want {s : Rm} (hn : Num s.rows) {z : Str} {b had most : Int} (hg : (s.gone : Int) ≤ had) (hb : b - 1 ≤ had) : dueW s ⟨z, had, had⟩ most = ((wantR s.rows z b).filter fun r => decide (r.n > had)).take most.toNat := by
  unfold dueW wantedM wantR
  congr 1
  have e1 : (s.rows.filter fun r => decide (r.n > had) && isPre z r.k) = (s.rows.drop s.gone).filter fun r => decide (r.n > had) && isPre z r.k := by
    conv => lhs; rw [← List.take_append_drop s.gone s.rows, List.filter_append]
    have e : (s.rows.take s.gone).filter (fun r => decide (r.n > had) && isPre z r.k) = [] := by
      refine List.filter_eq_nil_iff.mpr fun r hr => ?_
      obtain ⟨i, hi⟩ := List.mem_iff_getElem?.mp hr
      rw [List.getElem?_take] at hi
      by_cases c : i < s.gone
      · rw [if_pos c] at hi
        have := hn i r hi
        rw [decide_eq_false (by omega), Bool.false_and]
        decide
      · rw [if_neg c] at hi; cases hi
    rw [e, List.nil_append]
  rw [← e1, List.filter_filter]
  refine List.filter_congr fun r _ => ?_
  by_cases c : r.n > had
  · rw [decide_eq_true c, decide_eq_true (show r.n ≥ b by omega), Bool.true_and, Bool.true_and]
  · rw [decide_eq_false c, Bool.false_and, Bool.false_and]
theorem arrive_take (rs : List Row) (luck : Int) : ∃ j, j ≤ rs.length ∧ arriveM rs luck = rs.take j ∧ (luck = 0 → j = rs.length) := by
  unfold arriveM
  by_cases c1 : luck = 1
  · rw [if_pos c1]
    exact ⟨0, Nat.zero_le _, rfl, fun z => by omega⟩
  rw [if_neg c1]
  by_cases c3 : luck = 3
  · rw [if_pos c3]
    exact ⟨rs.length / 2, by omega, rfl, fun z => by omega⟩
  · rw [if_neg c3]
    exact ⟨rs.length, Nat.le_refl _, (List.take_length).symm, fun _ => rfl⟩
theorem min_most {c m j q : Nat} {most : Int} (h3 : c ≤ m) (p1 : j ≤ most.toNat) (hm : 0 ≤ most) : ((min (max m (c + j) - m) q : Nat) : Int) ≤ most := by
  have p2 : min (max m (c + j) - m) q ≤ j := Nat.le_trans (Nat.min_le_left _ _) (by omega)
  omega
/-- a turn -/
theorem Hd.turn {s : Rm} {z : Str} {b had most luck : Int} {tk : List Row} (A : Hd s.rows z b had tk) (hn : Num s.rows) (hg : (s.gone : Int) ≤ had) (hb : b - 1 ≤ had) (hh : had ≤ s.rows.length) (hm : 0 ≤ most) :
    Hd s.rows z b (if luck = 0 then toldW s ⟨z, had, had⟩ most else had) (takeM b tk (arriveM (dueW s ⟨z, had, had⟩ most) luck)) ∧ (∃ fr, takeM b tk (arriveM (dueW s ⟨z, had, had⟩ most) luck) = tk ++ fr ∧ (fr.length : Int) ≤ most) ∧
    (luck = 0 → (s.rows.length : Int) < most → takeM b tk (arriveM (dueW s ⟨z, had, had⟩ most) luck) = wantR s.rows z b) ∧ had ≤ toldW s ⟨z, had, had⟩ most ∧ toldW s ⟨z, had, had⟩ most ≤ s.rows.length := by
  obtain ⟨m, h1, h2, h3⟩ := A
  have asc := wantR_asc hn (z := z) (b := b)
  have wb : ∀ r ∈ wantR s.rows z b, b ≤ r.n := fun r hr => (wantR_mem hr).2.1
  have wl := wantR_len s.rows z b
  have wn : ∀ r ∈ wantR s.rows z b, r.n ≤ s.rows.length := fun r hr => (num_le hn (wantR_mem hr).1).2
  obtain ⟨_, sp⟩ := asc_split (x := had) asc
  have ed := due_want hn (z := z) (most := most) hg hb
  rw [sp] at ed
  generalize hc : ((wantR s.rows z b).filter fun r => decide (r.n ≤ had)).length = c at h3 ed
  generalize hW : wantR s.rows z b = W at *
  have hdl : (dueW s ⟨z, had, had⟩ most).length = min most.toNat (W.length - c) := by rw [ed, List.length_take, List.length_drop]
  obtain ⟨j, j1, ea, j0⟩ := arrive_take (dueW s ⟨z, had, had⟩ most) luck
  have ear : arriveM (dueW s ⟨z, had, had⟩ most) luck = (W.drop c).take j := by
    rw [ea, ed, List.take_take]
    rw [hdl] at j1
    congr 1
    omega
  have cj : c + j ≤ W.length := by omega
  have p3 : ∀ q : Nat, ((min (max m (c + j) - m) q : Nat) : Int) ≤ most := fun q => by
    have p1 : j ≤ most.toNat := by rw [hdl] at j1; exact Nat.le_trans j1 (Nat.min_le_left _ _)
    exact min_most h3 p1 hm
  have et := takeM_win asc wb h3 h1 j cj
  rw [← ear, ← h2] at et
  have lst : (dueW s ⟨z, had, had⟩ most) ≠ [] → W[c + (dueW s ⟨z, had, had⟩ most).length - 1]? = (dueW s ⟨z, had, had⟩ most).getLast? := fun ne => by
    have p : 0 < (dueW s ⟨z, had, had⟩ most).length := List.length_pos_iff.mpr ne
    rw [List.getLast?_eq_getElem?]
    generalize hL : (dueW s ⟨z, had, had⟩ most).length = L at p hdl ⊢
    rw [ed, List.getElem?_take, if_pos (by omega), List.getElem?_drop]
    congr 1
    omega
  have tol : toldW s ⟨z, had, had⟩ most = s.rows.length ∧ ((dueW s ⟨z, had, had⟩ most).length : Int) < most ∨ ¬ ((dueW s ⟨z, had, had⟩ most).length : Int) < most ∧ (((dueW s ⟨z, had, had⟩ most) = [] ∧ toldW s ⟨z, had, had⟩ most = had) ∨ ∃ r, W[c + (dueW s ⟨z, had, had⟩ most).length - 1]? = some r ∧ (dueW s ⟨z, had, had⟩ most) ≠ [] ∧ toldW s ⟨z, had, had⟩ most = r.n ∧ had < r.n) := by
    by_cases l : ((dueW s ⟨z, had, had⟩ most).length : Int) < most
    · exact .inl ⟨if_pos l, l⟩
    · refine .inr ⟨l, ?_⟩
      have e : toldW s ⟨z, had, had⟩ most = lastN (had + 1) (dueW s ⟨z, had, had⟩ most) := if_neg l
      by_cases ne : dueW s ⟨z, had, had⟩ most = []
      · refine .inl ⟨ne, ?_⟩
        rw [e, ne]
        show had + 1 - 1 = had
        omega
      · right
        have g := lst ne
        cases q : (dueW s ⟨z, had, had⟩ most).getLast? with
        | none => rw [List.getLast?_eq_none_iff] at q; exact absurd q ne
        | some r =>
          rw [q] at g
          refine ⟨r, g, ne, ?_, ?_⟩
          · rw [e]; unfold lastN; rw [q]
          · have m1 := List.mem_of_getLast? q
            rw [hc] at sp
            rw [ed, ← sp] at m1
            exact of_decide_eq_true (List.mem_filter.mp (List.mem_of_mem_take m1)).2
  have told_le : had ≤ toldW s ⟨z, had, had⟩ most ∧ toldW s ⟨z, had, had⟩ most ≤ s.rows.length := by
    rcases tol with ⟨e, _⟩ | ⟨_, ⟨_, e⟩ | ⟨r, g, _, e, l⟩⟩
    · rw [e]; exact ⟨hh, Int.le_refl _⟩
    · rw [e]; exact ⟨Int.le_refl _, hh⟩
    · rw [e]; exact ⟨by omega, wn r (List.mem_of_getElem? g)⟩
  refine ⟨⟨max m (c + j), by rw [hW]; omega, by rw [et, hW], ?_⟩, ?_, fun l0 lm => ?_, told_le.1, told_le.2⟩
  · rw [hW]
    by_cases l0 : luck = 0
    · rw [if_pos l0]
      have jd := j0 l0
      rcases tol with ⟨e, l⟩ | ⟨l, ⟨ne, e⟩ | ⟨r, g, ne, e, _⟩⟩
      · have := List.length_filter_le (fun r : Row => decide (r.n ≤ toldW s ⟨z, had, had⟩ most)) W
        omega
      · rw [e, hc]; omega
      · rw [e]
        have q := cnt_at asc g
        have p : 0 < (dueW s ⟨z, had, had⟩ most).length := List.length_pos_iff.mpr ne
        omega
    · rw [if_neg l0, hc]; omega
  · refine ⟨(W.drop m).take (max m (c + j) - m), ?_, ?_⟩
    · rw [et, h2]
      have e : max m (c + j) = m + (max m (c + j) - m) := by omega
      conv => lhs; rw [e, List.take_add]
    · rw [List.length_take]
      exact p3 _
  · rw [et]
    have jd := j0 l0
    have : max m (c + j) = W.length := by omega
    rw [this, List.take_length]
end KB

namespace KB
open PySem L2 L2H LX
/-! ### a room and its lines -/
structure Li where
  lp : Addr
  e : Addr
  tp : Addr
  Fe : List Addr
  z : Str
  b : Int
  gv : KVs
  had : Int
  tk : List Row
abbrev Li.w (x : Li) : Wt := ⟨x.z, x.had, x.had⟩
structure LiAt (Er : ErT) (CL : Addr) (tV : Li → List V) (G : List Row → Li → Prop) (H : Hp) (F : List Addr) (p : Addr) (s : Rm) (x : Li) (n : Int) : Prop where
  ln : LnAt CL H x.lp p n x.e
  er : Er x.Fe H x.e x.b x.gv x.tk
  tp : H x.tp = some (.tup (tV x))
  wa : s.wat n = some x.w
  b1 : 1 ≤ x.b
  bh : x.b - 1 ≤ x.had
  gh : (s.gone : Int) ≤ x.had
  hr : x.had ≤ s.rows.length
  oz : TOk 60 x.z
  hd : Hd s.rows x.z x.b x.had x.tk
  gl : x.gv.length ≤ 200
  gv : G s.rows x
  lF : x.lp ∉ F
  lE : x.lp ∉ x.Fe
  dF : ∀ a ∈ x.Fe, a ∉ F
structure RL (Rs : RsT) (Er : ErT) (CL : Addr) (tV : Li → List V) (G : List Row → Li → Prop) (H0 H : Hp) (F : List Addr) (p : Addr) (s : Rm) (ll : Addr) (N : Nat) (L : Nat → Li) (tps : List Addr) (mn : List (Int × Row)) : Prop where
  rs : Rs F H p s
  hi : HistR s mn
  gg : s.gone ≤ s.rows.length
  mt : s.met = N
  n5 : N ≤ 5
  gn : s.given ≤ 100
  ml : mn.length ≤ 130
  lo : H ll = some (.lst (tps.map V.ref))
  tl : tps.length = N
  ta : ∀ i, i < N → tps[i]? = some (L i).tp
  li : ∀ i, i < N → LiAt Er CL tV G H F p s (L i) ((i : Int) + 1)
  wo : ∀ n w, s.wat n = some w → ∃ i, i < N ∧ n = ((i : Nat) : Int) + 1
  dj : ∀ i j, i < N → j < N → i ≠ j → ∀ a ∈ (L i).Fe, a ∉ (L j).Fe
  lx : ∀ i j, i < N → j < N → (L i).lp ∉ (L j).Fe
  lF : ll ∉ F
  lE : ∀ i, i < N → ll ∉ (L i).Fe
  lp : ∀ i, i < N → (L i).lp ≠ ll
  no : ∀ a ∈ F, H0 a = none
  nE : ∀ i, i < N → ∀ a ∈ (L i).Fe, H0 a = none
  nl : H0 ll = none
  old : Same H0 H
section
variable {P : Program} {w : World} {K : PySem.W.Frag} {mg : Str → Option Value} {base : Heap} {C CE CL : Addr} {kk : Kinds} {Rs : RsT} {Er : ErT} {hs es : List Str} {tV : Li → List V} {G : List Row → Li → Prop} {H0 H H' : Hp} {F F' : List Addr} {p ll : Addr} {s s' : Rm} {N : Nat} {L : Nat → Li} {tps : List Addr} {mn : List (Int × Row)}
theorem RL.rl (A : RL Rs Er CL tV G H0 H F p s ll N L tps mn) : s.rows.length ≤ 2 * mn.length := by
  obtain ⟨hl, _, _, h⟩ := A.hi.h.ct
  omega
theorem RL.fits (A : RL Rs Er CL tV G H0 H F p s ll N L tps mn) : Fits s := ⟨by have := A.rl; have := A.ml; omega, by have := A.gn; omega, by rw [A.mt]; have := A.n5; omega⟩
/-- what lies outside may change -/
theorem RL.ch (A1 : RoomApi P w K mg base C kk Rs hs) (A2 : EarApi P w K mg base CE Er es) (A : RL Rs Er CL tV G H0 H F p s ll N L tps mn) {l : List Addr} (c : Ch H H' l) (lF : ∀ a ∈ l, a ∉ F) (lE : ∀ i, i < N → ∀ a ∈ l, a ∉ (L i).Fe ∧ a ≠ (L i).lp) (ll_ : ll ∉ l) (l0 : ∀ a ∈ l, H0 a = none) : RL Rs Er CL tV G H0 H' F p s ll N L tps mn :=
  { A with
    rs := A1.frame A.rs c fun a ha z => lF a z ha
    lo := c.at A.lo ll_
    li := fun i hi => by
      have B := A.li i hi
      obtain ⟨dx, h⟩ := B.ln
      exact { B with ln := ⟨dx, c.at h fun z => (lE i hi _ z).2 rfl⟩, er := A2.frame B.er c fun a ha z => (lE i hi a z).1 ha, tp := c.tup _ _ B.tp }
    old := c.old A.old l0 }
theorem RL.same (A1 : RoomApi P w K mg base C kk Rs hs) (A2 : EarApi P w K mg base CE Er es) (A : RL Rs Er CL tV G H0 H F p s ll N L tps mn) (c : Same H H') : RL Rs Er CL tV G H0 H' F p s ll N L tps mn :=
  A.ch A1 A2 (Ch.of c []) (fun _ z => nomatch z) (fun _ _ _ z => nomatch z) (fun z => nomatch z) (fun _ z => nomatch z)
/-- the room goes on: what its watchers are told of stays -/
theorem RL.room (A1 : RoomApi P w K mg base C kk Rs hs) (A2 : EarApi P w K mg base CE Er es) (hG : ∀ rows new x, x.b - 1 ≤ (rows.length : Int) → G rows x → G (rows ++ new) x) (A : RL Rs Er CL tV G H0 H F p s ll N L tps mn) {mn' : List (Int × Row)} (R' : Rs F' H' p s') (gr : Grow F F' H) (c : Ch H H' F) (hi : HistR s' mn') (ml : mn'.length ≤ 130) (gn : s'.given ≤ 100)
    (mt : s'.met = s.met) (wat : s'.wat = s.wat) (rows : ∃ new, s'.rows = s.rows ++ new) (gg : s'.gone ≤ s'.rows.length) (gh : ∀ i, i < N → (s'.gone : Int) ≤ (L i).had) : RL Rs Er CL tV G H0 H' F' p s' ll N L tps mn' := by
  have far : ∀ {a : Addr}, (∃ o, H a = some o) → a ∉ F → a ∉ F' := fun {a} x n z => by
    rcases gr a z with z | z
    · exact n z
    · obtain ⟨o, e⟩ := x
      rw [e] at z; cases z
  obtain ⟨new, er⟩ := rows
  refine ⟨R', hi, gg, mt.trans A.mt, A.n5, gn, ml, c.at A.lo A.lF, A.tl, A.ta, fun i h => ?_, by rw [wat]; exact A.wo, A.dj, A.lx, far ⟨_, A.lo⟩ A.lF, A.lE, A.lp, fun a ha => ?_, A.nE, A.nl, c.old A.old A.no⟩
  · have B := A.li i h
    obtain ⟨dx, q⟩ := B.ln
    have hr := B.hr
    have nu' : Num (s.rows ++ new) := by rw [← er]; exact hi.h.nu
    refine ⟨⟨dx, c.at q B.lF⟩, A2.frame B.er c B.dF, c.tup _ _ B.tp, by rw [wat]; exact B.wa, B.b1, B.bh, gh i h, by rw [er, List.length_append]; omega, B.oz, by rw [er]; exact B.hd.grow nu' hr, B.gl, by rw [er]; exact hG _ _ _ (by have := B.bh; omega) B.gv, far ⟨_, q⟩ B.lF, B.lE, fun a ha => far (A2.own B.er a ha) (B.dF a ha)⟩
  · rcases gr a ha with z | z
    · exact A.no a z
    · exact A.old.free z
/-- a line's turn -/
theorem RL.turn (A1 : RoomApi P w K mg base C kk Rs hs) (A2 : EarApi P w K mg base CE Er es) (A : RL Rs Er CL tV G H0 H F p s ll N L tps mn) {i : Nat} (hi : i < N) {most luck : Int} (hm : 0 ≤ most) {Fe' : List Addr} {w' : Wt} (k1 : luck = 0 → w' = { (L i).w with told := toldW s (L i).w most, had := toldW s (L i).w most }) (k2 : luck ≠ 0 → w' = { (L i).w with told := (L i).w.had })
    (es_ : s' = { s with wat := setF (setF s.wat ((i : Int) + 1) (some { (L i).w with told := toldW s (L i).w most })) ((i : Int) + 1) (some w') }) (R' : Rs F' H' p s') (E' : Er Fe' H' (L i).e (L i).b (L i).gv (takeM (L i).b (L i).tk (arriveM (dueW s (L i).w most) luck))) (L' : LnAt CL H' (L i).lp p ((i : Int) + 1) (L i).e)
    (gr : Grow F F' H) (gre : Grow (L i).Fe Fe' H) (d : ∀ a ∈ Fe', a ∉ F') (lF : (L i).lp ∉ F') (lE : (L i).lp ∉ Fe') (c : Ch H H' (F ++ (L i).Fe)) (hG : ∀ rows x y, G rows x → y.gv = x.gv → y.b = x.b → y.z = x.z → G rows y) (htV : ∀ x y : Li, y.lp = x.lp → y.z = x.z → y.b = x.b → tV y = tV x) :
    ∃ had', RL Rs Er CL tV G H0 H' F' p s' ll N (fun j => if j = i then { L i with Fe := Fe', had := had', tk := takeM (L i).b (L i).tk (arriveM (dueW s (L i).w most) luck) } else L j) tps mn ∧ (luck = 0 → (s.rows.length : Int) < most → takeM (L i).b (L i).tk (arriveM (dueW s (L i).w most) luck) = wantR s.rows (L i).z (L i).b) ∧ ∃ fr, takeM (L i).b (L i).tk (arriveM (dueW s (L i).w most) luck) = (L i).tk ++ fr ∧ (fr.length : Int) ≤ most := by
  have B := A.li i hi
  have nu := A.hi.h.nu
  obtain ⟨t1, t2, t3, t4, t5⟩ := B.hd.turn nu B.gh B.bh B.hr (luck := luck) hm
  have t4 : (L i).had ≤ toldW s (L i).w most := t4
  have t5 : toldW s (L i).w most ≤ s.rows.length := t5
  have far : ∀ {a : Addr}, (∃ o, H a = some o) → a ∉ F → a ∉ F' := fun {a} x n z => by
    rcases gr a z with z | z
    · exact n z
    · obtain ⟨o, e⟩ := x
      rw [e] at z; cases z
  have farE : ∀ {a : Addr}, (∃ o, H a = some o) → a ∉ (L i).Fe → a ∉ Fe' := fun {a} x n z => by
    rcases gre a z with z | z
    · exact n z
    · obtain ⟨o, e⟩ := x
      rw [e] at z; cases z
  have out : ∀ {a : Addr}, a ∉ F → a ∉ (L i).Fe → a ∉ F ++ (L i).Fe := fun h1 h2 z => (List.mem_append.mp z).elim h1 h2
  have er : s'.rows = s.rows := by rw [es_]
  have eg : s'.gone = s.gone := by rw [es_]
  have wn : s'.wat ((i : Int) + 1) = some ⟨(L i).z, if luck = 0 then toldW s (L i).w most else (L i).had, if luck = 0 then toldW s (L i).w most else (L i).had⟩ := by
    have e : s'.wat ((i : Int) + 1) = some w' := by rw [es_]; simp [setF]
    rw [e]
    by_cases l0 : luck = 0
    · rw [k1 l0, if_pos l0]
    · rw [k2 l0, if_neg l0]
  have wm : ∀ n : Int, n ≠ (i : Int) + 1 → s'.wat n = s.wat n := fun n hn => by
    rw [es_]
    show setF (setF s.wat _ _) _ _ n = _
    unfold setF
    rw [if_neg (fun z => hn z.symm), if_neg (fun z => hn z.symm)]
  refine ⟨if luck = 0 then toldW s (L i).w most else (L i).had, ⟨R', ⟨by rw [es_]; exact A.hi.h, by rw [es_]; exact A.hi.en, by rw [es_]; exact A.hi.sp⟩, by rw [eg, er]; exact A.gg, by rw [es_]; exact A.mt, A.n5, by rw [es_]; exact A.gn, A.ml, c.at A.lo (out A.lF (A.lE i hi)), A.tl, fun j hj => ?_, fun j hj => ?_, fun n v hv => ?_, fun j k hj hk ne a ha => ?_, fun j k hj hk => ?_, far ⟨_, A.lo⟩ A.lF, fun j hj => ?_, fun j hj => ?_, fun a ha => ?_, fun j hj a ha => ?_, A.nl, c.old A.old fun a ha => (List.mem_append.mp ha).elim (A.no a) (A.nE i hi a)⟩, t3, t2⟩
  · by_cases e : j = i
    · rw [if_pos e, e]; exact A.ta i hi
    · rw [if_neg e]; exact A.ta j hj
  · by_cases e : j = i
    · subst e
      rw [if_pos rfl]
      refine ⟨L', E', ?_, wn, B.b1, ?_, ?_, ?_, B.oz, ?_, B.gl, ?_, lF, lE, d⟩
      · refine (c.tup _ _ B.tp).trans (congrArg (fun v => some (HO.tup v)) ?_)
        exact htV _ (L j) rfl rfl rfl
      · have := B.bh
        show (L j).b - 1 ≤ if luck = 0 then _ else _
        by_cases l0 : luck = 0
        · rw [if_pos l0]; omega
        · rw [if_neg l0]; omega
      · rw [eg]
        have := B.gh
        show (s.gone : Int) ≤ if luck = 0 then _ else _
        by_cases l0 : luck = 0
        · rw [if_pos l0]; omega
        · rw [if_neg l0]; omega
      · rw [er]
        have := B.hr
        show (if luck = 0 then _ else _) ≤ (s.rows.length : Int)
        by_cases l0 : luck = 0
        · rw [if_pos l0]; exact t5
        · rw [if_neg l0]; omega
      · rw [er]; exact t1
      · rw [er]; exact hG _ (L j) _ B.gv rfl rfl rfl
    · rw [if_neg e]
      have D := A.li j hj
      obtain ⟨dx, q⟩ := D.ln
      have lpo : (L j).lp ∉ F ++ (L i).Fe := out D.lF (A.lx j i hj hi)
      refine ⟨⟨dx, c.at q lpo⟩, A2.frame D.er c fun a ha z => ?_, c.tup _ _ D.tp, ?_, D.b1, D.bh, by rw [eg]; exact D.gh, by rw [er]; exact D.hr, D.oz, by rw [er]; exact D.hd, D.gl, by rw [er]; exact D.gv, far ⟨_, q⟩ D.lF, D.lE, fun a ha => far (A2.own D.er a ha) (D.dF a ha)⟩
      · rcases List.mem_append.mp z with z | z
        · exact D.dF a ha z
        · exact A.dj j i hj hi e a ha z
      · rw [wm _ (by omega)]; exact D.wa
  · by_cases e : n = (i : Int) + 1
    · exact ⟨i, hi, e⟩
    · rw [wm n e] at hv; exact A.wo n v hv
  · by_cases ej : j = i
    · have ek : ¬ k = i := fun z => ne (ej.trans z.symm)
      rw [if_pos ej] at ha
      rw [if_neg ek]
      rcases gre a ha with y | y
      · exact A.dj i k hi hk (fun z => ek z.symm) a y
      · intro z
        obtain ⟨o, x⟩ := A2.own (A.li k hk).er a z
        rw [y] at x; cases x
    · rw [if_neg ej] at ha
      by_cases ek : k = i
      · rw [if_pos ek]
        exact farE (A2.own (A.li j hj).er a ha) (A.dj j i hj hi ej a ha)
      · rw [if_neg ek]; exact A.dj j k hj hk ne a ha
  · have eq : (if j = i then { L i with Fe := Fe', had := if luck = 0 then toldW s (L i).w most else (L i).had, tk := takeM (L i).b (L i).tk (arriveM (dueW s (L i).w most) luck) } else L j).lp = (L j).lp := by
      by_cases ej : j = i
      · rw [if_pos ej, ej]
      · rw [if_neg ej]
    rw [eq]
    by_cases ek : k = i
    · rw [if_pos ek]
      obtain ⟨dx, q⟩ := (A.li j hj).ln
      exact farE ⟨_, q⟩ (A.lx j i hj hi)
    · rw [if_neg ek]; exact A.lx j k hj hk
  · by_cases ej : j = i
    · rw [if_pos ej]; exact farE ⟨_, A.lo⟩ (A.lE i hi)
    · rw [if_neg ej]; exact A.lE j hj
  · by_cases ej : j = i
    · rw [if_pos ej]; exact A.lp i hi
    · rw [if_neg ej]; exact A.lp j hj
  · rcases gr a ha with z | z
    · exact A.no a z
    · exact A.old.free z
  · by_cases ej : j = i
    · rw [if_pos ej] at ha
      rcases gre a ha with z | z
      · exact A.nE i hi a z
      · exact A.old.free z
    · rw [if_neg ej] at ha; exact A.nE j hj a ha
/-- an ear was asked -/
theorem RL.ear (A1 : RoomApi P w K mg base C kk Rs hs) (A2 : EarApi P w K mg base CE Er es) (A : RL Rs Er CL tV G H0 H F p s ll N L tps mn) {i : Nat} (hi : i < N) {Fe' : List Addr} (E' : Er Fe' H' (L i).e (L i).b (L i).gv (L i).tk) (gre : Grow (L i).Fe Fe' H) (c : Ch H H' (L i).Fe)
    (hG : ∀ rows x y, G rows x → y.gv = x.gv → y.b = x.b → y.z = x.z → G rows y) (htV : ∀ x y : Li, y.lp = x.lp → y.z = x.z → y.b = x.b → tV y = tV x) : RL Rs Er CL tV G H0 H' F p s ll N (fun j => if j = i then { L i with Fe := Fe' } else L j) tps mn := by
  have B := A.li i hi
  have farE : ∀ {a : Addr}, (∃ o, H a = some o) → a ∉ (L i).Fe → a ∉ Fe' := fun {a} x n z => by
    rcases gre a z with z | z
    · exact n z
    · obtain ⟨o, e⟩ := x
      rw [e] at z; cases z
  have ex : ∀ {a : Addr}, a ∈ F → a ∉ Fe' := fun {a} ha => farE (A1.own A.rs a ha) fun z => B.dF a z ha
  refine ⟨A1.frame A.rs c fun a ha z => B.dF a z ha, A.hi, A.gg, A.mt, A.n5, A.gn, A.ml, c.at A.lo (A.lE i hi), A.tl, fun j hj => ?_, fun j hj => ?_, A.wo, fun j k hj hk ne a ha => ?_, fun j k hj hk => ?_, A.lF, fun j hj => ?_, fun j hj => ?_, A.no, fun j hj a ha => ?_, A.nl, c.old A.old (A.nE i hi)⟩
  · by_cases e : j = i
    · rw [if_pos e, e]; exact A.ta i hi
    · rw [if_neg e]; exact A.ta j hj
  · by_cases e : j = i
    · subst e
      rw [if_pos rfl]
      obtain ⟨dx, q⟩ := B.ln
      refine ⟨⟨dx, c.at q B.lE⟩, E', ?_, B.wa, B.b1, B.bh, B.gh, B.hr, B.oz, B.hd, B.gl, hG _ (L j) _ B.gv rfl rfl rfl, B.lF, farE ⟨_, q⟩ B.lE, fun a ha z => ex z ha⟩
      refine (c.tup _ _ B.tp).trans (congrArg (fun v => some (HO.tup v)) ?_)
      exact htV _ (L j) rfl rfl rfl
    · rw [if_neg e]
      have D := A.li j hj
      obtain ⟨dx, q⟩ := D.ln
      exact { D with ln := ⟨dx, c.at q (A.lx j i hj hi)⟩, er := A2.frame D.er c fun a ha z => A.dj j i hj hi e a ha z, tp := c.tup _ _ D.tp }
  · by_cases ej : j = i
    · have ek : ¬ k = i := fun z => ne (ej.trans z.symm)
      rw [if_pos ej] at ha
      rw [if_neg ek]
      rcases gre a ha with y | y
      · exact A.dj i k hi hk (fun z => ek z.symm) a y
      · intro z
        obtain ⟨o, x⟩ := A2.own (A.li k hk).er a z
        rw [y] at x; cases x
    · rw [if_neg ej] at ha
      by_cases ek : k = i
      · rw [if_pos ek]
        exact farE (A2.own (A.li j hj).er a ha) (A.dj j i hj hi ej a ha)
      · rw [if_neg ek]; exact A.dj j k hj hk ne a ha
  · have eq : (if j = i then { L i with Fe := Fe' } else L j).lp = (L j).lp := by
      by_cases ej : j = i
      · rw [if_pos ej, ej]
      · rw [if_neg ej]
    rw [eq]
    by_cases ek : k = i
    · rw [if_pos ek]
      obtain ⟨dx, q⟩ := (A.li j hj).ln
      exact farE ⟨_, q⟩ (A.lx j i hj hi)
    · rw [if_neg ek]; exact A.lx j k hj hk
  · by_cases ej : j = i
    · rw [if_pos ej]; exact farE ⟨_, A.lo⟩ (A.lE i hi)
    · rw [if_neg ej]; exact A.lE j hj
  · by_cases ej : j = i
    · rw [if_pos ej]; exact A.lp i hi
    · rw [if_neg ej]; exact A.lp j hj
  · by_cases ej : j = i
    · rw [if_pos ej] at ha
      rcases gre a ha with z | z
      · exact A.nE i hi a z
      · exact A.old.free z
    · rw [if_neg ej] at ha; exact A.nE j hj a ha
/-- a line more, and its entry behind the list -/
theorem RL.add (A1 : RoomApi P w K mg base C kk Rs hs) (A2 : EarApi P w K mg base CE Er es) (hG : ∀ rows new x, x.b - 1 ≤ (rows.length : Int) → G rows x → G (rows ++ new) x) (A : RL Rs Er CL tV G H0 H F p s ll N L tps mn) (n5 : N + 1 ≤ 5) {H1 H2 : Hp} {x : Li} (e0 : x.had = x.b - 1) (et : x.tk = []) (oz : TOk 60 x.z) (gl : x.gv.length ≤ 200) (gv : G s.rows x)
    (h1 : (s.gone : Int) + 1 ≤ x.b) (h2 : x.b ≤ (s.rows.length : Int) + 1) (R1 : Rs F' H1 p { s with met := s.met + 1, wat := setF s.wat ((s.met : Int) + 1) (some x.w) }) (L1 : LnAt CL H1 x.lp p ((s.met : Int) + 1) x.e) (E1 : Er x.Fe H1 x.e x.b x.gv [])
    (gr : Grow F F' H) (fe : ∀ a ∈ x.Fe, H a = none) (fF : ∀ a ∈ x.Fe, a ∉ F') (l0 : H x.lp = none) (lF : x.lp ∉ F') (lE : x.lp ∉ x.Fe) (c1 : Ch H H1 F) (t0 : H1 x.tp = none) (c2 : Ch H1 H2 [ll]) (tp : H2 x.tp = some (.tup (tV x))) (lo : H2 ll = some (.lst ((tps ++ [x.tp]).map V.ref))) :
    RL Rs Er CL tV G H0 H2 F' p { s with met := s.met + 1, wat := setF s.wat ((s.met : Int) + 1) (some x.w) } ll (N + 1) (fun j => if j = N then x else L j) (tps ++ [x.tp]) mn := by
  have far : ∀ {a : Addr}, (∃ o, H a = some o) → a ∉ F → a ∉ F' := fun {a} x n z => by
    rcases gr a z with z | z
    · exact n z
    · obtain ⟨o, e⟩ := x
      rw [e] at z; cases z
  have ex : ∀ {a : Addr}, (∃ o, H a = some o) → a ∉ x.Fe := fun {a} y z => by
    obtain ⟨o, e⟩ := y
    rw [fe a z] at e; cases e
  have one : ∀ {a : Addr}, a ≠ ll → a ∉ [ll] := fun h z => h (List.mem_singleton.mp z)
  have mt := A.mt
  have llF := far ⟨_, A.lo⟩ A.lF
  have lpl : x.lp ≠ ll := fun z => by rw [z, A.lo] at l0; cases l0
  have E2 := A2.frame E1 c2 fun a ha z => ex ⟨_, A.lo⟩ (by rw [← List.mem_singleton.mp z]; exact ha)
  have Lj : ∀ {j : Nat}, j < N + 1 → j ≠ N → j < N := fun h e => by omega
  have old1 := c1.old A.old A.no
  refine ⟨A1.frame R1 c2 fun a ha z => llF (by rw [← List.mem_singleton.mp z]; exact ha), ⟨A.hi.h, A.hi.en, A.hi.sp⟩, A.gg, by show s.met + 1 = N + 1; rw [mt], n5, A.gn, A.ml, lo, by rw [List.length_append, A.tl]; rfl, fun j hj => ?_, fun j hj => ?_, fun n v hv => ?_, fun j k hj hk ne a ha => ?_, fun j k hj hk => ?_, llF, fun j hj => ?_, fun j hj => ?_, fun a ha => ?_, fun j hj a ha => ?_, A.nl, c2.old old1 fun a ha => by rw [List.mem_singleton.mp ha]; exact A.nl⟩
  · by_cases e : j = N
    · rw [if_pos e, e, List.getElem?_append_right (by rw [A.tl]; exact Nat.le_refl _), A.tl, Nat.sub_self]; rfl
    · rw [if_neg e, List.getElem?_append_left (by rw [A.tl]; exact Lj hj e)]
      exact A.ta j (Lj hj e)
  · by_cases e : j = N
    · rw [if_pos e, e]
      obtain ⟨dx, q⟩ := L1
      have nn : ((N : Int) + 1) = (s.met : Int) + 1 := by rw [mt]
      refine ⟨by rw [nn]; exact ⟨dx, c2.at q (one lpl)⟩, by rw [et]; exact E2, tp, ?_, by omega, by omega, by show (s.gone : Int) ≤ x.had; omega, by show x.had ≤ (s.rows.length : Int); omega, oz, by rw [e0, et]; exact Hd.nil, gl, gv, lF, lE, fF⟩
      · rw [nn]
        show setF s.wat _ _ _ = _
        simp [setF]
    · rw [if_neg e]
      have D := A.li j (Lj hj e)
      obtain ⟨dx, q⟩ := D.ln
      refine ⟨⟨dx, c2.at (c1.at q D.lF) (one (A.lp j (Lj hj e)))⟩, A2.frame (A2.frame D.er c1 D.dF) c2 fun a ha z => A.lE j (Lj hj e) (by rw [← List.mem_singleton.mp z]; exact ha), c2.tup _ _ (c1.tup _ _ D.tp), ?_, D.b1, D.bh, D.gh, D.hr, D.oz, D.hd, D.gl, D.gv, far ⟨_, q⟩ D.lF, D.lE, fun a ha => far (A2.own D.er a ha) (D.dF a ha)⟩
      show setF s.wat _ _ _ = _
      unfold setF
      rw [if_neg (by rw [mt]; have := Lj hj e; omega)]
      exact D.wa
  · change setF s.wat ((s.met : Int) + 1) (some x.w) n = some v at hv
    unfold setF at hv
    by_cases e : (s.met : Int) + 1 = n
    · exact ⟨N, by omega, by rw [← e, mt]⟩
    · rw [if_neg e] at hv
      obtain ⟨i, hi, e2⟩ := A.wo n v hv
      exact ⟨i, by omega, e2⟩
  · by_cases ej : j = N
    · have ek : ¬ k = N := fun z => ne (ej.trans z.symm)
      rw [if_pos ej] at ha
      rw [if_neg ek]
      intro z
      exact ex (A2.own (A.li k (Lj hk ek)).er a z) ha
    · rw [if_neg ej] at ha
      by_cases ek : k = N
      · rw [if_pos ek]
        exact ex (A2.own (A.li j (Lj hj ej)).er a ha)
      · rw [if_neg ek]; exact A.dj j k (Lj hj ej) (Lj hk ek) ne a ha
  · by_cases ej : j = N
    · rw [if_pos ej]
      by_cases ek : k = N
      · rw [if_pos ek]; exact lE
      · rw [if_neg ek]
        intro z
        obtain ⟨o, e⟩ := A2.own (A.li k (Lj hk ek)).er _ z
        rw [l0] at e; cases e
    · rw [if_neg ej]
      obtain ⟨dx, q⟩ := (A.li j (Lj hj ej)).ln
      by_cases ek : k = N
      · rw [if_pos ek]; exact ex ⟨_, q⟩
      · rw [if_neg ek]; exact A.lx j k (Lj hj ej) (Lj hk ek)
  · by_cases ej : j = N
    · rw [if_pos ej]; exact ex ⟨_, A.lo⟩
    · rw [if_neg ej]; exact A.lE j (Lj hj ej)
  · by_cases ej : j = N
    · rw [if_pos ej]; exact lpl
    · rw [if_neg ej]; exact A.lp j (Lj hj ej)
  · rcases gr a ha with z | z
    · exact A.no a z
    · exact A.old.free z
  · by_cases ej : j = N
    · rw [if_pos ej] at ha; exact A.old.free (fe a ha)
    · rw [if_neg ej] at ha; exact A.nE j (Lj hj ej) a ha
/-- what is forgotten no line still wants -/
theorem RL.trim (A1 : RoomApi P w K mg base C kk Rs hs) (A2 : EarApi P w K mg base CE Er es) (hG : ∀ rows new x, x.b - 1 ≤ (rows.length : Int) → G rows x → G (rows ++ new) x) (A : RL Rs Er CL tV G H0 H F p s ll N L tps mn) {u : Int} (t : TrimTo s u) (R' : Rs F' H' p { s with gone := goneM s.rows.length s.gone u }) (gr : Grow F F' H) (c : Ch H H' F) : RL Rs Er CL tV G H0 H' F' p { s with gone := goneM s.rows.length s.gone u } ll N L tps mn := by
  refine A.room A1 A2 hG R' gr c ⟨A.hi.h, A.hi.en, A.hi.sp⟩ A.ml A.gn rfl rfl ⟨[], (List.append_nil _).symm⟩ (goneM_le u A.gg) fun i hi => ?_
  have B := A.li i hi
  have h := t.le _ _ B.wa
  have g := B.gh
  have b := B.bh
  have b1 := B.b1
  show ((goneM s.rows.length s.gone u : Nat) : Int) ≤ (L i).had
  unfold goneM
  have h : u ≤ (L i).had := h
  omega
end
end KB

namespace KB
open PySem L2 L2H LX
/-! ### an ear that begins with what stands -/
theorem step_ne {f : Str → Option Str} {r : Row} {k : Str} (h : r.k ≠ k) : stepM f r k = f k := if_neg h
theorem fold_at {k : Str} : ∀ {rs : List Row} {f g : Str → Option Str}, f k = g k → rs.foldl stepM f k = rs.foldl stepM g k
  | [], _, _, h => h
  | r :: rs, f, g, h => fold_at (rs := rs) (by
    unfold stepM
    by_cases c : r.k = k
    · rw [if_pos c, if_pos c]
    · rw [if_neg c, if_neg c]; exact h)
theorem fold_none {k : Str} : ∀ {rs : List Row} {f : Str → Option Str}, (∀ r ∈ rs, r.k ≠ k) → rs.foldl stepM f k = f k
  | [], _, _ => rfl
  | r :: rs, f, h => (fold_none (rs := rs) fun x hx => h x (List.mem_cons_of_mem _ hx)).trans (step_ne (h r List.mem_cons_self))
theorem fold_skip {p : Row → Bool} {k : Str} : ∀ {rs : List Row} {f : Str → Option Str}, (∀ r ∈ rs, p r = false → r.k ≠ k) → (rs.filter p).foldl stepM f k = rs.foldl stepM f k
  | [], _, _ => rfl
  | r :: rs, f, h => by
    cases c : p r with
    | true =>
      rw [List.filter_cons_of_pos c]
      exact fold_skip (rs := rs) fun x hx => h x (List.mem_cons_of_mem _ hx)
    | false =>
      rw [List.filter_cons_of_neg (by rw [c]; decide)]
      refine (fold_skip (rs := rs) fun x hx => h x (List.mem_cons_of_mem _ hx)).trans ?_
      exact fold_at (rs := rs) (step_ne (h r List.mem_cons_self c)).symm
theorem wantR_drop {rs : List Row} (h : Num rs) {z : Str} {m : Nat} (hm : m ≤ rs.length) : wantR rs z ((m : Int) + 1) = (rs.drop m).filter fun r => isPre z r.k := by
  unfold wantR
  conv => lhs; rw [← List.take_append_drop m rs, List.filter_append]
  have e1 : ((rs.take m).filter fun r => decide (r.n ≥ (m : Int) + 1) && isPre z r.k) = [] := List.filter_eq_nil_iff.mpr fun r hr => by
    obtain ⟨i, hi⟩ := List.mem_iff_getElem?.mp hr
    rw [List.getElem?_take] at hi
    by_cases c : i < m
    · rw [if_pos c] at hi
      have := h i r hi
      rw [decide_eq_false (by omega), Bool.false_and]
      decide
    · rw [if_neg c] at hi; cases hi
  rw [e1, List.nil_append]
  refine List.filter_congr fun r hr => ?_
  obtain ⟨i, hi⟩ := List.mem_iff_getElem?.mp hr
  rw [List.getElem?_drop] at hi
  have := h (m + i) r hi
  rw [decide_eq_true (by omega), Bool.true_and]
abbrev G10 (rows : List Row) (x : Li) : Prop := ∀ k, getP x.gv k = if isPre x.z k = true then vF (rows.take (x.b - 1).toNat) k else none
theorem g10 (rows new : List Row) (x : Li) (h : x.b - 1 ≤ (rows.length : Int)) (g : G10 rows x) : G10 (rows ++ new) x := fun k => by
  rw [List.take_append_of_le_length (by omega)]
  exact g k
theorem G10_eq (rows : List Row) (x y : Li) (h : G10 rows x) (h1 : y.gv = x.gv) (h2 : y.b = x.b) (h3 : y.z = x.z) : G10 rows y := fun k => by
  rw [h1, h2, h3]; exact h k
theorem know10 {s : Rm} {x : Li} (nu : Num s.rows) (st : vF s.rows = fun k => (s.held k).map (·.1)) (g : G10 s.rows x) (b1 : 1 ≤ x.b) (hb : x.b - 1 ≤ (s.rows.length : Int)) : holdM x.gv (wantR s.rows x.z x.b) = byPre s x.z := by
  obtain ⟨m, hm⟩ : ∃ m : Nat, x.b = (m : Int) + 1 := ⟨(x.b - 1).toNat, by omega⟩
  have em : (x.b - 1).toNat = m := by omega
  have ml : m ≤ s.rows.length := by omega
  have ew : wantR s.rows x.z x.b = (s.rows.drop m).filter fun r => isPre x.z r.k := by rw [hm]; exact wantR_drop nu ml
  funext k
  have gk := g k
  rw [em] at gk
  unfold byPre holdM
  rw [ew]
  by_cases c : isPre x.z k = true
  · rw [if_pos c] at gk ⊢
    have e : (s.held k).map (·.1) = vF s.rows k := by rw [st]
    rw [e, fold_skip fun r _ h z => by rw [z, c] at h; cases h]
    conv => rhs; rw [← List.take_append_drop m s.rows]
    unfold vF holdM
    rw [List.foldl_append]
    exact fold_at gk
  · rw [if_neg c] at gk ⊢
    rw [fold_none fun r hr z => ?_]
    · exact gk
    · have := (List.mem_filter.mp hr).2
      rw [z] at this
      exact c this
theorem want_end {rs : List Row} (h : Num rs) (z : Str) : wantR rs z ((rs.length : Int) + 1) = [] := by
  rw [wantR_drop h (Nat.le_refl _), List.drop_length]
  rfl
/-- as many at most -/
theorem nodup_le : ∀ {l m : List Str}, l.Nodup → (∀ x ∈ l, x ∈ m) → l.length ≤ m.length
  | [], _, _, _ => Nat.zero_le _
  | x :: l, m, n, h => by
    obtain ⟨n1, n2⟩ := List.nodup_cons.mp n
    have xm := h x List.mem_cons_self
    have q := nodup_le (l := l) (m := m.erase x) n2 fun y hy => (List.mem_erase_of_ne (fun (e : y = x) => n1 (by rw [← e]; exact hy))).mpr (h y (List.mem_cons_of_mem _ hy))
    have l1 := List.length_erase_of_mem xm
    have p : 0 < m.length := List.length_pos_of_mem xm
    rw [List.length_cons]
    omega
theorem fold_val {k v : Str} : ∀ {rs : List Row} {f : Str → Option Str}, rs.foldl stepM f k = some v → f k = some v ∨ ∃ r ∈ rs, r.v = v
  | [], _, h => .inl h
  | r :: rs, f, h => by
    rcases fold_val (rs := rs) h with q | ⟨x, hx, e⟩
    · unfold stepM at q
      by_cases c : r.k = k
      · rw [if_pos c] at q
        by_cases d : r.w = "put"
        · rw [if_pos d] at q
          exact .inr ⟨r, List.mem_cons_self, Option.some.inj q⟩
        · rw [if_neg d] at q; cases q
      · rw [if_neg c] at q; exact .inl q
    · exact .inr ⟨x, List.mem_cons_of_mem _ hx, e⟩
theorem HistR.told {s : Rm} {mn : List (Int × Row)} (A : HistR s mn) {z : Str} {ps : KVs} (t : Told (byPre s z) ps) : ps.length ≤ 2 * mn.length ∧ ∀ x ∈ ps, PairOk x := by
  have hp : ∀ k v, byPre s z k = some v → ∃ h, s.held k = some (v, h) := fun k v e => by
    unfold byPre at e
    by_cases c : isPre z k = true
    · rw [if_pos c] at e
      cases q : s.held k with
      | none => rw [q] at e; cases e
      | some y => rw [q] at e; exact ⟨y.2, by rw [← Option.some.inj e]⟩
    · rw [if_neg c] at e; cases e
  refine ⟨?_, t.ok fun k v e => ?_⟩
  · obtain ⟨hl, _, h2, h3⟩ := A.h.ct
    have q := nodup_le (l := ps.map (·.1)) (m := hl) t.nd fun k hk => by
      refine (h2 k).mpr ?_
      obtain ⟨x, hx, rfl⟩ := List.mem_map.mp hk
      have g := getP_of t.nd hx
      rw [t.get] at g
      obtain ⟨h, e⟩ := hp _ _ g
      rw [e]
      exact fun z => nomatch z
    rw [List.length_map] at q
    omega
  · obtain ⟨h, eh⟩ := hp k v e
    refine ⟨A.h.heldOk (by rw [eh]; exact fun z => nomatch z), ?_⟩
    have q : vF s.rows k = some v := by rw [A.h.st]; show (s.held k).map (·.1) = _; rw [eh]; rfl
    rcases fold_val q with y | ⟨r, hr, e2⟩
    · cases y
    · rw [← e2]; exact (A.h.good r hr).ok.v
/-! ### what was last put without a lease -/
def freeM (f : Str → Option Str) : Deed → Ans → Str → Option Str
  | .put k v h, .num _ => setF f k (if h = 0 then some v else none)
  | .cut k _, .num _ => setF f k none
  | _, _ => f
structure FreeOk (s : Rm) (f : Str → Option Str) : Prop where
  st : ∀ k v, f k = some v → s.held k = some (v, 0)
  po : ∀ h, s.ends h ≠ none → 1 ≤ h
theorem cutAll_held : ∀ (ks : List Str) (s : Rm) (t : Int) (k : Str), k ∉ ks → (cutAll s t ks).held k = s.held k
  | [], _, _, _, _ => rfl
  | j :: ks, s, t, k, h => (cutAll_held ks (cutM t s j) t k fun z => h (List.mem_cons_of_mem _ z)).trans (if_neg fun (z : j = k) => h (by rw [z]; exact List.mem_cons_self))
theorem over_free {s s' : Rm} {h t : Int} (o : OverR s h t s') (hh : h ≠ 0) {k v : Str} (e : s.held k = some (v, 0)) : s'.held k = some (v, 0) := by
  obtain ⟨ks, hk, rfl⟩ := o
  rw [cutAll_held _ _ _ _ fun z => ?_]
  · exact e
  · obtain ⟨u, q⟩ := (hk.mem k).mp z
    rw [e] at q
    cases q
    exact hh rfl
theorem overs_free {k v : Str} : ∀ {es : List (Int × Int)} {s s' : Rm}, OversR es s s' → (∀ e ∈ es, e.2 ≠ 0) → s.held k = some (v, 0) → s'.held k = some (v, 0)
  | [], s, s', o, _, e => by
    have o : s' = s := o
    rw [o]; exact e
  | x :: es, s, s', ⟨s1, o1, o2⟩, h, e => overs_free o2 (fun y hy => h y (List.mem_cons_of_mem _ hy)) (over_free o1 (h x List.mem_cons_self) e)
theorem overs_ends : ∀ {es : List (Int × Int)} {s s' : Rm}, OversR es s s' → ∀ h, s'.ends h ≠ none → s.ends h ≠ none
  | [], s, s', o, _, e => by
    have o : s' = s := o
    rw [o] at e; exact e
  | x :: es, s, s', ⟨s1, o1, o2⟩, h, e => by
    have q := overs_ends o2 h e
    rw [(over_same o1).2] at q
    unfold setF at q
    by_cases c : x.2 = h
    · rw [if_pos c] at q; exact absurd rfl q
    · rw [if_neg c] at q; exact q
theorem FreeOk.did {s s' : Rm} {f : Str → Option Str} {d : Deed} {a : Ans} (A : FreeOk s f) (o : DoR s d a s') : FreeOk s' (freeM f d a) := by
  have bad : ∀ {k : Kd}, FreeOk s (freeM f d (.bad k)) := fun {k} => by cases d <;> exact A
  cases d with
  | grant t =>
    rcases o with ⟨_, rfl, rfl⟩ | ⟨nb, rfl, rfl⟩
    · exact bad
    · refine ⟨A.st, fun h e => ?_⟩
      change setF s.ends ((s.given : Int) + 1) (some (s.now + t)) h ≠ none at e
      unfold setF at e
      by_cases c : (s.given : Int) + 1 = h
      · omega
      · rw [if_neg c] at e; exact A.po h e
  | renew j =>
    rcases o with ⟨_, rfl, rfl⟩ | ⟨hj, rfl, t, e1, rfl⟩
    · exact bad
    · refine ⟨A.st, fun h e => ?_⟩
      change setF s.ends j (some (s.now + t)) h ≠ none at e
      unfold setF at e
      by_cases c : j = h
      · rw [← c]; exact A.po j hj
      · rw [if_neg c] at e; exact A.po h e
  | drop j =>
    rcases o with ⟨_, rfl, rfl⟩ | ⟨hj, rfl, o⟩
    · exact bad
    · have p := A.po j hj
      refine ⟨fun k v e => over_free o (by omega) (A.st k v e), fun h e => ?_⟩
      rw [(over_same o).2] at e
      unfold setF at e
      by_cases c : j = h
      · rw [if_pos c] at e; exact absurd rfl e
      · rw [if_neg c] at e; exact A.po h e
  | wait t =>
    rcases o with ⟨_, rfl, rfl⟩ | ⟨nb, rfl, es, s1, e1, e2, rfl⟩
    · exact bad
    · refine ⟨fun k v e => overs_free (s' := s1) e2 (fun x hx => ?_) (A.st k v e), fun h e => A.po h (overs_ends e2 h e)⟩
      have p := A.po x.2 (by rw [((e1.mem x).mp hx).1]; exact fun z => nomatch z)
      omega
  | put k v h =>
    rcases o with ⟨_, rfl, rfl⟩ | ⟨_, _, rfl, rfl⟩ | ⟨_, _, rfl, rfl⟩
    · exact bad
    · exact bad
    · refine ⟨fun j u e => ?_, A.po⟩
      change setF f k (if h = 0 then some v else none) j = some u at e
      show setF s.held k (some (v, h)) j = some (u, 0)
      unfold setF at e ⊢
      by_cases c : k = j
      · rw [if_pos c] at e ⊢
        by_cases h0 : h = 0
        · rw [if_pos h0] at e
          cases e
          rw [h0]
        · rw [if_neg h0] at e; cases e
      · rw [if_neg c] at e ⊢
        exact A.st j u e
  | cut k h =>
    rcases o with ⟨_, rfl, rfl⟩ | ⟨_, _, rfl, rfl⟩ | ⟨_, _, rfl, rfl⟩ | ⟨_, hk, _, rfl, rfl⟩
    · exact bad
    · exact bad
    · exact bad
    · refine ⟨fun j u e => ?_, A.po⟩
      change setF f k none j = some u at e
      show setF s.held k none j = some (u, 0)
      unfold setF at e ⊢
      by_cases c : k = j
      · rw [if_pos c] at e; cases e
      · rw [if_neg c] at e ⊢
        exact A.st j u e
end KB

namespace KL
open PySem L2 L2H LX KB
/-! ### law_k10: the pool, and how long its texts are -/
def Six (zs : List Str) : Prop := ∀ (i : Nat) (z : Str), i ≠ 2 → zs[i]? = some z → TOk 20 z
def spPool10 : Sp := fun vs H Q _ => ∃ (c o : Int), vs = [.int c, .int o] ∧ ∀ (q : Addr) (zs : List Str) (H' : Hp), H q = none → H' q = some (.lst (zs.map V.str)) → zs.length = 6 → (∀ z ∈ zs, TOk 60 z) → Six zs → Same H H' → Q (.ref q) H'
def spPrefix10 : Sp := fun vs H Q _ => ∃ (q : Addr) (zs : List Str) (c : Int), vs = [.ref q, .int c] ∧ H q = some (.lst (zs.map V.str)) ∧ zs.length = 6 ∧ Six zs ∧ ∀ z H', TOk 20 z → Same H H' → Q (.str z) H'
section
variable {P : Program} {w : World} {K : PySem.W.Frag} {mg : Str → Option Value} {base : Heap}
theorem ok_pool10 {f : Addr} {fd : FuncData} (F : Fun K "_law_pool" "_law_pool" s_pool f fd) (T : LTxt mg) (D1 : Def P w K mg base "_law_sign" 1 p_sign spSign) (D2 : Def P w K mg base "_law_text" 2 p_text spText) : FnOk P w K mg base CX0 3 f fd p_pool spPool10 := by
  obtain ⟨fS, fdS, gS, kS, bS, GS⟩ := D1.ex
  obtain ⟨fT, fdT, gT, kT, bT, GT⟩ := D2.ex
  refine F.ok sc_pool (fun vs H Q E h => ?_) (fun cdv A outer s H vs Q E hr h => ?_)
  · obtain ⟨c, o, rfl, _⟩ := h
    rfl
  · obtain ⟨c, o, rfl, k⟩ := h
    have hr1 : Room 1 _ := hr.mono (by decide)
    refine ⟨_, pss_cons (ps_set (i := 2) sc_pool.nd rfl (Or.inl rfl) (pe_call GT hr rfl gT kT bT .nil pass0 (pa_cons (pv 0) (pa_cons (pe_ix ix_list (pe_lst (pa_cons (pe_op op_add pe_int (pe_op op_mod (pv 0) pe_int)) (pa_cons (pe_op op_add pe_int (pe_op op_mod (pv 0) pe_int)) pa_nil)))
          (pe_op op_mod (pe_op op_fdiv (pv 0) pe_int) pe_int) (fun _ _ => rfl)) pa_nil))))
      (pss_cons (ps_set (i := 3) sc_pool.nd rfl (Or.inl rfl) (pe_call GS hr1 rfl gS kS bS .nil pass0 (pa_cons (pv 1) pa_nil)))
      (pss_cons (ps_set (i := 4) sc_pool.nd rfl (Or.inl rfl) (pe_call GS hr1 rfl gS kS bS .nil pass0 (pa_cons (pe_op op_fdiv (pv 1) pe_int) pa_nil)))
      (pss_cons (ps_set (i := 5) sc_pool.nd rfl (Or.inl rfl) (pe_op op_mod (pe_op op_fdiv (pv 1) pe_int) (pe_op op_add (pe_callB call_len_str (by rfl) T.len PySem.boot_len (pa_cons (pv 2) pa_nil)) pe_int)))
      (pss_one (ps_ret (pe_lst (pa_cons (pv 2) (pa_cons (pe_op op_add_str (pv 2) (pv 3)) (pa_cons (pe_op op_add_str (pe_op op_add_str (pe_slice sl_str (pv 2) po_none (po_some (pv 5))) (pv 4)) (pe_slice sl_str (pv 2) (po_some (pv 5)) po_none))
        (pa_cons (pv 3) (pa_cons (pe_op op_add_str (pv 4) (pv 2)) (pa_cons (pe_call GT hr rfl gT kT bT .nil pass0 (pa_cons (pv 1) (pa_cons (pe_op op_sub pe_int (pe_op op_mod (pv 1) pe_int)) pa_nil))) pa_nil)))))))))))), ?_⟩
    refine ⟨_, rfl, _, rfl, _, _, rfl, rfl, (by show (0 : Int) < 4; decide), _, _, rfl, rfl, _, rfl, _, _, rfl, rfl, (by show (0 : Int) < 18; decide), _, _, rfl, rfl, (by show 2 ≤ sizeLine; decide), fun l hl => ?_⟩
    obtain ⟨n, hn, e⟩ := at_ints (ns := [1 + c % 4, 1 + c % 18]) (z := c / 4 % 2) (by omega) (by show c / 4 % 2 < 2; omega)
    have hn1 : 1 ≤ n ∧ n ≤ 18 := by
      simp only [List.mem_cons, List.not_mem_nil, or_false] at hn
      omega
    refine ⟨_, rfl, _, _, rfl, rfl, ⟨by decide, by decide⟩, _, _, rfl, rfl, (by show (0 : Int) < 2; decide), l, _, _, _, rfl, rfl, SqL.of upd_same, e, c, n, rfl, by omega, by omega, fun z1 H1 t1 l1 s1 => ?_⟩
    have t1 : TOk 18 z1 := t1.mono (by omega)
    refine ⟨_, rfl, _, rfl, fun z2 t2 _ => ?_⟩
    refine ⟨_, rfl, _, _, rfl, rfl, ⟨by decide, by decide⟩, _, rfl, fun z3 t3 _ => ?_⟩
    refine ⟨_, rfl, _, _, rfl, rfl, ⟨by decide, by decide⟩, _, rfl, _, rfl, t1.line (by decide), _, _, rfl, rfl, _, _, rfl, rfl, ?_, ?_⟩
    · show (0 : Int) < (z1.length : Int) + 1
      omega
    have c1 := t1.cut none (some (o / 8836 % ((z1.length : Int) + 1)))
    have c2 := t1.cut (some (o / 8836 % ((z1.length : Int) + 1))) none
    have a1 := (c1.app t3).app c2
    have a2 := t1.app t2
    have a3 := t3.app t1
    have L1 : ∀ {x y : Str} {n m : Nat}, TOk n x → TOk m y → n + m ≤ 1000 → x.length + y.length ≤ sizeLine := fun {x y n m} a b h => by
      have := a.le
      have := b.le
      exact Nat.le_of_lt (small1000 (by omega))
    refine ⟨_, rfl, _, rfl, _, rfl, _, _, rfl, rfl, L1 t1 t2 (by decide), ?_⟩
    refine ⟨_, rfl, _, rfl, _, rfl, _, rfl, t1.line (by decide), _, rfl, _, _, rfl, rfl, L1 c1 t3 (by decide), ?_⟩
    refine ⟨_, rfl, _, rfl, _, rfl, _, rfl, t1.line (by decide), _, _, rfl, rfl, L1 (c1.app t3) c2 (by decide), ?_⟩
    refine ⟨_, rfl, _, rfl, _, rfl, _, _, rfl, rfl, L1 t3 t1 (by decide), ?_⟩
    refine ⟨_, rfl, _, rfl, _, _, rfl, rfl, (by show (0 : Int) < 3; decide), _, _, rfl, rfl, o, 20 - o % 3, rfl, by omega, by omega, fun z4 H2 t4 _ s2 => ?_⟩
    refine ⟨(by show 6 ≤ sizeLine; decide), fun q hq => ?_⟩
    have s0 : Same H H2 := fun b u e => s2 _ _ (s1 _ _ (same_new hl _ _ e))
    refine k q [z1, z1 ++ z2, cutS z1 none (some (o / 8836 % ((z1.length : Int) + 1))) ++ z3 ++ cutS z1 (some (o / 8836 % ((z1.length : Int) + 1))) none, z2, z3 ++ z1, z4] _ (s0.free hq) upd_same rfl (fun z hz => ?_) (fun i z hi hz => ?_) fun b u e => ?_
    · simp only [List.mem_cons, List.not_mem_nil, or_false] at hz
      rcases hz with rfl | rfl | rfl | rfl | rfl | rfl
      · exact t1.mono (by decide)
      · exact a2.mono (by decide)
      · exact a1.mono (by decide)
      · exact t2.mono (by decide)
      · exact a3.mono (by decide)
      · exact t4.mono (by omega)
    · match i, hi, hz with
      | 0, _, hz => cases hz; exact t1.mono (by decide)
      | 1, _, hz => cases hz; exact a2.mono (by decide)
      | 2, hi, _ => exact absurd rfl hi
      | 3, _, hz => cases hz; exact t2.mono (by decide)
      | 4, _, hz => cases hz; exact a3.mono (by decide)
      | 5, _, hz => cases hz; exact t4.mono (by omega)
      | i + 6, _, hz => simp at hz
    · rw [upd_ne (ne_of_none (s0 _ _ e) hq)]; exact s0 _ _ e
theorem ok_prefix10 {f : Addr} {fd : FuncData} (F : Fun K "_law_prefix" "_law_prefix" s_prefix f fd) : FnOk P w K mg base CX0 1 f fd p_prefix spPrefix10 := by
  refine F.ok sc_prefix (fun vs H Q E h => ?_) (fun cdv A outer s H vs Q E hr h => ?_)
  · obtain ⟨q, zs, c, rfl, _⟩ := h
    rfl
  · obtain ⟨q, zs, c, rfl, hq, hl, ok, k⟩ := h
    obtain ⟨z0, z1, z2, z3, z4, z5, rfl⟩ : ∃ z0 z1 z2 z3 z4 z5, zs = [z0, z1, z2, z3, z4, z5] := by
      match zs, hl with
      | [z0, z1, z2, z3, z4, z5], _ => exact ⟨z0, z1, z2, z3, z4, z5, rfl⟩
    have o4 := ok 4 z4 (by decide) rfl
    refine ⟨_, pss_one (ps_ret (pe_ix ix_list (pe_lst (pa_cons pe_str (pa_cons pe_str (pa_cons (pe_ix ix_list (pv 0) pe_int (fun _ _ => rfl)) (pa_cons (pe_ix ix_list (pv 0) pe_int (fun _ _ => rfl)) (pa_cons (pe_ix ix_list (pv 0) pe_int (fun _ _ => rfl))
      (pa_cons (pe_slice sl_str (pe_ix ix_list (pv 0) pe_int (fun _ _ => rfl)) po_none (po_some pe_int)) (pa_cons (pe_ix ix_list (pv 0) pe_int (fun _ _ => rfl)) pa_nil))))))))
      (pe_op op_mod (pv 1) pe_int) (fun _ _ => rfl))), ?_⟩
    refine ⟨_, rfl, q, _, 0, .str z0, rfl, rfl, SqL.of hq, rfl, _, rfl, q, _, 3, .str z3, rfl, rfl, SqL.of hq, rfl, _, rfl, q, _, 1, .str z1, rfl, rfl, SqL.of hq, rfl, _, rfl, q, _, 4, .str z4, rfl, rfl, SqL.of hq, rfl, _, rfl, _, rfl, o4.line (by decide),
      _, rfl, q, _, 5, .str z5, rfl, rfl, SqL.of hq, rfl, (by show 7 ≤ sizeLine; decide), fun l hl => ?_⟩
    obtain ⟨z, hz, e⟩ := at_strs (ns := ["", "", z0, z3, z1, cutS z4 none (some 1), z5]) (z := c % 7) (by omega) (by show c % 7 < 7; omega)
    refine ⟨_, rfl, _, _, rfl, rfl, (by show (0 : Int) < 7; decide), l, _, _, _, rfl, rfl, SqL.of upd_same, e, ?_⟩
    refine k z _ ?_ (same_new hl)
    simp only [List.mem_cons, List.not_mem_nil, or_false] at hz
    rcases hz with rfl | rfl | rfl | rfl | rfl | rfl | rfl
    · exact TOk.nil.mono (by decide)
    · exact TOk.nil.mono (by decide)
    · exact ok 0 _ (by decide) rfl
    · exact ok 3 _ (by decide) rfl
    · exact ok 1 _ (by decide) rfl
    · exact o4.cut _ _
    · exact ok 5 _ (by decide) rfl
end
end KL

namespace KL
open PySem L2 L2H LX KB
/-! ### law_k10: the law's own table, and a deed done -/
abbrev m10D (g : Int) (fr : Addr) : List (Key × V) := [(Sum.inr "given", .int g), (Sum.inr "free", .ref fr)]
theorem k10n {a b : Str} (h : ¬ a = b) : ¬ ((Sum.inr a : Key) = Sum.inr b) := fun e => h (Sum.inr.inj e)
section
variable {H : Hp} {m fr : Addr} {g g' : Int}
theorem m10_given (A : H m = some (.dK (m10D g fr))) : DGet H m (.str "given") (some (.int g)) := by
  have h := DGet.k (k := Sum.inr "given") A
  rw [valV_pos rfl] at h
  exact h
theorem m10_free (A : H m = some (.dK (m10D g fr))) : DGet H m (.str "free") (some (.ref fr)) := by
  have h := DGet.k (k := Sum.inr "free") A
  rw [valV_neg (k10n (a := "given") (b := "free") (by decide +kernel)), valV_pos rfl] at h
  exact h
theorem m10p_given : putK (m10D g fr) (Sum.inr "given") (.int g') = m10D g' fr := by
  have n1 := k10n (a := "free") (b := "given") (by decide +kernel)
  unfold putK
  rw [valV_any, valV_pos rfl, if_pos (show (some (V.int g)).isSome = true from rfl), List.map_cons, List.map_cons, List.map_nil, if_neg n1, if_pos rfl]
end
def optV : Option Str → V
  | some z => .str z
  | none => .non
abbrev isO (b : Option Str) (v : V) : Prop := v = optV b
structure Fr10 (H : Hp) (fr : Addr) (fl : List (Str × Option Str)) (fk : List (Key × V)) : Prop where
  dk : H fr = some (.dK fk)
  re : DRel Sum.inr isO fl fk
def frF (fl : List (Str × Option Str)) : Str → Option Str := fun k => match getA fl k with
  | some (some v) => some v
  | _ => none
theorem frF_put (fl : List (Str × Option Str)) (k : Str) (b : Option Str) : frF (putA fl k b) = setF (frF fl) k b := by
  funext j
  unfold frF setF
  rw [getA_putA]
  by_cases c : k = j
  · rw [if_pos c, if_pos c]
    cases b <;> rfl
  · rw [if_neg c, if_neg c]
abbrev tV10 (x : Li) : List V := [.ref x.lp, .str x.z]
theorem tV10_eq (x y : Li) (h1 : y.lp = x.lp) (h2 : y.z = x.z) (h3 : y.b = x.b) : tV10 y = tV10 x := by
  unfold tV10; rw [h1, h2]
structure S10 (Rs : RsT) (Er : ErT) (CL : Addr) (H0 : Hp) (p m fr q : Addr) (zs : List Str) (ll : Addr) (H : Hp) (F : List Addr) (s : Rm) (mn : List (Int × Row)) (fl : List (Str × Option Str)) (fk : List (Key × V)) (N : Nat) (L : Nat → Li) (tps : List Addr) (n : Nat) : Prop where
  rl : RL Rs Er CL tV10 G10 H0 H F p s ll N L tps mn
  fo : FreeOk s (frF fl)
  dm : H m = some (.dK (m10D s.given fr))
  fr_ : Fr10 H fr fl fk
  po : H q = some (.lst (zs.map V.str))
  z6 : zs.length = 6
  zk : ∀ z ∈ zs, TOk 60 z
  z20 : Six zs
  o : ∀ a ∈ [m, fr, q], a ∉ F ∧ a ≠ ll ∧ ∀ i, i < N → a ∉ (L i).Fe ∧ a ≠ (L i).lp
  ne : m ≠ fr
  qm : q ≠ m ∧ q ≠ fr
  nm : H0 m = none
  ni : H0 fr = none
  b1 : mn.length ≤ n
  b2 : s.given ≤ n
  b3 : fl.length ≤ n
theorem S10.mono {Rs : RsT} {Er : ErT} {CL : Addr} {H0 : Hp} {p m fr q : Addr} {zs : List Str} {ll : Addr} {H : Hp} {F : List Addr} {s : Rm} {mn : List (Int × Row)} {fl : List (Str × Option Str)} {fk : List (Key × V)} {N : Nat} {L : Nat → Li} {tps : List Addr} {n k : Nat} (A : S10 Rs Er CL H0 p m fr q zs ll H F s mn fl fk N L tps n) (h : n ≤ k) : S10 Rs Er CL H0 p m fr q zs ll H F s mn fl fk N L tps k :=
  { A with b1 := Nat.le_trans A.b1 h, b2 := Nat.le_trans A.b2 h, b3 := Nat.le_trans A.b3 h }
/-- deeds by their names -/
def dName : Deed → Str
  | .grant _ => "grant"
  | .renew _ => "renew"
  | .drop _ => "drop"
  | .wait _ => "wait"
  | .put _ _ _ => "put"
  | .cut _ _ => "cut"
theorem dName0 (d : Deed) : atI d.V 0 = some (.str (dName d)) := by cases d <;> rfl
theorem dGrant {d : Deed} (h : dName d = "grant") : ∃ t, d = .grant t := by
  cases d with
  | grant t => exact ⟨t, rfl⟩
  | renew _ => exact absurd (show ("renew" : Str) = "grant" from h) (by decide +kernel)
  | drop _ => exact absurd (show ("drop" : Str) = "grant" from h) (by decide +kernel)
  | wait _ => exact absurd (show ("wait" : Str) = "grant" from h) (by decide +kernel)
  | put _ _ _ => exact absurd (show ("put" : Str) = "grant" from h) (by decide +kernel)
  | cut _ _ => exact absurd (show ("cut" : Str) = "grant" from h) (by decide +kernel)
theorem dWait {d : Deed} (h : dName d = "wait") : ∃ t, d = .wait t := by
  cases d with
  | wait t => exact ⟨t, rfl⟩
  | grant _ => exact absurd (show ("grant" : Str) = "wait" from h) (by decide +kernel)
  | renew _ => exact absurd (show ("renew" : Str) = "wait" from h) (by decide +kernel)
  | drop _ => exact absurd (show ("drop" : Str) = "wait" from h) (by decide +kernel)
  | put _ _ _ => exact absurd (show ("put" : Str) = "wait" from h) (by decide +kernel)
  | cut _ _ => exact absurd (show ("cut" : Str) = "wait" from h) (by decide +kernel)
theorem dPut {d : Deed} (h : dName d = "put") : ∃ k v j, d = .put k v j := by
  cases d with
  | put k v j => exact ⟨k, v, j, rfl⟩
  | grant _ => exact absurd (show ("grant" : Str) = "put" from h) (by decide +kernel)
  | renew _ => exact absurd (show ("renew" : Str) = "put" from h) (by decide +kernel)
  | drop _ => exact absurd (show ("drop" : Str) = "put" from h) (by decide +kernel)
  | wait _ => exact absurd (show ("wait" : Str) = "put" from h) (by decide +kernel)
  | cut _ _ => exact absurd (show ("cut" : Str) = "put" from h) (by decide +kernel)
theorem dCut {d : Deed} (h : dName d = "cut") : ∃ k j, d = .cut k j := by
  cases d with
  | cut k j => exact ⟨k, j, rfl⟩
  | grant _ => exact absurd (show ("grant" : Str) = "cut" from h) (by decide +kernel)
  | renew _ => exact absurd (show ("renew" : Str) = "cut" from h) (by decide +kernel)
  | drop _ => exact absurd (show ("drop" : Str) = "cut" from h) (by decide +kernel)
  | wait _ => exact absurd (show ("wait" : Str) = "cut" from h) (by decide +kernel)
  | put _ _ _ => exact absurd (show ("put" : Str) = "cut" from h) (by decide +kernel)
theorem deedT {d : Deed} (h : DeedOk d) : DeedT d := by cases d <;> exact h
def ansNum : Ans → Bool
  | .num _ => true
  | _ => false
theorem ansPlain (a : Ans) : Plain a.V (ansNum a) := by
  cases a with
  | num n => exact .inl ⟨⟨n, rfl⟩, rfl⟩
  | non => exact .inr ⟨.inl rfl, rfl⟩
  | bad w => exact .inr ⟨.inr ⟨_, rfl⟩, rfl⟩
def mineR (s : Rm) : Deed → Ans → Option (Int × Row)
  | .put k v _, .num n => some (n, ⟨n, s.now, "put", k, v⟩)
  | .cut k _, .num n => some (n, ⟨n, s.now, "cut", k, ""⟩)
  | _, _ => none
theorem mineM_R (s : Rm) (mn : List (Int × Row)) (d : Deed) (a : Ans) : mineM s mn d a = mn ++ (mineR s d a).toList := by
  cases d <;> cases a <;> simp [mineM, mineR]
def spDid10 (Rs : RsT) (Er : ErT) (CL : Addr) : Sp := fun vs H Q _ => ∃ (H0 : Hp) (p m fr q : Addr) (zs : List Str) (ll : Addr) (F : List Addr) (s : Rm) (mn : List (Int × Row)) (fl : List (Str × Option Str)) (fk : List (Key × V)) (N : Nat) (L : Nat → Li) (tps : List Addr) (n : Nat) (dt : Addr) (d : Deed), vs = [.ref p, .ref m, .ref dt] ∧ H dt = some (.tup d.V) ∧ DeedOk d ∧
  S10 Rs Er CL H0 p m fr q zs ll H F s mn fl fk N L tps n ∧ n ≤ 90 ∧ ∀ a F' s' mn' fl' fk' H', DoR s d a s' → S10 Rs Er CL H0 p m fr q zs ll H' F' s' mn' fl' fk' N L tps (n + 1) → Grow F F' H → Ch H H' (m :: fr :: F) → Q .non H'
section
variable {P : Program} {w : World} {K : PySem.W.Frag} {mg : Str → Option Value} {base : Heap} {C CE CL : Addr} {kk : Kinds} {Rs : RsT} {Er : ErT}
/-- what lies outside may change -/
theorem S10.same {hs es : List Str} (A1 : RoomApi P w K mg base C kk Rs hs) (A2 : EarApi P w K mg base CE Er es) {H0 : Hp} {p m fr q : Addr} {zs : List Str} {ll : Addr} {H H' : Hp} {F : List Addr} {s : Rm} {mn : List (Int × Row)} {fl : List (Str × Option Str)} {fk : List (Key × V)} {N : Nat} {L : Nat → Li} {tps : List Addr} {n : Nat} (A : S10 Rs Er CL H0 p m fr q zs ll H F s mn fl fk N L tps n) (c : Same H H') : S10 Rs Er CL H0 p m fr q zs ll H' F s mn fl fk N L tps n :=
  { A with rl := A.rl.same A1 A2 c, dm := c _ _ A.dm, fr_ := ⟨c _ _ A.fr_.dk, A.fr_.re⟩, po := c _ _ A.po }
theorem ok_did {f : Addr} {fd : FuncData} (F : Fun K "_law_did" "_law_did" s_did f fd) (A1 : RoomApi P w K mg base C kk Rs hsL) (A2 : EarApi P w K mg base CE Er esL) (LT : LTxt mg) (DD : Def P w K mg base "_law_done" 10 p_done (spDone Rs)) (DW : Def P w K mg base "_law_whole" 1 p_whole spWhole) : FnOk P w K mg base CX0 11 f fd p_did (spDid10 Rs Er CL) := by
  obtain ⟨f1, fd1, g1, k1, b1, G1⟩ := DD.ex
  obtain ⟨f2, fd2, g2, k2, b2, G2⟩ := DW.ex
  refine F.ok sc_did (fun vs H Q E h => ?_) (fun cdv A outer s H vs Q E hr h => ?_)
  · obtain ⟨H0, p, m, fr, q, zs, ll, F, s, mn, fl, fk, N, L, tps, n, dt, d, rfl, _⟩ := h
    rfl
  · obtain ⟨H0, p, m, fr, q, zs, ll, Fo, r, mn, fl, fk, N, L, tps, n, dt, d, rfl, hd, hok, S, hn, k⟩ := h
    have hu := hu_of hr
    have hr1 : Room 1 _ := hr.mono (by decide)
    refine ⟨_, pss_cons (ps_set (i := 3) sc_did.nd rfl (Or.inl rfl) (pe_call G1 hr rfl g1 k1 b1 .nil pass0 (pa_cons (pv 0) (pa_cons (pv 2) pa_nil))))
      (C8.pss_cut (ps_if (PW.pt (pw_and (pt_cmpR op_eq (pe_ix ix_tup (pv 2) pe_int (fun _ _ => rfl)) pe_str (nomark _)) (pw_and1 (pt_val (pe_call G2 hr1 rfl g2 k2 b2 .nil pass0 (pa_cons (pv 3) pa_nil))))))
        (pss_one (ps_dput hu (pv 1) pe_str (pv 3) rfl)) pss_nil)
      (C8.pss_cut (ps_if (PW.pt (pw_and (pt_cmpR op_eq (pe_ix ix_tup (pv 2) pe_int (fun _ _ => rfl)) pe_str (nomark _)) (pw_and1 (pt_val (pe_call G2 hr1 rfl g2 k2 b2 .nil pass0 (pa_cons (pv 3) pa_nil))))))
        (pss_one (ps_dput hu (pe_dget hu (pv 1) pe_str (fun _ _ => rfl)) (pe_ix ix_tup (pv 2) pe_int (fun _ _ => rfl)) (pe_ix ix_list (pe_lst (pa_cons (pe_ix ix_tup (pv 2) pe_int (fun _ _ => rfl)) (pa_cons pe_non pa_nil))) (pe_callTy call_int1 (by rfl) LT.int (by decide +kernel) (pa_cons (pe_cmpR op_ne (pe_ix ix_tup (pv 2) pe_int (fun _ _ => rfl)) pe_int (nomark _)) pa_nil)) (fun _ _ => rfl)) rfl)) pss_nil)
      (pss_one (ps_if (PW.pt (pw_and (pt_cmpR op_eq (pe_ix ix_tup (pv 2) pe_int (fun _ _ => rfl)) pe_str (nomark _)) (pw_and1 (pt_val (pe_call G2 hr1 rfl g2 k2 b2 .nil pass0 (pa_cons (pv 3) pa_nil))))))
        (pss_one (ps_dput hu (pe_dget hu (pv 1) pe_str (fun _ _ => rfl)) (pe_ix ix_tup (pv 2) pe_int (fun _ _ => rfl)) pe_non rfl)) pss_nil)))), ?_⟩
    refine ⟨_, rfl, _, rfl, Fo, p, r, dt, d, rfl, hd, hok, S.rl.rs, S.rl.fits, fun a s' F' H1 od R1 gr c1 => ?_⟩
    obtain ⟨hi', di⟩ := S.rl.hi.did (deedT hok) od
    have lm := S.b1
    have lg := S.b2
    have lf := S.b3
    have fo' := S.fo.did od
    have RL1 : RL Rs Er CL tV10 G10 H0 H1 F' p s' ll N L tps (mineM r mn d a) := S.rl.room A1 A2 g10 R1 gr c1 hi' (by
        rw [mineM_R, List.length_append]
        have : (mineR r d a).toList.length ≤ 1 := by cases mineR r d a <;> simp
        omega) (by have := di.given.2.2.2; omega) di.met di.wat di.rows (by rw [di.gone]; obtain ⟨nw, e⟩ := di.rows; rw [e, List.length_append]; have := S.rl.gg; omega) fun i hi => by rw [di.gone]; exact (S.rl.li i hi).gh
    have mF := (S.o m (by simp)).1
    have iF := (S.o fr (by simp)).1
    have qF := (S.o q (by simp)).1
    have dm1 := c1.at S.dm mF
    have mi1 : Fr10 H1 fr fl fk := ⟨c1.at S.fr_.dk iF, S.fr_.re⟩
    have po1 := c1.at S.po qF
    have hd1 := c1.tup _ _ hd
    have far : ∀ {x : Addr}, (∃ o, H x = some o) → x ∉ Fo → x ∉ F' := fun {x} y nn z => by
      rcases gr x z with z | z
      · exact nn z
      · obtain ⟨o, e⟩ := y
        rw [e] at z; cases z
    -- given
    refine ⟨fun σ H2 => σ = [some (.ref p), some (.ref m), some (.ref dt), some a.V] ∧ Ch H1 H2 [m, fr] ∧ H2 m = some (.dK (m10D s'.given fr)) ∧ Fr10 H2 fr fl fk, ?_, ?_⟩
    · have stay : s'.given = r.given → ([some (V.ref p), some (V.ref m), some (V.ref dt), some a.V] = [some (V.ref p), some (V.ref m), some (V.ref dt), some a.V]) ∧ Ch H1 H1 [m, fr] ∧ H1 m = some (.dK (m10D s'.given fr)) ∧ Fr10 H1 fr fl fk := fun e => ⟨rfl, Ch.refl _ _, by rw [e]; exact dm1, mi1⟩
      refine ⟨_, rfl, dt, _, 0, .str (dName d), rfl, rfl, SqT.of hd1, dName0 d, rfl, _, rfl, ?_⟩
      by_cases cd : dName d = "grant"
      · rw [decide_eq_true (congrArg V.str cd)]
        obtain ⟨t, rfl⟩ := dGrant cd
        refine iteT ⟨_, rfl, a.V, ansNum a, rfl, ansPlain a, ansNum a, rfl, ?_⟩
        cases a with
        | num x =>
          have e := di.given.1 t x rfl rfl
          refine iteT ⟨_, rfl, _, rfl, m, _, rfl, DPut.k (k := Sum.inr "given") dm1 (by show (2 : Nat) < sizeLine; decide), rfl, (Ch.refl _ _).mut (by simp) dm1 (fun xs e => by cases e), ?_, ?_⟩
          · rw [upd_same]
            show some (HO.dK (putK (m10D r.given fr) (Sum.inr "given") (.int x))) = _
            rw [m10p_given, e]
          · exact ⟨by rw [upd_ne S.ne.symm]; exact mi1.dk, mi1.re⟩
        | non => exact iteF (stay (di.given.2.1 t rfl fun _ z => nomatch z))
        | bad w => exact iteF (stay (di.given.2.1 t rfl fun _ z => nomatch z))
      · rw [decide_eq_false fun z => cd (V.str.inj z)]
        exact iteF (stay (di.given.2.2.1 fun t z => cd (by rw [z]; rfl)))
    clear dm1 mi1
    rintro σ H2 ⟨rfl, c2, dm2, mi2⟩
    have done_ : ∀ {H3 : Hp} {fl' : List (Str × Option Str)} {fk' : List (Key × V)}, Ch H1 H3 [m, fr] → H3 m = some (.dK (m10D s'.given fr)) → Fr10 H3 fr fl' fk' → frF fl' = freeM (frF fl) d a → fl'.length ≤ fl.length + 1 → Q .non H3 := fun {H3 fl' fk'} c3 d3 m3 e le => by
      have l' : (mineM r mn d a).length ≤ n + 1 := by
        rw [mineM_R, List.length_append]
        have : (mineR r d a).toList.length ≤ 1 := by cases mineR r d a <;> simp
        omega
      have RL3 := RL1.ch A1 A2 c3 (fun x hx => ?_) (fun i hi x hx => ?_) (fun z => ?_) (fun x hx => ?_)
      · refine k a F' s' (mineM r mn d a) fl' fk' H3 od ⟨RL3, by rw [e]; exact fo', d3, m3, c3.at po1 ?_, S.z6, S.zk, S.z20, fun x hx => ⟨far ?_ (S.o x hx).1, (S.o x hx).2⟩, S.ne, S.qm, S.nm, S.ni, l', by have := di.given.2.2.2; omega, by omega⟩ gr ((c1.mono fun a ha => List.mem_cons_of_mem _ (List.mem_cons_of_mem _ ha)).trans (c3.mono fun a ha => by simp only [List.mem_cons, List.not_mem_nil, or_false] at ha; rcases ha with rfl | rfl <;> simp))
        · simp [S.qm.1, S.qm.2]
        · simp only [List.mem_cons, List.not_mem_nil, or_false] at hx
          rcases hx with rfl | rfl | rfl
          · exact ⟨_, S.dm⟩
          · exact ⟨_, S.fr_.dk⟩
          · exact ⟨_, S.po⟩
      · simp only [List.mem_cons, List.not_mem_nil, or_false] at hx
        rcases hx with rfl | rfl
        · exact far ⟨_, S.dm⟩ mF
        · exact far ⟨_, S.fr_.dk⟩ iF
      · simp only [List.mem_cons, List.not_mem_nil, or_false] at hx
        rcases hx with rfl | rfl
        · exact (S.o _ (by simp)).2.2 i hi
        · exact (S.o _ (by simp)).2.2 i hi
      · simp only [List.mem_cons, List.not_mem_nil, or_false] at z
        rcases z with z | z
        · exact (S.o m (by simp)).2.1 z.symm
        · exact (S.o fr (by simp)).2.1 z.symm
      · simp only [List.mem_cons, List.not_mem_nil, or_false] at hx
        rcases hx with rfl | rfl
        · exact S.nm
        · exact S.ni
    have put1 : ∀ {H3 : Hp} {ky : Str} {b : Option Str}, Ch H1 H3 [m, fr] → H3 m = some (.dK (m10D s'.given fr)) → Fr10 H3 fr fl fk → fk.length < sizeLine ∧ Ch H1 (upd H3 fr (.dK (putK fk (Sum.inr ky) (optV b)))) [m, fr] ∧ (upd H3 fr (.dK (putK fk (Sum.inr ky) (optV b)))) m = some (.dK (m10D s'.given fr)) ∧
        Fr10 (upd H3 fr (.dK (putK fk (Sum.inr ky) (optV b)))) fr (putA fl ky b) (putK fk (Sum.inr ky) (optV b)) := fun {H3 ky b} c3 d3 m3 => by
      refine ⟨?_, ?_, by rw [upd_ne S.ne]; exact d3, upd_same, m3.re.put inr_inj rfl⟩
      · have := m3.re.len
        exact small1000 (by omega)
      · refine ⟨fun b o eb nb => ?_, fun b o eb => ?_⟩
        · have h3 := c3.st b o eb nb
          have n1 : b ≠ fr := by
            rcases nb with nb | ⟨xs, rfl⟩
            · exact fun z => nb (by rw [z]; simp)
            · exact ne_of h3 m3.dk (by intro z; cases z)
          rw [upd_ne n1]
          exact h3
        · obtain ⟨u, h3⟩ := c3.th b o eb
          by_cases z : b = fr
          · exact ⟨_, by rw [z]; exact upd_same⟩
          · exact ⟨u, by rw [upd_ne z]; exact h3⟩
    -- a put
    refine ⟨fun σ H3 => σ = [some (.ref p), some (.ref m), some (.ref dt), some a.V] ∧ Ch H1 H3 [m, fr] ∧ H3 m = some (.dK (m10D s'.given fr)) ∧ ∃ fl' fk', Fr10 H3 fr fl' fk' ∧ ((dName d = "cut" ∧ fl' = fl ∧ fk' = fk) ∨ (dName d ≠ "cut" ∧ frF fl' = freeM (frF fl) d a ∧ fl'.length ≤ fl.length + 1)), ?_, ?_⟩
    · refine ⟨_, rfl, dt, _, 0, .str (dName d), rfl, rfl, SqT.of (c2.tup _ _ hd1), dName0 d, rfl, _, rfl, ?_⟩
      by_cases cd : dName d = "put"
      · rw [decide_eq_true (congrArg V.str cd)]
        obtain ⟨ky, vl, j, rfl⟩ := dPut cd
        refine iteT ⟨_, rfl, a.V, ansNum a, rfl, ansPlain a, ansNum a, rfl, ?_⟩
        have ncut : ¬ dName (.put ky vl j) = "cut" := by show ¬ ("put" : Str) = "cut"; decide +kernel
        cases a with
        | num x =>
          refine iteT ⟨_, rfl, dt, _, 2, .str vl, rfl, rfl, SqT.of (c2.tup _ _ hd1), rfl, (by show 2 ≤ sizeLine; decide), fun l hl => ?_⟩
          have s3 := same_new (o := .lst [V.str vl, V.non]) hl
          have hd3 := s3 _ _ (c2.tup _ _ hd1)
          have c3 : Ch H1 (upd H2 l (.lst [V.str vl, V.non])) [m, fr] := c2.same s3
          have dm3 := s3 _ _ dm2
          have mi3 : Fr10 (upd H2 l (.lst [V.str vl, V.non])) fr fl fk := ⟨s3 _ _ mi2.dk, mi2.re⟩
          have l3 : upd H2 l (.lst [V.str vl, V.non]) l = some (.lst [V.str vl, V.non]) := upd_same
          try dsimp (config := { proj := false, iota := false, eta := false }) only
          generalize upd H2 l (.lst [V.str vl, V.non]) = H3 at s3 hd3 c3 dm3 mi3 l3
          refine ⟨_, rfl, dt, _, 3, .int j, rfl, rfl, SqT.of hd3, rfl, rfl, .inr ⟨_, rfl, ?_⟩⟩
          by_cases j0 : j = 0
          · rw [decide_eq_true (congrArg V.int j0)]
            obtain ⟨q1, q2, q3, q4⟩ := put1 (ky := ky) (b := some vl) c3 dm3 mi3
            exact ⟨l, _, _, _, rfl, rfl, SqL.of l3, rfl, _, rfl, m, _, rfl, m10_free dm3, _, rfl, dt, _, 1, .str ky, rfl, rfl, SqT.of hd3, rfl, fr, _, rfl, DPut.k (k := Sum.inr ky) mi3.dk q1, rfl, q2, q3, _, _, q4, .inr ⟨ncut, by rw [frF_put]; show _ = setF (frF fl) ky (if j = 0 then some vl else none); rw [if_pos j0], putA_len _ _ _⟩⟩
          · rw [decide_eq_false fun z => j0 (V.int.inj z)]
            obtain ⟨q1, q2, q3, q4⟩ := put1 (ky := ky) (b := none) c3 dm3 mi3
            exact ⟨l, _, _, _, rfl, rfl, SqL.of l3, rfl, _, rfl, m, _, rfl, m10_free dm3, _, rfl, dt, _, 1, .str ky, rfl, rfl, SqT.of hd3, rfl, fr, _, rfl, DPut.k (k := Sum.inr ky) mi3.dk q1, rfl, q2, q3, _, _, q4, .inr ⟨ncut, by rw [frF_put]; show _ = setF (frF fl) ky (if j = 0 then some vl else none); rw [if_neg j0], putA_len _ _ _⟩⟩
        | non => exact iteF ⟨rfl, c2, dm2, fl, fk, mi2, .inr ⟨ncut, rfl, Nat.le_succ _⟩⟩
        | bad w => exact iteF ⟨rfl, c2, dm2, fl, fk, mi2, .inr ⟨ncut, rfl, Nat.le_succ _⟩⟩
      · rw [decide_eq_false fun z => cd (V.str.inj z)]
        refine iteF ⟨rfl, c2, dm2, fl, fk, mi2, ?_⟩
        by_cases cc : dName d = "cut"
        · exact .inl ⟨cc, rfl, rfl⟩
        · refine .inr ⟨cc, ?_, Nat.le_succ _⟩
          cases d with
          | put k v j => exact absurd rfl cd
          | cut k j => exact absurd rfl cc
          | _ => cases a <;> rfl
    rintro σ H3 ⟨rfl, c3, dm3, fl', fk', mi3, hcase⟩
    refine ⟨_, rfl, dt, _, 0, .str (dName d), rfl, rfl, SqT.of (c3.tup _ _ hd1), dName0 d, rfl, _, rfl, ?_⟩
    by_cases cd : dName d = "cut"
    · rw [decide_eq_true (congrArg V.str cd)]
      obtain ⟨_, rfl, rfl⟩ := hcase.resolve_right fun z => z.1 cd
      obtain ⟨ky, j, rfl⟩ := dCut cd
      refine iteT ⟨_, rfl, a.V, ansNum a, rfl, ansPlain a, ansNum a, rfl, ?_⟩
      cases a with
      | num x =>
        obtain ⟨q1, q2, q3, q4⟩ := put1 (ky := ky) (b := none) c3 dm3 mi3
        exact iteT ⟨_, rfl, m, _, rfl, m10_free dm3, _, rfl, dt, _, 1, .str ky, rfl, rfl, SqT.of (c3.tup _ _ hd1), rfl, fr, _, rfl, DPut.k (k := Sum.inr ky) mi3.dk q1, done_ q2 q3 q4 (by rw [frF_put]; rfl) (putA_len _ _ _)⟩
      | non => exact iteF (done_ c3 dm3 mi3 rfl (Nat.le_succ _))
      | bad w => exact iteF (done_ c3 dm3 mi3 rfl (Nat.le_succ _))
    · rw [decide_eq_false fun z => cd (V.str.inj z)]
      have z := (hcase.resolve_left fun z => cd z.1).2
      exact iteF (done_ c3 dm3 mi3 z.1 z.2)
end
end KL

namespace KL
open PySem L2 L2H LX KB
/-! ### the law's own: a crowd's keys -/
def spKey : Sp := fun vs H Q _ => ∃ (c n : Int), vs = [.int c, .int n] ∧ ∀ z H', TOk 60 z → Same H H' → Q (.str z) H'
section
variable {P : Program} {w : World} {K : PySem.W.Frag} {mg : Str → Option Value} {base : Heap}
theorem ok_key {f : Addr} {fd : FuncData} (F : Fun K "_law_key" "_law_key" s_key f fd) (T : LTxt mg) (D1 : Def P w K mg base "_law_sign" 1 p_sign spSign) (D2 : Def P w K mg base "_law_text" 2 p_text spText) : FnOk P w K mg base CX0 3 f fd p_key spKey := by
  obtain ⟨fS, fdS, gS, kS, bS, GS⟩ := D1.ex
  obtain ⟨fT, fdT, gT, kT, bT, GT⟩ := D2.ex
  refine F.ok sc_key (fun vs H Q E h => ?_) (fun cdv A outer s H vs Q E hr h => ?_)
  · obtain ⟨c, o, rfl, _⟩ := h
    rfl
  · obtain ⟨c, n, rfl, k⟩ := h
    have hr1 : Room 1 _ := hr.mono (by decide)
    refine ⟨_, pss_cons (ps_if (pt_cmpR op_eq (pe_op op_mod (pv 0) pe_int) pe_int (nomark _)) (pss_one (ps_ret (pe_op op_add_str (pe_call GS hr1 rfl gS kS bS .nil pass0 (pa_cons (pe_op op_add (pv 0) (pv 1)) pa_nil))
          (pe_call GT hr rfl gT kT bT .nil pass0 (pa_cons (pv 0) (pa_cons (pe_op op_mod (pv 1) pe_int) pa_nil)))))) pss_nil)
      (pss_cons (ps_set (i := 2) sc_key.nd rfl (Or.inl rfl) (pe_call GT hr rfl gT kT bT .nil pass0 (pa_cons (pv 0) (pa_cons (pe_op op_mod (pe_op op_fdiv (pv 0) pe_int) pe_int) pa_nil))))
      (pss_cons (ps_set (i := 3) sc_key.nd rfl (Or.inl rfl) (pe_op op_mod (pe_op op_fdiv (pv 0) pe_int) (pe_op op_add (pe_callB call_len_str (by rfl) T.len PySem.boot_len (pa_cons (pv 2) pa_nil)) pe_int)))
      (pss_one (ps_ret (pe_op op_add_str (pe_op op_add_str (pe_slice sl_str (pv 2) po_none (po_some (pv 3))) (pe_call GS hr1 rfl gS kS bS .nil pass0 (pa_cons (pe_op op_add (pv 0) (pv 1)) pa_nil))) (pe_slice sl_str (pv 2) (po_some (pv 3)) po_none)))))), ?_⟩
    have L1 : ∀ {x y : Str} {n m : Nat}, TOk n x → TOk m y → n + m ≤ 1000 → x.length + y.length ≤ sizeLine := fun {x y n m} a b h => by
      have := a.le
      have := b.le
      exact Nat.le_of_lt (small1000 (by omega))
    refine ⟨_, rfl, _, _, rfl, rfl, (by show (0 : Int) < 2; decide), rfl, _, rfl, ?_⟩
    refine ite2 (fun _ => ?_) fun _ => ?_
    · refine ⟨_, rfl, _, rfl, _, _, rfl, rfl, _, rfl, fun z1 t1 _ => ?_⟩
      refine ⟨_, rfl, _, rfl, _, _, rfl, rfl, (by show (0 : Int) < 17; decide), c, n % 17, rfl, by omega, by omega, fun z2 H1 t2 _ s1 => ?_⟩
      have t2 : TOk 17 z2 := t2.mono (by omega)
      exact ⟨_, _, rfl, rfl, L1 t1 t2 (by decide), k _ _ ((t1.app t2).mono (by decide)) s1⟩
    refine ⟨_, rfl, _, rfl, _, _, rfl, rfl, ⟨by decide, by decide⟩, _, _, rfl, rfl, (by show (0 : Int) < 18; decide), c, c / 2 % 18, rfl, by omega, by omega, fun z1 H1 t1 _ s1 => ?_⟩
    have t1 : TOk 18 z1 := t1.mono (by omega)
    refine ⟨_, rfl, _, _, rfl, rfl, ⟨by decide, by decide⟩, _, rfl, _, rfl, t1.line (by decide), _, _, rfl, rfl, _, _, rfl, rfl, ?_, ?_⟩
    · show (0 : Int) < (z1.length : Int) + 1
      omega
    have c1 := t1.cut none (some (c / 36 % ((z1.length : Int) + 1)))
    have c2 := t1.cut (some (c / 36 % ((z1.length : Int) + 1))) none
    refine ⟨_, rfl, _, rfl, _, rfl, _, rfl, t1.line (by decide), _, rfl, _, rfl, _, _, rfl, rfl, _, rfl, fun z2 t2 _ => ?_⟩
    refine ⟨_, _, rfl, rfl, L1 c1 t2 (by decide), ?_⟩
    refine ⟨_, rfl, _, rfl, _, rfl, _, rfl, t1.line (by decide), _, _, rfl, rfl, L1 (c1.app t2) c2 (by decide), ?_⟩
    exact k _ _ (((c1.app t2).app c2).mono (by decide)) s1
end
end KL

namespace KL
open PySem L2 L2H LX KB
/-! ### law_k10: a crowd -/
def spCrowd10 (Rs : RsT) (Er : ErT) (CL : Addr) : Sp := fun vs H Q _ => ∃ (H0 : Hp) (p m fr q : Addr) (zs : List Str) (ll : Addr) (F : List Addr) (s : Rm) (mn : List (Int × Row)) (fl : List (Str × Option Str)) (fk : List (Key × V)) (N : Nat) (L : Nat → Li) (tps : List Addr) (c : Int), vs = [.ref p, .ref m, .int c] ∧
  S10 Rs Er CL H0 p m fr q zs ll H F s mn fl fk N L tps 0 ∧ ∀ F' s' mn' fl' fk' H', S10 Rs Er CL H0 p m fr q zs ll H' F' s' mn' fl' fk' N L tps 41 → Q .non H'
section
variable {P : Program} {w : World} {K : PySem.W.Frag} {mg : Str → Option Value} {base : Heap} {C CE CL : Addr} {kk : Kinds} {Rs : RsT} {Er : ErT}
theorem ok_crowd {f : Addr} {fd : FuncData} (F : Fun K "_law_crowd" "_law_crowd" s_crowd f fd) (A1 : RoomApi P w K mg base C kk Rs hsL) (A2 : EarApi P w K mg base CE Er esL) (LT : LTxt mg) (DD : Def P w K mg base "_law_did" 11 p_did (spDid10 Rs Er CL)) (DK : Def P w K mg base "_law_key" 3 p_key spKey) (DX : Def P w K mg base "_law_text" 2 p_text spText) :
    FnOk P w K mg base CX0 12 f fd p_crowd (spCrowd10 Rs Er CL) := by
  obtain ⟨f1, fd1, g1, k1, b1, G1⟩ := DD.ex
  obtain ⟨f2, fd2, g2, k2, b2, G2⟩ := DK.ex
  obtain ⟨f3, fd3, g3, k3, b3, G3⟩ := DX.ex
  refine F.ok sc_crowd (fun vs H Q E h => ?_) (fun cdv A outer s H vs Q E hr h => ?_)
  · obtain ⟨H0, p, m, fr, q, zs, ll, F, s, mn, fl, fk, N, L, tps, c, rfl, _⟩ := h
    rfl
  · obtain ⟨H0, p, m, fr, q, zs, ll, Fo, r, mn, fl, fk, N, L, tps, c, rfl, S, k⟩ := h
    have hu := hu_of hr
    have R : ∀ j, j ≤ 11 → Room j _ := fun j h => hr.mono h
    refine ⟨_, pss_cons (ps_set (i := 3) sc_crowd.nd rfl (Or.inl rfl) (pe_op op_add (pe_dget hu (pv 1) pe_str (fun _ _ => rfl)) pe_int))
      (pss_cons (ps_expr (pe_call G1 hr rfl g1 k1 b1 .nil pass0 (pa_cons (pv 0) (pa_cons (pv 1) (pa_cons (pe_tup (pa_cons pe_str (pa_cons (pe_op op_add pe_int (pe_op op_mod (pv 2) pe_int)) pa_nil))) pa_nil)))))
      (pss_one (ps_for PassesOwn.never rfl (pi_range1 (by rfl) LT.range (pa_cons pe_int pa_nil)) (pg_name (i := 4) sc_crowd.nd rfl (Or.inl rfl))
        (pss_one (ps_expr (pe_call G1 hr rfl g1 k1 b1 .nil pass0 (pa_cons (pv 0) (pa_cons (pv 1) (pa_cons (pe_tup (pa_cons pe_str (pa_cons (pe_call G2 (R 3 (by decide)) rfl g2 k2 b2 .nil pass0 (pa_cons (pv 2) (pa_cons (pv 4) pa_nil)))
          (pa_cons (pe_call G3 (R 2 (by decide)) rfl g3 k3 b3 .nil pass0 (pa_cons (pv 4) (pa_cons (pe_op op_mod (pv 4) pe_int) pa_nil))) (pa_cons (pe_ix ix_list (pe_lst (pa_cons (pv 3) (pa_cons pe_int pa_nil))) (pe_op op_fdiv (pe_op op_mod (pv 4) pe_int) pe_int) (fun _ _ => rfl)) pa_nil))))) pa_nil))))))))), ?_⟩
    refine ⟨_, rfl, m, _, rfl, m10_given S.dm, _, _, rfl, rfl, ?_⟩
    refine ⟨_, rfl, _, rfl, _, rfl, _, _, rfl, rfl, (by show (0 : Int) < 9; decide), _, _, rfl, rfl, (by show 2 ≤ sizeLine; decide), fun tp htp => ?_⟩
    have s1 := same_new (o := .tup (Deed.grant (1 + c % 9)).V) htp
    refine ⟨H0, p, m, fr, q, zs, ll, Fo, r, mn, fl, fk, N, L, tps, 0, tp, .grant (1 + c % 9), rfl, upd_same, trivial, S.same A1 A2 s1, by decide, fun _ F1 s2 mn1 fl1 fk1 H1 _ S1 _ _ => ?_⟩
    refine ⟨40, rfl, by decide, by decide, ?_⟩
    refine for_range (lo := 0) (n := 40) (D := { nx := fun _ H' => Q .non H', rt := Q }) (fun i σ H' => (∃ y4 : Option V, σ = [some (.ref p), some (.ref m), some (.int c), some (.int ((r.given : Int) + 1)), y4]) ∧ ∃ F' s' mn' fl' fk', S10 Rs Er CL H0 p m fr q zs ll H' F' s' mn' fl' fk' N L tps (1 + i)) ⟨⟨none, rfl⟩, F1, s2, mn1, fl1, fk1, S1⟩ ?_ ?_
    · rintro i σ H2 hi ⟨⟨y4, rfl⟩, F2, s3, mn2, fl2, fk2, S2⟩
      refine ⟨_, rfl, _, rfl, _, rfl, _, rfl, c, _, rfl, fun ky H3 oky s3' => ⟨_, rfl, _, rfl, _, _, rfl, rfl, (by show (0 : Int) < 3; decide), _, _, rfl, by omega, by omega, fun vl H4 tv _ s4' => ?_⟩⟩
      have ovl : TOk 60 vl := tv.mono (by omega)
      refine ⟨_, rfl, (by show 2 ≤ sizeLine; decide), fun l hl => ?_⟩
      obtain ⟨hh, _, e⟩ := at_ints (ns := [(r.given : Int) + 1, 0]) (z := ((0 : Int) + i) % 5 / 4) (by omega) (by show ((0 : Int) + i) % 5 / 4 < 2; omega)
      refine ⟨_, rfl, _, _, rfl, rfl, (by show (0 : Int) < 5; decide), _, _, rfl, rfl, ⟨by decide, by decide⟩, l, _, _, _, rfl, rfl, SqL.of upd_same, e, (by show 4 ≤ sizeLine; decide), fun tp2 htp2 => ?_⟩
      have s5 := (s3'.trans s4').trans ((same_new hl).trans (same_new (o := .tup (Deed.put ky vl hh).V) htp2))
      exact ⟨H0, p, m, fr, q, zs, ll, F2, s3, mn2, fl2, fk2, N, L, tps, 1 + i, tp2, .put ky vl hh, rfl, upd_same, ⟨oky, ovl⟩, S2.same A1 A2 s5, by omega, fun _ F5 s6 mn5 fl5 fk5 H5 _ S5 _ _ => ⟨⟨_, rfl⟩, F5, s6, mn5, fl5, fk5, S5⟩⟩
    · rintro σ H2 ⟨⟨y4, rfl⟩, F2, s3, mn2, fl2, fk2, S2⟩
      exact k F2 s3 mn2 fl2 fk2 H2 S2
end
end KL

namespace KL
open PySem L2 L2H LX KB
/-! ### a law's plain helpers: pairs -/
def spPairs (K : PySem.W.Frag) : Sp := fun vs H Q _ => ∃ (f d : Addr) (ts us : List Addr) (ps : List (Str × Str)), vs = [.ref f, .ref d] ∧ H f = some (.lst (ts.map V.ref)) ∧ H d = some (.lst (us.map V.ref)) ∧ PairsAt H ts ps ∧ PairsAt H us ps ∧ (∀ r ∈ ps, PairOk r) ∧
  Q (.bl true) (upd H f (.lst []))
section
variable {P : Program} {w : World} {K : PySem.W.Frag} {mg : Str → Option Value} {base : Heap}
theorem ok_pairs {f : Addr} {fd : FuncData} (F : Fun K "_law_pairs" "_law_pairs" s_pairs f fd) (T : LTxt mg) : FnOk P w K mg base CX0 1 f fd p_pairs (spPairs K) := by
  refine F.ok sc_pairs (fun vs H Q E h => ?_) (fun cdv A outer s H vs Q E hr h => ?_)
  · obtain ⟨f, d, ts, us, ps, rfl, _⟩ := h
    rfl
  · obtain ⟨fo, d, ts, us, ps, rfl, hf, hd, mf, md, ok, k⟩ := h
    have hu64 := hr.units
    refine ⟨_, pss_cons (ps_if (PW.pt (pw_or (pt_not (pt_val (pe_callB call_isi (by rfl) T.isi (by decide +kernel) (pa_cons (pv 0) (pa_cons (pe_bltn (v := V.ty "list") (by rfl) T.list (by decide +kernel) rfl) pa_nil)))))
          (pw_or1 (pt_cmpR op_ne (pe_callB call_len_seq (by rfl) T.len PySem.boot_len (pa_cons (pv 0) pa_nil)) (pe_callB call_len_seq (by rfl) T.len PySem.boot_len (pa_cons (pv 1) pa_nil)) (nomark _))))) (pss_one (ps_ret pe_bl)) pss_nil)
      (pss_cons (ps_for PassesOwn.never rfl (pi_list (pv 0)) (pg_name (i := 2) sc_pairs.nd rfl (Or.inl rfl))
        (pss_cons (ps_if (PW.pt (pw_or (pt_not (pt_val (pe_callB call_isi (by rfl) T.isi (by decide +kernel) (pa_cons (pv 2) (pa_cons (pe_bltn (v := V.ty "tuple") (by rfl) T.tuple (by decide +kernel) rfl) pa_nil)))))
          (pw_or1 (pt_cmpR op_ne (pe_callB call_len_seq (by rfl) T.len PySem.boot_len (pa_cons (pv 2) pa_nil)) pe_int (nomark _))))) (pss_one (ps_ret pe_bl)) pss_nil)
        (pss_one (ps_if (PW.pt (pw_or (pt_not (pt_val (pe_callB call_isi (by rfl) T.isi (by decide +kernel) (pa_cons (pe_ix ix_tup (pv 2) pe_int (fun _ _ => rfl)) (pa_cons (pe_bltn (v := V.ty "str") (by rfl) T.str (by decide +kernel) rfl) pa_nil)))))
          (pw_or1 (pt_not (pt_val (pe_callB call_isi (by rfl) T.isi (by decide +kernel) (pa_cons (pe_ix ix_tup (pv 2) pe_int (fun _ _ => rfl)) (pa_cons (pe_bltn (v := V.ty "str") (by rfl) T.str (by decide +kernel) rfl) pa_nil)))))))) (pss_one (ps_ret pe_bl)) pss_nil))))
      (pss_cons (ps_set (i := 3) sc_pairs.nd rfl (Or.inl rfl) (pe_cmpR (op_eqD hu64) (pv 0) (pv 1) (nomark _)))
      (pss_cons (ps_expr (pe_bm0 PySem.F.plainAttrs_list PySem.F.slot_list_clear PySem.F.type_list_clear mt_clear (pv 0)))
      (pss_one (ps_ret (pv 3)))))), ?_⟩
    refine ⟨_, rfl, _, _, _, _, true, rfl, .ty _, .base (.lst hf), kit_ty (by decide +kernel), true, rfl, iteF ?_⟩
    refine ⟨_, rfl, fo, _, rfl, .inl (SqL.of hf), _, rfl, d, _, rfl, .inl (SqL.of hd), rfl, _, rfl, iteNS (by rw [List.length_map, List.length_map, Paired.length mf, Paired.length md]) ?_⟩
    refine ⟨_, rfl, fo, rfl, ⟨_, SqL.of hf⟩, for_list (xs := ts.map V.ref) (fun i σ H' => H = H' ∧ ∃ y, σ = [some (.ref fo), some (.ref d), y, none]) ⟨rfl, none, rfl⟩ ?_ ?_ ?_⟩
    · rintro i σ H' _ ⟨rfl, _⟩
      exact SqL.of hf
    · rintro i x σ H' hx ⟨rfl, y, rfl⟩
      obtain ⟨t, a, b, rfl, ht⟩ := PairsAt.at mf hx
      refine ⟨_, rfl, _, _, _, _, true, rfl, .ty _, .base (.tup ht), kit_ty (by decide +kernel), true, rfl, iteF ?_⟩
      refine ⟨_, rfl, t, _, rfl, .inr (SqT.of ht), rfl, _, rfl, iteNS rfl ?_⟩
      refine ⟨_, rfl, t, _, 0, .str a, rfl, rfl, SqT.of ht, rfl, _, _, _, _, true, rfl, .ty _, .base (.str a), kit_ty (by decide +kernel), true, rfl, iteF ?_⟩
      exact ⟨_, rfl, t, _, 1, .str b, rfl, rfl, SqT.of ht, rfl, _, _, _, _, true, rfl, .ty _, .base (.str b), kit_ty (by decide +kernel), true, rfl, iteF ⟨rfl, _, rfl⟩⟩
    · rintro σ H' ⟨rfl, y, rfl⟩
      refine ⟨_, rfl, _, rfl, .list (ps.map pairD), .list (ps.map pairD), .lst (SqL.of hf) mf.dp, .lst (SqL.of hd) md.dp, pairs_shaped ok, pairs_shaped ok, ?_⟩
      rw [pairs_eqv ok]
      exact ⟨_, rfl, .inl ⟨rfl, _, SqL.of hf⟩, fo, _, rfl, rfl, hf, _, rfl, k⟩
end
end KL

namespace KL
open PySem L2 L2H LX KB
/-! ### a law over one script, and what it begins with -/
def spLaw (K : PySem.W.Frag) : Sp := fun vs H Q _ => ∃ (a : Addr) (ns : List Int), vs = [.ref a] ∧ SqL K H a (ns.map V.int) ∧ ns.length ≤ 63 ∧ ∀ H', Q (.bl true) H'
theorem rg3 : ∀ m : Fin 64, Builtin.Range.small 2 ((m.val : Int) - 2) 3 = true ∧ Builtin.Range.rangeSize 2 ((m.val : Int) - 2) 3 = (((m.val - 2) / 3 : Nat) : Int) := by decide +kernel
theorem rg3_of {m : Nat} (h : m ≤ 63) : RgC 2 ((m : Int) - 2) 3 ((m - 2) / 3) := by
  have q := rg3 ⟨m, by omega⟩
  exact ⟨by decide, by decide, q.1, q.2⟩
theorem room_made {C : Addr} {H H' : Hp} {x dx : Addr} {F : List Addr} (nx : H x = none) (ndx : H dx = none) (f : ∀ a ∈ F, a = x ∨ upd (upd H dx (.own x)) x (.ins C dx []) a = none) (c : Ch (upd (upd H dx (.own x)) x (.ins C dx [])) H' [x]) :
    Same H H' ∧ ∀ a ∈ F, H a = none := by
  have s0 : Same H (upd (upd H dx (.own x)) x (.ins C dx [])) := fun b o e => by
    rw [upd_ne (ne_of_none e nx), upd_ne (ne_of_none e ndx)]; exact e
  refine ⟨fun b o e => c.at (s0 _ _ e) fun z => ne_of_none e nx (List.mem_singleton.mp z), fun a ha => ?_⟩
  rcases f a ha with rfl | h
  · exact nx
  · exact s0.free h
theorem ex_no {H : Hp} {a b : Addr} (x : ∃ o, H a = some o) (n : H b = none) : a ≠ b := fun z => by
  obtain ⟨o, e⟩ := x
  rw [z, n] at e
  cases e
end KL

namespace KL
open PySem L2 L2H LX KB
/-! ### law_k10: what stands -/
theorem dget_frz {H : Hp} {a : Addr} {o : Obj} {kvs : List (Key × V)} {k : Key} (e : H a = some (.frz o (.dK kvs))) : DGet H a (kV k) (valV kvs k) := .inl ⟨kvs, k, .inr ⟨o, e⟩, rfl, rfl⟩
theorem pair_lay {p : Str × Str} (h : PairOk p) : (pairD p).canLay0 = true := by
  show (PyData.strOk p.1 && (PyData.strOk p.2 && true)) = true
  rw [h.1.str, h.2.str]; rfl
theorem pair_shaped {p : Str × Str} (h : PairOk p) : SeqAt.shaped (pairD p) = true := by
  unfold SeqAt.shaped
  rw [Bool.and_eq_true]
  exact ⟨pair_lay h, decide_eq_true (by simp [PyData.depth, PyData.depthAll, pairD])⟩
def spStand10 (Rs : RsT) (Er : ErT) (CL : Addr) : Sp := fun vs H Q _ => ∃ (H0 : Hp) (p m fr q : Addr) (zs : List Str) (ll : Addr) (F : List Addr) (s : Rm) (mn : List (Int × Row)) (fl : List (Str × Option Str)) (fk : List (Key × V)) (N : Nat) (L : Nat → Li) (tps : List Addr) (n : Nat), vs = [.ref p, .ref m] ∧ S10 Rs Er CL H0 p m fr q zs ll H F s mn fl fk N L tps n ∧ n ≤ 90 ∧
  ∀ F' H', S10 Rs Er CL H0 p m fr q zs ll H' F' s mn fl fk N L tps n → Q (.bl true) H'
def spKnows10 (Rs : RsT) (Er : ErT) (CL : Addr) : Sp := fun vs H Q _ => ∃ (H0 : Hp) (p m fr q : Addr) (zs : List Str) (ll : Addr) (F : List Addr) (s : Rm) (mn : List (Int × Row)) (fl : List (Str × Option Str)) (fk : List (Key × V)) (N : Nat) (L : Nat → Li) (tps : List Addr) (n i : Nat), vs = [.ref (L i).lp, .ref p, .str (L i).z] ∧ S10 Rs Er CL H0 p m fr q zs ll H F s mn fl fk N L tps n ∧ n ≤ 90 ∧ i < N ∧ (L i).tk = wantR s.rows (L i).z (L i).b ∧
  ∀ F' L' H', S10 Rs Er CL H0 p m fr q zs ll H' F' s mn fl fk N L' tps n → (∀ j, (L' j).tk = (L j).tk ∧ (L' j).z = (L j).z ∧ (L' j).b = (L j).b) → Q (.bl true) H'
section
variable {P : Program} {w : World} {K : PySem.W.Frag} {mg : Str → Option Value} {base : Heap} {C CE CL : Addr} {kk : Kinds} {Rs : RsT} {Er : ErT}
/-- one line went on -/
theorem S10.line {H0 : Hp} {p m fr q : Addr} {zs : List Str} {ll : Addr} {H H' : Hp} {F F' : List Addr} {s s' : Rm} {mn : List (Int × Row)} {fl : List (Str × Option Str)} {fk : List (Key × V)} {N : Nat} {L : Nat → Li} {tps : List Addr} {n i : Nat} {x : Li} (A : S10 Rs Er CL H0 p m fr q zs ll H F s mn fl fk N L tps n) (hi : i < N)
    (B : RL Rs Er CL tV10 G10 H0 H' F' p s' ll N (fun j => if j = i then x else L j) tps mn) (gr : Grow F F' H) (gre : Grow (L i).Fe x.Fe H) (c : Ch H H' (F ++ (L i).Fe)) (e1 : s'.given = s.given) (e2 : s'.held = s.held) (e3 : s'.ends = s.ends) (el : x.lp = (L i).lp) : S10 Rs Er CL H0 p m fr q zs ll H' F' s' mn fl fk N (fun j => if j = i then x else L j) tps n := by
  have out : ∀ a ∈ [m, fr, q], a ∉ F ++ (L i).Fe := fun a ha z => (List.mem_append.mp z).elim (A.o a ha).1 ((A.o a ha).2.2 i hi).1
  have ex : ∀ a ∈ [m, fr, q], ∃ o, H a = some o := fun a ha => by
    simp only [List.mem_cons, List.not_mem_nil, or_false] at ha
    rcases ha with rfl | rfl | rfl
    · exact ⟨_, A.dm⟩
    · exact ⟨_, A.fr_.dk⟩
    · exact ⟨_, A.po⟩
  have far : ∀ {F1 F2 : List Addr} {a : Addr}, Grow F1 F2 H → (∃ o, H a = some o) → a ∉ F1 → a ∉ F2 := fun {F1 F2 a} g y n z => by
    rcases g a z with z | z
    · exact n z
    · obtain ⟨o, e⟩ := y
      rw [e] at z; cases z
  refine ⟨B, ⟨by rw [e2]; exact A.fo.st, by rw [e3]; exact A.fo.po⟩, ?_, ⟨c.at A.fr_.dk (out fr (by simp)), A.fr_.re⟩, c.at A.po (out q (by simp)), A.z6, A.zk, A.z20, fun a ha => ⟨far gr (ex a ha) (A.o a ha).1, (A.o a ha).2.1, fun j hj => ?_⟩, A.ne, A.qm, A.nm, A.ni, A.b1, by rw [e1]; exact A.b2, A.b3⟩
  · rw [e1]; exact c.at A.dm (out m (by simp))
  · by_cases e : j = i
    · rw [if_pos e, el]
      exact ⟨far gre (ex a ha) ((A.o a ha).2.2 i hi).1, ((A.o a ha).2.2 i hi).2⟩
    · rw [if_neg e]; exact (A.o a ha).2.2 j hj
/-- the room was asked, or it forgot -/
theorem S10.room {H0 : Hp} {p m fr q : Addr} {zs : List Str} {ll : Addr} {H H' : Hp} {F F' : List Addr} {s s' : Rm} {mn : List (Int × Row)} {fl : List (Str × Option Str)} {fk : List (Key × V)} {N : Nat} {L : Nat → Li} {tps : List Addr} {n : Nat} (A : S10 Rs Er CL H0 p m fr q zs ll H F s mn fl fk N L tps n)
    (B : RL Rs Er CL tV10 G10 H0 H' F' p s' ll N L tps mn) (gr : Grow F F' H) (c : Ch H H' F) (e1 : s'.given = s.given) (e2 : s'.held = s.held) (e3 : s'.ends = s.ends) : S10 Rs Er CL H0 p m fr q zs ll H' F' s' mn fl fk N L tps n := by
  have out : ∀ a ∈ [m, fr, q], a ∉ F := fun a ha => (A.o a ha).1
  have ex : ∀ a ∈ [m, fr, q], ∃ o, H a = some o := fun a ha => by
    simp only [List.mem_cons, List.not_mem_nil, or_false] at ha
    rcases ha with rfl | rfl | rfl
    · exact ⟨_, A.dm⟩
    · exact ⟨_, A.fr_.dk⟩
    · exact ⟨_, A.po⟩
  refine ⟨B, ⟨by rw [e2]; exact A.fo.st, by rw [e3]; exact A.fo.po⟩, ?_, ⟨c.at A.fr_.dk (out fr (by simp)), A.fr_.re⟩, c.at A.po (out q (by simp)), A.z6, A.zk, A.z20, fun a ha => ⟨fun z => ?_, (A.o a ha).2⟩, A.ne, A.qm, A.nm, A.ni, A.b1, by rw [e1]; exact A.b2, A.b3⟩
  · rw [e1]; exact c.at A.dm (out m (by simp))
  · rcases gr a z with y | y
    · exact out a ha y
    · obtain ⟨o, e⟩ := ex a ha
      rw [e] at y; cases y
theorem S10.ask {hs es : List Str} (A1 : RoomApi P w K mg base C kk Rs hs) (A2 : EarApi P w K mg base CE Er es) {H0 : Hp} {p m fr q : Addr} {zs : List Str} {ll : Addr} {H H' : Hp} {F F' : List Addr} {s : Rm} {mn : List (Int × Row)} {fl : List (Str × Option Str)} {fk : List (Key × V)} {N : Nat} {L : Nat → Li} {tps : List Addr} {n : Nat} (A : S10 Rs Er CL H0 p m fr q zs ll H F s mn fl fk N L tps n)
    (R' : Rs F' H' p s) (gr : Grow F F' H) (c : Ch H H' F) : S10 Rs Er CL H0 p m fr q zs ll H' F' s mn fl fk N L tps n :=
  A.room (A.rl.room A1 A2 g10 R' gr c A.rl.hi A.rl.ml A.rl.gn rfl rfl ⟨[], (List.append_nil _).symm⟩ A.rl.gg fun i hi => (A.rl.li i hi).gh) gr c rfl rfl rfl

theorem ok_stand {f : Addr} {fd : FuncData} (F : Fun K "_law_stand" "_law_stand" s_stand f fd) (cl : Cls K C) (A1 : RoomApi P w K mg base C kk Rs hsL) (A2 : EarApi P w K mg base CE Er esL) : FnOk P w K mg base CX0 9 f fd p_stand (spStand10 Rs Er CL) := by
  obtain ⟨fPa, fdPa, psPa, mPa, bPa, GPa⟩ := (A1.pairs (by decide +kernel)).ex
  refine F.ok sc_stand (fun vs H Q E h => ?_) (fun cdv A outer s H vs Q E hr h => ?_)
  · obtain ⟨H0, p, m, fr, q, zs, ll, F, s, mn, fl, fk, N, L, tps, n, rfl, _⟩ := h
    rfl
  · obtain ⟨H0, p, m, fr, q, zs, ll, Fo, r, mn, fl, fk, N, L, tps, n, rfl, S, hn, k⟩ := h
    have hu := hu_of hr
    have hu65 : (A.deeper (PyProof.Rows.envOfC (Str.ofString "_law_stand") (defScope s_stand) s.heap.objs.size f cdv)).units + 65 < cLine := by have := hr.un; omega
    refine ⟨_, pss_cons (ps_set (i := 2) sc_stand.nd rfl (Or.inl rfl) (pe_meth (E := E0) (pv 0) cl mPa GPa (hr.mono (by decide)) bPa .nil pass0 (pa_cons pe_str pa_nil)))
      (pss_cons (ps_lock (ps_for PassesOwn.never rfl (pi_keys (pe_dget hu (pv 1) pe_str (fun _ _ => rfl))) (pg_name (i := 3) sc_stand.nd rfl (Or.inl rfl))
        (pss_one (ps_if (PW.pt (pw_and (pt_cmp (pc_notN (pe_dget hu (pe_dget hu (pv 1) pe_str (fun _ _ => rfl)) (pv 3) (fun _ _ => rfl)))) (pw_and1 (pt_cmpR (op_notInD hu65) (pe_tup (pa_cons (pv 3) (pa_cons (pe_dget hu (pe_dget hu (pv 1) pe_str (fun _ _ => rfl)) (pv 3) (fun _ _ => rfl)) pa_nil))) (pv 2) (by rfl))))) (pss_one (ps_ret pe_bl)) pss_nil))))
      (pss_one (ps_ret pe_bl))), ?_⟩
    obtain ⟨_, dx, fs, hob, _, hfs⟩ := A1.inst S.rl.rs
    refine ⟨_, rfl, p, dx, fs, rfl, hob, hfs _ (by simp [roomMs]), Fo, p, "", r, rfl, S.rl.rs, TOk.nil.mono (by decide), S.rl.fits, fun F1 q1 ts ps H1 R1 gr1 c1 q10 q1F q1at mq told => ?_⟩
    have S1 := S.ask A1 A2 R1 gr1 c1
    have okp := (S.rl.hi.told told).2
    refine ⟨fr, _, S1.fr_.dk, trivial, fun od => ?_⟩
    have fl1 := S1.fr_.re
    have nd1 : q1 ≠ fr := ne_of q1at S1.fr_.dk (by intro z; cases z)
    obtain ⟨HL, eHL⟩ : ∃ HL, HL = upd H1 fr (.frz od (.dK fk)) := ⟨_, rfl⟩
    have hL : HL fr = some (.frz od (.dK fk)) := by rw [eHL]; exact upd_same
    have mL : HL m = some (.dK (m10D r.given fr)) := by rw [eHL, upd_ne S.ne]; exact S1.dm
    have q1L : HL q1 = some (.lst (ts.map V.ref)) := by rw [eHL, upd_ne nd1]; exact q1at
    have mqL : PairsAt HL ts ps := mq.keep fun a xs e => by rw [eHL, upd_ne (ne_of e S1.fr_.dk (by intro z; cases z))]; exact e
    rw [← eHL]
    refine ⟨_, rfl, m, _, rfl, m10_free mL, fr, od, rfl, .inl ⟨_, hL, ?_⟩⟩
    refine for_it walk_keys (fun i σ H' => Same HL H' ∧ ∃ y3 : Option V, σ = [some (.ref p), some (.ref m), some (.ref q1), y3]) ⟨Same.refl _, none, rfl⟩ ?_ ?_ ?_
    · rintro i σ H' _ ⟨s2, _⟩
      exact s2 _ _ hL
    · rintro i x σ H2 H3 hi ⟨s2, y3, rfl⟩ ⟨rfl, ky, vv, ek, rfl⟩
      have kk : ky ∈ fk.map (·.1) := List.mem_map.mpr ⟨_, List.mem_of_getElem? ek, rfl⟩
      rw [fl1.keys] at kk
      obtain ⟨nn, hnn, rfl⟩ := List.mem_map.mp kk
      obtain ⟨b, gb⟩ : ∃ b, getA fl nn = some b := by
        cases e : getA fl nn with
        | none => exact absurd hnn (getA_none.mp e)
        | some b => exact ⟨b, rfl⟩
      obtain ⟨v, ev, rv⟩ := fl1.some_ inr_inj gb
      have rv : v = optV b := rv
      subst rv
      have gd : DGet H3 fr (.str nn) (some (optV b)) := by
        have g := dget_frz (k := Sum.inr nn) (s2 _ _ hL)
        rw [ev] at g
        exact g
      have g3 := m10_free (s2 _ _ mL)
      refine ⟨_, rfl, m, _, rfl, g3, _, rfl, fr, _, rfl, gd, ?_⟩
      cases b with
      | none =>
        exact ⟨false, by show V.bl (!decide (V.non = V.non)) = V.bl false; rw [decide_eq_true rfl]; rfl, iteF ⟨s2, _, rfl⟩⟩
      | some u =>
        refine ⟨true, by show V.bl (!decide (V.str u = V.non)) = V.bl true; rw [decide_eq_false (fun z => by cases z)]; rfl, iteT ?_⟩
        refine ⟨_, rfl, _, rfl, m, _, rfl, g3, _, rfl, fr, _, rfl, gd, (by show 2 ≤ sizeLine; decide), fun tp htp => ?_⟩
        have s3 := s2.trans (same_new (o := .tup [.str nn, .str u]) htp)
        have mem : (nn, u) ∈ ps := by
          have e : frF fl nn = some u := by unfold frF; rw [gb]
          have hh := S.fo.st nn u e
          have g : getP ps nn = some u := by
            rw [told.get]
            show (if isPre "" nn = true then (r.held nn).map (·.1) else none) = some u
            rw [isPre_nil, if_pos rfl, hh]
            rfl
          exact getP_mem g
        have okq := okp _ mem
        refine ⟨_, rfl, pairD (nn, u), ps.map pairD, .tup (.inl (.inl upd_same)) (.cons (.str _) (.cons (.str _) .nil)), .lst (SqL.of (s3 _ _ q1L)) (mqL.keep fun a xs e => s3 _ _ e).dp, pair_shaped okq, pairs_shaped okp, false, ?_, iteF ⟨s3, _, rfl⟩⟩
        have an : ((ps.map pairD).any fun z => PyData.eqv z (pairD (nn, u))) = true := List.any_eq_true.mpr ⟨_, List.mem_map.mpr ⟨_, mem, rfl⟩, PySem.SeqAt.eqv_refl _ (pair_lay okq)⟩
        rw [an]; rfl
    · rintro σ H2 ⟨s2, y3, rfl⟩
      refine ⟨s2 _ _ hL, k F1 _ (S1.same A1 A2 fun b o e => ?_)⟩
      by_cases z : b = fr
      · rw [z] at e ⊢
        rw [upd_same, ← e, S1.fr_.dk]
      · rw [upd_ne z]
        exact s2 _ _ (by rw [eHL, upd_ne z]; exact e)
theorem ok_knows {f : Addr} {fd : FuncData} (F : Fun K "_law_knows" "_law_knows" s_knows f fd) (cl : Cls K C) (clE : Cls K CE) (A1 : RoomApi P w K mg base C kk Rs hsL) (A2 : EarApi P w K mg base CE Er esL) (A3 : LineApi P w K mg base CL kk Rs Er) (LT : LTxt mg) (DP : Def P w K mg base "_law_pairs" 1 p_pairs (spPairs K)) : FnOk P w K mg base CX0 9 f fd p_knows (spKnows10 Rs Er CL) := by
  obtain ⟨f1, fd1, g1, k1, b1, G1⟩ := DP.ex
  obtain ⟨fPa, fdPa, psPa, mPa, bPa, GPa⟩ := (A1.pairs (by decide +kernel)).ex
  obtain ⟨fS, fdS, psS, mS, bS, GS⟩ := (A2.state (by decide +kernel)).ex
  refine F.ok sc_knows (fun vs H Q E h => ?_) (fun cdv A outer s H vs Q E hr h => ?_)
  · obtain ⟨H0, p, m, fr, q, zs, ll, F, s, mn, fl, fk, N, L, tps, n, i, rfl, _⟩ := h
    rfl
  · obtain ⟨H0, p, m, fr, q, zs, ll, Fo, r, mn, fl, fk, N, L, tps, n, i, rfl, S, hn, hi, htk, k⟩ := h
    have R : ∀ j, j ≤ 8 → Room j _ := fun j h => hr.mono h
    refine ⟨_, pss_cons (ps_set (i := 3) sc_knows.nd rfl (Or.inl rfl) (pe_callTy call_list_of (by rfl) LT.list (by decide +kernel) (pa_cons (pe_meth (E := E0) (pv 1) cl mPa GPa (R 8 (by decide)) bPa .nil pass0 (pa_cons (pv 2) pa_nil)) pa_nil)))
      (pss_cons (ps_for PassesOwn.never rfl (pi_list (pv 3)) (pg_name (i := 4) sc_knows.nd rfl (Or.inl rfl))
        (pss_one (ps_if (pt_cmpR op_ne (pe_slice sl_str (pe_ix ix_tup (pv 4) pe_int (fun _ _ => rfl)) po_none (po_some (pe_callB call_len_str (by rfl) LT.len PySem.boot_len (pa_cons (pv 2) pa_nil)))) (pv 2) (nomark _)) (pss_one (ps_ret pe_bl)) pss_nil)))
      (pss_one (ps_ret (pe_call G1 (R 1 (by decide)) rfl g1 k1 b1 .nil pass0 (pa_cons (pe_meth0 (E := E0) (pe_fld (pv 0) rfl) clE mS GS (R 4 (by decide)) bS .nil pass0) (pa_cons (pv 3) pa_nil)))))), ?_⟩
    obtain ⟨_, dx, fs, hob, _, hfs⟩ := A1.inst S.rl.rs
    have B := S.rl.li i hi
    have oz := B.oz
    refine ⟨_, rfl, p, dx, fs, rfl, hob, hfs _ (by simp [roomMs]), _, rfl, Fo, p, (L i).z, r, rfl, S.rl.rs, oz, S.rl.fits, fun F1 q1 ts ps H1 R1 gr1 c1 q10 q1F q1at mq told => ?_⟩
    have S1 := S.ask A1 A2 R1 gr1 c1
    have okp := (S.rl.hi.told told).2
    refine ⟨q1, _, rfl, .inl (SqL.of q1at), fun q2 hq2 => ?_⟩
    have s2 := same_new (o := .lst (ts.map V.ref)) hq2
    have q2at : upd H1 q2 (.lst (ts.map V.ref)) q2 = some (.lst (ts.map V.ref)) := upd_same
    have S2 := S1.same A1 A2 s2
    have mq2 := mq.keep fun a xs e => s2 _ _ e
    have q20 : H1 q2 = none := hq2
    have nE2 : q2 ∉ (L i).Fe := fun z => by
      obtain ⟨o, e⟩ := A2.own (S1.rl.li i hi).er _ z
      rw [q20] at e; cases e
    try dsimp (config := { proj := false, iota := false, eta := false }) only
    generalize upd H1 q2 (.lst (ts.map V.ref)) = H2 at s2 q2at S2 mq2
    refine ⟨_, rfl, q2, rfl, ⟨_, SqL.of q2at⟩, ?_⟩
    refine for_list (xs := ts.map V.ref) (fun j σ H' => H2 = H' ∧ ∃ y4 : Option V, σ = [some (.ref (L i).lp), some (.ref p), some (.str (L i).z), some (.ref q2), y4]) ⟨rfl, none, rfl⟩ ?_ ?_ ?_
    · rintro j σ H' _ ⟨rfl, _⟩
      exact SqL.of q2at
    · rintro j x σ H' hx ⟨rfl, y4, rfl⟩
      obtain ⟨t, pr, rfl, hpr, ht⟩ := pairsAt2 mq2 hx
      have mem := List.mem_of_getElem? hpr
      have okq := okp pr mem
      have pre : isPre (L i).z pr.1 = true := by
        have g := getP_of told.nd mem
        rw [told.get] at g
        unfold byPre at g
        by_cases c : isPre (L i).z pr.1 = true
        · exact c
        · rw [if_neg c] at g; cases g
      have c2' : cutS pr.1 none (some ((L i).z.length : Int)) = (L i).z := of_decide_eq_true pre
      refine ⟨_, rfl, t, _, 0, .str pr.1, rfl, rfl, SqT.of ht, rfl, _, rfl, _, rfl, oz.line (by decide), _, rfl, _, rfl, okq.1.line (by decide), _, rfl, rfl, _, rfl, iteNS (by rw [c2']) ⟨rfl, _, rfl⟩⟩
    · rintro σ H' ⟨rfl, y4, rfl⟩
      have B2 := S2.rl.li i hi
      obtain ⟨dxl, hl⟩ := B2.ln
      obtain ⟨_, dxe, fse, hobe, hfe⟩ := A2.inst B2.er
      have asc := B2.hd.asc S2.rl.hi.h.nu
      have rl2 := S2.rl.rl
      have lm := S2.b1
      have gl := B2.gl
      refine ⟨_, rfl, (L i).lp, CL, dxl, _, _, rfl, hl, A3.cl, A3.n2, zf_get (i := 2) (by decide +kernel) rfl, (L i).e, dxe, fse, rfl, hobe, hfe _ (by simp), (L i).Fe, (L i).e, (L i).b, (L i).gv, (L i).tk, rfl, B2.er, by have := asc.2.2; omega, fun x hx => S2.rl.hi.h.good x (asc.2.1 x hx), fun Fe3 q3 t3 ps3 H3 E3 gr3 c3 q30 q3E q3at m3 told3 => ?_⟩
      have hb : (L i).b - 1 ≤ (r.rows.length : Int) := by have := B2.bh; have := B2.hr; omega
      have kn := know10 (x := L i) S2.rl.hi.h.nu S2.rl.hi.h.st B2.gv B2.b1 hb
      rw [htk, kn] at told3
      obtain rfl : ps3 = ps := told3.uniq told
      have q23 := c3.at q2at nE2
      have mq3 := mq2.keep c3.tup
      refine ⟨_, rfl, q3, q2, t3, ts, ps3, rfl, q3at, q23, m3, mq3, okp, ?_⟩
      have RL3 := S2.rl.ear A1 A2 hi E3 gr3 c3 G10_eq tV10_eq
      have S3 := S2.line hi RL3 (Grow.refl _ _) gr3 (c3.mono fun y hy => List.mem_append_right _ hy) rfl rfl rfl rfl
      have c9 : Ch H3 (upd H3 q3 (.lst [])) [q3] := (Ch.refl _ _).mut (List.mem_singleton.mpr rfl) q3at (fun xs e => by cases e)
      have n8 : ∀ {y : Addr} {o : HO}, H2 y = some o → y ∉ [q3] := fun {y o} e z => by rw [List.mem_singleton.mp z, q30] at e; cases e
      have n8' : ∀ {y : Addr}, (∃ o, H2 y = some o) → y ≠ q3 := fun {y} x z => by
        obtain ⟨o, e⟩ := x
        rw [z, q30] at e; cases e
      have RL9 := RL3.ch A1 A2 c9 (fun y hy z => ?_) (fun j hj y hy => ?_) (fun z => ?_) (fun y hy => ?_)
      · refine k F1 (fun j => if j = i then { L i with Fe := Fe3 } else L j) _ ⟨RL9, S3.fo, c9.at S3.dm (n8 S2.dm), ⟨c9.at S3.fr_.dk (n8 S2.fr_.dk), S3.fr_.re⟩, c9.at S3.po (n8 S2.po), S3.z6, S3.zk, S3.z20, S3.o, S3.ne, S3.qm, S3.nm, S3.ni, S3.b1, S3.b2, S3.b3⟩ fun j => ?_
        show (if j = i then { L i with Fe := Fe3 } else L j).tk = (L j).tk ∧ (if j = i then { L i with Fe := Fe3 } else L j).z = (L j).z ∧ (if j = i then { L i with Fe := Fe3 } else L j).b = (L j).b
        by_cases ej : j = i
        · rw [if_pos ej, ej]; exact ⟨rfl, rfl, rfl⟩
        · rw [if_neg ej]; exact ⟨rfl, rfl, rfl⟩
      · rw [List.mem_singleton.mp hy] at z
        exact ex_no (A1.own S2.rl.rs _ z) q30 rfl
      · rw [List.mem_singleton.mp hy]
        show q3 ∉ (if j = i then { L i with Fe := Fe3 } else L j).Fe ∧ q3 ≠ (if j = i then { L i with Fe := Fe3 } else L j).lp
        by_cases ej : j = i
        · rw [if_pos ej]
          exact ⟨q3E, (n8' ⟨_, hl⟩).symm⟩
        · rw [if_neg ej]
          obtain ⟨dxj, hlj⟩ := (S2.rl.li j hj).ln
          exact ⟨fun z => ex_no (A2.own (S2.rl.li j hj).er _ z) q30 rfl, (n8' ⟨_, hlj⟩).symm⟩
      · exact n8' ⟨_, S2.rl.lo⟩ (List.mem_singleton.mp z)
      · rw [List.mem_singleton.mp hy]
        exact S2.rl.old.free q30
end
end KL

namespace KL
open PySem L2 L2H LX KB
/-! ### law_k10: a line that has just begun -/
theorem tl_cut (k : Str) (n : Nat) : tl (cutS k none (some (n : Int))) = (tl k).take (min n k.length) := by
  have e : TL.tl (cutS k none (some (n : Int))) = ((tl k).drop 0).take (HT.sIx k.length k.length (some (n : Int)) - 0) := by
    show (cutS k none (some (n : Int))).cps.toList = _
    unfold cutS
    exact List.toList_toArray
  have z : HT.sIx k.length k.length (some (n : Int)) = min n k.length := HT.sIx_nat k.length k.length n
  rw [z] at e
  exact e
theorem pre_key {z : Str} (h : z.length ≤ 20) : isPre z (cutS (z ++ "z") none (some 20)) = true := by
  unfold isPre
  refine decide_eq_true (TL.ext_tl ?_)
  have ea : tl (z ++ "z") = tl z ++ tl "z" := by
    show (z ++ "z").cps.toList = _
    exact Array.toList_append
  have lz : (tl z).length = z.length := rfl
  have l1 : (z ++ "z").length = z.length + 1 := by
    show (tl (z ++ "z")).length = _
    rw [ea, List.length_append]
    rfl
  have ek : tl (cutS (z ++ "z") none (some ((20 : Nat) : Int))) = (tl z ++ tl "z").take (min 20 (z.length + 1)) := by rw [tl_cut, ea, l1]
  have lk : (cutS (z ++ "z") none (some ((20 : Nat) : Int))).length = min 20 (z.length + 1) := by
    show (tl (cutS (z ++ "z") none (some ((20 : Nat) : Int)))).length = _
    rw [ek, List.length_take, List.length_append, lz]
    show min (min 20 (z.length + 1)) (z.length + 1) = _
    omega
  show tl (cutS (cutS (z ++ "z") none (some ((20 : Nat) : Int))) none (some (z.length : Int))) = tl z
  rw [tl_cut, lk, ek, List.take_take]
  have em : min (min z.length (min 20 (z.length + 1))) (min 20 (z.length + 1)) = (tl z).length := by rw [lz]; omega
  rw [em, List.take_append_of_le_length (Nat.le_refl _), List.take_length]
section
variable {P : Program} {w : World} {K : PySem.W.Frag} {mg : Str → Option Value} {base : Heap} {C CE CL : Addr} {kk : Kinds} {Rs : RsT} {Er : ErT}
/-- a line's turn, as the law calls it -/
theorem S10.turn {hs es : List Str} (A1 : RoomApi P w K mg base C kk Rs hs) (A2 : EarApi P w K mg base CE Er es) {H0 : Hp} {p m fr q : Addr} {zs : List Str} {ll : Addr} {H : Hp} {F : List Addr} {s : Rm} {mn : List (Int × Row)} {fl : List (Str × Option Str)} {fk : List (Key × V)} {N : Nat} {L : Nat → Li} {tps : List Addr} {n i : Nat} {most luck : Int} {Q : VK} {E : XK}
    (S : S10 Rs Er CL H0 p m fr q zs ll H F s mn fl fk N L tps n) (hi : i < N) (hn : n ≤ 90) (hm : 0 ≤ most)
    (k : ∀ F' s' L' H', S10 Rs Er CL H0 p m fr q zs ll H' F' s' mn fl fk N L' tps n → s'.rows = s.rows → s'.gone = s.gone → (∀ j, j ≠ i → L' j = L j) → (L' i).lp = (L i).lp → (L' i).z = (L i).z → (L' i).b = (L i).b → (L' i).tk = takeM (L i).b (L i).tk (arriveM (dueW s (L i).w most) luck) → (luck = 0 → (s.rows.length : Int) < most → (L' i).tk = wantR s.rows (L i).z (L i).b) → Grow F F' H → Grow (L i).Fe (L' i).Fe H → Ch H H' (F ++ (L i).Fe) →
      Q (.int (((L' i).tk.length : Int) - (L i).tk.length)) H') : spLnTurn CL kk Rs Er [.ref (L i).lp, .int most, .int luck] H Q E := by
  have B := S.rl.li i hi
  have rl := S.rl.rl
  have lm := S.b1
  have asc := B.hd.asc S.rl.hi.h.nu
  have gl := B.gl
  refine ⟨(L i).lp, p, (L i).e, (i : Int) + 1, most, luck, F, (L i).Fe, s, (L i).b, (L i).gv, (L i).tk, rfl, B.ln, S.rl.rs, B.er, B.lF, B.lE, B.dF, S.rl.fits, hm, by have := asc.2.2; omega, S.rl.hi.h.good, (fun z => by rw [B.wa] at z; cases z), fun w1 ew1 F3 Fe3 H3 s3 w3 k1 k2 es R3 E3 L3 gr3 gre3 dj3 lp3 lpE3 c3 => ?_⟩
  rw [B.wa] at ew1
  cases ew1
  obtain ⟨had', RL3, full, _⟩ := S.rl.turn A1 A2 hi hm k1 k2 es R3 E3 L3 gr3 gre3 dj3 lp3 lpE3 c3 G10_eq tV10_eq
  have S3 := S.line hi RL3 gr3 gre3 c3 (by rw [es]) (by rw [es]) (by rw [es]) rfl
  obtain ⟨L3', eL3⟩ : ∃ L3 : Nat → Li, L3 = fun j => if j = i then { L i with Fe := Fe3, had := had', tk := takeM (L i).b (L i).tk (arriveM (dueW s (L i).w most) luck) } else L j := ⟨_, rfl⟩
  rw [← eL3] at S3
  have x3 : L3' i = { L i with Fe := Fe3, had := had', tk := takeM (L i).b (L i).tk (arriveM (dueW s (L i).w most) luck) } := by rw [eL3]; exact if_pos rfl
  have kk := k F3 s3 L3' H3 S3 (by rw [es]) (by rw [es]) (fun j hj => by rw [eL3]; exact if_neg hj) (by rw [x3]) (by rw [x3]) (by rw [x3]) (by rw [x3]) (fun a b => by rw [x3]; exact full a b) gr3 (by rw [x3]; exact gre3) c3
  rw [x3] at kk
  exact kk
def spBegun10 (Rs : RsT) (Er : ErT) (CL : Addr) : Sp := fun vs H Q _ => ∃ (H0 : Hp) (p m fr q : Addr) (zs : List Str) (ll : Addr) (F : List Addr) (s : Rm) (mn : List (Int × Row)) (fl : List (Str × Option Str)) (fk : List (Key × V)) (N : Nat) (L : Nat → Li) (tps : List Addr) (n i : Nat) (cell : Int), vs = [.ref p, .ref m, .ref (L i).lp, .str (L i).z, .int cell, .int N] ∧
  S10 Rs Er CL H0 p m fr q zs ll H F s mn fl fk N L tps n ∧ n ≤ 89 ∧ i + 1 = N ∧ (L i).tk = [] ∧ (L i).b = (s.rows.length : Int) + 1 ∧ (L i).had = (s.rows.length : Int) ∧ TOk 20 (L i).z ∧
  ∀ F' s' mn' fl' fk' L' H', S10 Rs Er CL H0 p m fr q zs ll H' F' s' mn' fl' fk' N L' tps (n + 1) → (L' i).lp = (L i).lp → (L' i).z = (L i).z → (cell % 4 ≠ 1 → (L' i).tk = wantR s'.rows (L' i).z (L' i).b) → (∀ a o, H a = some o → a ∉ m :: fr :: (F ++ (L i).Fe) → H' a = some o) → Q (.bl true) H'
theorem ok_begun {f : Addr} {fd : FuncData} (F : Fun K "_law_begun" "_law_begun" s_begun f fd) (cl : Cls K C) (clE : Cls K CE) (A1 : RoomApi P w K mg base C kk Rs hsL) (A2 : EarApi P w K mg base CE Er esL) (A3 : LineApi P w K mg base CL kk Rs Er) (DI : Def P w K mg base "_law_did" 11 p_did (spDid10 Rs Er CL)) : FnOk P w K mg base CX0 12 f fd p_begun (spBegun10 Rs Er CL) := by
  obtain ⟨f1, fd1, g1, k1, b1, G1⟩ := DI.ex
  obtain ⟨fLa, fdLa, psLa, mLa, bLa, GLa⟩ := (A1.last (by decide +kernel)).ex
  obtain ⟨fF, fdF, psF, mF, bF, GF⟩ := (A1.first (by decide +kernel)).ex
  obtain ⟨fTr, fdTr, psTr, mTr, bTr, GTr⟩ := (A1.trim (by decide +kernel)).ex
  obtain ⟨fT, fdT, psT, mT, bT, GT⟩ := A3.turn
  obtain ⟨fD, fdD, psD, mD, bD, GD⟩ := A2.heard.ex
  refine F.ok sc_begun (fun vs H Q E h => ?_) (fun cdv A outer s H vs Q E hr h => ?_)
  · obtain ⟨H0, p, m, fr, q, zs, ll, F, s, mn, fl, fk, N, L, tps, n, i, cell, rfl, _⟩ := h
    rfl
  · obtain ⟨H0, p, m, fr, q, zs, ll, Fo, r, mn, fl, fk, N, L, tps, n, i, cell, rfl, S, hn, iN, htk, hb, hhad, oz, k⟩ := h
    have hu64 := hr.units
    have R : ∀ j, j ≤ 11 → Room j _ := fun j h => hr.mono h
    have hi : i < N := by omega
    refine ⟨_, pss_cons (ps_set (i := 6) sc_begun.nd rfl (Or.inl rfl) (pe_op op_add (pe_meth0 (E := E0) (pv 0) cl mLa GLa (R 8 (by decide)) bLa .nil pass0) pe_int))
      (pss_cons (ps_if (pt_cmpR op_eq (pe_op op_mod (pv 4) pe_int) pe_int (nomark _))
        (pss_one (ps_ret (pe_and (pe_cmpR op_eq (pe_meth (E := E0) (pv 2) A3.cl mT GT (R 9 (by decide)) bT .nil (passes_call takes0 (fun _ _ _ _ h => h)) (pa_cons (pv 6) (pa_cons pe_int pa_nil))) pe_int (nomark _))
          (pe_one (pe_cmpR (op_eqD hu64) (pe_meth0 (E := E0) (pe_fld (pv 2) rfl) clE mD GD (R 4 (by decide)) bD .nil pass0) (pe_lst pa_nil) (nomark _)))))) pss_nil)
      (pss_cons (ps_if (pt_cmpR op_eq (pe_op op_mod (pv 4) pe_int) pe_int (nomark _))
        (pss_cons (ps_set (i := 7) sc_begun.nd rfl (Or.inl rfl) (pe_slice sl_str (pe_op op_add_str (pv 3) pe_str) po_none (po_some pe_int)))
        (pss_cons (ps_set (i := 8) sc_begun.nd rfl (Or.inl rfl) (pe_meth0 (E := E0) (pv 0) cl mLa GLa (R 8 (by decide)) bLa .nil pass0))
        (pss_cons (ps_expr (pe_call G1 hr rfl g1 k1 b1 .nil pass0 (pa_cons (pv 0) (pa_cons (pv 1) (pa_cons (pe_tup (pa_cons pe_str (pa_cons (pv 7) (pa_cons pe_str (pa_cons pe_int pa_nil))))) pa_nil)))))
        (pss_one (ps_ret (pe_cmpR op_eq (pe_meth (E := E0) (pv 2) A3.cl mT GT (R 9 (by decide)) bT .nil (passes_call takes0 (fun _ _ _ _ h => h)) (pa_cons pe_int (pa_cons pe_int pa_nil))) (pe_op op_sub (pe_meth0 (E := E0) (pv 0) cl mLa GLa (R 8 (by decide)) bLa .nil pass0) (pv 8)) (nomark _))))))) pss_nil)
      (C8.pss_cut (ps_if (PW.pt (pw_and (pt_cmpR op_eq (pe_op op_mod (pv 4) pe_int) pe_int (nomark _)) (pw_and1 (pt_cmpR op_eq (pv 5) pe_int (nomark _)))))
        (pss_cons (ps_set (i := 9) sc_begun.nd rfl (Or.inl rfl) (pe_op op_sub (pv 6) (pe_meth0 (E := E0) (pv 0) cl mF GF (R 8 (by decide)) bF .nil pass0)))
        (pss_one (ps_ret (pe_and (pe_cmpR op_eq (pe_meth0 (E := E0) (pv 0) cl mTr GTr (R 8 (by decide)) bTr .nil pass0) (pv 9) (nomark _)) (pe_one (pe_cmpR op_eq (pe_meth0 (E := E0) (pv 0) cl mF GF (R 8 (by decide)) bF .nil pass0) (pv 6) (nomark _))))))) pss_nil)
      (pss_one (ps_ret pe_bl))))), ?_⟩
    obtain ⟨_, dx, fs, hob, _, hfs⟩ := A1.inst S.rl.rs
    refine ⟨_, rfl, p, dx, fs, rfl, hob, hfs _ (by simp [roomMs]), Fo, p, r, rfl, S.rl.rs, fun F1 H1 R1 gr1 c1 => ?_⟩
    have S1 := S.ask A1 A2 R1 gr1 c1
    have nu := S1.rl.hi.h.nu
    have we : wantR r.rows (L i).z (L i).b = [] := by rw [hb]; exact want_end nu _
    have st1 : ∀ {a : Addr} {o : HO}, H a = some o → a ∉ m :: fr :: (Fo ++ (L i).Fe) → H1 a = some o ∧ a ∉ F1 ∧ a ∉ m :: fr :: F1 ∧ a ∉ (L i).Fe := fun {a o} e n1 => by
      simp only [List.mem_cons, List.mem_append, not_or] at n1
      obtain ⟨n2, n3, n4, n5⟩ := n1
      have nF : a ∉ F1 := fun z => by
        rcases gr1 a z with y | y
        · exact n4 y
        · rw [e] at y; cases y
      exact ⟨c1.at e n4, nF, by simp [n2, n3, nF], n5⟩
    refine ⟨_, _, rfl, rfl, ?_⟩
    refine ⟨_, rfl, _, _, rfl, rfl, (by show (0 : Int) < 4; decide), rfl, _, rfl, ?_⟩
    refine ite2 (fun c0 => ?_) fun c0 => ?_
    · -- a turn for more than there are
      have B1 := S1.rl.li i hi
      obtain ⟨dxl, hl⟩ := B1.ln
      refine ⟨_, rfl, (L i).lp, dxl, _, rfl, hl, (zf_no (by decide +kernel) : (nsLine.zip [V.ref p, .int ((i : Int) + 1), .ref (L i).e]).lookup ("turn" : Str) = none), _, rfl, ?_⟩
      dsimp only [tCons, tNil, tC]
      refine S1.turn A1 A2 (most := (r.rows.length : Int) + 1) (luck := 0) hi (by omega) (by show (0 : Int) ≤ (r.rows.length : Int) + 1; omega) fun F2 s2 L2 H2 S2 er eg ej el ez eb etk full gr2 gre2 c2 => ⟨rfl, ?_⟩
      have t0 : (L2 i).tk = [] := by rw [full rfl (by show (r.rows.length : Int) < (r.rows.length : Int) + 1; omega), we]
      rw [t0, htk]
      refine ⟨true, by rw [decide_eq_true]; rfl, iteT ?_⟩
      have B2 := S2.rl.li i hi
      obtain ⟨dx2, hl2⟩ := B2.ln
      rw [el] at hl2
      obtain ⟨_, dxe, fse, hobe, hfe⟩ := A2.inst B2.er
      refine ⟨_, rfl, (L i).lp, CL, dx2, _, _, rfl, hl2, A3.cl, A3.n2, zf_get (i := 2) (by decide +kernel) rfl, (L2 i).e, dxe, fse, rfl, hobe, hfe _ (by simp), (L2 i).Fe, (L2 i).e, (L2 i).b, (L2 i).gv, (L2 i).tk, rfl, B2.er, fun Fe3 q3 t3 H3 E3 gr3 c3 q30 q3E q3at m3 => ?_⟩
      rw [t0] at m3
      have RL3 := S2.rl.ear A1 A2 hi E3 gr3 c3 G10_eq tV10_eq
      have S3 := S2.line hi RL3 (Grow.refl _ _) gr3 (c3.mono fun y hy => List.mem_append_right _ hy) rfl rfl rfl rfl
      obtain ⟨L3, eL3⟩ : ∃ L3 : Nat → Li, L3 = fun j => if j = i then { L2 i with Fe := Fe3 } else L2 j := ⟨_, rfl⟩
      rw [← eL3] at S3
      have x3 : L3 i = { L2 i with Fe := Fe3 } := by rw [eL3]; exact if_pos rfl
      refine ⟨(by show 0 ≤ sizeLine; decide), fun l hl => ?_⟩
      have s4 := same_new (o := .lst []) hl
      have S4 := S3.same A1 A2 s4
      refine ⟨.list [], .list [], .lst (SqL.of (s4 _ _ q3at)) ?_, .lst (SqL.of upd_same) .nil, rfl, rfl, ?_⟩
      · cases m3
        exact .nil
      · refine k F2 s2 mn fl fk L3 _ (S4.mono (Nat.le_succ _)) (by rw [x3]; exact el) (by rw [x3]; exact ez) (fun _ => ?_) fun a o e n1 => ?_
        · rw [x3]
          show (L2 i).tk = wantR s2.rows (L2 i).z (L2 i).b
          rw [t0, er, ez, eb, we]
        · obtain ⟨y1, y2, y3, y4⟩ := st1 e n1
          have h2 := c2.at y1 fun z => (List.mem_append.mp z).elim y2 y4
          have n2 : a ∉ (L2 i).Fe := fun z => by
            rcases gre2 a z with y | y
            · exact y4 y
            · rw [y1] at y; cases y
          exact s4 _ _ (c3.at h2 n2)
    refine ⟨_, rfl, _, _, rfl, rfl, (by show (0 : Int) < 4; decide), rfl, _, rfl, ?_⟩
    refine ite2 (fun c1' => ?_) fun c1' => ?_
    · -- a key put, and a turn for one
      have zl : (L i).z.length ≤ 20 := oz.le
      have cc : cell % 4 = 1 := V.int.inj (of_decide_eq_true c1')
      have o1 : TOk 1 "z" := ⟨by decide +kernel, by decide +kernel⟩
      have ok := ((oz.app o1).cut none (some 20)).mono (by decide : 20 + 1 ≤ 60)
      have oa : TOk 60 "a" := (⟨by decide +kernel, by decide +kernel⟩ : TOk 1 "a").mono (by decide)
      refine ⟨_, rfl, _, _, rfl, rfl, (by have := zl; show (L i).z.length + 1 ≤ sizeLine; exact Nat.le_of_lt (small1000 (by omega))), _, rfl, _, rfl, (oz.app o1).line (by decide), ?_⟩
      obtain ⟨_, dx1, fs1, hob1, _, hfs1⟩ := A1.inst S1.rl.rs
      refine ⟨_, rfl, p, dx1, fs1, rfl, hob1, hfs1 _ (by simp [roomMs]), F1, p, r, rfl, R1, fun F2 H2 R2 gr2 c2 => ?_⟩
      have S2 := S1.ask A1 A2 R2 gr2 c2
      refine ⟨_, rfl, _, rfl, _, rfl, (by show 4 ≤ sizeLine; decide), fun tp htp => ?_⟩
      have s3 := same_new (o := .tup (Deed.put (cutS ((L i).z ++ "z") none (some 20)) "a" 0).V) htp
      have S3 := S2.same A1 A2 s3
      refine ⟨H0, p, m, fr, q, zs, ll, F2, r, mn, fl, fk, N, L, tps, n, tp, .put (cutS ((L i).z ++ "z") none (some 20)) "a" 0, rfl, upd_same, ⟨ok, oa⟩, S3, by omega, fun a F4 s4 mn4 fl4 fk4 H4 od S4 gr4 c4 => ?_⟩
      have B4 := S4.rl.li i hi
      obtain ⟨dxl, hl⟩ := B4.ln
      refine ⟨_, rfl, (L i).lp, dxl, _, rfl, hl, (zf_no (by decide +kernel) : (nsLine.zip [V.ref p, .int ((i : Int) + 1), .ref (L i).e]).lookup ("turn" : Str) = none), ?_⟩
      dsimp only [tCons, tNil, tC]
      refine S4.turn A1 A2 (most := 1) (luck := 0) hi (by omega) (by decide) fun F5 s5 L5 H5 S5 er eg ej el ez eb etk full gr5 gre5 c5 => ?_
      obtain ⟨_, dx5, fs5, hob5, _, hfs5⟩ := A1.inst S5.rl.rs
      refine ⟨_, rfl, p, dx5, fs5, rfl, hob5, hfs5 _ (by simp [roomMs]), F5, p, s5, rfl, S5.rl.rs, fun F6 H6 R6 gr6 c6 => ?_⟩
      have S6 := S5.ask A1 A2 R6 gr6 c6
      refine ⟨_, rfl, _, _, rfl, rfl, rfl, ?_⟩
      have num : (((L5 i).tk.length : Int) - (L i).tk.length) = ((s5.rows.length : Int) - (r.rows.length : Int)) := by
        rw [er, htk]
        rcases od with ⟨⟨n0, _⟩, _, _⟩ | ⟨_, _, _, rfl⟩ | ⟨_, _, _, rfl⟩
        · exact absurd rfl n0
        · obtain ⟨_, q1, q2, _⟩ := (S5.rl.li i hi).hd
          rw [er, ez, eb, we] at q1 q2
          rw [q2]
          show ((([] : List Row).take _).length : Int) - 0 = _
          rw [List.take_nil]
          show (0 : Int) - 0 = _
          omega
        · have ew : wantR (putM r (cutS ((L i).z ++ "z") none (some 20)) "a" 0).rows (L i).z (L i).b = [⟨(r.rows.length : Int) + 1, r.now, "put", cutS ((L i).z ++ "z") none (some 20), "a"⟩] := by
            show wantR (r.rows ++ [_]) _ _ = _
            rw [wantR_app, we, List.nil_append]
            show List.filter _ [_] = _
            rw [List.filter_cons_of_pos (by rw [pre_key zl, hb]; simp), List.filter_nil]
          have ed : dueW (putM r (cutS ((L i).z ++ "z") none (some 20)) "a" 0) (L i).w 1 = [⟨(r.rows.length : Int) + 1, r.now, "put", cutS ((L i).z ++ "z") none (some 20), "a"⟩] := by
            have q := due_want (s := putM r (cutS ((L i).z ++ "z") none (some 20)) "a" 0) (z := (L i).z) (b := (L i).b) (had := (L i).had) (most := 1) S4.rl.hi.h.nu B4.gh B4.bh
            rw [ew, List.filter_cons_of_pos (by rw [hhad]; exact decide_eq_true (by show (r.rows.length : Int) < (r.rows.length : Int) + 1; omega)), List.filter_nil] at q
            exact q
          rw [etk, ed, htk]
          show ((takeM (L i).b [] (arriveM [_] 0)).length : Int) - 0 = _
          have ea : arriveM [(⟨(r.rows.length : Int) + 1, r.now, "put", cutS ((L i).z ++ "z") none (some 20), "a"⟩ : Row)] 0 = [⟨(r.rows.length : Int) + 1, r.now, "put", cutS ((L i).z ++ "z") none (some 20), "a"⟩] := by
            unfold arriveM
            rw [if_neg (by decide), if_neg (by decide)]
          rw [ea]
          have l1 : (putM r (cutS ((L i).z ++ "z") none (some 20)) "a" 0).rows.length = r.rows.length + 1 := by
            show (r.rows ++ [_]).length = _
            rw [List.length_append]; rfl
          rw [l1]
          show (((if (r.rows.length : Int) + 1 > (L i).b - 1 then ([] : List Row) ++ [(⟨(r.rows.length : Int) + 1, r.now, "put", cutS ((L i).z ++ "z") none (some 20), "a"⟩ : Row)] else []) : List Row).length : Int) - 0 = _
          rw [if_pos (by omega)]
          show (1 : Int) - 0 = _
          omega
      rw [decide_eq_true (congrArg V.int num)]
      refine k F6 s5 mn4 fl4 fk4 L5 H6 S6 el ez (fun z => absurd cc z) fun y o e n1 => ?_
      obtain ⟨y1, y2, y3, y4⟩ := st1 e n1
      have h2 := c2.at y1 y2
      have f2 : y ∉ F2 := fun z => by
        rcases gr2 y z with w1 | w1
        · exact y2 w1
        · rw [y1] at w1; cases w1
      have h3 := s3 _ _ h2
      have n3 : y ∉ m :: fr :: F2 := fun z => by
        simp only [List.mem_cons, not_or] at y3
        rcases List.mem_cons.mp z with z | z
        · exact y3.1 z
        · rcases List.mem_cons.mp z with z | z
          · exact y3.2.1 z
          · exact f2 z
      have h4 := c4.at h3 n3
      have f4 : y ∉ F4 := fun z => by
        rcases gr4 y z with w1 | w1
        · exact f2 w1
        · exact nomatch h3.symm.trans w1
      have h5 := c5.at h4 fun z => (List.mem_append.mp z).elim f4 y4
      have f5 : y ∉ F5 := fun z => by
        rcases gr5 y z with w1 | w1
        · exact f4 w1
        · rw [h4] at w1; cases w1
      exact c6.at h5 f5
    have nc1 : cell % 4 ≠ 1 := fun z => c1' (decide_eq_true (congrArg V.int z))
    refine ⟨fun σ H' => σ = [some (.ref p), some (.ref m), some (.ref (L i).lp), some (.str (L i).z), some (.int cell), some (.int N), some (.int ((r.rows.length : Int) + 1)), none, none, none] ∧ H1 = H', ?_, ?_⟩
    · refine ⟨_, rfl, _, _, rfl, rfl, (by show (0 : Int) < 4; decide), rfl, _, rfl, ?_⟩
      refine ite2 (fun _ => ?_) fun _ => ⟨rfl, rfl⟩
      refine ⟨_, rfl, rfl, _, rfl, ?_⟩
      refine ite2 (fun cN => ?_) fun _ => ⟨rfl, rfl⟩
      have cN : (N : Int) = 1 := V.int.inj (of_decide_eq_true cN)
      have i0 : i = 0 := by omega
      obtain ⟨_, dx1, fs1, hob1, _, hfs1⟩ := A1.inst S1.rl.rs
      refine ⟨_, rfl, _, rfl, p, dx1, fs1, rfl, hob1, hfs1 _ (by simp [roomMs]), F1, p, r, rfl, R1, fun F2 H2 R2 gr2 c2 => ⟨_, _, rfl, rfl, ?_⟩⟩
      have S2 := S1.ask A1 A2 R2 gr2 c2
      obtain ⟨_, dx2, fs2, hob2, _, hfs2⟩ := A1.inst S2.rl.rs
      refine ⟨_, rfl, p, dx2, fs2, rfl, hob2, hfs2 _ (by simp [roomMs]), F2, p, r, rfl, R2, S2.rl.fits, fun u F3 H3 tr R3 gr3 c3 => ⟨_, rfl, rfl, ?_⟩⟩
      have gg := S2.rl.gg
      have B2 := S2.rl.li i hi
      have eu : u = (r.rows.length : Int) := by
        rcases tr.at_ with ⟨n', w', h1, h2⟩ | ⟨h1, _⟩
        · obtain ⟨j, hj, rfl⟩ := S2.rl.wo n' w' h1
          have ji : j = i := by omega
          rw [ji, B2.wa] at h1
          cases h1
          rw [← h2]
          exact hhad
        · have z := B2.wa
          rw [h1] at z; cases z
      have eg : goneM r.rows.length r.gone u = r.rows.length := by
        rw [eu]
        unfold goneM
        omega
      have e5 : ((goneM r.rows.length r.gone u : Int) - r.gone) = ((r.rows.length : Int) + 1 - ((r.gone : Int) + 1)) := by rw [eg]; omega
      refine ⟨true, by rw [decide_eq_true (congrArg V.int e5)], iteT ?_⟩
      have S3 := S2.room (S2.rl.trim A1 A2 g10 tr R3 gr3 c3) gr3 c3 rfl rfl rfl
      obtain ⟨_, dx3, fs3, hob3, _, hfs3⟩ := A1.inst R3
      refine ⟨_, rfl, p, dx3, fs3, rfl, hob3, hfs3 _ (by simp [roomMs]), F3, p, _, rfl, R3, fun F4 H4 R4 gr4 c4 => ⟨_, rfl, rfl, ?_⟩⟩
      have S4 := S3.ask A1 A2 R4 gr4 c4
      have e6 : ((goneM r.rows.length r.gone u : Nat) : Int) + 1 = (r.rows.length : Int) + 1 := by rw [eg]
      rw [decide_eq_true (congrArg V.int e6)]
      refine k F4 _ mn fl fk L H4 (S4.mono (Nat.le_succ _)) rfl rfl (fun _ => by rw [htk]; exact we.symm) fun y o e n1 => ?_
      obtain ⟨y1, y2, y3, y4⟩ := st1 e n1
      have h2 := c2.at y1 y2
      have f2 : y ∉ F2 := fun z => by
        rcases gr2 y z with w1 | w1
        · exact y2 w1
        · rw [y1] at w1; cases w1
      have h3 := c3.at h2 f2
      have f3 : y ∉ F3 := fun z => by
        rcases gr3 y z with w1 | w1
        · exact f2 w1
        · rw [h2] at w1; cases w1
      exact c4.at h3 f3
    rintro σ H2 ⟨rfl, rfl⟩
    exact k F1 r mn fl fk L H1 (S1.mono (Nat.le_succ _)) rfl rfl (fun _ => by rw [htk]; exact we.symm) fun y o e n1 => (st1 e n1).1
end
end KL

namespace LX
open PySem PySem.Spec PyProof.Rows L2 L2H
section
variable {X : Cx}
/-! a list, held against an empty one -/
def rEqE (K : PySem.W.Frag) : R2 := fun x y H Q => ∃ a b xs, x = .ref a ∧ y = .ref b ∧ SqL K H a xs ∧ SqL K H b [] ∧ Q (.bl xs.isEmpty) H
theorem op_eqE (hu : X.A.units < cLine) : OpR X (compareOp .Eq) (rEqE X.K) := by
  intro pins s σ H x y v u Q J rx ry w
  obtain ⟨a, b, xs, rfl, rfl, ha, hb, q⟩ := w
  cases (show v = Value.ref a from rx)
  cases (show u = Value.ref b from ry)
  obtain ⟨us, r1, p1, _⟩ := J.list ha
  obtain ⟨ws, r2, p2, _⟩ := J.list hb
  cases r2
  cases r1 with
  | nil => exact SeqAt.rcP_lists (e := fun _ => true) p1.isList p2.isList rfl hu (fun j h1 _ => absurd h1 (Nat.not_lt_zero _)) _ _ ⟨.bl true, H, J, rfl, q⟩
  | cons r rr => exact SeqAt.RcAt.lists_lengths p1.isList p2.isList (by simp) hu _ _ _ _ ⟨.bl false, H, J, rfl, q⟩
end
end LX

namespace KL
open PySem L2 L2H LX KB
/-! ### law_k10: a step -/
def spStep10 (Rs : RsT) (Er : ErT) (CL : Addr) : Sp := fun vs H Q _ => ∃ (H0 : Hp) (p m fr q : Addr) (zs : List Str) (ll : Addr) (F : List Addr) (s : Rm) (mn : List (Int × Row)) (fl : List (Str × Option Str)) (fk : List (Key × V)) (N : Nat) (L : Nat → Li) (tps : List Addr) (n : Nat) (cq : Addr) (a b c : Int), vs = [.ref p, .ref m, .ref ll, .ref q, .ref cq] ∧
  H cq = some (.lst ([a, b, c].map V.int)) ∧ cq ∉ F ∧ (∀ i, i < N → cq ∉ (L i).Fe) ∧ cq ≠ m ∧ cq ≠ fr ∧ cq ≠ ll ∧ S10 Rs Er CL H0 p m fr q zs ll H F s mn fl fk N L tps n ∧ n ≤ 88 ∧
  ∀ F' s' mn' fl' fk' N' L' tps' H', S10 Rs Er CL H0 p m fr q zs ll H' F' s' mn' fl' fk' N' L' tps' (n + 1) → Q (.bl true) H'
section
variable {P : Program} {w : World} {K : PySem.W.Frag} {mg : Str → Option Value} {base : Heap} {C CE CL : Addr} {kk : Kinds} {Rs : RsT} {Er : ErT}
theorem ok_step {f : Addr} {fd : FuncData} (F : Fun K "_law_step" "_law_step" s_step f fd) (cl : Cls K C) (IL : InsC K CL) (mgL : mg (Str.ofString "Line") = some (Value.ref CL)) (A1 : RoomApi P w K mg base C kk Rs hsL) (A2 : EarApi P w K mg base CE Er esL) (A3 : LineApi P w K mg base CL kk Rs Er) (LT : LTxt mg)
    (DD : Def P w K mg base "_law_deed" 3 p_deed spDeed9) (DI : Def P w K mg base "_law_did" 11 p_did (spDid10 Rs Er CL)) (DP : Def P w K mg base "_law_prefix" 1 p_prefix spPrefix10) (DW : Def P w K mg base "_law_whole" 1 p_whole spWhole)
    (DN : Def P w K mg base "line_now" 11 p_line_now (spLnNow CL Rs Er)) (DB : Def P w K mg base "_law_begun" 12 p_begun (spBegun10 Rs Er CL)) (DK : Def P w K mg base "_law_knows" 9 p_knows (spKnows10 Rs Er CL)) (DS : Def P w K mg base "_law_stand" 9 p_stand (spStand10 Rs Er CL)) : FnOk P w K mg base CX0 13 f fd p_step (spStep10 Rs Er CL) := by
  obtain ⟨f1, fd1, g1, k1, b1, G1⟩ := DD.ex
  obtain ⟨f2, fd2, g2, k2, b2, G2⟩ := DI.ex
  obtain ⟨f3, fd3, g3, k3, b3, G3⟩ := DP.ex
  obtain ⟨f4, fd4, g4, k4, b4, G4⟩ := DW.ex
  obtain ⟨f5, fd5, g5, k5, b5, G5⟩ := DN.ex
  obtain ⟨f6, fd6, g6, k6, b6, G6⟩ := DB.ex
  obtain ⟨f7, fd7, g7, k7, b7, G7⟩ := DK.ex
  obtain ⟨f8, fd8, g8, k8, b8, G8⟩ := DS.ex
  obtain ⟨fLa, fdLa, psLa, mLa, bLa, GLa⟩ := (A1.last (by decide +kernel)).ex
  obtain ⟨fTr, fdTr, psTr, mTr, bTr, GTr⟩ := (A1.trim (by decide +kernel)).ex
  obtain ⟨fT, fdT, psT, mT, bT, GT⟩ := A3.turn
  refine F.ok sc_step (fun vs H Q E h => ?_) (fun cdv A outer s H vs Q E hr h => ?_)
  · obtain ⟨H0, p, m, fr, q, zs, ll, F, s, mn, fl, fk, N, L, tps, n, cq, a, b, c, rfl, _⟩ := h
    rfl
  · obtain ⟨H0, p, m, fr, q, zs, ll, Fo, r, mn, fl, fk, N, L, tps, n, cq, a, b, c, rfl, hcq, cqF0, cqE, cqm, cqf, cqll, S, hn, k⟩ := h
    have hu := hu_of hr
    have hu1 : (A.deeper (PyProof.Rows.envOfC (Str.ofString "_law_step") (defScope s_step) s.heap.objs.size f cdv)).units < cLine := by omega
    have R : ∀ j, j ≤ 12 → Room j _ := fun j h => hr.mono h
    have hr1 : Room 1 _ := hr.mono (by decide)
    refine ⟨_, pss_cons (ps_if (pt_cmpR op_eq (pe_op op_mod (pe_ix ix_list (pv 4) pe_int (fun _ _ => rfl)) pe_int) pe_int (nomark _))
        (pss_cons (ps_expr (pe_call G2 (R 11 (by decide)) rfl g2 k2 b2 .nil pass0 (pa_cons (pv 0) (pa_cons (pv 1) (pa_cons (pe_call G1 (R 3 (by decide)) rfl g1 k1 b1 .nil pass0 (pa_cons (pv 1) (pa_cons (pv 3) (pa_cons (pe_op op_fdiv (pe_ix ix_list (pv 4) pe_int (fun _ _ => rfl)) pe_int) (pa_cons (pe_ix ix_list (pv 4) pe_int (fun _ _ => rfl)) (pa_cons (pe_ix ix_list (pv 4) pe_int (fun _ _ => rfl)) pa_nil)))))) pa_nil)))))
        (pss_one (ps_ret (pe_call G8 (R 9 (by decide)) rfl g8 k8 b8 .nil pass0 (pa_cons (pv 0) (pa_cons (pv 1) pa_nil)))))) pss_nil)
      (pss_cons (ps_set (i := 5) sc_step.nd rfl (Or.inl rfl) (pe_op op_add (pe_meth0 (E := E0) (pv 0) cl mLa GLa (R 8 (by decide)) bLa .nil pass0) pe_int))
      (C8.pss_cut (ps_if (PW.pt (pw_or (pt_cmpR (op_eqE hu1) (pv 2) (pe_lst pa_nil) (nomark _)) (pw_or1 (PW.pt (pw_and (pt_cmpR op_lt (pe_callB call_len_seq (by rfl) LT.len PySem.boot_len (pa_cons (pv 2) pa_nil)) pe_int (nomark _))
          (pw_and1 (pt_cmpR op_eq (pe_op op_mod (pe_op op_fdiv (pe_ix ix_list (pv 4) pe_int (fun _ _ => rfl)) pe_int) pe_int) pe_int (nomark _))))))))
        (pss_cons (ps_set (i := 6) sc_step.nd rfl (Or.inl rfl) (pe_call G3 hr1 rfl g3 k3 b3 .nil pass0 (pa_cons (pv 3) (pa_cons (pe_ix ix_list (pv 4) pe_int (fun _ _ => rfl)) pa_nil))))
        (pss_cons (ps_set (i := 7) sc_step.nd rfl (Or.inl rfl) (pe_call G5 (R 11 (by decide)) rfl g5 k5 b5 .nil pass0 (pa_cons (pv 0) (pa_cons (pv 6) pa_nil))))
        (pss_cons (ps_expr (pe_bm PySem.F.plainAttrs_list PySem.F.slot_list_append PySem.F.type_list_append mt_append (pv 2) (pa_cons (pe_tup (pa_cons (pv 7) (pa_cons (pv 6) pa_nil))) pa_nil)))
        (pss_cons (ps_if (PW.pt (pw_or (pt_not (pt_val (pe_callB call_isi (by rfl) LT.isi (by decide +kernel) (pa_cons (pv 7) (pa_cons (pe_glob (v := V.ref CL) rfl mgL rfl) pa_nil)))))
            (pw_or1 (pt_not (pt_val (pe_call G6 (R 12 (by decide)) rfl g6 k6 b6 .nil pass0 (pa_cons (pv 0) (pa_cons (pv 1) (pa_cons (pv 7) (pa_cons (pv 6) (pa_cons (pe_ix ix_list (pv 4) pe_int (fun _ _ => rfl)) (pa_cons (pe_callB call_len_seq (by rfl) LT.len PySem.boot_len (pa_cons (pv 2) pa_nil)) pa_nil)))))))))))) (pss_one (ps_ret pe_bl)) pss_nil)
        (pss_one (ps_ret (pe_or (pe_cmpR op_eq (pe_op op_mod (pe_ix ix_list (pv 4) pe_int (fun _ _ => rfl)) pe_int) pe_int (nomark _)) (pe_one (pe_call G7 (R 9 (by decide)) rfl g7 k7 b7 .nil pass0 (pa_cons (pv 7) (pa_cons (pv 0) (pa_cons (pv 6) pa_nil)))))))))))) pss_nil)
      (pss_cons (ps_if (pt_cmpR op_eq (pe_op op_mod (pe_op op_fdiv (pe_ix ix_list (pv 4) pe_int (fun _ _ => rfl)) pe_int) pe_int) pe_int (nomark _))
        (pss_one (ps_ret (pe_call G4 hr1 rfl g4 k4 b4 .nil pass0 (pa_cons (pe_meth0 (E := E0) (pv 0) cl mTr GTr (R 8 (by decide)) bTr .nil pass0) pa_nil)))) pss_nil)
      (pss_cons (ps_set (i := 8) sc_step.nd rfl (Or.inl rfl) (pe_ix ix_list (pv 2) (pe_op op_mod (pe_ix ix_list (pv 4) pe_int (fun _ _ => rfl)) (pe_callB call_len_seq (by rfl) LT.len PySem.boot_len (pa_cons (pv 2) pa_nil))) (fun _ _ => rfl)))
      (pss_cons (ps_set (i := 9) sc_step.nd rfl (Or.inl rfl) (pe_ix ix_list (pe_lst (pa_cons (pe_op op_mod (pe_op op_fdiv (pe_ix ix_list (pv 4) pe_int (fun _ _ => rfl)) pe_int) pe_int) (pa_cons (pv 5) (pa_cons (pe_op op_mod (pe_op op_fdiv (pe_ix ix_list (pv 4) pe_int (fun _ _ => rfl)) pe_int) pe_int) pa_nil))))
          (pe_op op_mod (pe_op op_fdiv (pe_ix ix_list (pv 4) pe_int (fun _ _ => rfl)) pe_int) pe_int) (fun _ _ => rfl)))
      (pss_cons (ps_expr (pe_meth (E := E0) (pe_ix ix_tup (pv 8) pe_int (fun _ _ => rfl)) A3.cl mT GT (R 9 (by decide)) bT .nil (passes_call takes0 (fun _ _ _ _ h => h)) (pa_cons (pv 9) (pa_cons (pe_op op_mod (pe_ix ix_list (pv 4) pe_int (fun _ _ => rfl)) pe_int) pa_nil))))
      (pss_one (ps_ret (pe_or (pe_cmpR op_ne (pe_op op_mod (pe_ix ix_list (pv 4) pe_int (fun _ _ => rfl)) pe_int) pe_int (nomark _)) (pe_or (pe_cmpR op_ne (pv 9) (pv 5) (nomark _)) (pe_one (pe_call G7 (R 9 (by decide)) rfl g7 k7 b7 .nil pass0 (pa_cons (pe_ix ix_tup (pv 8) pe_int (fun _ _ => rfl)) (pa_cons (pv 0) (pa_cons (pe_ix ix_tup (pv 8) pe_int (fun _ _ => rfl)) pa_nil))))))))))))))), ?_⟩
    have i0 : ∀ {H' : Hp}, H' cq = some (.lst ([a, b, c].map V.int)) → SqL K H' cq ([a, b, c].map V.int) := fun h => SqL.of h
    have a0 : atI ([a, b, c].map V.int) 0 = some (.int a) := rfl
    have a1 : atI ([a, b, c].map V.int) 1 = some (.int b) := rfl
    have a2 : atI ([a, b, c].map V.int) 2 = some (.int c) := rfl
    refine ⟨_, rfl, cq, _, _, _, rfl, rfl, i0 hcq, a0, _, _, rfl, rfl, (by show (0 : Int) < 2; decide), rfl, _, rfl, ?_⟩
    refine ite2 (fun _ => ?_) fun _ => ?_
    · -- a deed
      refine ⟨_, rfl, _, rfl, _, rfl, _, rfl, _, rfl, cq, _, _, _, rfl, rfl, i0 hcq, a0, _, _, rfl, rfl, ⟨by decide, by decide⟩, _, rfl, cq, _, _, _, rfl, rfl, i0 hcq, a1, _, rfl, cq, _, _, _, rfl, rfl, i0 hcq, a2, m, q, (r.given : Int), zs, a / 2, b, c, rfl, m10_given S.dm, by omega, S.po, S.z6, S.zk, fun tp d H2 ht0 htp hok s2 => ?_⟩
      exact ⟨H0, p, m, fr, q, zs, ll, Fo, r, mn, fl, fk, N, L, tps, n, tp, d, rfl, htp, hok, S.same A1 A2 s2, by omega, fun _ F3 s3 mn3 fl3 fk3 H3 _ S3 _ _ => ⟨_, rfl, _, rfl, H0, p, m, fr, q, zs, ll, F3, s3, mn3, fl3, fk3, N, L, tps, n + 1, rfl, S3, by omega, fun F4 H4 S4 => k F4 s3 mn3 fl3 fk3 N L tps H4 S4⟩⟩
    -- how many there are
    obtain ⟨_, dx, fs, hob, _, hfs⟩ := A1.inst S.rl.rs
    refine ⟨_, rfl, p, dx, fs, rfl, hob, hfs _ (by simp [roomMs]), Fo, p, r, rfl, S.rl.rs, fun F1 H1 R1 gr1 c1 => ?_⟩
    have S1 := S.ask A1 A2 R1 gr1 c1
    have cq1 := c1.at hcq cqF0
    have cqF : cq ∉ F1 := fun y => by
      rcases gr1 _ y with w1 | w1
      · exact cqF0 w1
      · rw [hcq] at w1; cases w1
    refine ⟨_, _, rfl, rfl, ?_⟩
    refine ⟨fun σ H' => σ = [some (.ref p), some (.ref m), some (.ref ll), some (.ref q), some (.ref cq), some (.int ((r.rows.length : Int) + 1)), none, none, none, none] ∧ S10 Rs Er CL H0 p m fr q zs ll H' F1 r mn fl fk N L tps n ∧ H' cq = some (.lst ([a, b, c].map V.int)) ∧ 1 ≤ N, ?_, ?_⟩
    · refine ⟨_, rfl, (by show 0 ≤ sizeLine; decide), fun l hl => ?_⟩
      have s2 := same_new (o := .lst []) hl
      have SX := S1.same A1 A2 s2
      have cqx := s2 _ _ cq1
      have ll2 := SX.rl.lo
      refine ⟨ll, l, tps.map V.ref, rfl, rfl, SqL.of ll2, SqL.of upd_same, ?_⟩
      try dsimp (config := { proj := false, iota := false, eta := false }) only
      generalize upd H1 l (.lst []) = HX at s2 SX cqx ll2 ⊢
      have ltp := SX.rl.tl
      by_cases N0 : N = 0
      · have et : tps = [] := List.length_eq_zero_iff.mp (by omega)
        have n5 : N + 1 ≤ 5 := by omega
        refine ⟨true, by rw [et]; rfl, iteT ?_⟩
        refine ⟨_, rfl, _, rfl, cq, _, _, _, rfl, rfl, i0 cqx, a2, q, zs, c, rfl, SX.po, SX.z6, SX.z20, fun z H2 oz s2 => ?_⟩
        have S2 := SX.same A1 A2 s2
        have cq2 := s2 _ _ cqx
        have oz60 : TOk 60 z := oz.mono (by decide)
        refine ⟨_, rfl, _, rfl, p, z, F1, r, rfl, S2.rl.rs, oz60, S2.rl.fits, S2.rl.gg, fun ps t => ⟨by have h1 := (S2.rl.hi.told t).1; have h2 := S2.b1; omega, (S2.rl.hi.told t).2⟩, fun F6 Fe lp e gv H6 R6 L6 E6 told gr6 fe6 fef lp0 lpF lpE c6 => ?_⟩
        have gl : gv.length ≤ 200 := by have h1 := (S2.rl.hi.told told).1; have h2 := S2.b1; omega
        have lo6 := c6.at S2.rl.lo S2.rl.lF
        have cq6 := c6.at cq2 cqF
        have met := S2.rl.mt
        refine ⟨_, rfl, .inl ⟨rfl, _, SqL.of lo6⟩, _, rfl, _, rfl, (by show 2 ≤ sizeLine; decide), fun tp htp => ?_⟩
        have t7 := same_new (o := .tup [.ref lp, .str z]) htp
        have tp7 : upd H6 tp (.tup [.ref lp, .str z]) tp = some (.tup [.ref lp, .str z]) := upd_same
        have lo7 := t7 _ _ lo6
        have tpll : tp ≠ ll := fun y => by rw [y, lo6] at htp; cases htp
        refine ⟨ll, _, _, rfl, rfl, lo7, by rw [List.length_map, S2.rl.tl]; exact small1000 (by omega), ?_⟩
        have c8 : Ch H6 (upd (upd H6 tp (.tup [.ref lp, .str z])) ll (.lst (tps.map V.ref ++ [V.ref tp]))) [ll] := (Ch.of t7 _).mut (List.mem_singleton.mpr rfl) lo6 (fun xs z => by cases z)
        have lo8 : upd (upd H6 tp (.tup [.ref lp, .str z])) ll (.lst (tps.map V.ref ++ [V.ref tp])) ll = some (.lst ((tps ++ [tp]).map V.ref)) := by rw [upd_same, List.map_append]; rfl
        have tp8 : upd (upd H6 tp (.tup [.ref lp, .str z])) ll (.lst (tps.map V.ref ++ [V.ref tp])) tp = some (.tup [.ref lp, .str z]) := by rw [upd_ne tpll]; exact tp7
        have gx : G10 r.rows ⟨lp, e, tp, Fe, z, (r.rows.length : Int) + 1, gv, (r.rows.length : Int) + 1 - 1, []⟩ := fun ky => by
          show getP gv ky = if isPre z ky = true then vF (r.rows.take ((r.rows.length : Int) + 1 - 1).toNat) ky else none
          have em : ((r.rows.length : Int) + 1 - 1).toNat = r.rows.length := by omega
          rw [em, List.take_length, told.get, S2.rl.hi.h.st]
          rfl
        have RL8 := S2.rl.add A1 A2 g10 (x := ⟨lp, e, tp, Fe, z, (r.rows.length : Int) + 1, gv, (r.rows.length : Int) + 1 - 1, []⟩) n5 rfl rfl oz60 gl gx (by have := S2.rl.gg; show (r.gone : Int) + 1 ≤ (r.rows.length : Int) + 1; omega) (Int.le_refl _) R6 L6 E6 gr6 fe6 fef lp0 lpF lpE c6 htp c8 tp8 lo8
        obtain ⟨dx6, hl6⟩ := L6
        have hl8 := c8.at hl6 (fun y => by
          have e2 := S2.rl.lo
          rw [← List.mem_singleton.mp y, lp0] at e2
          cases e2)
        have one : ∀ {y : Addr}, y ≠ ll → y ∉ [ll] := fun h z => h (List.mem_singleton.mp z)
        have ex : ∀ y ∈ [m, fr, q], ∃ o, H2 y = some o := fun y hy => by
          simp only [List.mem_cons, List.not_mem_nil, or_false] at hy
          rcases hy with rfl | rfl | rfl
          · exact ⟨_, S2.dm⟩
          · exact ⟨_, S2.fr_.dk⟩
          · exact ⟨_, S2.po⟩
        have at8 : ∀ y ∈ [m, fr, q], ∀ o, H2 y = some o → (upd (upd H6 tp (.tup [.ref lp, .str z])) ll (.lst (tps.map V.ref ++ [V.ref tp]))) y = some o := fun y hy o e => c8.at (c6.at e (S2.o y hy).1) (one (S2.o y hy).2.1)
        have cq8 := c8.at cq6 (one cqll)
        have S8 : S10 Rs Er CL H0 p m fr q zs ll (upd (upd H6 tp (.tup [.ref lp, .str z])) ll (.lst (tps.map V.ref ++ [V.ref tp]))) F6 { r with met := r.met + 1, wat := setF r.wat ((r.met : Int) + 1) (some ⟨z, (r.rows.length : Int) + 1 - 1, (r.rows.length : Int) + 1 - 1⟩) } mn fl fk (N + 1) (fun j => if j = N then ⟨lp, e, tp, Fe, z, (r.rows.length : Int) + 1, gv, (r.rows.length : Int) + 1 - 1, []⟩ else L j) (tps ++ [tp]) n := by
          refine ⟨RL8, ⟨S2.fo.st, S2.fo.po⟩, at8 m (by simp) _ S2.dm, ⟨at8 fr (by simp) _ S2.fr_.dk, S2.fr_.re⟩, at8 q (by simp) _ S2.po, S2.z6, S2.zk, S2.z20, fun y hy => ⟨fun z => ?_, (S2.o y hy).2.1, fun j hj => ?_⟩, S2.ne, S2.qm, S2.nm, S2.ni, S2.b1, S2.b2, S2.b3⟩
          · rcases gr6 y z with w1 | w1
            · exact (S2.o y hy).1 w1
            · obtain ⟨o, eo⟩ := ex y hy
              rw [eo] at w1; cases w1
          · obtain ⟨o, eo⟩ := ex y hy
            by_cases ej : j = N
            · rw [if_pos ej]
              refine ⟨fun z => ?_, fun z => ?_⟩
              · have e3 := fe6 y z
                rw [e3] at eo; cases eo
              · have z : y = lp := z
                rw [z, lp0] at eo; cases eo
            · rw [if_neg ej]; exact (S2.o y hy).2.2 j (by omega)
        obtain ⟨L8, eL8⟩ : ∃ L8 : Nat → Li, L8 = fun j => if j = N then ⟨lp, e, tp, Fe, z, (r.rows.length : Int) + 1, gv, (r.rows.length : Int) + 1 - 1, []⟩ else L j := ⟨_, rfl⟩
        rw [← eL8] at S8
        have x8 : L8 N = ⟨lp, e, tp, Fe, z, (r.rows.length : Int) + 1, gv, (r.rows.length : Int) + 1 - 1, []⟩ := by rw [eL8]; exact if_pos rfl
        refine ⟨_, rfl, _, _, _, _, true, rfl, .own _, IL.ty hl8, kit_self, true, rfl, iteF ?_⟩
        have ln8 : (((tps ++ [tp]).map V.ref).length : Nat) = N + 1 := by rw [List.length_map, List.length_append, S2.rl.tl]; rfl
        refine ⟨_, rfl, _, rfl, _, rfl, _, rfl, _, rfl, cq, _, _, _, rfl, rfl, i0 cq8, a1, _, rfl, ll, _, rfl, .inl (SqL.of lo8), H0, p, m, fr, q, zs, ll, F6, _, mn, fl, fk, N + 1, L8, tps ++ [tp], n, N, b, ?_, S8, by omega, rfl, by rw [x8], by rw [x8], ?_, by rw [x8]; exact oz, fun F9 s9 mn9 fl9 fk9 L9 H9 S9 el ez kn stay => ⟨true, rfl, iteF ?_⟩⟩
        · rw [x8, ln8]; rfl
        · rw [x8]
          show (r.rows.length : Int) + 1 - 1 = (r.rows.length : Int)
          omega
        rw [x8] at el ez stay
        have cqF6 : cq ∉ F6 := fun y => by
          rcases gr6 _ y with w1 | w1
          · exact cqF w1
          · rw [cq2] at w1; cases w1
        have cqE6 : cq ∉ Fe := fun y => by rw [fe6 _ y] at cq2; cases cq2
        have cq9 := stay cq _ cq8 (fun y => by
          simp only [List.mem_cons, List.mem_append] at y
          rcases y with y | y | y | y
          · exact cqm y
          · exact cqf y
          · exact cqF6 y
          · exact cqE6 y)
        refine ⟨_, rfl, cq, _, _, _, rfl, rfl, i0 cq9, a1, _, _, rfl, rfl, (by show (0 : Int) < 4; decide), rfl, ?_⟩
        by_cases cb : b % 4 = 1
        · rw [decide_eq_true (congrArg V.int cb)]
          exact ⟨true, rfl, iteT (k F9 s9 mn9 fl9 fk9 (N + 1) L9 (tps ++ [tp]) H9 S9)⟩
        · rw [decide_eq_false fun y => cb (V.int.inj y)]
          exact ⟨false, rfl, iteF ⟨_, rfl, _, rfl, _, rfl, H0, p, m, fr, q, zs, ll, F9, s9, mn9, fl9, fk9, N + 1, L9, tps ++ [tp], n + 1, N, by rw [el, ez]; rfl, S9, by omega, by omega, kn cb, fun F10 L10 H10 S10' _ => k F10 s9 mn9 fl9 fk9 (N + 1) L10 (tps ++ [tp]) H10 S10'⟩⟩
      · have ne : (tps.map V.ref).isEmpty = false := by
          cases tps with
          | nil => exact absurd ltp.symm N0
          | cons _ _ => rfl
        rw [ne]
        have lt : (tps.map V.ref).length = N := by rw [List.length_map, ltp]
        refine ⟨false, rfl, iteF ?_⟩
        refine ⟨_, rfl, ll, _, rfl, .inl (SqL.of ll2), _, _, rfl, rfl, _, rfl, ?_⟩
        rw [lt]
        by_cases c4 : (N : Int) < 4
        · have n5 : N + 1 ≤ 5 := by omega
          rw [decide_eq_true c4]
          refine iteT ⟨_, rfl, cq, _, _, _, rfl, rfl, i0 cqx, a0, _, _, rfl, rfl, ⟨by decide, by decide⟩, _, _, rfl, rfl, (by show (0 : Int) < 3; decide), rfl, _, rfl, ?_⟩
          refine ite2 (fun _ => ?_) fun _ => ⟨rfl, SX, cqx, by omega⟩
          refine ⟨_, rfl, _, rfl, cq, _, _, _, rfl, rfl, i0 cqx, a2, q, zs, c, rfl, SX.po, SX.z6, SX.z20, fun z H2 oz s2 => ?_⟩
          have S2 := SX.same A1 A2 s2
          have cq2 := s2 _ _ cqx
          have oz60 : TOk 60 z := oz.mono (by decide)
          refine ⟨_, rfl, _, rfl, p, z, F1, r, rfl, S2.rl.rs, oz60, S2.rl.fits, S2.rl.gg, fun ps t => ⟨by have h1 := (S2.rl.hi.told t).1; have h2 := S2.b1; omega, (S2.rl.hi.told t).2⟩, fun F6 Fe lp e gv H6 R6 L6 E6 told gr6 fe6 fef lp0 lpF lpE c6 => ?_⟩
          have gl : gv.length ≤ 200 := by have h1 := (S2.rl.hi.told told).1; have h2 := S2.b1; omega
          have lo6 := c6.at S2.rl.lo S2.rl.lF
          have cq6 := c6.at cq2 cqF
          have met := S2.rl.mt
          refine ⟨_, rfl, .inl ⟨rfl, _, SqL.of lo6⟩, _, rfl, _, rfl, (by show 2 ≤ sizeLine; decide), fun tp htp => ?_⟩
          have t7 := same_new (o := .tup [.ref lp, .str z]) htp
          have tp7 : upd H6 tp (.tup [.ref lp, .str z]) tp = some (.tup [.ref lp, .str z]) := upd_same
          have lo7 := t7 _ _ lo6
          have tpll : tp ≠ ll := fun y => by rw [y, lo6] at htp; cases htp
          refine ⟨ll, _, _, rfl, rfl, lo7, by rw [List.length_map, S2.rl.tl]; exact small1000 (by omega), ?_⟩
          have c8 : Ch H6 (upd (upd H6 tp (.tup [.ref lp, .str z])) ll (.lst (tps.map V.ref ++ [V.ref tp]))) [ll] := (Ch.of t7 _).mut (List.mem_singleton.mpr rfl) lo6 (fun xs z => by cases z)
          have lo8 : upd (upd H6 tp (.tup [.ref lp, .str z])) ll (.lst (tps.map V.ref ++ [V.ref tp])) ll = some (.lst ((tps ++ [tp]).map V.ref)) := by rw [upd_same, List.map_append]; rfl
          have tp8 : upd (upd H6 tp (.tup [.ref lp, .str z])) ll (.lst (tps.map V.ref ++ [V.ref tp])) tp = some (.tup [.ref lp, .str z]) := by rw [upd_ne tpll]; exact tp7
          have gx : G10 r.rows ⟨lp, e, tp, Fe, z, (r.rows.length : Int) + 1, gv, (r.rows.length : Int) + 1 - 1, []⟩ := fun ky => by
            show getP gv ky = if isPre z ky = true then vF (r.rows.take ((r.rows.length : Int) + 1 - 1).toNat) ky else none
            have em : ((r.rows.length : Int) + 1 - 1).toNat = r.rows.length := by omega
            rw [em, List.take_length, told.get, S2.rl.hi.h.st]
            rfl
          have RL8 := S2.rl.add A1 A2 g10 (x := ⟨lp, e, tp, Fe, z, (r.rows.length : Int) + 1, gv, (r.rows.length : Int) + 1 - 1, []⟩) n5 rfl rfl oz60 gl gx (by have := S2.rl.gg; show (r.gone : Int) + 1 ≤ (r.rows.length : Int) + 1; omega) (Int.le_refl _) R6 L6 E6 gr6 fe6 fef lp0 lpF lpE c6 htp c8 tp8 lo8
          obtain ⟨dx6, hl6⟩ := L6
          have hl8 := c8.at hl6 (fun y => by
            have e2 := S2.rl.lo
            rw [← List.mem_singleton.mp y, lp0] at e2
            cases e2)
          have one : ∀ {y : Addr}, y ≠ ll → y ∉ [ll] := fun h z => h (List.mem_singleton.mp z)
          have ex : ∀ y ∈ [m, fr, q], ∃ o, H2 y = some o := fun y hy => by
            simp only [List.mem_cons, List.not_mem_nil, or_false] at hy
            rcases hy with rfl | rfl | rfl
            · exact ⟨_, S2.dm⟩
            · exact ⟨_, S2.fr_.dk⟩
            · exact ⟨_, S2.po⟩
          have at8 : ∀ y ∈ [m, fr, q], ∀ o, H2 y = some o → (upd (upd H6 tp (.tup [.ref lp, .str z])) ll (.lst (tps.map V.ref ++ [V.ref tp]))) y = some o := fun y hy o e => c8.at (c6.at e (S2.o y hy).1) (one (S2.o y hy).2.1)
          have cq8 := c8.at cq6 (one cqll)
          have S8 : S10 Rs Er CL H0 p m fr q zs ll (upd (upd H6 tp (.tup [.ref lp, .str z])) ll (.lst (tps.map V.ref ++ [V.ref tp]))) F6 { r with met := r.met + 1, wat := setF r.wat ((r.met : Int) + 1) (some ⟨z, (r.rows.length : Int) + 1 - 1, (r.rows.length : Int) + 1 - 1⟩) } mn fl fk (N + 1) (fun j => if j = N then ⟨lp, e, tp, Fe, z, (r.rows.length : Int) + 1, gv, (r.rows.length : Int) + 1 - 1, []⟩ else L j) (tps ++ [tp]) n := by
            refine ⟨RL8, ⟨S2.fo.st, S2.fo.po⟩, at8 m (by simp) _ S2.dm, ⟨at8 fr (by simp) _ S2.fr_.dk, S2.fr_.re⟩, at8 q (by simp) _ S2.po, S2.z6, S2.zk, S2.z20, fun y hy => ⟨fun z => ?_, (S2.o y hy).2.1, fun j hj => ?_⟩, S2.ne, S2.qm, S2.nm, S2.ni, S2.b1, S2.b2, S2.b3⟩
            · rcases gr6 y z with w1 | w1
              · exact (S2.o y hy).1 w1
              · obtain ⟨o, eo⟩ := ex y hy
                rw [eo] at w1; cases w1
            · obtain ⟨o, eo⟩ := ex y hy
              by_cases ej : j = N
              · rw [if_pos ej]
                refine ⟨fun z => ?_, fun z => ?_⟩
                · have e3 := fe6 y z
                  rw [e3] at eo; cases eo
                · have z : y = lp := z
                  rw [z, lp0] at eo; cases eo
              · rw [if_neg ej]; exact (S2.o y hy).2.2 j (by omega)
          obtain ⟨L8, eL8⟩ : ∃ L8 : Nat → Li, L8 = fun j => if j = N then ⟨lp, e, tp, Fe, z, (r.rows.length : Int) + 1, gv, (r.rows.length : Int) + 1 - 1, []⟩ else L j := ⟨_, rfl⟩
          rw [← eL8] at S8
          have x8 : L8 N = ⟨lp, e, tp, Fe, z, (r.rows.length : Int) + 1, gv, (r.rows.length : Int) + 1 - 1, []⟩ := by rw [eL8]; exact if_pos rfl
          refine ⟨_, rfl, _, _, _, _, true, rfl, .own _, IL.ty hl8, kit_self, true, rfl, iteF ?_⟩
          have ln8 : (((tps ++ [tp]).map V.ref).length : Nat) = N + 1 := by rw [List.length_map, List.length_append, S2.rl.tl]; rfl
          refine ⟨_, rfl, _, rfl, _, rfl, _, rfl, _, rfl, cq, _, _, _, rfl, rfl, i0 cq8, a1, _, rfl, ll, _, rfl, .inl (SqL.of lo8), H0, p, m, fr, q, zs, ll, F6, _, mn, fl, fk, N + 1, L8, tps ++ [tp], n, N, b, ?_, S8, by omega, rfl, by rw [x8], by rw [x8], ?_, by rw [x8]; exact oz, fun F9 s9 mn9 fl9 fk9 L9 H9 S9 el ez kn stay => ⟨true, rfl, iteF ?_⟩⟩
          · rw [x8, ln8]; rfl
          · rw [x8]
            show (r.rows.length : Int) + 1 - 1 = (r.rows.length : Int)
            omega
          rw [x8] at el ez stay
          have cqF6 : cq ∉ F6 := fun y => by
            rcases gr6 _ y with w1 | w1
            · exact cqF w1
            · rw [cq2] at w1; cases w1
          have cqE6 : cq ∉ Fe := fun y => by rw [fe6 _ y] at cq2; cases cq2
          have cq9 := stay cq _ cq8 (fun y => by
            simp only [List.mem_cons, List.mem_append] at y
            rcases y with y | y | y | y
            · exact cqm y
            · exact cqf y
            · exact cqF6 y
            · exact cqE6 y)
          refine ⟨_, rfl, cq, _, _, _, rfl, rfl, i0 cq9, a1, _, _, rfl, rfl, (by show (0 : Int) < 4; decide), rfl, ?_⟩
          by_cases cb : b % 4 = 1
          · rw [decide_eq_true (congrArg V.int cb)]
            exact ⟨true, rfl, iteT (k F9 s9 mn9 fl9 fk9 (N + 1) L9 (tps ++ [tp]) H9 S9)⟩
          · rw [decide_eq_false fun y => cb (V.int.inj y)]
            exact ⟨false, rfl, iteF ⟨_, rfl, _, rfl, _, rfl, H0, p, m, fr, q, zs, ll, F9, s9, mn9, fl9, fk9, N + 1, L9, tps ++ [tp], n + 1, N, by rw [el, ez]; rfl, S9, by omega, by omega, kn cb, fun F10 L10 H10 S10' _ => k F10 s9 mn9 fl9 fk9 (N + 1) L10 (tps ++ [tp]) H10 S10'⟩⟩
        · rw [decide_eq_false c4]
          exact iteF ⟨rfl, SX, cqx, by omega⟩
    rintro σ H2 ⟨rfl, S2, cq2, hN⟩
    refine ⟨_, rfl, cq, _, _, _, rfl, rfl, i0 cq2, a0, _, _, rfl, rfl, ⟨by decide, by decide⟩, _, _, rfl, rfl, (by show (0 : Int) < 7; decide), rfl, _, rfl, ?_⟩
    refine ite2 (fun _ => ?_) fun _ => ?_
    · -- a trimming
      obtain ⟨_, dx2, fs2, hob2, _, hfs2⟩ := A1.inst S2.rl.rs
      exact ⟨_, rfl, p, dx2, fs2, rfl, hob2, hfs2 _ (by simp [roomMs]), F1, p, r, rfl, S2.rl.rs, S2.rl.fits, fun u F3 H3 tr R3 gr3 c3 => ⟨_, true, rfl, .inl ⟨⟨_, rfl⟩, rfl⟩, k F3 _ mn fl fk N L tps H3 ((S2.room (S2.rl.trim A1 A2 g10 tr R3 gr3 c3) gr3 c3 rfl rfl rfl).mono (Nat.le_succ _))⟩⟩
    -- a turn
    have lt : (tps.map V.ref).length = N := by rw [List.length_map, S2.rl.tl]
    refine ⟨_, rfl, _, rfl, cq, _, _, _, rfl, rfl, i0 cq2, a1, _, rfl, ll, _, rfl, .inl (SqL.of S2.rl.lo), _, _, rfl, rfl, (by rw [lt]; show (0 : Int) < (N : Int); omega), ?_⟩
    rw [lt]
    have z0 : 0 ≤ b % (N : Int) := Int.emod_nonneg b (by omega)
    have z1 : b % (N : Int) < N := Int.emod_lt_of_pos b (by omega)
    obtain ⟨tp, _, ei, et⟩ := at_map (f := V.ref) (ns := tps) (z := b % (N : Int)) z0 (by rw [S2.rl.tl]; exact z1)
    have iN : (b % (N : Int)).toNat < N := by omega
    have eL := S2.rl.ta _ iN
    rw [ei] at eL
    have htp := (S2.rl.li _ iN).tp
    rw [← Option.some.inj eL] at htp
    generalize (b % (N : Int)).toNat = i at iN htp eL ei
    refine ⟨ll, _, _, _, rfl, rfl, SqL.of S2.rl.lo, et, ?_⟩
    refine ⟨_, rfl, cq, _, _, _, rfl, rfl, i0 cq2, a2, _, _, rfl, rfl, ⟨by decide, by decide⟩, _, _, rfl, rfl, (by show (0 : Int) < 5; decide), _, rfl, _, rfl, cq, _, _, _, rfl, rfl, i0 cq2, a2, _, _, rfl, rfl, ⟨by decide, by decide⟩, _, _, rfl, rfl, (by show (0 : Int) < 41; decide), (by show 3 ≤ sizeLine; decide), fun l hl => ?_⟩
    obtain ⟨mo, hmo, eo⟩ := at_ints (ns := [c / 4 % 5, (r.rows.length : Int) + 1, c / 4 % 41]) (z := a / 42 % 3) (by omega) (by show a / 42 % 3 < 3; omega)
    have mo0 : 0 ≤ mo := by
      simp only [List.mem_cons, List.not_mem_nil, or_false] at hmo
      omega
    have s3 := same_new (o := .lst ([c / 4 % 5, (r.rows.length : Int) + 1, c / 4 % 41].map V.int)) hl
    have S3 := S2.same A1 A2 s3
    have cq3 := s3 _ _ cq2
    have htp3 := s3 _ _ htp
    refine ⟨_, rfl, cq, _, _, _, rfl, rfl, i0 cq3, a0, _, _, rfl, rfl, ⟨by decide, by decide⟩, _, _, rfl, rfl, (by show (0 : Int) < 3; decide), l, _, _, _, rfl, rfl, SqL.of upd_same, eo, ?_⟩
    have B3 := S3.rl.li i iN
    obtain ⟨dxl, hl3⟩ := B3.ln
    refine ⟨_, rfl, tp, _, 0, .ref (L i).lp, rfl, rfl, SqT.of htp3, rfl, (L i).lp, dxl, _, rfl, hl3, (zf_no (by decide +kernel) : (nsLine.zip [V.ref p, .int ((i : Int) + 1), .ref (L i).e]).lookup ("turn" : Str) = none), _, rfl, _, rfl, cq, _, _, _, rfl, rfl, i0 cq3, a2, _, _, rfl, rfl, (by show (0 : Int) < 4; decide), ?_⟩
    dsimp only [tCons, tNil, tC]
    refine S3.turn A1 A2 (most := mo) (luck := c % 4) iN (by omega) mo0 fun F5 s5 L5 H5 S5 er eg ej el ez eb etk full gr5 gre5 c5 => ?_
    have cq5 := c5.at cq3 fun z => (List.mem_append.mp z).elim cqF (cqE i iN)
    have htp5 := c5.tup _ _ htp3
    refine ⟨_, rfl, cq, _, _, _, rfl, rfl, i0 cq5, a2, _, _, rfl, rfl, (by show (0 : Int) < 4; decide), rfl, ?_⟩
    by_cases l0 : c % 4 = 0
    · refine ⟨false, by show V.bl (!decide (V.int (c % 4) = V.int 0)) = V.bl false; rw [decide_eq_true (congrArg V.int l0)]; rfl, iteF ⟨_, rfl, _, rfl, rfl, ?_⟩⟩
      by_cases em : mo = (r.rows.length : Int) + 1
      · refine ⟨false, by show V.bl (!decide (V.int mo = V.int ((r.rows.length : Int) + 1))) = V.bl false; rw [decide_eq_true (congrArg V.int em)]; rfl, iteF ?_⟩
        exact ⟨_, rfl, tp, _, 0, .ref (L i).lp, rfl, rfl, SqT.of htp5, rfl, _, rfl, _, rfl, tp, _, 1, .str (L i).z, rfl, rfl, SqT.of htp5, rfl, H0, p, m, fr, q, zs, ll, F5, s5, mn, fl, fk, N, L5, tps, n, i, by rw [el, ez]; rfl, S5, by omega, iN, by rw [full l0 (by omega), er, ez, eb], fun F6 L6 H6 S6 _ => k F6 s5 mn fl fk N L6 tps H6 (S6.mono (Nat.le_succ _))⟩
      · exact ⟨true, by show V.bl (!decide (V.int mo = V.int ((r.rows.length : Int) + 1))) = V.bl true; rw [decide_eq_false fun z => em (V.int.inj z)]; rfl, iteT (k F5 s5 mn fl fk N L5 tps H5 (S5.mono (Nat.le_succ _)))⟩
    · exact ⟨true, by show V.bl (!decide (V.int (c % 4) = V.int 0)) = V.bl true; rw [decide_eq_false fun z => l0 (V.int.inj z)]; rfl, iteT (k F5 s5 mn fl fk N L5 tps H5 (S5.mono (Nat.le_succ _)))⟩
end
end KL

namespace KL
open PySem L2 L2H LX KB
/-! ### law_k10 -/
theorem cut3 {ns : List Int} {i : Nat} (h : i + 3 ≤ ns.length) : ∃ a b c, cutV (ns.map V.int) (some (i : Int)) (some ((i : Int) + 3)) = [V.int a, V.int b, V.int c] := by
  have e1 : HT.sIx ns.length 0 (some (i : Int)) = i := by
    have q := HT.sIx_nat ns.length 0 i
    rw [Nat.min_eq_left (by omega)] at q
    exact q
  have e2 : HT.sIx ns.length ns.length (some ((i : Int) + 3)) = i + 3 := by
    have q := HT.sIx_nat ns.length ns.length (i + 3)
    rw [Nat.min_eq_left (by omega)] at q
    exact q
  unfold cutV
  rw [List.length_map, e1, e2, ← List.map_drop, ← List.map_take]
  have e3 : i + 3 - i = 3 := by omega
  rw [e3]
  have hl : ((ns.drop i).take 3).length = 3 := by rw [List.length_take, List.length_drop]; omega
  match (ns.drop i).take 3, hl with
  | [a, b, c], _ => exact ⟨a, b, c, rfl⟩
theorem merge_m10 {fr : Addr} : mergeK [] (m10D 0 fr) = m10D 0 fr := by
  have n1 := k10n (a := "given") (b := "free") (by decide +kernel)
  show putK (putK ([] : List (Key × V)) (Sum.inr ("given" : Str)) (.int 0)) (Sum.inr ("free" : Str)) (.ref fr) = _
  have e1 : putK ([] : List (Key × V)) (Sum.inr ("given" : Str)) (.int 0) = [(Sum.inr ("given" : Str), .int 0)] := rfl
  have e2 : putK ([(Sum.inr ("given" : Str), .int 0)] : List (Key × V)) (Sum.inr ("free" : Str)) (.ref fr) = m10D 0 fr := putK_new _ (by rw [valV_neg n1]; rfl)
  rw [e1, e2]
/-- some room, its lines, and the law's own table -/
def W10 (Rs : RsT) (Er : ErT) (CL : Addr) (H0 : Hp) (p m fr q : Addr) (zs : List Str) (ll : Addr) (n : Nat) (H : Hp) : Prop := ∃ F s mn fl fk N L tps, S10 Rs Er CL H0 p m fr q zs ll H F s mn fl fk N L tps n
section
variable {P : Program} {w : World} {K : PySem.W.Frag} {mg : Str → Option Value} {base : Heap} {C CE CL : Addr} {kk : Kinds} {Rs : RsT} {Er : ErT}
theorem ok_law {f : Addr} {fd : FuncData} (F : Fun K "law" "law" s_law f fd) (cl : Cls K C) (mgC : mg (Str.ofString "Room") = some (Value.ref C)) (A1 : RoomApi P w K mg base C kk Rs hsL) (A2 : EarApi P w K mg base CE Er esL) (A3 : LineApi P w K mg base CL kk Rs Er) (LT : LTxt mg)
    (D0 : Def P w K mg base "_law_cell_at" 1 p_cell_at (spCellA K)) (D1 : Def P w K mg base "_law_pool" 3 p_pool spPool10) (D2 : Def P w K mg base "_law_crowd" 12 p_crowd (spCrowd10 Rs Er CL)) (D3 : Def P w K mg base "_law_step" 13 p_step (spStep10 Rs Er CL)) (D4 : Def P w K mg base "_law_knows" 9 p_knows (spKnows10 Rs Er CL))
    (D5 : Def P w K mg base "_law_stand" 9 p_stand (spStand10 Rs Er CL)) : FnOk P w K mg base CX0 14 f fd p_law (spLaw K) := by
  obtain ⟨f0, fd0, g0, k0, b0, G0⟩ := D0.ex
  obtain ⟨f1, fd1, g1, k1, b1, G1⟩ := D1.ex
  obtain ⟨f2, fd2, g2, k2, b2, G2⟩ := D2.ex
  obtain ⟨f3, fd3, g3, k3, b3, G3⟩ := D3.ex
  obtain ⟨f4, fd4, g4, k4, b4, G4⟩ := D4.ex
  obtain ⟨f5, fd5, g5, k5, b5, G5⟩ := D5.ex
  obtain ⟨fR, fdR, psR, MR, bR, GR⟩ := A1.make
  obtain ⟨fT, fdT, psT, mT, bT, GT⟩ := A3.turn
  obtain ⟨fLa, fdLa, psLa, mLa, bLa, GLa⟩ := (A1.last (by decide +kernel)).ex
  refine F.ok sc_law (fun vs H Q E h => ?_) (fun cdv A outer s H vs Q E hr h => ?_)
  · obtain ⟨a, ns, rfl, _⟩ := h
    rfl
  · obtain ⟨a, ns, rfl, hs, hlen, k⟩ := h
    have R : ∀ j, j ≤ 13 → Room j _ := fun j h => hr.mono h
    have hr1 : Room 1 _ := hr.mono (by decide)
    refine ⟨_, pss_cons (ps_set (i := 1) sc_law.nd rfl (Or.inl rfl) (pe_make0 MR GR (R 5 (by decide)) rfl mgC bR .nil pass0))
      (pss_cons (ps_set (i := 2) sc_law.nd rfl (Or.inl rfl) (pe_disp (pps_cons pe_str pe_int (pps_cons pe_str pe_dnewK pps_nil)) (by rfl) (by rfl) (fun z => by cases z) (by decide)))
      (pss_cons (ps_set (i := 3) sc_law.nd rfl (Or.inl rfl) (pe_lst pa_nil))
      (pss_cons (ps_set (i := 4) sc_law.nd rfl (Or.inl rfl) (pe_call G1 (R 3 (by decide)) rfl g1 k1 b1 .nil pass0 (pa_cons (pe_call G0 hr1 rfl g0 k0 b0 .nil pass0 (pa_cons (pv 0) (pa_cons pe_int pa_nil))) (pa_cons (pe_call G0 hr1 rfl g0 k0 b0 .nil pass0 (pa_cons (pv 0) (pa_cons pe_int pa_nil))) pa_nil))))
      (C8.pss_cut (ps_if (pt_cmpR op_eq (pe_op op_mod (pe_call G0 hr1 rfl g0 k0 b0 .nil pass0 (pa_cons (pv 0) (pa_cons pe_int pa_nil))) pe_int) pe_int (nomark _))
          (pss_one (ps_expr (pe_call G2 (R 12 (by decide)) rfl g2 k2 b2 .nil pass0 (pa_cons (pv 1) (pa_cons (pv 2) (pa_cons (pe_call G0 hr1 rfl g0 k0 b0 .nil pass0 (pa_cons (pv 0) (pa_cons pe_int pa_nil))) pa_nil)))))) pss_nil)
      (pss_cons (ps_for PassesOwn.never rfl (pi_range3 (by rfl) LT.range (pa_cons pe_int (pa_cons (pe_op op_sub (pe_callB call_len_seq (by rfl) LT.len PySem.boot_len (pa_cons (pv 0) pa_nil)) pe_int) (pa_cons pe_int pa_nil)))) (pg_name (i := 5) sc_law.nd rfl (Or.inl rfl))
        (pss_one (ps_if (pt_not (pt_val (pe_call G3 hr rfl g3 k3 b3 .nil pass0 (pa_cons (pv 1) (pa_cons (pv 2) (pa_cons (pv 3) (pa_cons (pv 4) (pa_cons (pe_slice sl_list (pv 0) (po_some (pv 5)) (po_some (pe_op op_add (pv 5) pe_int))) pa_nil)))))))) (pss_one (ps_ret pe_bl)) pss_nil)))
      (pss_cons (ps_for PassesOwn.never rfl (pi_list (pv 3)) (pg_name (i := 6) sc_law.nd rfl (Or.inl rfl))
        (pss_cons (ps_expr (pe_meth (E := E0) (pe_ix ix_tup (pv 6) pe_int (fun _ _ => rfl)) A3.cl mT GT (R 9 (by decide)) bT .nil (passes_call takes0 (fun _ _ _ _ h => h)) (pa_cons (pe_op op_add (pe_meth0 (E := E0) (pv 1) cl mLa GLa (R 8 (by decide)) bLa .nil pass0) pe_int) (pa_cons pe_int pa_nil))))
        (pss_one (ps_if (pt_not (pt_val (pe_call G4 (R 9 (by decide)) rfl g4 k4 b4 .nil pass0 (pa_cons (pe_ix ix_tup (pv 6) pe_int (fun _ _ => rfl)) (pa_cons (pv 1) (pa_cons (pe_ix ix_tup (pv 6) pe_int (fun _ _ => rfl)) pa_nil)))))) (pss_one (ps_ret pe_bl)) pss_nil))))
      (pss_one (ps_ret (pe_call G5 (R 9 (by decide)) rfl g5 k5 b5 .nil pass0 (pa_cons (pv 1) (pa_cons (pv 2) pa_nil))))))))))), ?_⟩
    intro p0 dx nx ndx nex
    refine ⟨p0, dx, rfl, upd_same, fun F0 Ha La fa Ca => ⟨rfl, ?_⟩⟩
    obtain ⟨sa, na⟩ := room_made nx ndx fa Ca
    intro m hm fr hfr
    have m3 : upd Ha m (.dK []) m = some (.dK []) := upd_same
    have nfr : m ≠ fr := ne_of_none m3 hfr
    have s3 : Same Ha (upd (upd Ha m (.dK [])) fr (.dK [])) := (same_new hm).trans (same_new hfr)
    have m4 : upd (upd Ha m (.dK [])) fr (.dK []) m = some (.dK []) := same_new hfr _ _ m3
    have fr4 : upd (upd Ha m (.dK [])) fr (.dK []) fr = some (.dK []) := upd_same
    have hfr0 : Ha fr = none := (same_new hm : Same Ha _).free hfr
    try dsimp (config := { proj := false, iota := false, eta := false }) only
    generalize upd (upd Ha m (.dK [])) fr (.dK []) = Hx at s3 m4 fr4
    refine ⟨m4, m10D 0 fr, rfl, (by show 2 ≤ 15; decide), ?_⟩
    rw [merge_m10]
    have m5 : upd Hx m (.dK (m10D 0 fr)) m = some (.dK (m10D 0 fr)) := upd_same
    have fr5 : upd Hx m (.dK (m10D 0 fr)) fr = some (.dK []) := by rw [upd_ne nfr.symm]; exact fr4
    have s5 : Same Ha (upd Hx m (.dK (m10D 0 fr))) := fun b o e => by rw [upd_ne (ne_of_none e hm)]; exact s3 _ _ e
    try dsimp (config := { proj := false, iota := false, eta := false }) only
    generalize upd Hx m (.dK (m10D 0 fr)) = He at m5 fr5 s5
    refine ⟨(by show 0 ≤ sizeLine; decide), fun ll hll => ?_⟩
    have s6 := same_new (o := .lst []) hll
    have ll6 : upd He ll (.lst []) ll = some (.lst []) := upd_same
    try dsimp (config := { proj := false, iota := false, eta := false }) only
    generalize upd He ll (.lst []) = H6 at s6 ll6
    have z0e : Same H H6 := (sa.trans s5).trans s6
    refine ⟨_, rfl, a, ns, 0, rfl, z0e.seq hs, fun c0 => ⟨_, rfl, a, ns, 1, rfl, z0e.seq hs, fun c1 => ⟨c0, c1, rfl, fun q zs Hg hq hqz hz6 hzs z20 sg => ?_⟩⟩⟩
    have sag : Same Ha Hg := (s5.trans s6).trans sg
    have Fn : ∀ {y : Addr}, Ha y = none → y ∉ F0 := fun {y} n z => ex_no (A1.own La _ z) n rfl
    have ll0 : Ha ll = none := s5.free hll
    have q0 : Ha q = none := (s5.trans s6).free hq
    have RL0 : RL Rs Er CL tV10 G10 H Hg F0 p0 .init ll 0 (fun _ => ⟨p0, p0, p0, [], "", 1, [], 0, []⟩) [] [] :=
      ⟨A1.frame La (Ch.of sag []) (fun _ _ z => nomatch z), ⟨Hist.init, (fun _ _ z => nomatch z), (fun _ _ z => nomatch z)⟩, Nat.le_refl _, rfl, by decide, Nat.zero_le _, Nat.zero_le _, sg _ _ ll6, rfl, fun i hi => absurd hi (Nat.not_lt_zero _), fun i hi => absurd hi (Nat.not_lt_zero _), (fun _ _ z => nomatch z), fun i j hi => absurd hi (Nat.not_lt_zero _), fun i j hi => absurd hi (Nat.not_lt_zero _), Fn ll0, fun i hi => absurd hi (Nat.not_lt_zero _), fun i hi => absurd hi (Nat.not_lt_zero _), na, fun i hi => absurd hi (Nat.not_lt_zero _), sa.free ll0, z0e.trans sg⟩
    have S0 : S10 Rs Er CL H p0 m fr q zs ll Hg F0 .init [] [] [] 0 (fun _ => ⟨p0, p0, p0, [], "", 1, [], 0, []⟩) [] 0 := by
      refine ⟨RL0, ⟨(fun _ _ z => nomatch z), (fun h z => absurd rfl z)⟩, sg _ _ (s6 _ _ m5), ⟨sg _ _ (s6 _ _ fr5), .nil⟩, hqz, hz6, hzs, z20, fun y hy => ?_, nfr, ⟨(ne_of_none (s6 _ _ m5) hq).symm, (ne_of_none (s6 _ _ fr5) hq).symm⟩, sa.free hm, sa.free hfr0, Nat.le_refl _, Nat.le_refl _, Nat.le_refl _⟩
      simp only [List.mem_cons, List.not_mem_nil, or_false] at hy
      rcases hy with rfl | rfl | rfl
      · exact ⟨Fn hm, ne_of_none m5 hll, fun i hi => absurd hi (Nat.not_lt_zero _)⟩
      · exact ⟨Fn hfr0, ne_of_none fr5 hll, fun i hi => absurd hi (Nat.not_lt_zero _)⟩
      · exact ⟨Fn q0, (ne_of_none ll6 hq).symm, fun i hi => absurd hi (Nat.not_lt_zero _)⟩
    have W0 : W10 Rs Er CL H p0 m fr q zs ll 0 Hg := ⟨_, _, _, _, _, _, _, _, S0⟩
    clear S0 RL0
    have seq : ∀ {n : Nat} {H' : Hp}, W10 Rs Er CL H p0 m fr q zs ll n H' → SqL K H' a (ns.map V.int) := fun {n H'} ⟨_, _, _, _, _, _, _, _, S⟩ => S.rl.old.seq hs
    clear q0 ll0 Fn sag hq hqz hz6 hzs z20 sg z0e ll6 s6 hll s5 fr5 m5 hfr0 fr4 m4 s3 nfr m3 hfr hm na sa La fa Ca nx ndx nex
    -- a crowd
    refine ⟨fun σ H' => σ = [some (.ref a), some (.ref p0), some (.ref m), some (.ref ll), some (.ref q), none, none] ∧ W10 Rs Er CL H p0 m fr q zs ll 41 H', ?_, ?_⟩
    · have q1 := seq W0
      obtain ⟨F1, s1, mn1, fl1, fk1, N1, L1, tps1, S1⟩ := W0
      refine ⟨_, rfl, a, ns, 1, rfl, q1, fun cc => ⟨_, _, rfl, rfl, (by show (0 : Int) < 3; decide), rfl, _, rfl, ?_⟩⟩
      refine ite2 (fun _ => ?_) fun _ => ⟨rfl, F1, s1, mn1, fl1, fk1, N1, L1, tps1, S1.mono (by decide)⟩
      exact ⟨_, rfl, _, rfl, _, rfl, a, ns, 0, rfl, q1, fun cc => ⟨H, p0, m, fr, q, zs, ll, F1, s1, mn1, fl1, fk1, N1, L1, tps1, cc, rfl, S1, fun F2 s2 mn2 fl2 fk2 H2 S2 => ⟨rfl, F2, s2, mn2, fl2, fk2, N1, L1, tps1, S2⟩⟩⟩
    rintro σ H1 ⟨rfl, W1⟩
    -- the steps
    have hlm : (ns.map V.int).length ≤ 63 := by rw [List.length_map]; exact hlen
    refine ⟨_, rfl, a, _, rfl, .inl (seq W1), _, _, rfl, rfl, 2, _, 3, ((ns.map V.int).length - 2) / 3, rfl, rg3_of hlm, ?_⟩
    refine for_rangeC (n := ((ns.map V.int).length - 2) / 3) (fun i σ H' => (∃ y5 : Option V, σ = [some (.ref a), some (.ref p0), some (.ref m), some (.ref ll), some (.ref q), y5, none]) ∧ W10 Rs Er CL H p0 m fr q zs ll (41 + i) H') ⟨⟨none, rfl⟩, W1⟩ ?_ ?_
    · rintro i σ H2 hi ⟨⟨y5, rfl⟩, W2⟩
      rw [List.length_map] at hi
      have q1 := seq W2
      obtain ⟨F1, s1, mn1, fl1, fk1, N1, L1, tps1, S1⟩ := W2
      obtain ⟨c1, c2, c3, ec⟩ := cut3 (ns := ns) (i := 2 + i * 3) (by omega)
      refine ⟨_, rfl, _, rfl, _, rfl, _, rfl, _, rfl, _, rfl, _, rfl, _, rfl, _, _, rfl, rfl, _, rfl, a, _, rfl, q1, fun cq hcq => ?_⟩
      have ec' : cutV (ns.map V.int) (some (2 + (i : Int) * 3)) (some (2 + (i : Int) * 3 + 3)) = [c1, c2, c3].map V.int := by
        have e1 : ((2 + i * 3 : Nat) : Int) = 2 + (i : Int) * 3 := by omega
        rw [← e1]
        exact ec
      dsimp (config := { proj := false, iota := false, eta := false }) only
      rw [ec']
      have s3 := same_new (o := .lst ([c1, c2, c3].map V.int)) hcq
      have cqF : cq ∉ F1 := fun z => ex_no (A1.own S1.rl.rs _ z) hcq rfl
      exact ⟨H, p0, m, fr, q, zs, ll, F1, s1, mn1, fl1, fk1, N1, L1, tps1, 41 + i, cq, c1, c2, c3, rfl, upd_same, cqF, fun j hj z => ex_no (A2.own (S1.rl.li j hj).er _ z) hcq rfl, (ne_of_none S1.dm hcq).symm, (ne_of_none S1.fr_.dk hcq).symm, (ne_of_none S1.rl.lo hcq).symm, S1.same A1 A2 s3, by omega, fun F2 s2 mn2 fl2 fk2 N2 L2 tps2 H3 S2 => ⟨true, rfl, iteF ⟨⟨_, rfl⟩, F2, s2, mn2, fl2, fk2, N2, L2, tps2, S2⟩⟩⟩
    rintro σ H2 ⟨⟨y5, rfl⟩, F1, r, mn, fl, fk, N, L, tps, S⟩
    have hn : 41 + ((ns.map V.int).length - 2) / 3 ≤ 62 := by omega
    generalize 41 + ((ns.map V.int).length - 2) / 3 = n at S hn
    -- a last good turn of each
    refine ⟨_, rfl, ll, rfl, ⟨_, SqL.of S.rl.lo⟩, ?_⟩
    have ltp : (tps.map V.ref).length = N := by rw [List.length_map, S.rl.tl]
    refine for_list (xs := tps.map V.ref) (D := { nx := tRet (tCall (spStand10 Rs Er CL) [] E0 (tCons (tVar 1) (tCons (tVar 2) tNil))) { nx := fun _ H' => Q .non H', rt := Q }, rt := Q }) (fun i σ H' => (∃ y6 : Option V, σ = [some (.ref a), some (.ref p0), some (.ref m), some (.ref ll), some (.ref q), y5, y6]) ∧ ∃ F' s' L', S10 Rs Er CL H p0 m fr q zs ll H' F' s' mn fl fk N L' tps n) ⟨⟨none, rfl⟩, F1, r, L, S⟩ ?_ ?_ ?_
    · rintro i σ H' _ ⟨_, F', s', L', S'⟩
      exact SqL.of S'.rl.lo
    · rintro i x σ H3 hx ⟨⟨y6, rfl⟩, F3, s3, L3, S3⟩
      have iN : i < N := by rw [← ltp]; exact (List.getElem?_eq_some_iff.mp hx).1
      rw [List.getElem?_map, S3.rl.ta i iN] at hx
      obtain rfl : x = .ref (L3 i).tp := (Option.some.inj hx).symm
      have B3 := S3.rl.li i iN
      obtain ⟨dxl, hl3⟩ := B3.ln
      obtain ⟨_, dx3, fs3, hob3, _, hfs3⟩ := A1.inst S3.rl.rs
      refine ⟨_, rfl, (L3 i).tp, _, 0, .ref (L3 i).lp, rfl, rfl, SqT.of B3.tp, rfl, (L3 i).lp, dxl, _, rfl, hl3, (zf_no (by decide +kernel) : (nsLine.zip [V.ref p0, .int ((i : Int) + 1), .ref (L3 i).e]).lookup ("turn" : Str) = none), _, rfl, p0, dx3, fs3, rfl, hob3, hfs3 _ (by simp [roomMs]), F3, p0, s3, rfl, S3.rl.rs, fun F4 H4 R4 gr4 c4 => ⟨_, _, rfl, rfl, ?_⟩⟩
      have S4 := S3.ask A1 A2 R4 gr4 c4
      dsimp only [tCons, tNil, tC]
      refine S4.turn A1 A2 (most := (s3.rows.length : Int) + 1) (luck := 0) iN (by omega) (by omega) fun F5 s5 L5 H5 S5 er eg ej el ez eb etk full gr5 gre5 c5 => ?_
      have htp5 := c5.tup _ _ (c4.tup _ _ B3.tp)
      exact ⟨_, rfl, (L3 i).tp, _, 0, .ref (L3 i).lp, rfl, rfl, SqT.of htp5, rfl, _, rfl, _, rfl, (L3 i).tp, _, 1, .str (L3 i).z, rfl, rfl, SqT.of htp5, rfl, H, p0, m, fr, q, zs, ll, F5, s5, mn, fl, fk, N, L5, tps, n, i, by rw [el, ez]; rfl, S5, by omega, iN, by rw [full rfl (by omega), er, ez, eb], fun F6 L6 H6 S6 _ => ⟨true, rfl, iteF ⟨⟨_, rfl⟩, F6, s5, L6, S6⟩⟩⟩
    · rintro σ H3 ⟨⟨y6, rfl⟩, F3, s3, L3, S3⟩
      exact ⟨_, rfl, _, rfl, H, p0, m, fr, q, zs, ll, F3, s3, mn, fl, fk, N, L3, tps, n, rfl, S3, by omega, fun F4 H4 _ => k H4⟩
end
end KL

namespace KL
open PySem
theorem kit_own {K : PySem.W.Frag} {D B : Addr} {b : Bool} (hd : PySem.W.hasDictIn K B = true) (ht : PySem.W.typeIn K (.ref B) = some (.type "type")) (self : PySem.W.subIn K (.ref D) (.ref D) = some true) (h : PySem.W.subIn K (.ref D) (.ref B) = some b) :
    PySem.W.kitOne K (.ref D) (.ref B) = some b := by
  by_cases e : D = B
  · subst e
    rw [self] at h
    rw [← h]
    exact if_pos (beq_self_eq_true _)
  · obtain ⟨cd, hc, _⟩ := PySem.W.any_some hd
    have n : ¬ ((Value.ref D == Value.ref B) = true) := fun z => e (Value.ref.inj (beq_iff_eq.mp z))
    have y : ((PySem.W.clsIn K B).isSome && PySem.W.typeIn K (.ref B) == some (.type "type")) = true := by rw [hc, ht]; rfl
    unfold PySem.W.kitOne PySem.W.kitCls
    rw [if_neg n]
    dsimp only
    rw [if_pos y]
    exact h
theorem kit_type {K : PySem.W.Frag} {D : Addr} {T : String} {b : Bool} (m : PySem.W.kitMeta T = true) (h : PySem.W.subIn K (.ref D) (.type T) = some b) : PySem.W.kitOne K (.ref D) (.type T) = some b := by
  have n : ¬ ((Value.ref D == Value.type T) = true) := fun z => by cases beq_iff_eq.mp z
  unfold PySem.W.kitOne PySem.W.kitCls
  rw [if_neg n]
  dsimp only
  rw [if_pos m]
  exact h
end KL
namespace KL
open PySem L2 L2H
theorem vals_app {a b : List V} {c d : List Value} (h : Vals a c) (k : Vals b d) : Vals (a ++ b) (c ++ d) := by
  induction h with
  | nil => exact k
  | cons r m ih => exact .cons r ih
theorem vals_rev {a : List V} {c : List Value} (h : Vals a c) : Vals a.reverse c.reverse := by
  induction h with
  | nil => exact .nil
  | cons r m ih =>
    rw [List.reverse_cons, List.reverse_cons]
    exact vals_app ih (.cons r .nil)
theorem vals_appR {a b : List V} {c d : List Value} (h : Vals a c) (k : Vals b d) : Vals (a ++ b.reverse) (c ++ d.reverse) := vals_app h (vals_rev k)
end KL

namespace KL
open PySem L2 L2H LX KB

theorem all_mk {l : PySem.W.OpenLaw} {w : World} {K : PySem.W.Frag} {h : Heap} {mg : Str → Option Value} {fa C_Ear C_Line C_Leases C_Log C_Watcher C_Room f_Ear_init dT_Ear_init f_Ear_hear f_Ear_heard f_Ear_state f_Ear_many f_Ear_u_take_in f_Line_init dT_Line_init f_Line_turn f_Leases_init f_Leases_grant f_Leases_renew f_Leases_drop f_Leases_due f_Leases_refuse_unknown f_Log_init f_Log_note f_Log_last f_Log_first f_Log_wanted f_Log_forget f_Watcher_init f_Room_init f_Room_grant f_Room_renew f_Room_drop f_Room_wait f_Room_put dT_Room_put f_Room_cut dT_Room_cut f_Room_value f_Room_holder f_Room_pairs f_Room_last f_Room_first f_Room_watch f_Room_pull f_Room_confirm f_Room_broken f_Room_trim f_Room_u_end f_Room_u_take_out f_Room_u_refuse_lease f_Room_u_refuse_held f_Room_u_watching f_Room_u_refuse_watcher f_arriving f_line_now f_whole f_cell_at f_sign f_text f_pool f_prefix f_only f_call f_done f_ticks f_deed f_pairs f_did f_key f_crowd f_knows f_stand f_begun f_step f_law E_LeaseError E_BadTicks E_NoLease E_NoKey E_Held E_NoStart E_NoWatch : Addr} {dt0_Ear_init dt0_Room_put dt0_Room_cut tm_WELL tm_ROW_LOST tm_BROKEN_MIDST tm_MOST_TICKS : Tok} (X : K.In h) (G : h.Ns mainGlobals mg) (hfa : mg "law" = some (.ref fa))
    {od_Ear_init an_Ear_init do_Ear_init od_Ear_hear an_Ear_hear od_Ear_heard an_Ear_heard od_Ear_state an_Ear_state od_Ear_many an_Ear_many od_Ear_u_take_in an_Ear_u_take_in od_Line_init an_Line_init do_Line_init od_Line_turn an_Line_turn od_Leases_init an_Leases_init od_Leases_grant an_Leases_grant od_Leases_renew an_Leases_renew od_Leases_drop an_Leases_drop od_Leases_due an_Leases_due od_Leases_refuse_unknown an_Leases_refuse_unknown od_Log_init an_Log_init od_Log_note an_Log_note od_Log_last an_Log_last od_Log_first an_Log_first od_Log_wanted an_Log_wanted od_Log_forget an_Log_forget od_Watcher_init an_Watcher_init od_Room_init an_Room_init od_Room_grant an_Room_grant od_Room_renew an_Room_renew od_Room_drop an_Room_drop od_Room_wait an_Room_wait od_Room_put an_Room_put do_Room_put od_Room_cut an_Room_cut do_Room_cut od_Room_value an_Room_value od_Room_holder an_Room_holder od_Room_pairs an_Room_pairs od_Room_last an_Room_last od_Room_first an_Room_first od_Room_watch an_Room_watch od_Room_pull an_Room_pull od_Room_confirm an_Room_confirm od_Room_broken an_Room_broken od_Room_trim an_Room_trim od_Room_u_end an_Room_u_end od_Room_u_take_out an_Room_u_take_out od_Room_u_refuse_lease an_Room_u_refuse_lease od_Room_u_refuse_held an_Room_u_refuse_held od_Room_u_watching an_Room_u_watching od_Room_u_refuse_watcher an_Room_u_refuse_watcher od_arriving an_arriving od_line_now an_line_now od_whole an_whole od_cell_at an_cell_at od_sign an_sign od_text an_text od_pool an_pool od_prefix an_prefix od_only an_only od_call an_call od_done an_done od_ticks an_ticks od_deed an_deed od_pairs an_pairs od_did an_did od_key an_key od_crowd an_crowd od_knows an_knows od_stand an_stand od_begun an_begun od_step an_step od_law an_law : Option Addr} {sl_Ear_init ds_Ear_init sl_Ear_hear sl_Ear_heard sl_Ear_state sl_Ear_many sl_Ear_u_take_in sl_Line_init ds_Line_init sl_Line_turn sl_Leases_init sl_Leases_grant sl_Leases_renew sl_Leases_drop sl_Leases_due sl_Leases_refuse_unknown sl_Log_init sl_Log_note sl_Log_last sl_Log_first sl_Log_wanted sl_Log_forget sl_Watcher_init sl_Room_init sl_Room_grant sl_Room_renew sl_Room_drop sl_Room_wait sl_Room_put ds_Room_put sl_Room_cut ds_Room_cut sl_Room_value sl_Room_holder sl_Room_pairs sl_Room_last sl_Room_first sl_Room_watch sl_Room_pull sl_Room_confirm sl_Room_broken sl_Room_trim sl_Room_u_end sl_Room_u_take_out sl_Room_u_refuse_lease sl_Room_u_refuse_held sl_Room_u_watching sl_Room_u_refuse_watcher sl_arriving sl_line_now sl_whole sl_cell_at sl_sign sl_text sl_pool sl_prefix sl_only sl_call sl_done sl_ticks sl_deed sl_pairs sl_did sl_key sl_crowd sl_knows sl_stand sl_begun sl_step sl_law : Array (Option Value)} {oc_Ear_init kV_Ear_init dc_Ear_init pm_Ear_init cd_Ear_init ct_Ear_init dcl_Ear_init oc_Ear_hear kV_Ear_hear dc_Ear_hear pm_Ear_hear cd_Ear_hear ct_Ear_hear oc_Ear_heard kV_Ear_heard dc_Ear_heard pm_Ear_heard cd_Ear_heard ct_Ear_heard oc_Ear_state kV_Ear_state dc_Ear_state pm_Ear_state cd_Ear_state ct_Ear_state oc_Ear_many kV_Ear_many dc_Ear_many pm_Ear_many cd_Ear_many ct_Ear_many oc_Ear_u_take_in kV_Ear_u_take_in dc_Ear_u_take_in pm_Ear_u_take_in cd_Ear_u_take_in ct_Ear_u_take_in oc_Line_init kV_Line_init dc_Line_init pm_Line_init cd_Line_init ct_Line_init dcl_Line_init oc_Line_turn kV_Line_turn dc_Line_turn pm_Line_turn cd_Line_turn ct_Line_turn oc_Leases_init kV_Leases_init dc_Leases_init pm_Leases_init cd_Leases_init ct_Leases_init oc_Leases_grant kV_Leases_grant dc_Leases_grant pm_Leases_grant cd_Leases_grant ct_Leases_grant oc_Leases_renew kV_Leases_renew dc_Leases_renew pm_Leases_renew cd_Leases_renew ct_Leases_renew oc_Leases_drop kV_Leases_drop dc_Leases_drop pm_Leases_drop cd_Leases_drop ct_Leases_drop oc_Leases_due kV_Leases_due dc_Leases_due pm_Leases_due cd_Leases_due ct_Leases_due oc_Leases_refuse_unknown kV_Leases_refuse_unknown dc_Leases_refuse_unknown pm_Leases_refuse_unknown cd_Leases_refuse_unknown ct_Leases_refuse_unknown oc_Log_init kV_Log_init dc_Log_init pm_Log_init cd_Log_init ct_Log_init oc_Log_note kV_Log_note dc_Log_note pm_Log_note cd_Log_note ct_Log_note oc_Log_last kV_Log_last dc_Log_last pm_Log_last cd_Log_last ct_Log_last oc_Log_first kV_Log_first dc_Log_first pm_Log_first cd_Log_first ct_Log_first oc_Log_wanted kV_Log_wanted dc_Log_wanted pm_Log_wanted cd_Log_wanted ct_Log_wanted oc_Log_forget kV_Log_forget dc_Log_forget pm_Log_forget cd_Log_forget ct_Log_forget oc_Watcher_init kV_Watcher_init dc_Watcher_init pm_Watcher_init cd_Watcher_init ct_Watcher_init oc_Room_init kV_Room_init dc_Room_init pm_Room_init cd_Room_init ct_Room_init oc_Room_grant kV_Room_grant dc_Room_grant pm_Room_grant cd_Room_grant ct_Room_grant oc_Room_renew kV_Room_renew dc_Room_renew pm_Room_renew cd_Room_renew ct_Room_renew oc_Room_drop kV_Room_drop dc_Room_drop pm_Room_drop cd_Room_drop ct_Room_drop oc_Room_wait kV_Room_wait dc_Room_wait pm_Room_wait cd_Room_wait ct_Room_wait oc_Room_put kV_Room_put dc_Room_put pm_Room_put cd_Room_put ct_Room_put dcl_Room_put oc_Room_cut kV_Room_cut dc_Room_cut pm_Room_cut cd_Room_cut ct_Room_cut dcl_Room_cut oc_Room_value kV_Room_value dc_Room_value pm_Room_value cd_Room_value ct_Room_value oc_Room_holder kV_Room_holder dc_Room_holder pm_Room_holder cd_Room_holder ct_Room_holder oc_Room_pairs kV_Room_pairs dc_Room_pairs pm_Room_pairs cd_Room_pairs ct_Room_pairs oc_Room_last kV_Room_last dc_Room_last pm_Room_last cd_Room_last ct_Room_last oc_Room_first kV_Room_first dc_Room_first pm_Room_first cd_Room_first ct_Room_first oc_Room_watch kV_Room_watch dc_Room_watch pm_Room_watch cd_Room_watch ct_Room_watch oc_Room_pull kV_Room_pull dc_Room_pull pm_Room_pull cd_Room_pull ct_Room_pull oc_Room_confirm kV_Room_confirm dc_Room_confirm pm_Room_confirm cd_Room_confirm ct_Room_confirm oc_Room_broken kV_Room_broken dc_Room_broken pm_Room_broken cd_Room_broken ct_Room_broken oc_Room_trim kV_Room_trim dc_Room_trim pm_Room_trim cd_Room_trim ct_Room_trim oc_Room_u_end kV_Room_u_end dc_Room_u_end pm_Room_u_end cd_Room_u_end ct_Room_u_end oc_Room_u_take_out kV_Room_u_take_out dc_Room_u_take_out pm_Room_u_take_out cd_Room_u_take_out ct_Room_u_take_out oc_Room_u_refuse_lease kV_Room_u_refuse_lease dc_Room_u_refuse_lease pm_Room_u_refuse_lease cd_Room_u_refuse_lease ct_Room_u_refuse_lease oc_Room_u_refuse_held kV_Room_u_refuse_held dc_Room_u_refuse_held pm_Room_u_refuse_held cd_Room_u_refuse_held ct_Room_u_refuse_held oc_Room_u_watching kV_Room_u_watching dc_Room_u_watching pm_Room_u_watching cd_Room_u_watching ct_Room_u_watching oc_Room_u_refuse_watcher kV_Room_u_refuse_watcher dc_Room_u_refuse_watcher pm_Room_u_refuse_watcher cd_Room_u_refuse_watcher ct_Room_u_refuse_watcher oc_arriving kV_arriving dc_arriving pm_arriving cd_arriving ct_arriving oc_line_now kV_line_now dc_line_now pm_line_now cd_line_now ct_line_now oc_whole kV_whole dc_whole pm_whole cd_whole ct_whole oc_cell_at kV_cell_at dc_cell_at pm_cell_at cd_cell_at ct_cell_at oc_sign kV_sign dc_sign pm_sign cd_sign ct_sign oc_text kV_text dc_text pm_text cd_text ct_text oc_pool kV_pool dc_pool pm_pool cd_pool ct_pool oc_prefix kV_prefix dc_prefix pm_prefix cd_prefix ct_prefix oc_only kV_only dc_only pm_only cd_only ct_only oc_call kV_call dc_call pm_call cd_call ct_call oc_done kV_done dc_done pm_done cd_done ct_done oc_ticks kV_ticks dc_ticks pm_ticks cd_ticks ct_ticks oc_deed kV_deed dc_deed pm_deed cd_deed ct_deed oc_pairs kV_pairs dc_pairs pm_pairs cd_pairs ct_pairs oc_did kV_did dc_did pm_did cd_did ct_did oc_key kV_key dc_key pm_key cd_key ct_key oc_crowd kV_crowd dc_crowd pm_crowd cd_crowd ct_crowd oc_knows kV_knows dc_knows pm_knows cd_knows ct_knows oc_stand kV_stand dc_stand pm_stand cd_stand ct_stand oc_begun kV_begun dc_begun pm_begun cd_begun ct_begun oc_step kV_step dc_step pm_step cd_step ct_step oc_law kV_law dc_law pm_law cd_law ct_law : Value} {dn_Ear_init dn_Line_init dn_Room_put dn_Room_cut : Nat}
    (aC_Ear : PySem.W.nsIn K mainGlobals "Ear" = some (some (.ref C_Ear)))
    (aC_Line : PySem.W.nsIn K mainGlobals "Line" = some (some (.ref C_Line)))
    (aC_Leases : PySem.W.nsIn K mainGlobals "Leases" = some (some (.ref C_Leases)))
    (aC_Log : PySem.W.nsIn K mainGlobals "Log" = some (some (.ref C_Log)))
    (aC_Watcher : PySem.W.nsIn K mainGlobals "Watcher" = some (some (.ref C_Watcher)))
    (aC_Room : PySem.W.nsIn K mainGlobals "Room" = some (some (.ref C_Room)))
    (a_Ear_init : PySem.W.findIn K (.ref C_Ear) "__init__" = some (some (.ref f_Ear_init)))
    (i_Ear_init : PySem.W.isFn K (.ref f_Ear_init) = true)
    (l_Ear_init : K.lookup f_Ear_init = some ⟨oc_Ear_init, od_Ear_init, .func (PySem.W.fnOf "__init__" "Ear.__init__" (defArgs s_Ear_init) (defBody s_Ear_init) (defScope s_Ear_init) (.ref dT_Ear_init) kV_Ear_init dc_Ear_init pm_Ear_init an_Ear_init cd_Ear_init ct_Ear_init), sl_Ear_init⟩)
    (d_Ear_init : K.lookup dT_Ear_init = some ⟨dcl_Ear_init, do_Ear_init, .seq #[.int 1 dt0_Ear_init, .none] dn_Ear_init, ds_Ear_init⟩)
    (c_Ear_init : PySem.W.codeIn K cd_Ear_init "Ear.__init__" = true)
    (k_Ear_init : PySem.W.keepIn K (.ref f_Ear_init) = true)
    (a_Ear_hear : PySem.W.findIn K (.ref C_Ear) "hear" = some (some (.ref f_Ear_hear)))
    (i_Ear_hear : PySem.W.isFn K (.ref f_Ear_hear) = true)
    (l_Ear_hear : K.lookup f_Ear_hear = some ⟨oc_Ear_hear, od_Ear_hear, .func (PySem.W.fnOf "hear" "Ear.hear" (defArgs s_Ear_hear) (defBody s_Ear_hear) (defScope s_Ear_hear) .none kV_Ear_hear dc_Ear_hear pm_Ear_hear an_Ear_hear cd_Ear_hear ct_Ear_hear), sl_Ear_hear⟩)
    (c_Ear_hear : PySem.W.codeIn K cd_Ear_hear "Ear.hear" = true)
    (k_Ear_hear : PySem.W.keepIn K (.ref f_Ear_hear) = true)
    (a_Ear_heard : PySem.W.findIn K (.ref C_Ear) "heard" = some (some (.ref f_Ear_heard)))
    (i_Ear_heard : PySem.W.isFn K (.ref f_Ear_heard) = true)
    (l_Ear_heard : K.lookup f_Ear_heard = some ⟨oc_Ear_heard, od_Ear_heard, .func (PySem.W.fnOf "heard" "Ear.heard" (defArgs s_Ear_heard) (defBody s_Ear_heard) (defScope s_Ear_heard) .none kV_Ear_heard dc_Ear_heard pm_Ear_heard an_Ear_heard cd_Ear_heard ct_Ear_heard), sl_Ear_heard⟩)
    (c_Ear_heard : PySem.W.codeIn K cd_Ear_heard "Ear.heard" = true)
    (k_Ear_heard : PySem.W.keepIn K (.ref f_Ear_heard) = true)
    (a_Ear_state : PySem.W.findIn K (.ref C_Ear) "state" = some (some (.ref f_Ear_state)))
    (i_Ear_state : PySem.W.isFn K (.ref f_Ear_state) = true)
    (l_Ear_state : K.lookup f_Ear_state = some ⟨oc_Ear_state, od_Ear_state, .func (PySem.W.fnOf "state" "Ear.state" (defArgs s_Ear_state) (defBody s_Ear_state) (defScope s_Ear_state) .none kV_Ear_state dc_Ear_state pm_Ear_state an_Ear_state cd_Ear_state ct_Ear_state), sl_Ear_state⟩)
    (c_Ear_state : PySem.W.codeIn K cd_Ear_state "Ear.state" = true)
    (k_Ear_state : PySem.W.keepIn K (.ref f_Ear_state) = true)
    (a_Ear_many : PySem.W.findIn K (.ref C_Ear) "many" = some (some (.ref f_Ear_many)))
    (i_Ear_many : PySem.W.isFn K (.ref f_Ear_many) = true)
    (l_Ear_many : K.lookup f_Ear_many = some ⟨oc_Ear_many, od_Ear_many, .func (PySem.W.fnOf "many" "Ear.many" (defArgs s_Ear_many) (defBody s_Ear_many) (defScope s_Ear_many) .none kV_Ear_many dc_Ear_many pm_Ear_many an_Ear_many cd_Ear_many ct_Ear_many), sl_Ear_many⟩)
    (c_Ear_many : PySem.W.codeIn K cd_Ear_many "Ear.many" = true)
    (k_Ear_many : PySem.W.keepIn K (.ref f_Ear_many) = true)
    (a_Ear_u_take_in : PySem.W.findIn K (.ref C_Ear) "_take_in" = some (some (.ref f_Ear_u_take_in)))
    (i_Ear_u_take_in : PySem.W.isFn K (.ref f_Ear_u_take_in) = true)
    (l_Ear_u_take_in : K.lookup f_Ear_u_take_in = some ⟨oc_Ear_u_take_in, od_Ear_u_take_in, .func (PySem.W.fnOf "_take_in" "Ear._take_in" (defArgs s_Ear_u_take_in) (defBody s_Ear_u_take_in) (defScope s_Ear_u_take_in) .none kV_Ear_u_take_in dc_Ear_u_take_in pm_Ear_u_take_in an_Ear_u_take_in cd_Ear_u_take_in ct_Ear_u_take_in), sl_Ear_u_take_in⟩)
    (c_Ear_u_take_in : PySem.W.codeIn K cd_Ear_u_take_in "Ear._take_in" = true)
    (k_Ear_u_take_in : PySem.W.keepIn K (.ref f_Ear_u_take_in) = true)
    (a_Line_init : PySem.W.findIn K (.ref C_Line) "__init__" = some (some (.ref f_Line_init)))
    (i_Line_init : PySem.W.isFn K (.ref f_Line_init) = true)
    (l_Line_init : K.lookup f_Line_init = some ⟨oc_Line_init, od_Line_init, .func (PySem.W.fnOf "__init__" "Line.__init__" (defArgs s_Line_init) (defBody s_Line_init) (defScope s_Line_init) (.ref dT_Line_init) kV_Line_init dc_Line_init pm_Line_init an_Line_init cd_Line_init ct_Line_init), sl_Line_init⟩)
    (d_Line_init : K.lookup dT_Line_init = some ⟨dcl_Line_init, do_Line_init, .seq #[.none] dn_Line_init, ds_Line_init⟩)
    (c_Line_init : PySem.W.codeIn K cd_Line_init "Line.__init__" = true)
    (k_Line_init : PySem.W.keepIn K (.ref f_Line_init) = true)
    (a_Line_turn : PySem.W.findIn K (.ref C_Line) "turn" = some (some (.ref f_Line_turn)))
    (i_Line_turn : PySem.W.isFn K (.ref f_Line_turn) = true)
    (l_Line_turn : K.lookup f_Line_turn = some ⟨oc_Line_turn, od_Line_turn, .func (PySem.W.fnOf "turn" "Line.turn" (defArgs s_Line_turn) (defBody s_Line_turn) (defScope s_Line_turn) .none kV_Line_turn dc_Line_turn pm_Line_turn an_Line_turn cd_Line_turn ct_Line_turn), sl_Line_turn⟩)
    (c_Line_turn : PySem.W.codeIn K cd_Line_turn "Line.turn" = true)
    (k_Line_turn : PySem.W.keepIn K (.ref f_Line_turn) = true)
    (a_Leases_init : PySem.W.findIn K (.ref C_Leases) "__init__" = some (some (.ref f_Leases_init)))
    (i_Leases_init : PySem.W.isFn K (.ref f_Leases_init) = true)
    (l_Leases_init : K.lookup f_Leases_init = some ⟨oc_Leases_init, od_Leases_init, .func (PySem.W.fnOf "__init__" "Leases.__init__" (defArgs s_Leases_init) (defBody s_Leases_init) (defScope s_Leases_init) .none kV_Leases_init dc_Leases_init pm_Leases_init an_Leases_init cd_Leases_init ct_Leases_init), sl_Leases_init⟩)
    (c_Leases_init : PySem.W.codeIn K cd_Leases_init "Leases.__init__" = true)
    (k_Leases_init : PySem.W.keepIn K (.ref f_Leases_init) = true)
    (a_Leases_grant : PySem.W.findIn K (.ref C_Leases) "grant" = some (some (.ref f_Leases_grant)))
    (i_Leases_grant : PySem.W.isFn K (.ref f_Leases_grant) = true)
    (l_Leases_grant : K.lookup f_Leases_grant = some ⟨oc_Leases_grant, od_Leases_grant, .func (PySem.W.fnOf "grant" "Leases.grant" (defArgs s_Leases_grant) (defBody s_Leases_grant) (defScope s_Leases_grant) .none kV_Leases_grant dc_Leases_grant pm_Leases_grant an_Leases_grant cd_Leases_grant ct_Leases_grant), sl_Leases_grant⟩)
    (c_Leases_grant : PySem.W.codeIn K cd_Leases_grant "Leases.grant" = true)
    (k_Leases_grant : PySem.W.keepIn K (.ref f_Leases_grant) = true)
    (a_Leases_renew : PySem.W.findIn K (.ref C_Leases) "renew" = some (some (.ref f_Leases_renew)))
    (i_Leases_renew : PySem.W.isFn K (.ref f_Leases_renew) = true)
    (l_Leases_renew : K.lookup f_Leases_renew = some ⟨oc_Leases_renew, od_Leases_renew, .func (PySem.W.fnOf "renew" "Leases.renew" (defArgs s_Leases_renew) (defBody s_Leases_renew) (defScope s_Leases_renew) .none kV_Leases_renew dc_Leases_renew pm_Leases_renew an_Leases_renew cd_Leases_renew ct_Leases_renew), sl_Leases_renew⟩)
    (c_Leases_renew : PySem.W.codeIn K cd_Leases_renew "Leases.renew" = true)
    (k_Leases_renew : PySem.W.keepIn K (.ref f_Leases_renew) = true)
    (a_Leases_drop : PySem.W.findIn K (.ref C_Leases) "drop" = some (some (.ref f_Leases_drop)))
    (i_Leases_drop : PySem.W.isFn K (.ref f_Leases_drop) = true)
    (l_Leases_drop : K.lookup f_Leases_drop = some ⟨oc_Leases_drop, od_Leases_drop, .func (PySem.W.fnOf "drop" "Leases.drop" (defArgs s_Leases_drop) (defBody s_Leases_drop) (defScope s_Leases_drop) .none kV_Leases_drop dc_Leases_drop pm_Leases_drop an_Leases_drop cd_Leases_drop ct_Leases_drop), sl_Leases_drop⟩)
    (c_Leases_drop : PySem.W.codeIn K cd_Leases_drop "Leases.drop" = true)
    (k_Leases_drop : PySem.W.keepIn K (.ref f_Leases_drop) = true)
    (a_Leases_due : PySem.W.findIn K (.ref C_Leases) "due" = some (some (.ref f_Leases_due)))
    (i_Leases_due : PySem.W.isFn K (.ref f_Leases_due) = true)
    (l_Leases_due : K.lookup f_Leases_due = some ⟨oc_Leases_due, od_Leases_due, .func (PySem.W.fnOf "due" "Leases.due" (defArgs s_Leases_due) (defBody s_Leases_due) (defScope s_Leases_due) .none kV_Leases_due dc_Leases_due pm_Leases_due an_Leases_due cd_Leases_due ct_Leases_due), sl_Leases_due⟩)
    (c_Leases_due : PySem.W.codeIn K cd_Leases_due "Leases.due" = true)
    (k_Leases_due : PySem.W.keepIn K (.ref f_Leases_due) = true)
    (a_Leases_refuse_unknown : PySem.W.findIn K (.ref C_Leases) "refuse_unknown" = some (some (.ref f_Leases_refuse_unknown)))
    (i_Leases_refuse_unknown : PySem.W.isFn K (.ref f_Leases_refuse_unknown) = true)
    (l_Leases_refuse_unknown : K.lookup f_Leases_refuse_unknown = some ⟨oc_Leases_refuse_unknown, od_Leases_refuse_unknown, .func (PySem.W.fnOf "refuse_unknown" "Leases.refuse_unknown" (defArgs s_Leases_refuse_unknown) (defBody s_Leases_refuse_unknown) (defScope s_Leases_refuse_unknown) .none kV_Leases_refuse_unknown dc_Leases_refuse_unknown pm_Leases_refuse_unknown an_Leases_refuse_unknown cd_Leases_refuse_unknown ct_Leases_refuse_unknown), sl_Leases_refuse_unknown⟩)
    (c_Leases_refuse_unknown : PySem.W.codeIn K cd_Leases_refuse_unknown "Leases.refuse_unknown" = true)
    (k_Leases_refuse_unknown : PySem.W.keepIn K (.ref f_Leases_refuse_unknown) = true)
    (a_Log_init : PySem.W.findIn K (.ref C_Log) "__init__" = some (some (.ref f_Log_init)))
    (i_Log_init : PySem.W.isFn K (.ref f_Log_init) = true)
    (l_Log_init : K.lookup f_Log_init = some ⟨oc_Log_init, od_Log_init, .func (PySem.W.fnOf "__init__" "Log.__init__" (defArgs s_Log_init) (defBody s_Log_init) (defScope s_Log_init) .none kV_Log_init dc_Log_init pm_Log_init an_Log_init cd_Log_init ct_Log_init), sl_Log_init⟩)
    (c_Log_init : PySem.W.codeIn K cd_Log_init "Log.__init__" = true)
    (k_Log_init : PySem.W.keepIn K (.ref f_Log_init) = true)
    (a_Log_note : PySem.W.findIn K (.ref C_Log) "note" = some (some (.ref f_Log_note)))
    (i_Log_note : PySem.W.isFn K (.ref f_Log_note) = true)
    (l_Log_note : K.lookup f_Log_note = some ⟨oc_Log_note, od_Log_note, .func (PySem.W.fnOf "note" "Log.note" (defArgs s_Log_note) (defBody s_Log_note) (defScope s_Log_note) .none kV_Log_note dc_Log_note pm_Log_note an_Log_note cd_Log_note ct_Log_note), sl_Log_note⟩)
    (c_Log_note : PySem.W.codeIn K cd_Log_note "Log.note" = true)
    (k_Log_note : PySem.W.keepIn K (.ref f_Log_note) = true)
    (a_Log_last : PySem.W.findIn K (.ref C_Log) "last" = some (some (.ref f_Log_last)))
    (i_Log_last : PySem.W.isFn K (.ref f_Log_last) = true)
    (l_Log_last : K.lookup f_Log_last = some ⟨oc_Log_last, od_Log_last, .func (PySem.W.fnOf "last" "Log.last" (defArgs s_Log_last) (defBody s_Log_last) (defScope s_Log_last) .none kV_Log_last dc_Log_last pm_Log_last an_Log_last cd_Log_last ct_Log_last), sl_Log_last⟩)
    (c_Log_last : PySem.W.codeIn K cd_Log_last "Log.last" = true)
    (k_Log_last : PySem.W.keepIn K (.ref f_Log_last) = true)
    (a_Log_first : PySem.W.findIn K (.ref C_Log) "first" = some (some (.ref f_Log_first)))
    (i_Log_first : PySem.W.isFn K (.ref f_Log_first) = true)
    (l_Log_first : K.lookup f_Log_first = some ⟨oc_Log_first, od_Log_first, .func (PySem.W.fnOf "first" "Log.first" (defArgs s_Log_first) (defBody s_Log_first) (defScope s_Log_first) .none kV_Log_first dc_Log_first pm_Log_first an_Log_first cd_Log_first ct_Log_first), sl_Log_first⟩)
    (c_Log_first : PySem.W.codeIn K cd_Log_first "Log.first" = true)
    (k_Log_first : PySem.W.keepIn K (.ref f_Log_first) = true)
    (a_Log_wanted : PySem.W.findIn K (.ref C_Log) "wanted" = some (some (.ref f_Log_wanted)))
    (i_Log_wanted : PySem.W.isFn K (.ref f_Log_wanted) = true)
    (l_Log_wanted : K.lookup f_Log_wanted = some ⟨oc_Log_wanted, od_Log_wanted, .func (PySem.W.fnOf "wanted" "Log.wanted" (defArgs s_Log_wanted) (defBody s_Log_wanted) (defScope s_Log_wanted) .none kV_Log_wanted dc_Log_wanted pm_Log_wanted an_Log_wanted cd_Log_wanted ct_Log_wanted), sl_Log_wanted⟩)
    (c_Log_wanted : PySem.W.codeIn K cd_Log_wanted "Log.wanted" = true)
    (k_Log_wanted : PySem.W.keepIn K (.ref f_Log_wanted) = true)
    (a_Log_forget : PySem.W.findIn K (.ref C_Log) "forget" = some (some (.ref f_Log_forget)))
    (i_Log_forget : PySem.W.isFn K (.ref f_Log_forget) = true)
    (l_Log_forget : K.lookup f_Log_forget = some ⟨oc_Log_forget, od_Log_forget, .func (PySem.W.fnOf "forget" "Log.forget" (defArgs s_Log_forget) (defBody s_Log_forget) (defScope s_Log_forget) .none kV_Log_forget dc_Log_forget pm_Log_forget an_Log_forget cd_Log_forget ct_Log_forget), sl_Log_forget⟩)
    (c_Log_forget : PySem.W.codeIn K cd_Log_forget "Log.forget" = true)
    (k_Log_forget : PySem.W.keepIn K (.ref f_Log_forget) = true)
    (a_Watcher_init : PySem.W.findIn K (.ref C_Watcher) "__init__" = some (some (.ref f_Watcher_init)))
    (i_Watcher_init : PySem.W.isFn K (.ref f_Watcher_init) = true)
    (l_Watcher_init : K.lookup f_Watcher_init = some ⟨oc_Watcher_init, od_Watcher_init, .func (PySem.W.fnOf "__init__" "Watcher.__init__" (defArgs s_Watcher_init) (defBody s_Watcher_init) (defScope s_Watcher_init) .none kV_Watcher_init dc_Watcher_init pm_Watcher_init an_Watcher_init cd_Watcher_init ct_Watcher_init), sl_Watcher_init⟩)
    (c_Watcher_init : PySem.W.codeIn K cd_Watcher_init "Watcher.__init__" = true)
    (k_Watcher_init : PySem.W.keepIn K (.ref f_Watcher_init) = true)
    (a_Room_init : PySem.W.findIn K (.ref C_Room) "__init__" = some (some (.ref f_Room_init)))
    (i_Room_init : PySem.W.isFn K (.ref f_Room_init) = true)
    (l_Room_init : K.lookup f_Room_init = some ⟨oc_Room_init, od_Room_init, .func (PySem.W.fnOf "__init__" "Room.__init__" (defArgs s_Room_init) (defBody s_Room_init) (defScope s_Room_init) .none kV_Room_init dc_Room_init pm_Room_init an_Room_init cd_Room_init ct_Room_init), sl_Room_init⟩)
    (c_Room_init : PySem.W.codeIn K cd_Room_init "Room.__init__" = true)
    (k_Room_init : PySem.W.keepIn K (.ref f_Room_init) = true)
    (a_Room_grant : PySem.W.findIn K (.ref C_Room) "grant" = some (some (.ref f_Room_grant)))
    (i_Room_grant : PySem.W.isFn K (.ref f_Room_grant) = true)
    (l_Room_grant : K.lookup f_Room_grant = some ⟨oc_Room_grant, od_Room_grant, .func (PySem.W.fnOf "grant" "Room.grant" (defArgs s_Room_grant) (defBody s_Room_grant) (defScope s_Room_grant) .none kV_Room_grant dc_Room_grant pm_Room_grant an_Room_grant cd_Room_grant ct_Room_grant), sl_Room_grant⟩)
    (c_Room_grant : PySem.W.codeIn K cd_Room_grant "Room.grant" = true)
    (k_Room_grant : PySem.W.keepIn K (.ref f_Room_grant) = true)
    (a_Room_renew : PySem.W.findIn K (.ref C_Room) "renew" = some (some (.ref f_Room_renew)))
    (i_Room_renew : PySem.W.isFn K (.ref f_Room_renew) = true)
    (l_Room_renew : K.lookup f_Room_renew = some ⟨oc_Room_renew, od_Room_renew, .func (PySem.W.fnOf "renew" "Room.renew" (defArgs s_Room_renew) (defBody s_Room_renew) (defScope s_Room_renew) .none kV_Room_renew dc_Room_renew pm_Room_renew an_Room_renew cd_Room_renew ct_Room_renew), sl_Room_renew⟩)
    (c_Room_renew : PySem.W.codeIn K cd_Room_renew "Room.renew" = true)
    (k_Room_renew : PySem.W.keepIn K (.ref f_Room_renew) = true)
    (a_Room_drop : PySem.W.findIn K (.ref C_Room) "drop" = some (some (.ref f_Room_drop)))
    (i_Room_drop : PySem.W.isFn K (.ref f_Room_drop) = true)
    (l_Room_drop : K.lookup f_Room_drop = some ⟨oc_Room_drop, od_Room_drop, .func (PySem.W.fnOf "drop" "Room.drop" (defArgs s_Room_drop) (defBody s_Room_drop) (defScope s_Room_drop) .none kV_Room_drop dc_Room_drop pm_Room_drop an_Room_drop cd_Room_drop ct_Room_drop), sl_Room_drop⟩)
    (c_Room_drop : PySem.W.codeIn K cd_Room_drop "Room.drop" = true)
    (k_Room_drop : PySem.W.keepIn K (.ref f_Room_drop) = true)
    (a_Room_wait : PySem.W.findIn K (.ref C_Room) "wait" = some (some (.ref f_Room_wait)))
    (i_Room_wait : PySem.W.isFn K (.ref f_Room_wait) = true)
    (l_Room_wait : K.lookup f_Room_wait = some ⟨oc_Room_wait, od_Room_wait, .func (PySem.W.fnOf "wait" "Room.wait" (defArgs s_Room_wait) (defBody s_Room_wait) (defScope s_Room_wait) .none kV_Room_wait dc_Room_wait pm_Room_wait an_Room_wait cd_Room_wait ct_Room_wait), sl_Room_wait⟩)
    (c_Room_wait : PySem.W.codeIn K cd_Room_wait "Room.wait" = true)
    (k_Room_wait : PySem.W.keepIn K (.ref f_Room_wait) = true)
    (a_Room_put : PySem.W.findIn K (.ref C_Room) "put" = some (some (.ref f_Room_put)))
    (i_Room_put : PySem.W.isFn K (.ref f_Room_put) = true)
    (l_Room_put : K.lookup f_Room_put = some ⟨oc_Room_put, od_Room_put, .func (PySem.W.fnOf "put" "Room.put" (defArgs s_Room_put) (defBody s_Room_put) (defScope s_Room_put) (.ref dT_Room_put) kV_Room_put dc_Room_put pm_Room_put an_Room_put cd_Room_put ct_Room_put), sl_Room_put⟩)
    (d_Room_put : K.lookup dT_Room_put = some ⟨dcl_Room_put, do_Room_put, .seq #[.int 0 dt0_Room_put] dn_Room_put, ds_Room_put⟩)
    (c_Room_put : PySem.W.codeIn K cd_Room_put "Room.put" = true)
    (k_Room_put : PySem.W.keepIn K (.ref f_Room_put) = true)
    (a_Room_cut : PySem.W.findIn K (.ref C_Room) "cut" = some (some (.ref f_Room_cut)))
    (i_Room_cut : PySem.W.isFn K (.ref f_Room_cut) = true)
    (l_Room_cut : K.lookup f_Room_cut = some ⟨oc_Room_cut, od_Room_cut, .func (PySem.W.fnOf "cut" "Room.cut" (defArgs s_Room_cut) (defBody s_Room_cut) (defScope s_Room_cut) (.ref dT_Room_cut) kV_Room_cut dc_Room_cut pm_Room_cut an_Room_cut cd_Room_cut ct_Room_cut), sl_Room_cut⟩)
    (d_Room_cut : K.lookup dT_Room_cut = some ⟨dcl_Room_cut, do_Room_cut, .seq #[.int 0 dt0_Room_cut] dn_Room_cut, ds_Room_cut⟩)
    (c_Room_cut : PySem.W.codeIn K cd_Room_cut "Room.cut" = true)
    (k_Room_cut : PySem.W.keepIn K (.ref f_Room_cut) = true)
    (a_Room_value : PySem.W.findIn K (.ref C_Room) "value" = some (some (.ref f_Room_value)))
    (i_Room_value : PySem.W.isFn K (.ref f_Room_value) = true)
    (l_Room_value : K.lookup f_Room_value = some ⟨oc_Room_value, od_Room_value, .func (PySem.W.fnOf "value" "Room.value" (defArgs s_Room_value) (defBody s_Room_value) (defScope s_Room_value) .none kV_Room_value dc_Room_value pm_Room_value an_Room_value cd_Room_value ct_Room_value), sl_Room_value⟩)
    (c_Room_value : PySem.W.codeIn K cd_Room_value "Room.value" = true)
    (k_Room_value : PySem.W.keepIn K (.ref f_Room_value) = true)
    (a_Room_holder : PySem.W.findIn K (.ref C_Room) "holder" = some (some (.ref f_Room_holder)))
    (i_Room_holder : PySem.W.isFn K (.ref f_Room_holder) = true)
    (l_Room_holder : K.lookup f_Room_holder = some ⟨oc_Room_holder, od_Room_holder, .func (PySem.W.fnOf "holder" "Room.holder" (defArgs s_Room_holder) (defBody s_Room_holder) (defScope s_Room_holder) .none kV_Room_holder dc_Room_holder pm_Room_holder an_Room_holder cd_Room_holder ct_Room_holder), sl_Room_holder⟩)
    (c_Room_holder : PySem.W.codeIn K cd_Room_holder "Room.holder" = true)
    (k_Room_holder : PySem.W.keepIn K (.ref f_Room_holder) = true)
    (a_Room_pairs : PySem.W.findIn K (.ref C_Room) "pairs" = some (some (.ref f_Room_pairs)))
    (i_Room_pairs : PySem.W.isFn K (.ref f_Room_pairs) = true)
    (l_Room_pairs : K.lookup f_Room_pairs = some ⟨oc_Room_pairs, od_Room_pairs, .func (PySem.W.fnOf "pairs" "Room.pairs" (defArgs s_Room_pairs) (defBody s_Room_pairs) (defScope s_Room_pairs) .none kV_Room_pairs dc_Room_pairs pm_Room_pairs an_Room_pairs cd_Room_pairs ct_Room_pairs), sl_Room_pairs⟩)
    (c_Room_pairs : PySem.W.codeIn K cd_Room_pairs "Room.pairs" = true)
    (k_Room_pairs : PySem.W.keepIn K (.ref f_Room_pairs) = true)
    (a_Room_last : PySem.W.findIn K (.ref C_Room) "last" = some (some (.ref f_Room_last)))
    (i_Room_last : PySem.W.isFn K (.ref f_Room_last) = true)
    (l_Room_last : K.lookup f_Room_last = some ⟨oc_Room_last, od_Room_last, .func (PySem.W.fnOf "last" "Room.last" (defArgs s_Room_last) (defBody s_Room_last) (defScope s_Room_last) .none kV_Room_last dc_Room_last pm_Room_last an_Room_last cd_Room_last ct_Room_last), sl_Room_last⟩)
    (c_Room_last : PySem.W.codeIn K cd_Room_last "Room.last" = true)
    (k_Room_last : PySem.W.keepIn K (.ref f_Room_last) = true)
    (a_Room_first : PySem.W.findIn K (.ref C_Room) "first" = some (some (.ref f_Room_first)))
    (i_Room_first : PySem.W.isFn K (.ref f_Room_first) = true)
    (l_Room_first : K.lookup f_Room_first = some ⟨oc_Room_first, od_Room_first, .func (PySem.W.fnOf "first" "Room.first" (defArgs s_Room_first) (defBody s_Room_first) (defScope s_Room_first) .none kV_Room_first dc_Room_first pm_Room_first an_Room_first cd_Room_first ct_Room_first), sl_Room_first⟩)
    (c_Room_first : PySem.W.codeIn K cd_Room_first "Room.first" = true)
    (k_Room_first : PySem.W.keepIn K (.ref f_Room_first) = true)
    (a_Room_watch : PySem.W.findIn K (.ref C_Room) "watch" = some (some (.ref f_Room_watch)))
    (i_Room_watch : PySem.W.isFn K (.ref f_Room_watch) = true)
    (l_Room_watch : K.lookup f_Room_watch = some ⟨oc_Room_watch, od_Room_watch, .func (PySem.W.fnOf "watch" "Room.watch" (defArgs s_Room_watch) (defBody s_Room_watch) (defScope s_Room_watch) .none kV_Room_watch dc_Room_watch pm_Room_watch an_Room_watch cd_Room_watch ct_Room_watch), sl_Room_watch⟩)
    (c_Room_watch : PySem.W.codeIn K cd_Room_watch "Room.watch" = true)
    (k_Room_watch : PySem.W.keepIn K (.ref f_Room_watch) = true)
    (a_Room_pull : PySem.W.findIn K (.ref C_Room) "pull" = some (some (.ref f_Room_pull)))
    (i_Room_pull : PySem.W.isFn K (.ref f_Room_pull) = true)
    (l_Room_pull : K.lookup f_Room_pull = some ⟨oc_Room_pull, od_Room_pull, .func (PySem.W.fnOf "pull" "Room.pull" (defArgs s_Room_pull) (defBody s_Room_pull) (defScope s_Room_pull) .none kV_Room_pull dc_Room_pull pm_Room_pull an_Room_pull cd_Room_pull ct_Room_pull), sl_Room_pull⟩)
    (c_Room_pull : PySem.W.codeIn K cd_Room_pull "Room.pull" = true)
    (k_Room_pull : PySem.W.keepIn K (.ref f_Room_pull) = true)
    (a_Room_confirm : PySem.W.findIn K (.ref C_Room) "confirm" = some (some (.ref f_Room_confirm)))
    (i_Room_confirm : PySem.W.isFn K (.ref f_Room_confirm) = true)
    (l_Room_confirm : K.lookup f_Room_confirm = some ⟨oc_Room_confirm, od_Room_confirm, .func (PySem.W.fnOf "confirm" "Room.confirm" (defArgs s_Room_confirm) (defBody s_Room_confirm) (defScope s_Room_confirm) .none kV_Room_confirm dc_Room_confirm pm_Room_confirm an_Room_confirm cd_Room_confirm ct_Room_confirm), sl_Room_confirm⟩)
    (c_Room_confirm : PySem.W.codeIn K cd_Room_confirm "Room.confirm" = true)
    (k_Room_confirm : PySem.W.keepIn K (.ref f_Room_confirm) = true)
    (a_Room_broken : PySem.W.findIn K (.ref C_Room) "broken" = some (some (.ref f_Room_broken)))
    (i_Room_broken : PySem.W.isFn K (.ref f_Room_broken) = true)
    (l_Room_broken : K.lookup f_Room_broken = some ⟨oc_Room_broken, od_Room_broken, .func (PySem.W.fnOf "broken" "Room.broken" (defArgs s_Room_broken) (defBody s_Room_broken) (defScope s_Room_broken) .none kV_Room_broken dc_Room_broken pm_Room_broken an_Room_broken cd_Room_broken ct_Room_broken), sl_Room_broken⟩)
    (c_Room_broken : PySem.W.codeIn K cd_Room_broken "Room.broken" = true)
    (k_Room_broken : PySem.W.keepIn K (.ref f_Room_broken) = true)
    (a_Room_trim : PySem.W.findIn K (.ref C_Room) "trim" = some (some (.ref f_Room_trim)))
    (i_Room_trim : PySem.W.isFn K (.ref f_Room_trim) = true)
    (l_Room_trim : K.lookup f_Room_trim = some ⟨oc_Room_trim, od_Room_trim, .func (PySem.W.fnOf "trim" "Room.trim" (defArgs s_Room_trim) (defBody s_Room_trim) (defScope s_Room_trim) .none kV_Room_trim dc_Room_trim pm_Room_trim an_Room_trim cd_Room_trim ct_Room_trim), sl_Room_trim⟩)
    (c_Room_trim : PySem.W.codeIn K cd_Room_trim "Room.trim" = true)
    (k_Room_trim : PySem.W.keepIn K (.ref f_Room_trim) = true)
    (a_Room_u_end : PySem.W.findIn K (.ref C_Room) "_end" = some (some (.ref f_Room_u_end)))
    (i_Room_u_end : PySem.W.isFn K (.ref f_Room_u_end) = true)
    (l_Room_u_end : K.lookup f_Room_u_end = some ⟨oc_Room_u_end, od_Room_u_end, .func (PySem.W.fnOf "_end" "Room._end" (defArgs s_Room_u_end) (defBody s_Room_u_end) (defScope s_Room_u_end) .none kV_Room_u_end dc_Room_u_end pm_Room_u_end an_Room_u_end cd_Room_u_end ct_Room_u_end), sl_Room_u_end⟩)
    (c_Room_u_end : PySem.W.codeIn K cd_Room_u_end "Room._end" = true)
    (k_Room_u_end : PySem.W.keepIn K (.ref f_Room_u_end) = true)
    (a_Room_u_take_out : PySem.W.findIn K (.ref C_Room) "_take_out" = some (some (.ref f_Room_u_take_out)))
    (i_Room_u_take_out : PySem.W.isFn K (.ref f_Room_u_take_out) = true)
    (l_Room_u_take_out : K.lookup f_Room_u_take_out = some ⟨oc_Room_u_take_out, od_Room_u_take_out, .func (PySem.W.fnOf "_take_out" "Room._take_out" (defArgs s_Room_u_take_out) (defBody s_Room_u_take_out) (defScope s_Room_u_take_out) .none kV_Room_u_take_out dc_Room_u_take_out pm_Room_u_take_out an_Room_u_take_out cd_Room_u_take_out ct_Room_u_take_out), sl_Room_u_take_out⟩)
    (c_Room_u_take_out : PySem.W.codeIn K cd_Room_u_take_out "Room._take_out" = true)
    (k_Room_u_take_out : PySem.W.keepIn K (.ref f_Room_u_take_out) = true)
    (a_Room_u_refuse_lease : PySem.W.findIn K (.ref C_Room) "_refuse_lease" = some (some (.ref f_Room_u_refuse_lease)))
    (i_Room_u_refuse_lease : PySem.W.isFn K (.ref f_Room_u_refuse_lease) = true)
    (l_Room_u_refuse_lease : K.lookup f_Room_u_refuse_lease = some ⟨oc_Room_u_refuse_lease, od_Room_u_refuse_lease, .func (PySem.W.fnOf "_refuse_lease" "Room._refuse_lease" (defArgs s_Room_u_refuse_lease) (defBody s_Room_u_refuse_lease) (defScope s_Room_u_refuse_lease) .none kV_Room_u_refuse_lease dc_Room_u_refuse_lease pm_Room_u_refuse_lease an_Room_u_refuse_lease cd_Room_u_refuse_lease ct_Room_u_refuse_lease), sl_Room_u_refuse_lease⟩)
    (c_Room_u_refuse_lease : PySem.W.codeIn K cd_Room_u_refuse_lease "Room._refuse_lease" = true)
    (k_Room_u_refuse_lease : PySem.W.keepIn K (.ref f_Room_u_refuse_lease) = true)
    (a_Room_u_refuse_held : PySem.W.findIn K (.ref C_Room) "_refuse_held" = some (some (.ref f_Room_u_refuse_held)))
    (i_Room_u_refuse_held : PySem.W.isFn K (.ref f_Room_u_refuse_held) = true)
    (l_Room_u_refuse_held : K.lookup f_Room_u_refuse_held = some ⟨oc_Room_u_refuse_held, od_Room_u_refuse_held, .func (PySem.W.fnOf "_refuse_held" "Room._refuse_held" (defArgs s_Room_u_refuse_held) (defBody s_Room_u_refuse_held) (defScope s_Room_u_refuse_held) .none kV_Room_u_refuse_held dc_Room_u_refuse_held pm_Room_u_refuse_held an_Room_u_refuse_held cd_Room_u_refuse_held ct_Room_u_refuse_held), sl_Room_u_refuse_held⟩)
    (c_Room_u_refuse_held : PySem.W.codeIn K cd_Room_u_refuse_held "Room._refuse_held" = true)
    (k_Room_u_refuse_held : PySem.W.keepIn K (.ref f_Room_u_refuse_held) = true)
    (a_Room_u_watching : PySem.W.findIn K (.ref C_Room) "_watching" = some (some (.ref f_Room_u_watching)))
    (i_Room_u_watching : PySem.W.isFn K (.ref f_Room_u_watching) = true)
    (l_Room_u_watching : K.lookup f_Room_u_watching = some ⟨oc_Room_u_watching, od_Room_u_watching, .func (PySem.W.fnOf "_watching" "Room._watching" (defArgs s_Room_u_watching) (defBody s_Room_u_watching) (defScope s_Room_u_watching) .none kV_Room_u_watching dc_Room_u_watching pm_Room_u_watching an_Room_u_watching cd_Room_u_watching ct_Room_u_watching), sl_Room_u_watching⟩)
    (c_Room_u_watching : PySem.W.codeIn K cd_Room_u_watching "Room._watching" = true)
    (k_Room_u_watching : PySem.W.keepIn K (.ref f_Room_u_watching) = true)
    (a_Room_u_refuse_watcher : PySem.W.findIn K (.ref C_Room) "_refuse_watcher" = some (some (.ref f_Room_u_refuse_watcher)))
    (i_Room_u_refuse_watcher : PySem.W.isFn K (.ref f_Room_u_refuse_watcher) = true)
    (l_Room_u_refuse_watcher : K.lookup f_Room_u_refuse_watcher = some ⟨oc_Room_u_refuse_watcher, od_Room_u_refuse_watcher, .func (PySem.W.fnOf "_refuse_watcher" "Room._refuse_watcher" (defArgs s_Room_u_refuse_watcher) (defBody s_Room_u_refuse_watcher) (defScope s_Room_u_refuse_watcher) .none kV_Room_u_refuse_watcher dc_Room_u_refuse_watcher pm_Room_u_refuse_watcher an_Room_u_refuse_watcher cd_Room_u_refuse_watcher ct_Room_u_refuse_watcher), sl_Room_u_refuse_watcher⟩)
    (c_Room_u_refuse_watcher : PySem.W.codeIn K cd_Room_u_refuse_watcher "Room._refuse_watcher" = true)
    (k_Room_u_refuse_watcher : PySem.W.keepIn K (.ref f_Room_u_refuse_watcher) = true)
    (a_arriving : PySem.W.nsIn K mainGlobals "arriving" = some (some (.ref f_arriving)))
    (l_arriving : K.lookup f_arriving = some ⟨oc_arriving, od_arriving, .func (PySem.W.fnOf "arriving" "arriving" (defArgs s_arriving) (defBody s_arriving) (defScope s_arriving) .none kV_arriving dc_arriving pm_arriving an_arriving cd_arriving ct_arriving), sl_arriving⟩)
    (c_arriving : PySem.W.codeIn K cd_arriving "arriving" = true)
    (k_arriving : PySem.W.keepIn K (.ref f_arriving) = true)
    (a_line_now : PySem.W.nsIn K mainGlobals "line_now" = some (some (.ref f_line_now)))
    (l_line_now : K.lookup f_line_now = some ⟨oc_line_now, od_line_now, .func (PySem.W.fnOf "line_now" "line_now" (defArgs s_line_now) (defBody s_line_now) (defScope s_line_now) .none kV_line_now dc_line_now pm_line_now an_line_now cd_line_now ct_line_now), sl_line_now⟩)
    (c_line_now : PySem.W.codeIn K cd_line_now "line_now" = true)
    (k_line_now : PySem.W.keepIn K (.ref f_line_now) = true)
    (a_whole : PySem.W.nsIn K mainGlobals "_law_whole" = some (some (.ref f_whole)))
    (l_whole : K.lookup f_whole = some ⟨oc_whole, od_whole, .func (PySem.W.fnOf "_law_whole" "_law_whole" (defArgs s_whole) (defBody s_whole) (defScope s_whole) .none kV_whole dc_whole pm_whole an_whole cd_whole ct_whole), sl_whole⟩)
    (c_whole : PySem.W.codeIn K cd_whole "_law_whole" = true)
    (k_whole : PySem.W.keepIn K (.ref f_whole) = true)
    (a_cell_at : PySem.W.nsIn K mainGlobals "_law_cell_at" = some (some (.ref f_cell_at)))
    (l_cell_at : K.lookup f_cell_at = some ⟨oc_cell_at, od_cell_at, .func (PySem.W.fnOf "_law_cell_at" "_law_cell_at" (defArgs s_cell_at) (defBody s_cell_at) (defScope s_cell_at) .none kV_cell_at dc_cell_at pm_cell_at an_cell_at cd_cell_at ct_cell_at), sl_cell_at⟩)
    (c_cell_at : PySem.W.codeIn K cd_cell_at "_law_cell_at" = true)
    (k_cell_at : PySem.W.keepIn K (.ref f_cell_at) = true)
    (a_sign : PySem.W.nsIn K mainGlobals "_law_sign" = some (some (.ref f_sign)))
    (l_sign : K.lookup f_sign = some ⟨oc_sign, od_sign, .func (PySem.W.fnOf "_law_sign" "_law_sign" (defArgs s_sign) (defBody s_sign) (defScope s_sign) .none kV_sign dc_sign pm_sign an_sign cd_sign ct_sign), sl_sign⟩)
    (c_sign : PySem.W.codeIn K cd_sign "_law_sign" = true)
    (k_sign : PySem.W.keepIn K (.ref f_sign) = true)
    (a_text : PySem.W.nsIn K mainGlobals "_law_text" = some (some (.ref f_text)))
    (l_text : K.lookup f_text = some ⟨oc_text, od_text, .func (PySem.W.fnOf "_law_text" "_law_text" (defArgs s_text) (defBody s_text) (defScope s_text) .none kV_text dc_text pm_text an_text cd_text ct_text), sl_text⟩)
    (c_text : PySem.W.codeIn K cd_text "_law_text" = true)
    (k_text : PySem.W.keepIn K (.ref f_text) = true)
    (a_pool : PySem.W.nsIn K mainGlobals "_law_pool" = some (some (.ref f_pool)))
    (l_pool : K.lookup f_pool = some ⟨oc_pool, od_pool, .func (PySem.W.fnOf "_law_pool" "_law_pool" (defArgs s_pool) (defBody s_pool) (defScope s_pool) .none kV_pool dc_pool pm_pool an_pool cd_pool ct_pool), sl_pool⟩)
    (c_pool : PySem.W.codeIn K cd_pool "_law_pool" = true)
    (k_pool : PySem.W.keepIn K (.ref f_pool) = true)
    (a_prefix : PySem.W.nsIn K mainGlobals "_law_prefix" = some (some (.ref f_prefix)))
    (l_prefix : K.lookup f_prefix = some ⟨oc_prefix, od_prefix, .func (PySem.W.fnOf "_law_prefix" "_law_prefix" (defArgs s_prefix) (defBody s_prefix) (defScope s_prefix) .none kV_prefix dc_prefix pm_prefix an_prefix cd_prefix ct_prefix), sl_prefix⟩)
    (c_prefix : PySem.W.codeIn K cd_prefix "_law_prefix" = true)
    (k_prefix : PySem.W.keepIn K (.ref f_prefix) = true)
    (a_only : PySem.W.nsIn K mainGlobals "_law_only" = some (some (.ref f_only)))
    (l_only : K.lookup f_only = some ⟨oc_only, od_only, .func (PySem.W.fnOf "_law_only" "_law_only" (defArgs s_only) (defBody s_only) (defScope s_only) .none kV_only dc_only pm_only an_only cd_only ct_only), sl_only⟩)
    (c_only : PySem.W.codeIn K cd_only "_law_only" = true)
    (k_only : PySem.W.keepIn K (.ref f_only) = true)
    (a_call : PySem.W.nsIn K mainGlobals "_law_call" = some (some (.ref f_call)))
    (l_call : K.lookup f_call = some ⟨oc_call, od_call, .func (PySem.W.fnOf "_law_call" "_law_call" (defArgs s_call) (defBody s_call) (defScope s_call) .none kV_call dc_call pm_call an_call cd_call ct_call), sl_call⟩)
    (c_call : PySem.W.codeIn K cd_call "_law_call" = true)
    (k_call : PySem.W.keepIn K (.ref f_call) = true)
    (a_done : PySem.W.nsIn K mainGlobals "_law_done" = some (some (.ref f_done)))
    (l_done : K.lookup f_done = some ⟨oc_done, od_done, .func (PySem.W.fnOf "_law_done" "_law_done" (defArgs s_done) (defBody s_done) (defScope s_done) .none kV_done dc_done pm_done an_done cd_done ct_done), sl_done⟩)
    (c_done : PySem.W.codeIn K cd_done "_law_done" = true)
    (k_done : PySem.W.keepIn K (.ref f_done) = true)
    (a_ticks : PySem.W.nsIn K mainGlobals "_law_ticks" = some (some (.ref f_ticks)))
    (l_ticks : K.lookup f_ticks = some ⟨oc_ticks, od_ticks, .func (PySem.W.fnOf "_law_ticks" "_law_ticks" (defArgs s_ticks) (defBody s_ticks) (defScope s_ticks) .none kV_ticks dc_ticks pm_ticks an_ticks cd_ticks ct_ticks), sl_ticks⟩)
    (c_ticks : PySem.W.codeIn K cd_ticks "_law_ticks" = true)
    (k_ticks : PySem.W.keepIn K (.ref f_ticks) = true)
    (a_deed : PySem.W.nsIn K mainGlobals "_law_deed" = some (some (.ref f_deed)))
    (l_deed : K.lookup f_deed = some ⟨oc_deed, od_deed, .func (PySem.W.fnOf "_law_deed" "_law_deed" (defArgs s_deed) (defBody s_deed) (defScope s_deed) .none kV_deed dc_deed pm_deed an_deed cd_deed ct_deed), sl_deed⟩)
    (c_deed : PySem.W.codeIn K cd_deed "_law_deed" = true)
    (k_deed : PySem.W.keepIn K (.ref f_deed) = true)
    (a_pairs : PySem.W.nsIn K mainGlobals "_law_pairs" = some (some (.ref f_pairs)))
    (l_pairs : K.lookup f_pairs = some ⟨oc_pairs, od_pairs, .func (PySem.W.fnOf "_law_pairs" "_law_pairs" (defArgs s_pairs) (defBody s_pairs) (defScope s_pairs) .none kV_pairs dc_pairs pm_pairs an_pairs cd_pairs ct_pairs), sl_pairs⟩)
    (c_pairs : PySem.W.codeIn K cd_pairs "_law_pairs" = true)
    (k_pairs : PySem.W.keepIn K (.ref f_pairs) = true)
    (a_did : PySem.W.nsIn K mainGlobals "_law_did" = some (some (.ref f_did)))
    (l_did : K.lookup f_did = some ⟨oc_did, od_did, .func (PySem.W.fnOf "_law_did" "_law_did" (defArgs s_did) (defBody s_did) (defScope s_did) .none kV_did dc_did pm_did an_did cd_did ct_did), sl_did⟩)
    (c_did : PySem.W.codeIn K cd_did "_law_did" = true)
    (k_did : PySem.W.keepIn K (.ref f_did) = true)
    (a_key : PySem.W.nsIn K mainGlobals "_law_key" = some (some (.ref f_key)))
    (l_key : K.lookup f_key = some ⟨oc_key, od_key, .func (PySem.W.fnOf "_law_key" "_law_key" (defArgs s_key) (defBody s_key) (defScope s_key) .none kV_key dc_key pm_key an_key cd_key ct_key), sl_key⟩)
    (c_key : PySem.W.codeIn K cd_key "_law_key" = true)
    (k_key : PySem.W.keepIn K (.ref f_key) = true)
    (a_crowd : PySem.W.nsIn K mainGlobals "_law_crowd" = some (some (.ref f_crowd)))
    (l_crowd : K.lookup f_crowd = some ⟨oc_crowd, od_crowd, .func (PySem.W.fnOf "_law_crowd" "_law_crowd" (defArgs s_crowd) (defBody s_crowd) (defScope s_crowd) .none kV_crowd dc_crowd pm_crowd an_crowd cd_crowd ct_crowd), sl_crowd⟩)
    (c_crowd : PySem.W.codeIn K cd_crowd "_law_crowd" = true)
    (k_crowd : PySem.W.keepIn K (.ref f_crowd) = true)
    (a_knows : PySem.W.nsIn K mainGlobals "_law_knows" = some (some (.ref f_knows)))
    (l_knows : K.lookup f_knows = some ⟨oc_knows, od_knows, .func (PySem.W.fnOf "_law_knows" "_law_knows" (defArgs s_knows) (defBody s_knows) (defScope s_knows) .none kV_knows dc_knows pm_knows an_knows cd_knows ct_knows), sl_knows⟩)
    (c_knows : PySem.W.codeIn K cd_knows "_law_knows" = true)
    (k_knows : PySem.W.keepIn K (.ref f_knows) = true)
    (a_stand : PySem.W.nsIn K mainGlobals "_law_stand" = some (some (.ref f_stand)))
    (l_stand : K.lookup f_stand = some ⟨oc_stand, od_stand, .func (PySem.W.fnOf "_law_stand" "_law_stand" (defArgs s_stand) (defBody s_stand) (defScope s_stand) .none kV_stand dc_stand pm_stand an_stand cd_stand ct_stand), sl_stand⟩)
    (c_stand : PySem.W.codeIn K cd_stand "_law_stand" = true)
    (k_stand : PySem.W.keepIn K (.ref f_stand) = true)
    (a_begun : PySem.W.nsIn K mainGlobals "_law_begun" = some (some (.ref f_begun)))
    (l_begun : K.lookup f_begun = some ⟨oc_begun, od_begun, .func (PySem.W.fnOf "_law_begun" "_law_begun" (defArgs s_begun) (defBody s_begun) (defScope s_begun) .none kV_begun dc_begun pm_begun an_begun cd_begun ct_begun), sl_begun⟩)
    (c_begun : PySem.W.codeIn K cd_begun "_law_begun" = true)
    (k_begun : PySem.W.keepIn K (.ref f_begun) = true)
    (a_step : PySem.W.nsIn K mainGlobals "_law_step" = some (some (.ref f_step)))
    (l_step : K.lookup f_step = some ⟨oc_step, od_step, .func (PySem.W.fnOf "_law_step" "_law_step" (defArgs s_step) (defBody s_step) (defScope s_step) .none kV_step dc_step pm_step an_step cd_step ct_step), sl_step⟩)
    (c_step : PySem.W.codeIn K cd_step "_law_step" = true)
    (k_step : PySem.W.keepIn K (.ref f_step) = true)
    (a_law : PySem.W.nsIn K mainGlobals "law" = some (some (.ref f_law)))
    (l_law : K.lookup f_law = some ⟨oc_law, od_law, .func (PySem.W.fnOf "law" "law" (defArgs s_law) (defBody s_law) (defScope s_law) .none kV_law dc_law pm_law an_law cd_law ct_law), sl_law⟩)
    (c_law : PySem.W.codeIn K cd_law "law" = true)
    (k_law : PySem.W.keepIn K (.ref f_law) = true)
    (pg_Ear : PySem.W.plainGet K C_Ear Str.empty = true)
    (hd_Ear : PySem.W.hasDictIn K C_Ear = true)
    (po_Ear : PySem.W.plainOver K C_Ear = true)
    (sa_Ear : PySem.W.findIn K (.ref C_Ear) "__setattr__" = some (some (.builtin "object.__setattr__")))
    (mk_Ear : PySem.W.makesIn K C_Ear = true)
    (kc_Ear : PySem.W.keepIn K (.ref C_Ear) = true)
    (n0_Ear : PySem.W.findIn K (.ref C_Ear) "_last" = some none)
    (n1_Ear : PySem.W.findIn K (.ref C_Ear) "_taken" = some none)
    (n2_Ear : PySem.W.findIn K (.ref C_Ear) "_standing" = some none)
    (pg_Line : PySem.W.plainGet K C_Line Str.empty = true)
    (hd_Line : PySem.W.hasDictIn K C_Line = true)
    (po_Line : PySem.W.plainOver K C_Line = true)
    (sa_Line : PySem.W.findIn K (.ref C_Line) "__setattr__" = some (some (.builtin "object.__setattr__")))
    (mk_Line : PySem.W.makesIn K C_Line = true)
    (kc_Line : PySem.W.keepIn K (.ref C_Line) = true)
    (n0_Line : PySem.W.findIn K (.ref C_Line) "_room" = some none)
    (n1_Line : PySem.W.findIn K (.ref C_Line) "watcher" = some none)
    (n2_Line : PySem.W.findIn K (.ref C_Line) "ear" = some none)
    (pg_Leases : PySem.W.plainGet K C_Leases Str.empty = true)
    (hd_Leases : PySem.W.hasDictIn K C_Leases = true)
    (po_Leases : PySem.W.plainOver K C_Leases = true)
    (sa_Leases : PySem.W.findIn K (.ref C_Leases) "__setattr__" = some (some (.builtin "object.__setattr__")))
    (mk_Leases : PySem.W.makesIn K C_Leases = true)
    (kc_Leases : PySem.W.keepIn K (.ref C_Leases) = true)
    (n0_Leases : PySem.W.findIn K (.ref C_Leases) "_given" = some none)
    (n1_Leases : PySem.W.findIn K (.ref C_Leases) "_ticks" = some none)
    (n2_Leases : PySem.W.findIn K (.ref C_Leases) "_ends" = some none)
    (pg_Log : PySem.W.plainGet K C_Log Str.empty = true)
    (hd_Log : PySem.W.hasDictIn K C_Log = true)
    (po_Log : PySem.W.plainOver K C_Log = true)
    (sa_Log : PySem.W.findIn K (.ref C_Log) "__setattr__" = some (some (.builtin "object.__setattr__")))
    (mk_Log : PySem.W.makesIn K C_Log = true)
    (kc_Log : PySem.W.keepIn K (.ref C_Log) = true)
    (n0_Log : PySem.W.findIn K (.ref C_Log) "_forgotten" = some none)
    (n1_Log : PySem.W.findIn K (.ref C_Log) "_kept" = some none)
    (pg_Watcher : PySem.W.plainGet K C_Watcher Str.empty = true)
    (hd_Watcher : PySem.W.hasDictIn K C_Watcher = true)
    (po_Watcher : PySem.W.plainOver K C_Watcher = true)
    (sa_Watcher : PySem.W.findIn K (.ref C_Watcher) "__setattr__" = some (some (.builtin "object.__setattr__")))
    (mk_Watcher : PySem.W.makesIn K C_Watcher = true)
    (kc_Watcher : PySem.W.keepIn K (.ref C_Watcher) = true)
    (n0_Watcher : PySem.W.findIn K (.ref C_Watcher) "prefix" = some none)
    (n1_Watcher : PySem.W.findIn K (.ref C_Watcher) "told" = some none)
    (n2_Watcher : PySem.W.findIn K (.ref C_Watcher) "had" = some none)
    (pg_Room : PySem.W.plainGet K C_Room Str.empty = true)
    (hd_Room : PySem.W.hasDictIn K C_Room = true)
    (po_Room : PySem.W.plainOver K C_Room = true)
    (sa_Room : PySem.W.findIn K (.ref C_Room) "__setattr__" = some (some (.builtin "object.__setattr__")))
    (mk_Room : PySem.W.makesIn K C_Room = true)
    (kc_Room : PySem.W.keepIn K (.ref C_Room) = true)
    (n0_Room : PySem.W.findIn K (.ref C_Room) "now" = some none)
    (n1_Room : PySem.W.findIn K (.ref C_Room) "_leases" = some none)
    (n2_Room : PySem.W.findIn K (.ref C_Room) "_log" = some none)
    (n3_Room : PySem.W.findIn K (.ref C_Room) "_values" = some none)
    (n4_Room : PySem.W.findIn K (.ref C_Room) "_holders" = some none)
    (n5_Room : PySem.W.findIn K (.ref C_Room) "_entered" = some none)
    (n6_Room : PySem.W.findIn K (.ref C_Room) "_watchers" = some none)
    (m_WELL : PySem.W.nsIn K mainGlobals "WELL" = some (some (.int 0 tm_WELL)))
    (m_ROW_LOST : PySem.W.nsIn K mainGlobals "ROW_LOST" = some (some (.int 1 tm_ROW_LOST)))
    (m_BROKEN_MIDST : PySem.W.nsIn K mainGlobals "BROKEN_MIDST" = some (some (.int 3 tm_BROKEN_MIDST)))
    (m_MOST_TICKS : PySem.W.nsIn K mainGlobals "MOST_TICKS" = some (some (.int 1000000 tm_MOST_TICKS)))
    (e_LeaseError : PySem.W.nsIn K mainGlobals "LeaseError" = some (some (.ref E_LeaseError)))
    (e_BadTicks : PySem.W.nsIn K mainGlobals "BadTicks" = some (some (.ref E_BadTicks)))
    (e_NoLease : PySem.W.nsIn K mainGlobals "NoLease" = some (some (.ref E_NoLease)))
    (e_NoKey : PySem.W.nsIn K mainGlobals "NoKey" = some (some (.ref E_NoKey)))
    (e_Held : PySem.W.nsIn K mainGlobals "Held" = some (some (.ref E_Held)))
    (e_NoStart : PySem.W.nsIn K mainGlobals "NoStart" = some (some (.ref E_NoStart)))
    (e_NoWatch : PySem.W.nsIn K mainGlobals "NoWatch" = some (some (.ref E_NoWatch)))
    (hd_LeaseError : PySem.W.hasDictIn K E_LeaseError = true)
    (t_LeaseError : PySem.W.typeIn K (.ref E_LeaseError) = some (.type "type"))
    (hd_BadTicks : PySem.W.hasDictIn K E_BadTicks = true)
    (t_BadTicks : PySem.W.typeIn K (.ref E_BadTicks) = some (.type "type"))
    (hd_NoLease : PySem.W.hasDictIn K E_NoLease = true)
    (t_NoLease : PySem.W.typeIn K (.ref E_NoLease) = some (.type "type"))
    (hd_NoKey : PySem.W.hasDictIn K E_NoKey = true)
    (t_NoKey : PySem.W.typeIn K (.ref E_NoKey) = some (.type "type"))
    (hd_Held : PySem.W.hasDictIn K E_Held = true)
    (t_Held : PySem.W.typeIn K (.ref E_Held) = some (.type "type"))
    (hd_NoStart : PySem.W.hasDictIn K E_NoStart = true)
    (t_NoStart : PySem.W.typeIn K (.ref E_NoStart) = some (.type "type"))
    (hd_NoWatch : PySem.W.hasDictIn K E_NoWatch = true)
    (t_NoWatch : PySem.W.typeIn K (.ref E_NoWatch) = some (.type "type"))
    (b_LeaseError : PySem.W.subIn K (.ref E_LeaseError) (.type "BaseException") = some true)
    (x_BadTicks : PySem.W.excIn K E_BadTicks [.type "ValueError", .type "Exception", .type "BaseException", .type "object"] "ValueError.__new__" = true)
    (kp_BadTicks : PySem.W.keepIn K (.ref E_BadTicks) = true)
    (b_BadTicks : PySem.W.subIn K (.ref E_BadTicks) (.type "BaseException") = some true)
    (ga_BadTicks : PySem.W.findIn K (.ref E_BadTicks) "__getattribute__" = some (some (.builtin "BaseException.__getattribute__")))
    (gt_BadTicks : PySem.W.findIn K (.ref E_BadTicks) "__getattr__" = some none)
    (cl_BadTicks : PySem.W.findIn K (.ref E_BadTicks) "__class__" = some (some (.builtin "object.__class__")))
    (mr_BadTicks : PySem.W.mroIn K E_BadTicks (.type "object") = some true)
    (o_BadTicks_BadTicks : PySem.W.subIn K (.ref E_BadTicks) (.ref E_BadTicks) = some true)
    (o_BadTicks_NoLease : PySem.W.subIn K (.ref E_BadTicks) (.ref E_NoLease) = some false)
    (o_BadTicks_NoKey : PySem.W.subIn K (.ref E_BadTicks) (.ref E_NoKey) = some false)
    (o_BadTicks_Held : PySem.W.subIn K (.ref E_BadTicks) (.ref E_Held) = some false)
    (o_BadTicks_NoStart : PySem.W.subIn K (.ref E_BadTicks) (.ref E_NoStart) = some false)
    (o_BadTicks_NoWatch : PySem.W.subIn K (.ref E_BadTicks) (.ref E_NoWatch) = some false)
    (ov_BadTicks : PySem.W.subIn K (.ref E_BadTicks) (.type "ValueError") = some true)
    (q_BadTicks : PySem.W.subIn K (.ref E_BadTicks) (.ref E_LeaseError) = some true)
    (x_NoLease : PySem.W.excIn K E_NoLease [.type "ValueError", .type "Exception", .type "BaseException", .type "object"] "ValueError.__new__" = true)
    (kp_NoLease : PySem.W.keepIn K (.ref E_NoLease) = true)
    (b_NoLease : PySem.W.subIn K (.ref E_NoLease) (.type "BaseException") = some true)
    (ga_NoLease : PySem.W.findIn K (.ref E_NoLease) "__getattribute__" = some (some (.builtin "BaseException.__getattribute__")))
    (gt_NoLease : PySem.W.findIn K (.ref E_NoLease) "__getattr__" = some none)
    (cl_NoLease : PySem.W.findIn K (.ref E_NoLease) "__class__" = some (some (.builtin "object.__class__")))
    (mr_NoLease : PySem.W.mroIn K E_NoLease (.type "object") = some true)
    (o_NoLease_BadTicks : PySem.W.subIn K (.ref E_NoLease) (.ref E_BadTicks) = some false)
    (o_NoLease_NoLease : PySem.W.subIn K (.ref E_NoLease) (.ref E_NoLease) = some true)
    (o_NoLease_NoKey : PySem.W.subIn K (.ref E_NoLease) (.ref E_NoKey) = some false)
    (o_NoLease_Held : PySem.W.subIn K (.ref E_NoLease) (.ref E_Held) = some false)
    (o_NoLease_NoStart : PySem.W.subIn K (.ref E_NoLease) (.ref E_NoStart) = some false)
    (o_NoLease_NoWatch : PySem.W.subIn K (.ref E_NoLease) (.ref E_NoWatch) = some false)
    (ov_NoLease : PySem.W.subIn K (.ref E_NoLease) (.type "ValueError") = some true)
    (q_NoLease : PySem.W.subIn K (.ref E_NoLease) (.ref E_LeaseError) = some true)
    (x_NoKey : PySem.W.excIn K E_NoKey [.type "ValueError", .type "Exception", .type "BaseException", .type "object"] "ValueError.__new__" = true)
    (kp_NoKey : PySem.W.keepIn K (.ref E_NoKey) = true)
    (b_NoKey : PySem.W.subIn K (.ref E_NoKey) (.type "BaseException") = some true)
    (ga_NoKey : PySem.W.findIn K (.ref E_NoKey) "__getattribute__" = some (some (.builtin "BaseException.__getattribute__")))
    (gt_NoKey : PySem.W.findIn K (.ref E_NoKey) "__getattr__" = some none)
    (cl_NoKey : PySem.W.findIn K (.ref E_NoKey) "__class__" = some (some (.builtin "object.__class__")))
    (mr_NoKey : PySem.W.mroIn K E_NoKey (.type "object") = some true)
    (o_NoKey_BadTicks : PySem.W.subIn K (.ref E_NoKey) (.ref E_BadTicks) = some false)
    (o_NoKey_NoLease : PySem.W.subIn K (.ref E_NoKey) (.ref E_NoLease) = some false)
    (o_NoKey_NoKey : PySem.W.subIn K (.ref E_NoKey) (.ref E_NoKey) = some true)
    (o_NoKey_Held : PySem.W.subIn K (.ref E_NoKey) (.ref E_Held) = some false)
    (o_NoKey_NoStart : PySem.W.subIn K (.ref E_NoKey) (.ref E_NoStart) = some false)
    (o_NoKey_NoWatch : PySem.W.subIn K (.ref E_NoKey) (.ref E_NoWatch) = some false)
    (ov_NoKey : PySem.W.subIn K (.ref E_NoKey) (.type "ValueError") = some true)
    (q_NoKey : PySem.W.subIn K (.ref E_NoKey) (.ref E_LeaseError) = some true)
    (x_Held : PySem.W.excIn K E_Held [.type "ValueError", .type "Exception", .type "BaseException", .type "object"] "ValueError.__new__" = true)
    (kp_Held : PySem.W.keepIn K (.ref E_Held) = true)
    (b_Held : PySem.W.subIn K (.ref E_Held) (.type "BaseException") = some true)
    (ga_Held : PySem.W.findIn K (.ref E_Held) "__getattribute__" = some (some (.builtin "BaseException.__getattribute__")))
    (gt_Held : PySem.W.findIn K (.ref E_Held) "__getattr__" = some none)
    (cl_Held : PySem.W.findIn K (.ref E_Held) "__class__" = some (some (.builtin "object.__class__")))
    (mr_Held : PySem.W.mroIn K E_Held (.type "object") = some true)
    (o_Held_BadTicks : PySem.W.subIn K (.ref E_Held) (.ref E_BadTicks) = some false)
    (o_Held_NoLease : PySem.W.subIn K (.ref E_Held) (.ref E_NoLease) = some false)
    (o_Held_NoKey : PySem.W.subIn K (.ref E_Held) (.ref E_NoKey) = some false)
    (o_Held_Held : PySem.W.subIn K (.ref E_Held) (.ref E_Held) = some true)
    (o_Held_NoStart : PySem.W.subIn K (.ref E_Held) (.ref E_NoStart) = some false)
    (o_Held_NoWatch : PySem.W.subIn K (.ref E_Held) (.ref E_NoWatch) = some false)
    (ov_Held : PySem.W.subIn K (.ref E_Held) (.type "ValueError") = some true)
    (q_Held : PySem.W.subIn K (.ref E_Held) (.ref E_LeaseError) = some true)
    (x_NoStart : PySem.W.excIn K E_NoStart [.type "ValueError", .type "Exception", .type "BaseException", .type "object"] "ValueError.__new__" = true)
    (kp_NoStart : PySem.W.keepIn K (.ref E_NoStart) = true)
    (b_NoStart : PySem.W.subIn K (.ref E_NoStart) (.type "BaseException") = some true)
    (ga_NoStart : PySem.W.findIn K (.ref E_NoStart) "__getattribute__" = some (some (.builtin "BaseException.__getattribute__")))
    (gt_NoStart : PySem.W.findIn K (.ref E_NoStart) "__getattr__" = some none)
    (cl_NoStart : PySem.W.findIn K (.ref E_NoStart) "__class__" = some (some (.builtin "object.__class__")))
    (mr_NoStart : PySem.W.mroIn K E_NoStart (.type "object") = some true)
    (o_NoStart_BadTicks : PySem.W.subIn K (.ref E_NoStart) (.ref E_BadTicks) = some false)
    (o_NoStart_NoLease : PySem.W.subIn K (.ref E_NoStart) (.ref E_NoLease) = some false)
    (o_NoStart_NoKey : PySem.W.subIn K (.ref E_NoStart) (.ref E_NoKey) = some false)
    (o_NoStart_Held : PySem.W.subIn K (.ref E_NoStart) (.ref E_Held) = some false)
    (o_NoStart_NoStart : PySem.W.subIn K (.ref E_NoStart) (.ref E_NoStart) = some true)
    (o_NoStart_NoWatch : PySem.W.subIn K (.ref E_NoStart) (.ref E_NoWatch) = some false)
    (ov_NoStart : PySem.W.subIn K (.ref E_NoStart) (.type "ValueError") = some true)
    (q_NoStart : PySem.W.subIn K (.ref E_NoStart) (.ref E_LeaseError) = some true)
    (x_NoWatch : PySem.W.excIn K E_NoWatch [.type "ValueError", .type "Exception", .type "BaseException", .type "object"] "ValueError.__new__" = true)
    (kp_NoWatch : PySem.W.keepIn K (.ref E_NoWatch) = true)
    (b_NoWatch : PySem.W.subIn K (.ref E_NoWatch) (.type "BaseException") = some true)
    (ga_NoWatch : PySem.W.findIn K (.ref E_NoWatch) "__getattribute__" = some (some (.builtin "BaseException.__getattribute__")))
    (gt_NoWatch : PySem.W.findIn K (.ref E_NoWatch) "__getattr__" = some none)
    (cl_NoWatch : PySem.W.findIn K (.ref E_NoWatch) "__class__" = some (some (.builtin "object.__class__")))
    (mr_NoWatch : PySem.W.mroIn K E_NoWatch (.type "object") = some true)
    (o_NoWatch_BadTicks : PySem.W.subIn K (.ref E_NoWatch) (.ref E_BadTicks) = some false)
    (o_NoWatch_NoLease : PySem.W.subIn K (.ref E_NoWatch) (.ref E_NoLease) = some false)
    (o_NoWatch_NoKey : PySem.W.subIn K (.ref E_NoWatch) (.ref E_NoKey) = some false)
    (o_NoWatch_Held : PySem.W.subIn K (.ref E_NoWatch) (.ref E_Held) = some false)
    (o_NoWatch_NoStart : PySem.W.subIn K (.ref E_NoWatch) (.ref E_NoStart) = some false)
    (o_NoWatch_NoWatch : PySem.W.subIn K (.ref E_NoWatch) (.ref E_NoWatch) = some true)
    (ov_NoWatch : PySem.W.subIn K (.ref E_NoWatch) (.type "ValueError") = some true)
    (q_NoWatch : PySem.W.subIn K (.ref E_NoWatch) (.ref E_LeaseError) = some true)
    (sp : PySem.W.specialIn K (.builtin "object.__class__") "__get__" = some (some (.builtin "getset_descriptor.__get__")))
    (tk : PySem.W.takesIn K (.builtin "object.__class__") = some true)
    (ic_Line : PySem.W.findIn K (.ref C_Line) "__class__" = some (some (.builtin "object.__class__")))
    (im_Line : PySem.W.mroIn K C_Line (.type "object") = some true)
    (z_ValueError : PySem.W.nsIn K mainGlobals "ValueError" = some none)
    (z_bool : PySem.W.nsIn K mainGlobals "bool" = some none)
    (z_int : PySem.W.nsIn K mainGlobals "int" = some none)
    (z_isinstance : PySem.W.nsIn K mainGlobals "isinstance" = some none)
    (z_len : PySem.W.nsIn K mainGlobals "len" = some none)
    (z_list : PySem.W.nsIn K mainGlobals "list" = some none)
    (z_max : PySem.W.nsIn K mainGlobals "max" = some none)
    (z_min : PySem.W.nsIn K mainGlobals "min" = some none)
    (z_range : PySem.W.nsIn K mainGlobals "range" = some none)
    (z_sorted : PySem.W.nsIn K mainGlobals "sorted" = some none)
    (z_str : PySem.W.nsIn K mainGlobals "str" = some none)
    (z_tuple : PySem.W.nsIn K mainGlobals "tuple" = some none)
    : ∃ fd : FuncData, (∀ (s : Shared) (v : Value), BindsTo s fd ⟨[v], []⟩ [("_law_script", v)]) ∧ ∀ base : Heap, K.In base → base.Ns mainGlobals mg → FnOk l.prog w K mg base CX0 14 fa fd ["_law_script"] (spLaw K) := by
  have e := hfa.symm.trans (PySem.W.mg_of X G a_law)
  cases e
  have Z_ValueError := PySem.W.mg_none_of X G z_ValueError
  have Z_bool := PySem.W.mg_none_of X G z_bool
  have Z_int := PySem.W.mg_none_of X G z_int
  have Z_isinstance := PySem.W.mg_none_of X G z_isinstance
  have Z_len := PySem.W.mg_none_of X G z_len
  have Z_list := PySem.W.mg_none_of X G z_list
  have Z_max := PySem.W.mg_none_of X G z_max
  have Z_min := PySem.W.mg_none_of X G z_min
  have Z_range := PySem.W.mg_none_of X G z_range
  have Z_sorted := PySem.W.mg_none_of X G z_sorted
  have Z_str := PySem.W.mg_none_of X G z_str
  have Z_tuple := PySem.W.mg_none_of X G z_tuple
  have LT : LTxt mg := ⟨Z_isinstance, Z_int, Z_bool, Z_str, Z_len, Z_sorted, Z_list, Z_tuple, Z_range⟩
  have cl_Ear : Cls K C_Ear := ⟨pg_Ear, hd_Ear, po_Ear, sa_Ear⟩
  have M_Ear : Mk K C_Ear f_Ear_init := ⟨mk_Ear, a_Ear_init, i_Ear_init, kc_Ear⟩
  have g_Ear := PySem.W.mg_of X G aC_Ear
  have cl_Line : Cls K C_Line := ⟨pg_Line, hd_Line, po_Line, sa_Line⟩
  have M_Line : Mk K C_Line f_Line_init := ⟨mk_Line, a_Line_init, i_Line_init, kc_Line⟩
  have g_Line := PySem.W.mg_of X G aC_Line
  have cl_Leases : Cls K C_Leases := ⟨pg_Leases, hd_Leases, po_Leases, sa_Leases⟩
  have M_Leases : Mk K C_Leases f_Leases_init := ⟨mk_Leases, a_Leases_init, i_Leases_init, kc_Leases⟩
  have g_Leases := PySem.W.mg_of X G aC_Leases
  have cl_Log : Cls K C_Log := ⟨pg_Log, hd_Log, po_Log, sa_Log⟩
  have M_Log : Mk K C_Log f_Log_init := ⟨mk_Log, a_Log_init, i_Log_init, kc_Log⟩
  have g_Log := PySem.W.mg_of X G aC_Log
  have cl_Watcher : Cls K C_Watcher := ⟨pg_Watcher, hd_Watcher, po_Watcher, sa_Watcher⟩
  have M_Watcher : Mk K C_Watcher f_Watcher_init := ⟨mk_Watcher, a_Watcher_init, i_Watcher_init, kc_Watcher⟩
  have g_Watcher := PySem.W.mg_of X G aC_Watcher
  have cl_Room : Cls K C_Room := ⟨pg_Room, hd_Room, po_Room, sa_Room⟩
  have M_Room : Mk K C_Room f_Room_init := ⟨mk_Room, a_Room_init, i_Room_init, kc_Room⟩
  have g_Room := PySem.W.mg_of X G aC_Room
  have F_Ear_hear := fun_mk (st := s_Ear_hear) l_Ear_hear c_Ear_hear k_Ear_hear
  have b_Ear_hear := F_Ear_hear.binds (ps := p_Ear_hear) fun _ _ _ _ _ _ us hl => match us, hl with | [_, _], _ => rfl
  have F_Ear_heard := fun_mk (st := s_Ear_heard) l_Ear_heard c_Ear_heard k_Ear_heard
  have b_Ear_heard := F_Ear_heard.binds (ps := p_Ear_heard) fun _ _ _ _ _ _ us hl => match us, hl with | [_], _ => rfl
  have F_Ear_state := fun_mk (st := s_Ear_state) l_Ear_state c_Ear_state k_Ear_state
  have b_Ear_state := F_Ear_state.binds (ps := p_Ear_state) fun _ _ _ _ _ _ us hl => match us, hl with | [_], _ => rfl
  have F_Ear_many := fun_mk (st := s_Ear_many) l_Ear_many c_Ear_many k_Ear_many
  have b_Ear_many := F_Ear_many.binds (ps := p_Ear_many) fun _ _ _ _ _ _ us hl => match us, hl with | [_], _ => rfl
  have F_Ear_u_take_in := fun_mk (st := s_Ear_u_take_in) l_Ear_u_take_in c_Ear_u_take_in k_Ear_u_take_in
  have b_Ear_u_take_in := F_Ear_u_take_in.binds (ps := p_Ear_u_take_in) fun _ _ _ _ _ _ us hl => match us, hl with | [_, _], _ => rfl
  have F_Line_turn := fun_mk (st := s_Line_turn) l_Line_turn c_Line_turn k_Line_turn
  have b_Line_turn := F_Line_turn.binds (ps := p_Line_turn) fun _ _ _ _ _ _ us hl => match us, hl with | [_, _, _], _ => rfl
  have F_Leases_init := fun_mk (st := s_Leases_init) l_Leases_init c_Leases_init k_Leases_init
  have b_Leases_init := F_Leases_init.binds (ps := p_Leases_init) fun _ _ _ _ _ _ us hl => match us, hl with | [_], _ => rfl
  have F_Leases_grant := fun_mk (st := s_Leases_grant) l_Leases_grant c_Leases_grant k_Leases_grant
  have b_Leases_grant := F_Leases_grant.binds (ps := p_Leases_grant) fun _ _ _ _ _ _ us hl => match us, hl with | [_, _, _], _ => rfl
  have F_Leases_renew := fun_mk (st := s_Leases_renew) l_Leases_renew c_Leases_renew k_Leases_renew
  have b_Leases_renew := F_Leases_renew.binds (ps := p_Leases_renew) fun _ _ _ _ _ _ us hl => match us, hl with | [_, _, _], _ => rfl
  have F_Leases_drop := fun_mk (st := s_Leases_drop) l_Leases_drop c_Leases_drop k_Leases_drop
  have b_Leases_drop := F_Leases_drop.binds (ps := p_Leases_drop) fun _ _ _ _ _ _ us hl => match us, hl with | [_, _], _ => rfl
  have F_Leases_due := fun_mk (st := s_Leases_due) l_Leases_due c_Leases_due k_Leases_due
  have b_Leases_due := F_Leases_due.binds (ps := p_Leases_due) fun _ _ _ _ _ _ us hl => match us, hl with | [_, _], _ => rfl
  have F_Leases_refuse_unknown := fun_mk (st := s_Leases_refuse_unknown) l_Leases_refuse_unknown c_Leases_refuse_unknown k_Leases_refuse_unknown
  have b_Leases_refuse_unknown := F_Leases_refuse_unknown.binds (ps := p_Leases_refuse_unknown) fun _ _ _ _ _ _ us hl => match us, hl with | [_, _], _ => rfl
  have F_Log_init := fun_mk (st := s_Log_init) l_Log_init c_Log_init k_Log_init
  have b_Log_init := F_Log_init.binds (ps := p_Log_init) fun _ _ _ _ _ _ us hl => match us, hl with | [_], _ => rfl
  have F_Log_note := fun_mk (st := s_Log_note) l_Log_note c_Log_note k_Log_note
  have b_Log_note := F_Log_note.binds (ps := p_Log_note) fun _ _ _ _ _ _ us hl => match us, hl with | [_, _, _, _, _], _ => rfl
  have F_Log_last := fun_mk (st := s_Log_last) l_Log_last c_Log_last k_Log_last
  have b_Log_last := F_Log_last.binds (ps := p_Log_last) fun _ _ _ _ _ _ us hl => match us, hl with | [_], _ => rfl
  have F_Log_first := fun_mk (st := s_Log_first) l_Log_first c_Log_first k_Log_first
  have b_Log_first := F_Log_first.binds (ps := p_Log_first) fun _ _ _ _ _ _ us hl => match us, hl with | [_], _ => rfl
  have F_Log_wanted := fun_mk (st := s_Log_wanted) l_Log_wanted c_Log_wanted k_Log_wanted
  have b_Log_wanted := F_Log_wanted.binds (ps := p_Log_wanted) fun _ _ _ _ _ _ us hl => match us, hl with | [_, _, _, _], _ => rfl
  have F_Log_forget := fun_mk (st := s_Log_forget) l_Log_forget c_Log_forget k_Log_forget
  have b_Log_forget := F_Log_forget.binds (ps := p_Log_forget) fun _ _ _ _ _ _ us hl => match us, hl with | [_, _], _ => rfl
  have F_Watcher_init := fun_mk (st := s_Watcher_init) l_Watcher_init c_Watcher_init k_Watcher_init
  have b_Watcher_init := F_Watcher_init.binds (ps := p_Watcher_init) fun _ _ _ _ _ _ us hl => match us, hl with | [_, _, _], _ => rfl
  have F_Room_init := fun_mk (st := s_Room_init) l_Room_init c_Room_init k_Room_init
  have b_Room_init := F_Room_init.binds (ps := p_Room_init) fun _ _ _ _ _ _ us hl => match us, hl with | [_], _ => rfl
  have F_Room_grant := fun_mk (st := s_Room_grant) l_Room_grant c_Room_grant k_Room_grant
  have b_Room_grant := F_Room_grant.binds (ps := p_Room_grant) fun _ _ _ _ _ _ us hl => match us, hl with | [_, _], _ => rfl
  have F_Room_renew := fun_mk (st := s_Room_renew) l_Room_renew c_Room_renew k_Room_renew
  have b_Room_renew := F_Room_renew.binds (ps := p_Room_renew) fun _ _ _ _ _ _ us hl => match us, hl with | [_, _], _ => rfl
  have F_Room_drop := fun_mk (st := s_Room_drop) l_Room_drop c_Room_drop k_Room_drop
  have b_Room_drop := F_Room_drop.binds (ps := p_Room_drop) fun _ _ _ _ _ _ us hl => match us, hl with | [_, _], _ => rfl
  have F_Room_wait := fun_mk (st := s_Room_wait) l_Room_wait c_Room_wait k_Room_wait
  have b_Room_wait := F_Room_wait.binds (ps := p_Room_wait) fun _ _ _ _ _ _ us hl => match us, hl with | [_, _], _ => rfl
  have F_Room_value := fun_mk (st := s_Room_value) l_Room_value c_Room_value k_Room_value
  have b_Room_value := F_Room_value.binds (ps := p_Room_value) fun _ _ _ _ _ _ us hl => match us, hl with | [_, _], _ => rfl
  have F_Room_holder := fun_mk (st := s_Room_holder) l_Room_holder c_Room_holder k_Room_holder
  have b_Room_holder := F_Room_holder.binds (ps := p_Room_holder) fun _ _ _ _ _ _ us hl => match us, hl with | [_, _], _ => rfl
  have F_Room_pairs := fun_mk (st := s_Room_pairs) l_Room_pairs c_Room_pairs k_Room_pairs
  have b_Room_pairs := F_Room_pairs.binds (ps := p_Room_pairs) fun _ _ _ _ _ _ us hl => match us, hl with | [_, _], _ => rfl
  have F_Room_last := fun_mk (st := s_Room_last) l_Room_last c_Room_last k_Room_last
  have b_Room_last := F_Room_last.binds (ps := p_Room_last) fun _ _ _ _ _ _ us hl => match us, hl with | [_], _ => rfl
  have F_Room_first := fun_mk (st := s_Room_first) l_Room_first c_Room_first k_Room_first
  have b_Room_first := F_Room_first.binds (ps := p_Room_first) fun _ _ _ _ _ _ us hl => match us, hl with | [_], _ => rfl
  have F_Room_watch := fun_mk (st := s_Room_watch) l_Room_watch c_Room_watch k_Room_watch
  have b_Room_watch := F_Room_watch.binds (ps := p_Room_watch) fun _ _ _ _ _ _ us hl => match us, hl with | [_, _, _], _ => rfl
  have F_Room_pull := fun_mk (st := s_Room_pull) l_Room_pull c_Room_pull k_Room_pull
  have b_Room_pull := F_Room_pull.binds (ps := p_Room_pull) fun _ _ _ _ _ _ us hl => match us, hl with | [_, _, _], _ => rfl
  have F_Room_confirm := fun_mk (st := s_Room_confirm) l_Room_confirm c_Room_confirm k_Room_confirm
  have b_Room_confirm := F_Room_confirm.binds (ps := p_Room_confirm) fun _ _ _ _ _ _ us hl => match us, hl with | [_, _], _ => rfl
  have F_Room_broken := fun_mk (st := s_Room_broken) l_Room_broken c_Room_broken k_Room_broken
  have b_Room_broken := F_Room_broken.binds (ps := p_Room_broken) fun _ _ _ _ _ _ us hl => match us, hl with | [_, _], _ => rfl
  have F_Room_trim := fun_mk (st := s_Room_trim) l_Room_trim c_Room_trim k_Room_trim
  have b_Room_trim := F_Room_trim.binds (ps := p_Room_trim) fun _ _ _ _ _ _ us hl => match us, hl with | [_], _ => rfl
  have F_Room_u_end := fun_mk (st := s_Room_u_end) l_Room_u_end c_Room_u_end k_Room_u_end
  have b_Room_u_end := F_Room_u_end.binds (ps := p_Room_u_end) fun _ _ _ _ _ _ us hl => match us, hl with | [_, _, _], _ => rfl
  have F_Room_u_take_out := fun_mk (st := s_Room_u_take_out) l_Room_u_take_out c_Room_u_take_out k_Room_u_take_out
  have b_Room_u_take_out := F_Room_u_take_out.binds (ps := p_Room_u_take_out) fun _ _ _ _ _ _ us hl => match us, hl with | [_, _, _], _ => rfl
  have F_Room_u_refuse_lease := fun_mk (st := s_Room_u_refuse_lease) l_Room_u_refuse_lease c_Room_u_refuse_lease k_Room_u_refuse_lease
  have b_Room_u_refuse_lease := F_Room_u_refuse_lease.binds (ps := p_Room_u_refuse_lease) fun _ _ _ _ _ _ us hl => match us, hl with | [_, _], _ => rfl
  have F_Room_u_refuse_held := fun_mk (st := s_Room_u_refuse_held) l_Room_u_refuse_held c_Room_u_refuse_held k_Room_u_refuse_held
  have b_Room_u_refuse_held := F_Room_u_refuse_held.binds (ps := p_Room_u_refuse_held) fun _ _ _ _ _ _ us hl => match us, hl with | [_, _, _], _ => rfl
  have F_Room_u_watching := fun_mk (st := s_Room_u_watching) l_Room_u_watching c_Room_u_watching k_Room_u_watching
  have b_Room_u_watching := F_Room_u_watching.binds (ps := p_Room_u_watching) fun _ _ _ _ _ _ us hl => match us, hl with | [_, _], _ => rfl
  have F_Room_u_refuse_watcher := fun_mk (st := s_Room_u_refuse_watcher) l_Room_u_refuse_watcher c_Room_u_refuse_watcher k_Room_u_refuse_watcher
  have b_Room_u_refuse_watcher := F_Room_u_refuse_watcher.binds (ps := p_Room_u_refuse_watcher) fun _ _ _ _ _ _ us hl => match us, hl with | [_, _], _ => rfl
  have F_arriving := fun_mk (st := s_arriving) l_arriving c_arriving k_arriving
  have b_arriving := F_arriving.binds (ps := p_arriving) fun _ _ _ _ _ _ us hl => match us, hl with | [_, _], _ => rfl
  have F_line_now := fun_mk (st := s_line_now) l_line_now c_line_now k_line_now
  have b_line_now := F_line_now.binds (ps := p_line_now) fun _ _ _ _ _ _ us hl => match us, hl with | [_, _], _ => rfl
  have F_whole := fun_mk (st := s_whole) l_whole c_whole k_whole
  have b_whole := F_whole.binds (ps := p_whole) fun _ _ _ _ _ _ us hl => match us, hl with | [_], _ => rfl
  have F_cell_at := fun_mk (st := s_cell_at) l_cell_at c_cell_at k_cell_at
  have b_cell_at := F_cell_at.binds (ps := p_cell_at) fun _ _ _ _ _ _ us hl => match us, hl with | [_, _], _ => rfl
  have F_sign := fun_mk (st := s_sign) l_sign c_sign k_sign
  have b_sign := F_sign.binds (ps := p_sign) fun _ _ _ _ _ _ us hl => match us, hl with | [_], _ => rfl
  have F_text := fun_mk (st := s_text) l_text c_text k_text
  have b_text := F_text.binds (ps := p_text) fun _ _ _ _ _ _ us hl => match us, hl with | [_, _], _ => rfl
  have F_pool := fun_mk (st := s_pool) l_pool c_pool k_pool
  have b_pool := F_pool.binds (ps := p_pool) fun _ _ _ _ _ _ us hl => match us, hl with | [_, _], _ => rfl
  have F_prefix := fun_mk (st := s_prefix) l_prefix c_prefix k_prefix
  have b_prefix := F_prefix.binds (ps := p_prefix) fun _ _ _ _ _ _ us hl => match us, hl with | [_, _], _ => rfl
  have F_only := fun_mk (st := s_only) l_only c_only k_only
  have b_only := F_only.binds (ps := p_only) fun _ _ _ _ _ _ us hl => match us, hl with | [_, _], _ => rfl
  have F_call := fun_mk (st := s_call) l_call c_call k_call
  have b_call := F_call.binds (ps := p_call) fun _ _ _ _ _ _ us hl => match us, hl with | [_, _], _ => rfl
  have F_done := fun_mk (st := s_done) l_done c_done k_done
  have b_done := F_done.binds (ps := p_done) fun _ _ _ _ _ _ us hl => match us, hl with | [_, _], _ => rfl
  have F_ticks := fun_mk (st := s_ticks) l_ticks c_ticks k_ticks
  have b_ticks := F_ticks.binds (ps := p_ticks) fun _ _ _ _ _ _ us hl => match us, hl with | [_, _], _ => rfl
  have F_deed := fun_mk (st := s_deed) l_deed c_deed k_deed
  have b_deed := F_deed.binds (ps := p_deed) fun _ _ _ _ _ _ us hl => match us, hl with | [_, _, _, _, _], _ => rfl
  have F_pairs := fun_mk (st := s_pairs) l_pairs c_pairs k_pairs
  have b_pairs := F_pairs.binds (ps := p_pairs) fun _ _ _ _ _ _ us hl => match us, hl with | [_, _], _ => rfl
  have F_did := fun_mk (st := s_did) l_did c_did k_did
  have b_did := F_did.binds (ps := p_did) fun _ _ _ _ _ _ us hl => match us, hl with | [_, _, _], _ => rfl
  have F_key := fun_mk (st := s_key) l_key c_key k_key
  have b_key := F_key.binds (ps := p_key) fun _ _ _ _ _ _ us hl => match us, hl with | [_, _], _ => rfl
  have F_crowd := fun_mk (st := s_crowd) l_crowd c_crowd k_crowd
  have b_crowd := F_crowd.binds (ps := p_crowd) fun _ _ _ _ _ _ us hl => match us, hl with | [_, _, _], _ => rfl
  have F_knows := fun_mk (st := s_knows) l_knows c_knows k_knows
  have b_knows := F_knows.binds (ps := p_knows) fun _ _ _ _ _ _ us hl => match us, hl with | [_, _, _], _ => rfl
  have F_stand := fun_mk (st := s_stand) l_stand c_stand k_stand
  have b_stand := F_stand.binds (ps := p_stand) fun _ _ _ _ _ _ us hl => match us, hl with | [_, _], _ => rfl
  have F_begun := fun_mk (st := s_begun) l_begun c_begun k_begun
  have b_begun := F_begun.binds (ps := p_begun) fun _ _ _ _ _ _ us hl => match us, hl with | [_, _, _, _, _, _], _ => rfl
  have F_step := fun_mk (st := s_step) l_step c_step k_step
  have b_step := F_step.binds (ps := p_step) fun _ _ _ _ _ _ us hl => match us, hl with | [_, _, _, _, _], _ => rfl
  have F_law := fun_mk (st := s_law) l_law c_law k_law
  have b_law := F_law.binds (ps := p_law) fun _ _ _ _ _ _ us hl => match us, hl with | [_], _ => rfl
  have m_Ear_init : Meth K C_Ear "__init__" f_Ear_init := ⟨a_Ear_init, i_Ear_init, k_Ear_init⟩
  have m_Ear_hear : Meth K C_Ear "hear" f_Ear_hear := ⟨a_Ear_hear, i_Ear_hear, k_Ear_hear⟩
  have m_Ear_heard : Meth K C_Ear "heard" f_Ear_heard := ⟨a_Ear_heard, i_Ear_heard, k_Ear_heard⟩
  have m_Ear_state : Meth K C_Ear "state" f_Ear_state := ⟨a_Ear_state, i_Ear_state, k_Ear_state⟩
  have m_Ear_many : Meth K C_Ear "many" f_Ear_many := ⟨a_Ear_many, i_Ear_many, k_Ear_many⟩
  have m_Ear_u_take_in : Meth K C_Ear "_take_in" f_Ear_u_take_in := ⟨a_Ear_u_take_in, i_Ear_u_take_in, k_Ear_u_take_in⟩
  have m_Line_init : Meth K C_Line "__init__" f_Line_init := ⟨a_Line_init, i_Line_init, k_Line_init⟩
  have m_Line_turn : Meth K C_Line "turn" f_Line_turn := ⟨a_Line_turn, i_Line_turn, k_Line_turn⟩
  have m_Leases_init : Meth K C_Leases "__init__" f_Leases_init := ⟨a_Leases_init, i_Leases_init, k_Leases_init⟩
  have m_Leases_grant : Meth K C_Leases "grant" f_Leases_grant := ⟨a_Leases_grant, i_Leases_grant, k_Leases_grant⟩
  have m_Leases_renew : Meth K C_Leases "renew" f_Leases_renew := ⟨a_Leases_renew, i_Leases_renew, k_Leases_renew⟩
  have m_Leases_drop : Meth K C_Leases "drop" f_Leases_drop := ⟨a_Leases_drop, i_Leases_drop, k_Leases_drop⟩
  have m_Leases_due : Meth K C_Leases "due" f_Leases_due := ⟨a_Leases_due, i_Leases_due, k_Leases_due⟩
  have m_Leases_refuse_unknown : Meth K C_Leases "refuse_unknown" f_Leases_refuse_unknown := ⟨a_Leases_refuse_unknown, i_Leases_refuse_unknown, k_Leases_refuse_unknown⟩
  have m_Log_init : Meth K C_Log "__init__" f_Log_init := ⟨a_Log_init, i_Log_init, k_Log_init⟩
  have m_Log_note : Meth K C_Log "note" f_Log_note := ⟨a_Log_note, i_Log_note, k_Log_note⟩
  have m_Log_last : Meth K C_Log "last" f_Log_last := ⟨a_Log_last, i_Log_last, k_Log_last⟩
  have m_Log_first : Meth K C_Log "first" f_Log_first := ⟨a_Log_first, i_Log_first, k_Log_first⟩
  have m_Log_wanted : Meth K C_Log "wanted" f_Log_wanted := ⟨a_Log_wanted, i_Log_wanted, k_Log_wanted⟩
  have m_Log_forget : Meth K C_Log "forget" f_Log_forget := ⟨a_Log_forget, i_Log_forget, k_Log_forget⟩
  have m_Watcher_init : Meth K C_Watcher "__init__" f_Watcher_init := ⟨a_Watcher_init, i_Watcher_init, k_Watcher_init⟩
  have m_Room_init : Meth K C_Room "__init__" f_Room_init := ⟨a_Room_init, i_Room_init, k_Room_init⟩
  have m_Room_grant : Meth K C_Room "grant" f_Room_grant := ⟨a_Room_grant, i_Room_grant, k_Room_grant⟩
  have m_Room_renew : Meth K C_Room "renew" f_Room_renew := ⟨a_Room_renew, i_Room_renew, k_Room_renew⟩
  have m_Room_drop : Meth K C_Room "drop" f_Room_drop := ⟨a_Room_drop, i_Room_drop, k_Room_drop⟩
  have m_Room_wait : Meth K C_Room "wait" f_Room_wait := ⟨a_Room_wait, i_Room_wait, k_Room_wait⟩
  have m_Room_put : Meth K C_Room "put" f_Room_put := ⟨a_Room_put, i_Room_put, k_Room_put⟩
  have m_Room_cut : Meth K C_Room "cut" f_Room_cut := ⟨a_Room_cut, i_Room_cut, k_Room_cut⟩
  have m_Room_value : Meth K C_Room "value" f_Room_value := ⟨a_Room_value, i_Room_value, k_Room_value⟩
  have m_Room_holder : Meth K C_Room "holder" f_Room_holder := ⟨a_Room_holder, i_Room_holder, k_Room_holder⟩
  have m_Room_pairs : Meth K C_Room "pairs" f_Room_pairs := ⟨a_Room_pairs, i_Room_pairs, k_Room_pairs⟩
  have m_Room_last : Meth K C_Room "last" f_Room_last := ⟨a_Room_last, i_Room_last, k_Room_last⟩
  have m_Room_first : Meth K C_Room "first" f_Room_first := ⟨a_Room_first, i_Room_first, k_Room_first⟩
  have m_Room_watch : Meth K C_Room "watch" f_Room_watch := ⟨a_Room_watch, i_Room_watch, k_Room_watch⟩
  have m_Room_pull : Meth K C_Room "pull" f_Room_pull := ⟨a_Room_pull, i_Room_pull, k_Room_pull⟩
  have m_Room_confirm : Meth K C_Room "confirm" f_Room_confirm := ⟨a_Room_confirm, i_Room_confirm, k_Room_confirm⟩
  have m_Room_broken : Meth K C_Room "broken" f_Room_broken := ⟨a_Room_broken, i_Room_broken, k_Room_broken⟩
  have m_Room_trim : Meth K C_Room "trim" f_Room_trim := ⟨a_Room_trim, i_Room_trim, k_Room_trim⟩
  have m_Room_u_end : Meth K C_Room "_end" f_Room_u_end := ⟨a_Room_u_end, i_Room_u_end, k_Room_u_end⟩
  have m_Room_u_take_out : Meth K C_Room "_take_out" f_Room_u_take_out := ⟨a_Room_u_take_out, i_Room_u_take_out, k_Room_u_take_out⟩
  have m_Room_u_refuse_lease : Meth K C_Room "_refuse_lease" f_Room_u_refuse_lease := ⟨a_Room_u_refuse_lease, i_Room_u_refuse_lease, k_Room_u_refuse_lease⟩
  have m_Room_u_refuse_held : Meth K C_Room "_refuse_held" f_Room_u_refuse_held := ⟨a_Room_u_refuse_held, i_Room_u_refuse_held, k_Room_u_refuse_held⟩
  have m_Room_u_watching : Meth K C_Room "_watching" f_Room_u_watching := ⟨a_Room_u_watching, i_Room_u_watching, k_Room_u_watching⟩
  have m_Room_u_refuse_watcher : Meth K C_Room "_refuse_watcher" f_Room_u_refuse_watcher := ⟨a_Room_u_refuse_watcher, i_Room_u_refuse_watcher, k_Room_u_refuse_watcher⟩
  have g_arriving := PySem.W.mg_of X G a_arriving
  have g_line_now := PySem.W.mg_of X G a_line_now
  have g_whole := PySem.W.mg_of X G a_whole
  have g_cell_at := PySem.W.mg_of X G a_cell_at
  have g_sign := PySem.W.mg_of X G a_sign
  have g_text := PySem.W.mg_of X G a_text
  have g_pool := PySem.W.mg_of X G a_pool
  have g_prefix := PySem.W.mg_of X G a_prefix
  have g_only := PySem.W.mg_of X G a_only
  have g_call := PySem.W.mg_of X G a_call
  have g_done := PySem.W.mg_of X G a_done
  have g_ticks := PySem.W.mg_of X G a_ticks
  have g_deed := PySem.W.mg_of X G a_deed
  have g_pairs := PySem.W.mg_of X G a_pairs
  have g_did := PySem.W.mg_of X G a_did
  have g_key := PySem.W.mg_of X G a_key
  have g_crowd := PySem.W.mg_of X G a_crowd
  have g_knows := PySem.W.mg_of X G a_knows
  have g_stand := PySem.W.mg_of X G a_stand
  have g_begun := PySem.W.mg_of X G a_begun
  have g_step := PySem.W.mg_of X G a_step
  have F_Ear_init : FunD K "__init__" "Ear.__init__" (defArgs s_Ear_init) (defBody s_Ear_init) (defScope s_Ear_init) [.int 1, .non] [] f_Ear_init (PySem.W.fnOf "__init__" "Ear.__init__" (defArgs s_Ear_init) (defBody s_Ear_init) (defScope s_Ear_init) (.ref dT_Ear_init) kV_Ear_init dc_Ear_init pm_Ear_init an_Ear_init cd_Ear_init ct_Ear_init) := ⟨⟨_, _, _, _, _, _, _, _, _, _, rfl, l_Ear_init, c_Ear_init, .inr ⟨by simp, _, _, _, _, rfl, d_Ear_init, rfl, .cons ⟨_, rfl⟩ (.cons rfl (.nil))⟩, .inl rfl⟩, k_Ear_init⟩
  have F_Line_init : FunD K "__init__" "Line.__init__" (defArgs s_Line_init) (defBody s_Line_init) (defScope s_Line_init) [.non] [] f_Line_init (PySem.W.fnOf "__init__" "Line.__init__" (defArgs s_Line_init) (defBody s_Line_init) (defScope s_Line_init) (.ref dT_Line_init) kV_Line_init dc_Line_init pm_Line_init an_Line_init cd_Line_init ct_Line_init) := ⟨⟨_, _, _, _, _, _, _, _, _, _, rfl, l_Line_init, c_Line_init, .inr ⟨by simp, _, _, _, _, rfl, d_Line_init, rfl, .cons rfl (.nil)⟩, .inl rfl⟩, k_Line_init⟩
  have F_Room_put : FunD K "put" "Room.put" (defArgs s_Room_put) (defBody s_Room_put) (defScope s_Room_put) [.int 0] [] f_Room_put (PySem.W.fnOf "put" "Room.put" (defArgs s_Room_put) (defBody s_Room_put) (defScope s_Room_put) (.ref dT_Room_put) kV_Room_put dc_Room_put pm_Room_put an_Room_put cd_Room_put ct_Room_put) := ⟨⟨_, _, _, _, _, _, _, _, _, _, rfl, l_Room_put, c_Room_put, .inr ⟨by simp, _, _, _, _, rfl, d_Room_put, rfl, .cons ⟨_, rfl⟩ (.nil)⟩, .inl rfl⟩, k_Room_put⟩
  have F_Room_cut : FunD K "cut" "Room.cut" (defArgs s_Room_cut) (defBody s_Room_cut) (defScope s_Room_cut) [.int 0] [] f_Room_cut (PySem.W.fnOf "cut" "Room.cut" (defArgs s_Room_cut) (defBody s_Room_cut) (defScope s_Room_cut) (.ref dT_Room_cut) kV_Room_cut dc_Room_cut pm_Room_cut an_Room_cut cd_Room_cut ct_Room_cut) := ⟨⟨_, _, _, _, _, _, _, _, _, _, rfl, l_Room_cut, c_Room_cut, .inr ⟨by simp, _, _, _, _, rfl, d_Room_cut, rfl, .cons ⟨_, rfl⟩ (.nil)⟩, .inl rfl⟩, k_Room_cut⟩
  have N_BadTicks : ErrT K mg "BadTicks" E_BadTicks := ⟨PySem.W.mg_of X G e_BadTicks, x_BadTicks, kp_BadTicks, b_BadTicks, t_BadTicks⟩
  have N_NoLease : ErrT K mg "NoLease" E_NoLease := ⟨PySem.W.mg_of X G e_NoLease, x_NoLease, kp_NoLease, b_NoLease, t_NoLease⟩
  have N_NoKey : ErrT K mg "NoKey" E_NoKey := ⟨PySem.W.mg_of X G e_NoKey, x_NoKey, kp_NoKey, b_NoKey, t_NoKey⟩
  have N_Held : ErrT K mg "Held" E_Held := ⟨PySem.W.mg_of X G e_Held, x_Held, kp_Held, b_Held, t_Held⟩
  have N_NoStart : ErrT K mg "NoStart" E_NoStart := ⟨PySem.W.mg_of X G e_NoStart, x_NoStart, kp_NoStart, b_NoStart, t_NoStart⟩
  have N_NoWatch : ErrT K mg "NoWatch" E_NoWatch := ⟨PySem.W.mg_of X G e_NoWatch, x_NoWatch, kp_NoWatch, b_NoWatch, t_NoWatch⟩
  have ER : Errs K mg ⟨E_LeaseError, E_BadTicks, E_NoLease, E_NoKey, E_Held, E_NoStart, E_NoWatch⟩ := by
    refine ⟨PySem.W.mg_of X G e_LeaseError, Z_ValueError, Z_isinstance, fun i => ?_, fun i => ?_, fun i => ?_⟩
    · cases i with
      | ticks => exact PySem.W.mg_of X G e_BadTicks
      | lease => exact PySem.W.mg_of X G e_NoLease
      | key => exact PySem.W.mg_of X G e_NoKey
      | held => exact PySem.W.mg_of X G e_Held
      | start => exact PySem.W.mg_of X G e_NoStart
      | watch => exact PySem.W.mg_of X G e_NoWatch
    · cases i with
      | ticks =>
        refine ⟨⟨ga_BadTicks, gt_BadTicks, b_BadTicks, hd_BadTicks, cl_BadTicks, sp, tk, mr_BadTicks⟩, fun j => ?_, kit_type (by decide +kernel) ov_BadTicks⟩
        cases j with
        | ticks => exact kit_own hd_BadTicks t_BadTicks o_BadTicks_BadTicks o_BadTicks_BadTicks
        | lease => exact kit_own hd_NoLease t_NoLease o_BadTicks_BadTicks o_BadTicks_NoLease
        | key => exact kit_own hd_NoKey t_NoKey o_BadTicks_BadTicks o_BadTicks_NoKey
        | held => exact kit_own hd_Held t_Held o_BadTicks_BadTicks o_BadTicks_Held
        | start => exact kit_own hd_NoStart t_NoStart o_BadTicks_BadTicks o_BadTicks_NoStart
        | watch => exact kit_own hd_NoWatch t_NoWatch o_BadTicks_BadTicks o_BadTicks_NoWatch
      | lease =>
        refine ⟨⟨ga_NoLease, gt_NoLease, b_NoLease, hd_NoLease, cl_NoLease, sp, tk, mr_NoLease⟩, fun j => ?_, kit_type (by decide +kernel) ov_NoLease⟩
        cases j with
        | ticks => exact kit_own hd_BadTicks t_BadTicks o_NoLease_NoLease o_NoLease_BadTicks
        | lease => exact kit_own hd_NoLease t_NoLease o_NoLease_NoLease o_NoLease_NoLease
        | key => exact kit_own hd_NoKey t_NoKey o_NoLease_NoLease o_NoLease_NoKey
        | held => exact kit_own hd_Held t_Held o_NoLease_NoLease o_NoLease_Held
        | start => exact kit_own hd_NoStart t_NoStart o_NoLease_NoLease o_NoLease_NoStart
        | watch => exact kit_own hd_NoWatch t_NoWatch o_NoLease_NoLease o_NoLease_NoWatch
      | key =>
        refine ⟨⟨ga_NoKey, gt_NoKey, b_NoKey, hd_NoKey, cl_NoKey, sp, tk, mr_NoKey⟩, fun j => ?_, kit_type (by decide +kernel) ov_NoKey⟩
        cases j with
        | ticks => exact kit_own hd_BadTicks t_BadTicks o_NoKey_NoKey o_NoKey_BadTicks
        | lease => exact kit_own hd_NoLease t_NoLease o_NoKey_NoKey o_NoKey_NoLease
        | key => exact kit_own hd_NoKey t_NoKey o_NoKey_NoKey o_NoKey_NoKey
        | held => exact kit_own hd_Held t_Held o_NoKey_NoKey o_NoKey_Held
        | start => exact kit_own hd_NoStart t_NoStart o_NoKey_NoKey o_NoKey_NoStart
        | watch => exact kit_own hd_NoWatch t_NoWatch o_NoKey_NoKey o_NoKey_NoWatch
      | held =>
        refine ⟨⟨ga_Held, gt_Held, b_Held, hd_Held, cl_Held, sp, tk, mr_Held⟩, fun j => ?_, kit_type (by decide +kernel) ov_Held⟩
        cases j with
        | ticks => exact kit_own hd_BadTicks t_BadTicks o_Held_Held o_Held_BadTicks
        | lease => exact kit_own hd_NoLease t_NoLease o_Held_Held o_Held_NoLease
        | key => exact kit_own hd_NoKey t_NoKey o_Held_Held o_Held_NoKey
        | held => exact kit_own hd_Held t_Held o_Held_Held o_Held_Held
        | start => exact kit_own hd_NoStart t_NoStart o_Held_Held o_Held_NoStart
        | watch => exact kit_own hd_NoWatch t_NoWatch o_Held_Held o_Held_NoWatch
      | start =>
        refine ⟨⟨ga_NoStart, gt_NoStart, b_NoStart, hd_NoStart, cl_NoStart, sp, tk, mr_NoStart⟩, fun j => ?_, kit_type (by decide +kernel) ov_NoStart⟩
        cases j with
        | ticks => exact kit_own hd_BadTicks t_BadTicks o_NoStart_NoStart o_NoStart_BadTicks
        | lease => exact kit_own hd_NoLease t_NoLease o_NoStart_NoStart o_NoStart_NoLease
        | key => exact kit_own hd_NoKey t_NoKey o_NoStart_NoStart o_NoStart_NoKey
        | held => exact kit_own hd_Held t_Held o_NoStart_NoStart o_NoStart_Held
        | start => exact kit_own hd_NoStart t_NoStart o_NoStart_NoStart o_NoStart_NoStart
        | watch => exact kit_own hd_NoWatch t_NoWatch o_NoStart_NoStart o_NoStart_NoWatch
      | watch =>
        refine ⟨⟨ga_NoWatch, gt_NoWatch, b_NoWatch, hd_NoWatch, cl_NoWatch, sp, tk, mr_NoWatch⟩, fun j => ?_, kit_type (by decide +kernel) ov_NoWatch⟩
        cases j with
        | ticks => exact kit_own hd_BadTicks t_BadTicks o_NoWatch_NoWatch o_NoWatch_BadTicks
        | lease => exact kit_own hd_NoLease t_NoLease o_NoWatch_NoWatch o_NoWatch_NoLease
        | key => exact kit_own hd_NoKey t_NoKey o_NoWatch_NoWatch o_NoWatch_NoKey
        | held => exact kit_own hd_Held t_Held o_NoWatch_NoWatch o_NoWatch_Held
        | start => exact kit_own hd_NoStart t_NoStart o_NoWatch_NoWatch o_NoWatch_NoStart
        | watch => exact kit_own hd_NoWatch t_NoWatch o_NoWatch_NoWatch o_NoWatch_NoWatch
    · cases i with
      | ticks => exact PySem.W.exm_ref b_LeaseError hd_LeaseError t_LeaseError q_BadTicks
      | lease => exact PySem.W.exm_ref b_LeaseError hd_LeaseError t_LeaseError q_NoLease
      | key => exact PySem.W.exm_ref b_LeaseError hd_LeaseError t_LeaseError q_NoKey
      | held => exact PySem.W.exm_ref b_LeaseError hd_LeaseError t_LeaseError q_Held
      | start => exact PySem.W.exm_ref b_LeaseError hd_LeaseError t_LeaseError q_NoStart
      | watch => exact PySem.W.exm_ref b_LeaseError hd_LeaseError t_LeaseError q_NoWatch
  refine ⟨PySem.W.fnOf "law" "law" (defArgs s_law) (defBody s_law) (defScope s_law) .none kV_law dc_law pm_law an_law cd_law ct_law, fun s v => .of_eq rfl, fun base _ _ => ?_⟩
  let cc : Cs := ⟨C_Room, C_Leases, C_Log, C_Watcher⟩
  let kk : Kinds := ⟨E_LeaseError, E_BadTicks, E_NoLease, E_NoKey, E_Held, E_NoStart, E_NoWatch⟩
  have TR : RomT K cc.C := ⟨cl_Room, n0_Room, n1_Room, n2_Room, n3_Room, n4_Room, n5_Room, n6_Room⟩
  have TG : LogT K cc.CG := ⟨cl_Log, n0_Log, n1_Log⟩
  have TL : LeaT K mg cc.CL := ⟨cl_Leases, n0_Leases, n1_Leases, n2_Leases, g_Leases⟩
  have GLL := ok_Log_last (P := l.prog) (w := w) (base := base) F_Log_last TG Z_len
  have GLF := ok_Log_first (P := l.prog) (w := w) (mg := mg) (base := base) F_Log_first TG
  have GLN := ok_Log_note (P := l.prog) (w := w) (mg := mg) (base := base) F_Log_note TG m_Log_last b_Log_last GLL
  have GLU := ok_Leases_refuse (P := l.prog) (w := w) (base := base) F_Leases_refuse_unknown TL N_NoLease
  have G_in := ok_Room_init (P := l.prog) (w := w) (base := base) F_Room_init TR g_Leases g_Log M_Leases b_Leases_init (ok_Leases_init F_Leases_init TL) M_Log b_Log_init (ok_Log_init F_Log_init TG)
  have G_va := ok_Room_value (P := l.prog) (w := w) (mg := mg) (base := base) F_Room_value TR
  have G_ho := ok_Room_holder (P := l.prog) (w := w) (mg := mg) (base := base) F_Room_holder TR
  have G_la := ok_Room_last (P := l.prog) (w := w) (mg := mg) (base := base) F_Room_last TR TG m_Log_last b_Log_last GLL
  have G_fi := ok_Room_first (P := l.prog) (w := w) (mg := mg) (base := base) F_Room_first TR TG m_Log_first b_Log_first GLF
  have G_rl := ok_Room_refuse_lease (P := l.prog) (w := w) (base := base) (kk := kk) F_Room_u_refuse_lease TR TL m_Leases_refuse_unknown b_Leases_refuse_unknown GLU
  have G_rh := ok_Room_refuse_held (P := l.prog) (w := w) (base := base) (kk := kk) F_Room_u_refuse_held TR N_Held m_Room_holder b_Room_holder G_ho
  have G_to := ok_Room_take_out (P := l.prog) (w := w) (mg := mg) (base := base) F_Room_u_take_out TR TG m_Log_note b_Log_note GLN
  have B0_Room_put : ∃ ds, Vals ([V.int 0].drop 1) ds ∧ Binds K (PySem.W.fnOf "put" "Room.put" (defArgs s_Room_put) (defBody s_Room_put) (defScope s_Room_put) (.ref dT_Room_put) kV_Room_put dc_Room_put pm_Room_put an_Room_put cd_Room_put ct_Room_put) p_Room_put ds := F_Room_put.binds1 4 1 (by simp) rfl fun T kV doc pm an cdv ct us its h1 h2 => match us, its, h1, h2 with | [_, _, _, _], [_], _, _ => ⟨_, rfl, rfl⟩
  have B1_Room_put : ∃ ds, Vals ([V.int 0].drop 0) ds ∧ Binds K (PySem.W.fnOf "put" "Room.put" (defArgs s_Room_put) (defBody s_Room_put) (defScope s_Room_put) (.ref dT_Room_put) kV_Room_put dc_Room_put pm_Room_put an_Room_put cd_Room_put ct_Room_put) p_Room_put ds := F_Room_put.binds1 3 0 (by simp) rfl fun T kV doc pm an cdv ct us its h1 h2 => match us, its, h1, h2 with | [_, _, _], [_], _, _ => ⟨_, rfl, rfl⟩
  have B2_Room_put : ∃ g, KBn K (PySem.W.fnOf "put" "Room.put" (defArgs s_Room_put) (defBody s_Room_put) (defScope s_Room_put) (.ref dT_Room_put) kV_Room_put dc_Room_put pm_Room_put an_Room_put cd_Room_put ct_Room_put) p_Room_put 3 ["lease"] g fun vs zs => vs ++ zs := by
    obtain ⟨its, h⟩ := F_Room_put.kbindsD (ps := p_Room_put) 3 ["lease"] (fun us _ ws => us ++ ws) (by simp) (fun r1 _ r3 => vals_app r1 r3) fun T kV doc pm an cdv ct us its ws h1 h2 h3 => match us, its, ws, h1, h2, h3 with | [_, _, _], [_], [_], _, _, _ => ⟨_, rfl, rfl⟩
    exact ⟨_, h⟩
  obtain ⟨d0_Room_put, r0_Room_put, B0_Room_put⟩ := B0_Room_put
  cases r0_Room_put
  have B0_Room_cut : ∃ ds, Vals ([V.int 0].drop 1) ds ∧ Binds K (PySem.W.fnOf "cut" "Room.cut" (defArgs s_Room_cut) (defBody s_Room_cut) (defScope s_Room_cut) (.ref dT_Room_cut) kV_Room_cut dc_Room_cut pm_Room_cut an_Room_cut cd_Room_cut ct_Room_cut) p_Room_cut ds := F_Room_cut.binds1 3 1 (by simp) rfl fun T kV doc pm an cdv ct us its h1 h2 => match us, its, h1, h2 with | [_, _, _], [_], _, _ => ⟨_, rfl, rfl⟩
  have B1_Room_cut : ∃ ds, Vals ([V.int 0].drop 0) ds ∧ Binds K (PySem.W.fnOf "cut" "Room.cut" (defArgs s_Room_cut) (defBody s_Room_cut) (defScope s_Room_cut) (.ref dT_Room_cut) kV_Room_cut dc_Room_cut pm_Room_cut an_Room_cut cd_Room_cut ct_Room_cut) p_Room_cut ds := F_Room_cut.binds1 2 0 (by simp) rfl fun T kV doc pm an cdv ct us its h1 h2 => match us, its, h1, h2 with | [_, _], [_], _, _ => ⟨_, rfl, rfl⟩
  have B2_Room_cut : ∃ g, KBn K (PySem.W.fnOf "cut" "Room.cut" (defArgs s_Room_cut) (defBody s_Room_cut) (defScope s_Room_cut) (.ref dT_Room_cut) kV_Room_cut dc_Room_cut pm_Room_cut an_Room_cut cd_Room_cut ct_Room_cut) p_Room_cut 2 ["lease"] g fun vs zs => vs ++ zs := by
    obtain ⟨its, h⟩ := F_Room_cut.kbindsD (ps := p_Room_cut) 2 ["lease"] (fun us _ ws => us ++ ws) (by simp) (fun r1 _ r3 => vals_app r1 r3) fun T kV doc pm an cdv ct us its ws h1 h2 h3 => match us, its, ws, h1, h2, h3 with | [_, _], [_], [_], _, _, _ => ⟨_, rfl, rfl⟩
    exact ⟨_, h⟩
  obtain ⟨d0_Room_cut, r0_Room_cut, B0_Room_cut⟩ := B0_Room_cut
  cases r0_Room_cut
  have GLG := ok_Leases_grant (P := l.prog) (w := w) (base := base) F_Leases_grant TL N_BadTicks (PySem.W.mg_of X G m_MOST_TICKS)
  have GLR := ok_Leases_renew (P := l.prog) (w := w) (base := base) F_Leases_renew TL N_NoLease F_Leases_refuse_unknown b_Leases_refuse_unknown m_Leases_refuse_unknown
  have GLD := ok_Leases_drop (P := l.prog) (w := w) (base := base) F_Leases_drop TL N_NoLease F_Leases_refuse_unknown b_Leases_refuse_unknown m_Leases_refuse_unknown
  have GLX := ok_Leases_due (P := l.prog) (w := w) (base := base) F_Leases_due TL Z_sorted
  have G_en := ok_Room_end (P := l.prog) (w := w) (base := base) (c := cc) (kk := kk) F_Room_u_end TR TL Z_sorted m_Leases_drop b_Leases_drop GLD m_Room_u_take_out b_Room_u_take_out G_to
  have TW : WatT K cc.CW := ⟨cl_Watcher, n0_Watcher, n1_Watcher, n2_Watcher⟩
  have G_rw := ok_Room_refuse_watcher (P := l.prog) (w := w) (base := base) (c := cc) (kk := kk) F_Room_u_refuse_watcher TR N_NoWatch
  have G_wg := ok_Room_watching (P := l.prog) (w := w) (base := base) (c := cc) (kk := kk) F_Room_u_watching TR m_Room_u_refuse_watcher b_Room_u_refuse_watcher G_rw
  have AR : RoomApi l.prog w K mg base C_Room kk (RsP cc) hsL :=
    { frame := RsP.frame, own := RsP.own, inst := RsP.inst
      make := ⟨_, _, _, M_Room, b_Room_init, G_in.mono (by decide)⟩
      grant := fun _ => ⟨_, _, _, m_Room_grant, b_Room_grant, (ok_Room_grant F_Room_grant TR TL m_Leases_grant b_Leases_grant GLG).mono (by decide)⟩
      renew := fun _ => ⟨_, _, _, m_Room_renew, b_Room_renew, (ok_Room_renew F_Room_renew TR TL m_Leases_renew b_Leases_renew GLR).mono (by decide)⟩
      drop := fun _ => ⟨_, _, _, m_Room_drop, b_Room_drop, (ok_Room_drop F_Room_drop TR m_Room_u_end b_Room_u_end G_en).mono (by decide)⟩
      wait := fun _ => ⟨_, _, _, m_Room_wait, b_Room_wait, (ok_Room_wait F_Room_wait TR TL N_BadTicks (PySem.W.mg_of X G m_MOST_TICKS) m_Room_u_end b_Room_u_end G_en m_Leases_due b_Leases_due GLX).mono (by decide)⟩
      put := fun _ => ⟨_, _, _, m_Room_put, B0_Room_put, B1_Room_put, B2_Room_put, (ok_Room_put F_Room_put TR TG m_Room_u_refuse_lease b_Room_u_refuse_lease G_rl m_Room_u_refuse_held b_Room_u_refuse_held G_rh m_Log_note b_Log_note GLN).mono (by decide)⟩
      cut := fun _ => ⟨_, _, _, m_Room_cut, B0_Room_cut, B1_Room_cut, B2_Room_cut, (ok_Room_cut F_Room_cut TR N_NoKey m_Room_u_refuse_lease b_Room_u_refuse_lease G_rl m_Room_u_refuse_held b_Room_u_refuse_held G_rh m_Room_u_take_out b_Room_u_take_out G_to).mono (by decide)⟩
      value := fun _ => ⟨_, _, _, m_Room_value, b_Room_value, (api_value G_va).mono (by decide)⟩
      holder := fun _ => ⟨_, _, _, m_Room_holder, b_Room_holder, (api_holder G_ho).mono (by decide)⟩
      pairs := fun _ => ⟨_, _, _, m_Room_pairs, b_Room_pairs, (api_pairs (ok_Room_pairs F_Room_pairs TR Z_sorted)).mono (by decide)⟩
      last := fun _ => ⟨_, _, _, m_Room_last, b_Room_last, (api_last G_la).mono (by decide)⟩
      first := fun _ => ⟨_, _, _, m_Room_first, b_Room_first, (api_first G_fi).mono (by decide)⟩
      watch := fun _ => ⟨_, _, _, m_Room_watch, b_Room_watch, (ok_Room_watch F_Room_watch TR N_NoStart g_Watcher M_Watcher b_Watcher_init (ok_Watcher_init F_Watcher_init TW) m_Room_first b_Room_first G_fi m_Room_last b_Room_last G_la).mono (by decide)⟩
      pull := fun _ => ⟨_, _, _, m_Room_pull, b_Room_pull, (ok_Room_pull F_Room_pull TR TW TG Z_len m_Room_u_watching b_Room_u_watching G_wg m_Log_wanted b_Log_wanted (ok_Log_wanted F_Log_wanted TG Z_len Z_max Z_range) m_Room_last b_Room_last G_la).mono (by decide)⟩
      confirm := fun _ => ⟨_, _, _, m_Room_confirm, b_Room_confirm, (ok_Room_confirm F_Room_confirm TR TW m_Room_u_watching b_Room_u_watching G_wg).mono (by decide)⟩
      broken := fun _ => ⟨_, _, _, m_Room_broken, b_Room_broken, (ok_Room_broken F_Room_broken TR TW m_Room_u_watching b_Room_u_watching G_wg).mono (by decide)⟩
      leave := fun h => absurd h (by decide +kernel)
      trim := fun _ => ⟨_, _, _, m_Room_trim, b_Room_trim, (ok_Room_trim F_Room_trim TR TW TG Z_min m_Room_last b_Room_last G_la m_Log_forget b_Log_forget (ok_Log_forget F_Log_forget TG Z_max Z_min m_Log_last b_Log_last GLL)).mono (by decide)⟩ }
  have TE : EarT K C_Ear := ⟨cl_Ear, n0_Ear, n1_Ear, n2_Ear⟩
  have GT := ok_Ear_take_in (P := l.prog) (w := w) (mg := mg) (base := base) F_Ear_u_take_in TE
  have BE0 : ∃ ds, Vals ([V.int 1, V.non].drop 2) ds ∧ Binds K (PySem.W.fnOf "__init__" "Ear.__init__" (defArgs s_Ear_init) (defBody s_Ear_init) (defScope s_Ear_init) (.ref dT_Ear_init) kV_Ear_init dc_Ear_init pm_Ear_init an_Ear_init cd_Ear_init ct_Ear_init) p_Ear_init ds := F_Ear_init.binds1 3 2 (by simp) rfl fun T kV doc pm an cdv ct us its h1 h2 => match us, its, h1, h2 with | [_, _, _], [_, _], _, _ => ⟨_, rfl, rfl⟩
  have BE1 : ∃ ds, Vals ([V.int 1, V.non].drop 1) ds ∧ Binds K (PySem.W.fnOf "__init__" "Ear.__init__" (defArgs s_Ear_init) (defBody s_Ear_init) (defScope s_Ear_init) (.ref dT_Ear_init) kV_Ear_init dc_Ear_init pm_Ear_init an_Ear_init cd_Ear_init ct_Ear_init) p_Ear_init ds := F_Ear_init.binds1 2 1 (by simp) rfl fun T kV doc pm an cdv ct us its h1 h2 => match us, its, h1, h2 with | [_, _], [_, _], _, _ => ⟨_, rfl, rfl⟩
  have BE2 : ∃ ds, Vals ([V.int 1, V.non].drop 0) ds ∧ Binds K (PySem.W.fnOf "__init__" "Ear.__init__" (defArgs s_Ear_init) (defBody s_Ear_init) (defScope s_Ear_init) (.ref dT_Ear_init) kV_Ear_init dc_Ear_init pm_Ear_init an_Ear_init cd_Ear_init ct_Ear_init) p_Ear_init ds := F_Ear_init.binds1 1 0 (by simp) rfl fun T kV doc pm an cdv ct us its h1 h2 => match us, its, h1, h2 with | [_], [_, _], _, _ => ⟨_, rfl, rfl⟩
  have BE3 : ∃ g, KBn K (PySem.W.fnOf "__init__" "Ear.__init__" (defArgs s_Ear_init) (defBody s_Ear_init) (defScope s_Ear_init) (.ref dT_Ear_init) kV_Ear_init dc_Ear_init pm_Ear_init an_Ear_init cd_Ear_init ct_Ear_init) p_Ear_init 1 ["pairs", "start"] g fun vs zs => vs ++ zs.reverse := by
    obtain ⟨its, h⟩ := F_Ear_init.kbindsD (ps := p_Ear_init) 1 ["pairs", "start"] (fun us _ ws => us ++ ws.reverse) (by simp) (fun r1 _ r3 => vals_appR r1 r3) fun T kV doc pm an cdv ct us its ws h1 h2 h3 => match us, its, ws, h1, h2, h3 with | [_], [_, _], [_, _], _, _, _ => ⟨_, rfl, rfl⟩
    exact ⟨_, h⟩
  obtain ⟨dE0, rE0, BE0⟩ := BE0
  cases rE0
  have GEI := (ok_Ear_init (P := l.prog) (w := w) (mg := mg) (base := base) F_Ear_init TE).mono (k := 4) (by decide)
  have AE : EarApi l.prog w K mg base C_Ear (ErP C_Ear) esL :=
    { frame := ErP.frame, own := ErP.own, inst := ErP.inst
      make := ⟨_, _, _, M_Ear, GEI, BE0, BE1, BE2, BE3⟩
      hear := ⟨_, _, _, m_Ear_hear, b_Ear_hear, (ok_Ear_hear F_Ear_hear TE m_Ear_u_take_in b_Ear_u_take_in GT).mono (by decide)⟩
      heard := ⟨_, _, _, m_Ear_heard, b_Ear_heard, (ok_Ear_heard F_Ear_heard TE Z_list).mono (by decide)⟩
      state := fun _ => ⟨_, _, _, m_Ear_state, b_Ear_state, (ok_Ear_state F_Ear_state TE Z_sorted).mono (by decide)⟩
      many := fun _ => ⟨_, _, _, m_Ear_many, b_Ear_many, (api_many (ok_Ear_many F_Ear_many TE Z_len)).mono (by decide)⟩ }
  have TLn : LineT K C_Line := ⟨cl_Line, n0_Line, n1_Line, n2_Line⟩
  have G_ar := ok_arriving (P := l.prog) (w := w) (base := base) F_arriving (PySem.W.mg_of X G m_ROW_LOST) (PySem.W.mg_of X G m_BROKEN_MIDST) Z_len
  have BL0 : ∃ ds, Vals ([V.non].drop 1) ds ∧ Binds K (PySem.W.fnOf "__init__" "Line.__init__" (defArgs s_Line_init) (defBody s_Line_init) (defScope s_Line_init) (.ref dT_Line_init) kV_Line_init dc_Line_init pm_Line_init an_Line_init cd_Line_init ct_Line_init) p_Line_init ds := F_Line_init.binds1 5 1 (by simp) rfl fun T kV doc pm an cdv ct us its h1 h2 => match us, its, h1, h2 with | [_, _, _, _, _], [_], _, _ => ⟨_, rfl, rfl⟩
  have BL1 : ∃ ds, Vals ([V.non].drop 0) ds ∧ Binds K (PySem.W.fnOf "__init__" "Line.__init__" (defArgs s_Line_init) (defBody s_Line_init) (defScope s_Line_init) (.ref dT_Line_init) kV_Line_init dc_Line_init pm_Line_init an_Line_init cd_Line_init ct_Line_init) p_Line_init ds := F_Line_init.binds1 4 0 (by simp) rfl fun T kV doc pm an cdv ct us its h1 h2 => match us, its, h1, h2 with | [_, _, _, _], [_], _, _ => ⟨_, rfl, rfl⟩
  have BL2 : ∃ g, KBn K (PySem.W.fnOf "__init__" "Line.__init__" (defArgs s_Line_init) (defBody s_Line_init) (defScope s_Line_init) (.ref dT_Line_init) kV_Line_init dc_Line_init pm_Line_init an_Line_init cd_Line_init ct_Line_init) p_Line_init 4 ["pairs"] g fun vs zs => vs ++ zs := by
    obtain ⟨its, h⟩ := F_Line_init.kbindsD (ps := p_Line_init) 4 ["pairs"] (fun us _ ws => us ++ ws) (by simp) (fun r1 _ r3 => vals_app r1 r3) fun T kV doc pm an cdv ct us its ws h1 h2 h3 => match us, its, ws, h1, h2, h3 with | [_, _, _, _], [_], [_], _, _, _ => ⟨_, rfl, rfl⟩
    exact ⟨_, h⟩
  obtain ⟨dL0, rL0, BL0⟩ := BL0
  cases rL0
  obtain ⟨frW, fdrW, psrW, mrW, brW, GrW⟩ := (AR.watch (by decide +kernel)).ex
  obtain ⟨frU, fdrU, psrU, mrU, brU, GrU⟩ := (AR.pull (by decide +kernel)).ex
  obtain ⟨frC, fdrC, psrC, mrC, brC, GrC⟩ := (AR.confirm (by decide +kernel)).ex
  obtain ⟨frB, fdrB, psrB, mrB, brB, GrB⟩ := (AR.broken (by decide +kernel)).ex
  obtain ⟨feM, fdeM, pseM, meM, beM, GeM⟩ := (AE.many (by decide +kernel)).ex
  obtain ⟨feH, fdeH, pseH, meH, beH, GeH⟩ := AE.hear.ex
  have G_li := ok_Line_init (P := l.prog) (w := w) (base := base) (kk := kk) (Rs := RsP cc) (Er := ErP C_Ear) F_Line_init TLn cl_Room AR.frame AR.own (fun R => let ⟨a, dx, fs, h, _, q⟩ := AR.inst R; ⟨a, dx, fs, h, q _ (by simp [roomMs])⟩) AE.frame AE.own (fun L => (AE.inst L).1) mrW brW GrW g_Ear M_Ear BE0 GEI
  have G_lt := ok_Line_turn (P := l.prog) (w := w) (base := base) (kk := kk) (Rs := RsP cc) (Er := ErP C_Ear) F_Line_turn TLn cl_Room cl_Ear AR.frame AR.own (fun R => let ⟨_, dx, fs, h, _, q⟩ := AR.inst R; ⟨dx, fs, h, q _ (by simp [roomMs]), q _ (by simp [roomMs]), q _ (by simp [roomMs])⟩) AE.frame AE.own (fun L => let ⟨_, dx, fs, h, q⟩ := AE.inst L; ⟨dx, fs, h, q _ (by simp), q _ (by simp)⟩) g_arriving k_arriving b_arriving G_ar (PySem.W.mg_of X G m_WELL) mrU brU GrU mrC brC GrC mrB brB GrB meM beM GeM meH beH GeH
  have AL : LineApi l.prog w K mg base C_Line kk (RsP cc) (ErP C_Ear) := ⟨cl_Line, n0_Line, n1_Line, n2_Line, ⟨_, _, _, M_Line, G_li, BL0, BL1, BL2⟩, ⟨_, _, _, m_Line_turn, b_Line_turn, G_lt⟩⟩
  have D_whole : Def l.prog w K mg base "_law_whole" 1 p_whole spWhole := ⟨_, _, g_whole, k_whole, b_whole, ok_whole F_whole LT⟩
  have D_cell_at : Def l.prog w K mg base "_law_cell_at" 1 p_cell_at (spCellA K) := ⟨_, _, g_cell_at, k_cell_at, b_cell_at, ok_cell F_cell_at LT⟩
  have D_sign : Def l.prog w K mg base "_law_sign" 1 p_sign spSign := ⟨_, _, g_sign, k_sign, b_sign, ok_sign F_sign⟩
  have D_text : Def l.prog w K mg base "_law_text" 2 p_text spText := ⟨_, _, g_text, k_text, b_text, ok_text F_text LT D_sign⟩
  have D_pairs : Def l.prog w K mg base "_law_pairs" 1 p_pairs (spPairs K) := ⟨_, _, g_pairs, k_pairs, b_pairs, ok_pairs F_pairs LT⟩
  have D_ticks : Def l.prog w K mg base "_law_ticks" 1 p_ticks spTicks := ⟨_, _, g_ticks, k_ticks, b_ticks, ok_ticks F_ticks⟩
  have D_call : ∃ f fd, mg (Str.ofString "_law_call") = some (.ref f) ∧ PySem.W.keepIn K (.ref f) = true ∧ Binds K fd p_call [] ∧ FnOk l.prog w K mg base (L2.CX l.prog w) 9 f fd p_call (spCall kk (RsP cc)) := ⟨_, _, g_call, k_call, b_call, ok_call F_call cl_Room AR⟩
  have D_done : Def l.prog w K mg base "_law_done" 10 p_done (spDone (RsP cc)) := ⟨_, _, g_done, k_done, b_done, ok_done F_done AR ER D_call (ok_only F_only ER) g_only k_only b_only⟩
  have D_pool : Def l.prog w K mg base "_law_pool" 3 p_pool spPool10 := ⟨_, _, g_pool, k_pool, b_pool, ok_pool10 F_pool LT D_sign D_text⟩
  have D_prefix : Def l.prog w K mg base "_law_prefix" 1 p_prefix spPrefix10 := ⟨_, _, g_prefix, k_prefix, b_prefix, ok_prefix10 F_prefix⟩
  have D_deed : Def l.prog w K mg base "_law_deed" 3 p_deed spDeed9 := ⟨_, _, g_deed, k_deed, b_deed, ok_deed F_deed D_ticks D_text⟩
  have D_key : Def l.prog w K mg base "_law_key" 3 p_key spKey := ⟨_, _, g_key, k_key, b_key, ok_key F_key LT D_sign D_text⟩
  have D_did : Def l.prog w K mg base "_law_did" 11 p_did (spDid10 (RsP cc) (ErP C_Ear) C_Line) := ⟨_, _, g_did, k_did, b_did, ok_did F_did AR AE LT D_done D_whole⟩
  have D_crowd : Def l.prog w K mg base "_law_crowd" 12 p_crowd (spCrowd10 (RsP cc) (ErP C_Ear) C_Line) := ⟨_, _, g_crowd, k_crowd, b_crowd, ok_crowd F_crowd AR AE LT D_did D_key D_text⟩
  have D_stand : Def l.prog w K mg base "_law_stand" 9 p_stand (spStand10 (RsP cc) (ErP C_Ear) C_Line) := ⟨_, _, g_stand, k_stand, b_stand, ok_stand F_stand cl_Room AR AE⟩
  have D_knows : Def l.prog w K mg base "_law_knows" 9 p_knows (spKnows10 (RsP cc) (ErP C_Ear) C_Line) := ⟨_, _, g_knows, k_knows, b_knows, ok_knows F_knows cl_Room cl_Ear AR AE AL LT D_pairs⟩
  have D_begun : Def l.prog w K mg base "_law_begun" 12 p_begun (spBegun10 (RsP cc) (ErP C_Ear) C_Line) := ⟨_, _, g_begun, k_begun, b_begun, ok_begun F_begun cl_Room cl_Ear AR AE AL D_did⟩
  have I_Line : InsC K C_Line := ⟨cl_Line, ic_Line, sp, tk, im_Line⟩
  have D_line_now : Def l.prog w K mg base "line_now" 11 p_line_now (spLnNow C_Line (RsP cc) (ErP C_Ear)) := ⟨_, _, g_line_now, k_line_now, b_line_now, ok_line_now F_line_now cl_Room AR AL g_Line⟩
  have D_step : Def l.prog w K mg base "_law_step" 13 p_step (spStep10 (RsP cc) (ErP C_Ear) C_Line) := ⟨_, _, g_step, k_step, b_step, ok_step F_step cl_Room I_Line g_Line AR AE AL LT D_deed D_did D_prefix D_whole D_line_now D_begun D_knows D_stand⟩
  exact ok_law F_law cl_Room g_Room AR AE AL LT D_cell_at D_pool D_crowd D_step D_knows D_stand

theorem walk {l : PySem.W.OpenLaw} {q : Program} {loose : List Str} {XP : (Str → Option Value) → Heap → Prop} {YP : World → Heap → Prop} {d : DefRec} {K : Params → PySem.W.Frag} (hn : l.most = some 63) (hdf : d.params.defaults = [])
    (hY : ∀ (w : World) (h : Heap), YP w h → (K w.params).In h)
    (F : ∀ (w : World) (mg : Str → Option Value) (fa : Addr) (h : Heap), (K w.params).In h → h.Ns mainGlobals mg → mg d.name = some (.ref fa) →
      ∃ fd : FuncData, (∀ (s : Shared) (u : Value), BindsTo s fd ⟨[u], []⟩ [("_law_script", u)]) ∧ ∀ base : Heap, (K w.params).In base → base.Ns mainGlobals mg → FnOk l.prog w (K w.params) mg base CX0 14 fa fd ["_law_script"] (spLaw (K w.params))) :
    PySem.W.WalkO q loose XP YP l.row.toRowW d [] (fun f vs => PySem.call f vs) :=
  L2.walk_of (n := 63) (k := 14) (x := "_law_script") (CX := fun _ => CX0) (sp := fun w => spLaw (K w.params)) hn (by decide) hdf ⟨rfl, by decide, by decide⟩ hY F (fun _ _ a ns hl _ hS => ⟨a, ns, rfl, hS, hl, fun _ => rfl⟩) fun _ _ _ _ _ z => z
end KL

open PySem PySem.W PyProof.Rows
set_option maxRecDepth 100000 in
set_option maxHeartbeats 0 in
theorem PySem.Challenge.cw_leasewatch_k10_whole_ears_know_what_stan_holds : PySem.Challenge.rw_leasewatch_k10_whole_ears_know_what_stan.Holds := by
  w_on; o_law; k_head; (case hw => w_witness2)
  k_fill
  refine KL.walk (l := PySem.Challenge.rw_leasewatch_k10_whole_ears_know_what_stan) rfl rfl (fun w h Y => PySem.W.kIn_of Y) ?F
  case F =>
    intro w mg fa h KX G hmg
    refine' KL.all_mk KX G hmg ?aC_Ear ?aC_Line ?aC_Leases ?aC_Log ?aC_Watcher ?aC_Room ?a_Ear_init ?i_Ear_init ?l_Ear_init ?d_Ear_init ?c_Ear_init ?k_Ear_init ?a_Ear_hear ?i_Ear_hear ?l_Ear_hear ?c_Ear_hear ?k_Ear_hear ?a_Ear_heard ?i_Ear_heard ?l_Ear_heard ?c_Ear_heard ?k_Ear_heard ?a_Ear_state ?i_Ear_state ?l_Ear_state ?c_Ear_state ?k_Ear_state ?a_Ear_many ?i_Ear_many ?l_Ear_many ?c_Ear_many ?k_Ear_many ?a_Ear_u_take_in ?i_Ear_u_take_in ?l_Ear_u_take_in ?c_Ear_u_take_in ?k_Ear_u_take_in ?a_Line_init ?i_Line_init ?l_Line_init ?d_Line_init ?c_Line_init ?k_Line_init ?a_Line_turn ?i_Line_turn ?l_Line_turn ?c_Line_turn ?k_Line_turn ?a_Leases_init ?i_Leases_init ?l_Leases_init ?c_Leases_init ?k_Leases_init ?a_Leases_grant ?i_Leases_grant ?l_Leases_grant ?c_Leases_grant ?k_Leases_grant ?a_Leases_renew ?i_Leases_renew ?l_Leases_renew ?c_Leases_renew ?k_Leases_renew ?a_Leases_drop ?i_Leases_drop ?l_Leases_drop ?c_Leases_drop ?k_Leases_drop ?a_Leases_due ?i_Leases_due ?l_Leases_due ?c_Leases_due ?k_Leases_due ?a_Leases_refuse_unknown ?i_Leases_refuse_unknown ?l_Leases_refuse_unknown ?c_Leases_refuse_unknown ?k_Leases_refuse_unknown ?a_Log_init ?i_Log_init ?l_Log_init ?c_Log_init ?k_Log_init ?a_Log_note ?i_Log_note ?l_Log_note ?c_Log_note ?k_Log_note ?a_Log_last ?i_Log_last ?l_Log_last ?c_Log_last ?k_Log_last ?a_Log_first ?i_Log_first ?l_Log_first ?c_Log_first ?k_Log_first ?a_Log_wanted ?i_Log_wanted ?l_Log_wanted ?c_Log_wanted ?k_Log_wanted ?a_Log_forget ?i_Log_forget ?l_Log_forget ?c_Log_forget ?k_Log_forget ?a_Watcher_init ?i_Watcher_init ?l_Watcher_init ?c_Watcher_init ?k_Watcher_init ?a_Room_init ?i_Room_init ?l_Room_init ?c_Room_init ?k_Room_init ?a_Room_grant ?i_Room_grant ?l_Room_grant ?c_Room_grant ?k_Room_grant ?a_Room_renew ?i_Room_renew ?l_Room_renew ?c_Room_renew ?k_Room_renew ?a_Room_drop ?i_Room_drop ?l_Room_drop ?c_Room_drop ?k_Room_drop ?a_Room_wait ?i_Room_wait ?l_Room_wait ?c_Room_wait ?k_Room_wait ?a_Room_put ?i_Room_put ?l_Room_put ?d_Room_put ?c_Room_put ?k_Room_put ?a_Room_cut ?i_Room_cut ?l_Room_cut ?d_Room_cut ?c_Room_cut ?k_Room_cut ?a_Room_value ?i_Room_value ?l_Room_value ?c_Room_value ?k_Room_value ?a_Room_holder ?i_Room_holder ?l_Room_holder ?c_Room_holder ?k_Room_holder ?a_Room_pairs ?i_Room_pairs ?l_Room_pairs ?c_Room_pairs ?k_Room_pairs ?a_Room_last ?i_Room_last ?l_Room_last ?c_Room_last ?k_Room_last ?a_Room_first ?i_Room_first ?l_Room_first ?c_Room_first ?k_Room_first ?a_Room_watch ?i_Room_watch ?l_Room_watch ?c_Room_watch ?k_Room_watch ?a_Room_pull ?i_Room_pull ?l_Room_pull ?c_Room_pull ?k_Room_pull ?a_Room_confirm ?i_Room_confirm ?l_Room_confirm ?c_Room_confirm ?k_Room_confirm ?a_Room_broken ?i_Room_broken ?l_Room_broken ?c_Room_broken ?k_Room_broken ?a_Room_trim ?i_Room_trim ?l_Room_trim ?c_Room_trim ?k_Room_trim ?a_Room_u_end ?i_Room_u_end ?l_Room_u_end ?c_Room_u_end ?k_Room_u_end ?a_Room_u_take_out ?i_Room_u_take_out ?l_Room_u_take_out ?c_Room_u_take_out ?k_Room_u_take_out ?a_Room_u_refuse_lease ?i_Room_u_refuse_lease ?l_Room_u_refuse_lease ?c_Room_u_refuse_lease ?k_Room_u_refuse_lease ?a_Room_u_refuse_held ?i_Room_u_refuse_held ?l_Room_u_refuse_held ?c_Room_u_refuse_held ?k_Room_u_refuse_held ?a_Room_u_watching ?i_Room_u_watching ?l_Room_u_watching ?c_Room_u_watching ?k_Room_u_watching ?a_Room_u_refuse_watcher ?i_Room_u_refuse_watcher ?l_Room_u_refuse_watcher ?c_Room_u_refuse_watcher ?k_Room_u_refuse_watcher ?a_arriving ?l_arriving ?c_arriving ?k_arriving ?a_line_now ?l_line_now ?c_line_now ?k_line_now ?a_whole ?l_whole ?c_whole ?k_whole ?a_cell_at ?l_cell_at ?c_cell_at ?k_cell_at ?a_sign ?l_sign ?c_sign ?k_sign ?a_text ?l_text ?c_text ?k_text ?a_pool ?l_pool ?c_pool ?k_pool ?a_prefix ?l_prefix ?c_prefix ?k_prefix ?a_only ?l_only ?c_only ?k_only ?a_call ?l_call ?c_call ?k_call ?a_done ?l_done ?c_done ?k_done ?a_ticks ?l_ticks ?c_ticks ?k_ticks ?a_deed ?l_deed ?c_deed ?k_deed ?a_pairs ?l_pairs ?c_pairs ?k_pairs ?a_did ?l_did ?c_did ?k_did ?a_key ?l_key ?c_key ?k_key ?a_crowd ?l_crowd ?c_crowd ?k_crowd ?a_knows ?l_knows ?c_knows ?k_knows ?a_stand ?l_stand ?c_stand ?k_stand ?a_begun ?l_begun ?c_begun ?k_begun ?a_step ?l_step ?c_step ?k_step ?a_law ?l_law ?c_law ?k_law ?pg_Ear ?hd_Ear ?po_Ear ?sa_Ear ?mk_Ear ?kc_Ear ?n0_Ear ?n1_Ear ?n2_Ear ?pg_Line ?hd_Line ?po_Line ?sa_Line ?mk_Line ?kc_Line ?n0_Line ?n1_Line ?n2_Line ?pg_Leases ?hd_Leases ?po_Leases ?sa_Leases ?mk_Leases ?kc_Leases ?n0_Leases ?n1_Leases ?n2_Leases ?pg_Log ?hd_Log ?po_Log ?sa_Log ?mk_Log ?kc_Log ?n0_Log ?n1_Log ?pg_Watcher ?hd_Watcher ?po_Watcher ?sa_Watcher ?mk_Watcher ?kc_Watcher ?n0_Watcher ?n1_Watcher ?n2_Watcher ?pg_Room ?hd_Room ?po_Room ?sa_Room ?mk_Room ?kc_Room ?n0_Room ?n1_Room ?n2_Room ?n3_Room ?n4_Room ?n5_Room ?n6_Room ?m_WELL ?m_ROW_LOST ?m_BROKEN_MIDST ?m_MOST_TICKS ?e_LeaseError ?e_BadTicks ?e_NoLease ?e_NoKey ?e_Held ?e_NoStart ?e_NoWatch ?hd_LeaseError ?t_LeaseError ?hd_BadTicks ?t_BadTicks ?hd_NoLease ?t_NoLease ?hd_NoKey ?t_NoKey ?hd_Held ?t_Held ?hd_NoStart ?t_NoStart ?hd_NoWatch ?t_NoWatch ?b_LeaseError ?x_BadTicks ?kp_BadTicks ?b_BadTicks ?ga_BadTicks ?gt_BadTicks ?cl_BadTicks ?mr_BadTicks ?o_BadTicks_BadTicks ?o_BadTicks_NoLease ?o_BadTicks_NoKey ?o_BadTicks_Held ?o_BadTicks_NoStart ?o_BadTicks_NoWatch ?ov_BadTicks ?q_BadTicks ?x_NoLease ?kp_NoLease ?b_NoLease ?ga_NoLease ?gt_NoLease ?cl_NoLease ?mr_NoLease ?o_NoLease_BadTicks ?o_NoLease_NoLease ?o_NoLease_NoKey ?o_NoLease_Held ?o_NoLease_NoStart ?o_NoLease_NoWatch ?ov_NoLease ?q_NoLease ?x_NoKey ?kp_NoKey ?b_NoKey ?ga_NoKey ?gt_NoKey ?cl_NoKey ?mr_NoKey ?o_NoKey_BadTicks ?o_NoKey_NoLease ?o_NoKey_NoKey ?o_NoKey_Held ?o_NoKey_NoStart ?o_NoKey_NoWatch ?ov_NoKey ?q_NoKey ?x_Held ?kp_Held ?b_Held ?ga_Held ?gt_Held ?cl_Held ?mr_Held ?o_Held_BadTicks ?o_Held_NoLease ?o_Held_NoKey ?o_Held_Held ?o_Held_NoStart ?o_Held_NoWatch ?ov_Held ?q_Held ?x_NoStart ?kp_NoStart ?b_NoStart ?ga_NoStart ?gt_NoStart ?cl_NoStart ?mr_NoStart ?o_NoStart_BadTicks ?o_NoStart_NoLease ?o_NoStart_NoKey ?o_NoStart_Held ?o_NoStart_NoStart ?o_NoStart_NoWatch ?ov_NoStart ?q_NoStart ?x_NoWatch ?kp_NoWatch ?b_NoWatch ?ga_NoWatch ?gt_NoWatch ?cl_NoWatch ?mr_NoWatch ?o_NoWatch_BadTicks ?o_NoWatch_NoLease ?o_NoWatch_NoKey ?o_NoWatch_Held ?o_NoWatch_NoStart ?o_NoWatch_NoWatch ?ov_NoWatch ?q_NoWatch ?sp ?tk ?ic_Line ?im_Line ?z_ValueError ?z_bool ?z_int ?z_isinstance ?z_len ?z_list ?z_max ?z_min ?z_range ?z_sorted ?z_str ?z_tuple
    (case aC_Ear => k_is)
    (case aC_Line => k_is)
    (case aC_Leases => k_is)
    (case aC_Log => k_is)
    (case aC_Watcher => k_is)
    (case aC_Room => k_is)
    (case a_Ear_init => k_is)
    (case i_Ear_init => k_is)
    (case l_Ear_init => k_is)
    (case d_Ear_init => k_is)
    (case c_Ear_init => k_is)
    (case k_Ear_init => k_is)
    (case a_Ear_hear => k_is)
    (case i_Ear_hear => k_is)
    (case l_Ear_hear => k_is)
    (case c_Ear_hear => k_is)
    (case k_Ear_hear => k_is)
    (case a_Ear_heard => k_is)
    (case i_Ear_heard => k_is)
    (case l_Ear_heard => k_is)
    (case c_Ear_heard => k_is)
    (case k_Ear_heard => k_is)
    (case a_Ear_state => k_is)
    (case i_Ear_state => k_is)
    (case l_Ear_state => k_is)
    (case c_Ear_state => k_is)
    (case k_Ear_state => k_is)
    (case a_Ear_many => k_is)
    (case i_Ear_many => k_is)
    (case l_Ear_many => k_is)
    (case c_Ear_many => k_is)
    (case k_Ear_many => k_is)
    (case a_Ear_u_take_in => k_is)
    (case i_Ear_u_take_in => k_is)
    (case l_Ear_u_take_in => k_is)
    (case c_Ear_u_take_in => k_is)
    (case k_Ear_u_take_in => k_is)
    (case a_Line_init => k_is)
    (case i_Line_init => k_is)
    (case l_Line_init => k_is)
    (case d_Line_init => k_is)
    (case c_Line_init => k_is)
    (case k_Line_init => k_is)
    (case a_Line_turn => k_is)
    (case i_Line_turn => k_is)
    (case l_Line_turn => k_is)
    (case c_Line_turn => k_is)
    (case k_Line_turn => k_is)
    (case a_Leases_init => k_is)
    (case i_Leases_init => k_is)
    (case l_Leases_init => k_is)
    (case c_Leases_init => k_is)
    (case k_Leases_init => k_is)
    (case a_Leases_grant => k_is)
    (case i_Leases_grant => k_is)
    (case l_Leases_grant => k_is)
    (case c_Leases_grant => k_is)
    (case k_Leases_grant => k_is)
    (case a_Leases_renew => k_is)
    (case i_Leases_renew => k_is)
    (case l_Leases_renew => k_is)
    (case c_Leases_renew => k_is)
    (case k_Leases_renew => k_is)
    (case a_Leases_drop => k_is)
    (case i_Leases_drop => k_is)
    (case l_Leases_drop => k_is)
    (case c_Leases_drop => k_is)
    (case k_Leases_drop => k_is)
    (case a_Leases_due => k_is)
    (case i_Leases_due => k_is)
    (case l_Leases_due => k_is)
    (case c_Leases_due => k_is)
    (case k_Leases_due => k_is)
    (case a_Leases_refuse_unknown => k_is)
    (case i_Leases_refuse_unknown => k_is)
    (case l_Leases_refuse_unknown => k_is)
    (case c_Leases_refuse_unknown => k_is)
    (case k_Leases_refuse_unknown => k_is)
    (case a_Log_init => k_is)
    (case i_Log_init => k_is)
    (case l_Log_init => k_is)
    (case c_Log_init => k_is)
    (case k_Log_init => k_is)
    (case a_Log_note => k_is)
    (case i_Log_note => k_is)
    (case l_Log_note => k_is)
    (case c_Log_note => k_is)
    (case k_Log_note => k_is)
    (case a_Log_last => k_is)
    (case i_Log_last => k_is)
    (case l_Log_last => k_is)
    (case c_Log_last => k_is)
    (case k_Log_last => k_is)
    (case a_Log_first => k_is)
    (case i_Log_first => k_is)
    (case l_Log_first => k_is)
    (case c_Log_first => k_is)
    (case k_Log_first => k_is)
    (case a_Log_wanted => k_is)
    (case i_Log_wanted => k_is)
    (case l_Log_wanted => k_is)
    (case c_Log_wanted => k_is)
    (case k_Log_wanted => k_is)
    (case a_Log_forget => k_is)
    (case i_Log_forget => k_is)
    (case l_Log_forget => k_is)
    (case c_Log_forget => k_is)
    (case k_Log_forget => k_is)
    (case a_Watcher_init => k_is)
    (case i_Watcher_init => k_is)
    (case l_Watcher_init => k_is)
    (case c_Watcher_init => k_is)
    (case k_Watcher_init => k_is)
    (case a_Room_init => k_is)
    (case i_Room_init => k_is)
    (case l_Room_init => k_is)
    (case c_Room_init => k_is)
    (case k_Room_init => k_is)
    (case a_Room_grant => k_is)
    (case i_Room_grant => k_is)
    (case l_Room_grant => k_is)
    (case c_Room_grant => k_is)
    (case k_Room_grant => k_is)
    (case a_Room_renew => k_is)
    (case i_Room_renew => k_is)
    (case l_Room_renew => k_is)
    (case c_Room_renew => k_is)
    (case k_Room_renew => k_is)
    (case a_Room_drop => k_is)
    (case i_Room_drop => k_is)
    (case l_Room_drop => k_is)
    (case c_Room_drop => k_is)
    (case k_Room_drop => k_is)
    (case a_Room_wait => k_is)
    (case i_Room_wait => k_is)
    (case l_Room_wait => k_is)
    (case c_Room_wait => k_is)
    (case k_Room_wait => k_is)
    (case a_Room_put => k_is)
    (case i_Room_put => k_is)
    (case l_Room_put => k_is)
    (case d_Room_put => k_is)
    (case c_Room_put => k_is)
    (case k_Room_put => k_is)
    (case a_Room_cut => k_is)
    (case i_Room_cut => k_is)
    (case l_Room_cut => k_is)
    (case d_Room_cut => k_is)
    (case c_Room_cut => k_is)
    (case k_Room_cut => k_is)
    (case a_Room_value => k_is)
    (case i_Room_value => k_is)
    (case l_Room_value => k_is)
    (case c_Room_value => k_is)
    (case k_Room_value => k_is)
    (case a_Room_holder => k_is)
    (case i_Room_holder => k_is)
    (case l_Room_holder => k_is)
    (case c_Room_holder => k_is)
    (case k_Room_holder => k_is)
    (case a_Room_pairs => k_is)
    (case i_Room_pairs => k_is)
    (case l_Room_pairs => k_is)
    (case c_Room_pairs => k_is)
    (case k_Room_pairs => k_is)
    (case a_Room_last => k_is)
    (case i_Room_last => k_is)
    (case l_Room_last => k_is)
    (case c_Room_last => k_is)
    (case k_Room_last => k_is)
    (case a_Room_first => k_is)
    (case i_Room_first => k_is)
    (case l_Room_first => k_is)
    (case c_Room_first => k_is)
    (case k_Room_first => k_is)
    (case a_Room_watch => k_is)
    (case i_Room_watch => k_is)
    (case l_Room_watch => k_is)
    (case c_Room_watch => k_is)
    (case k_Room_watch => k_is)
    (case a_Room_pull => k_is)
    (case i_Room_pull => k_is)
    (case l_Room_pull => k_is)
    (case c_Room_pull => k_is)
    (case k_Room_pull => k_is)
    (case a_Room_confirm => k_is)
    (case i_Room_confirm => k_is)
    (case l_Room_confirm => k_is)
    (case c_Room_confirm => k_is)
    (case k_Room_confirm => k_is)
    (case a_Room_broken => k_is)
    (case i_Room_broken => k_is)
    (case l_Room_broken => k_is)
    (case c_Room_broken => k_is)
    (case k_Room_broken => k_is)
    (case a_Room_trim => k_is)
    (case i_Room_trim => k_is)
    (case l_Room_trim => k_is)
    (case c_Room_trim => k_is)
    (case k_Room_trim => k_is)
    (case a_Room_u_end => k_is)
    (case i_Room_u_end => k_is)
    (case l_Room_u_end => k_is)
    (case c_Room_u_end => k_is)
    (case k_Room_u_end => k_is)
    (case a_Room_u_take_out => k_is)
    (case i_Room_u_take_out => k_is)
    (case l_Room_u_take_out => k_is)
    (case c_Room_u_take_out => k_is)
    (case k_Room_u_take_out => k_is)
    (case a_Room_u_refuse_lease => k_is)
    (case i_Room_u_refuse_lease => k_is)
    (case l_Room_u_refuse_lease => k_is)
    (case c_Room_u_refuse_lease => k_is)
    (case k_Room_u_refuse_lease => k_is)
    (case a_Room_u_refuse_held => k_is)
    (case i_Room_u_refuse_held => k_is)
    (case l_Room_u_refuse_held => k_is)
    (case c_Room_u_refuse_held => k_is)
    (case k_Room_u_refuse_held => k_is)
    (case a_Room_u_watching => k_is)
    (case i_Room_u_watching => k_is)
    (case l_Room_u_watching => k_is)
    (case c_Room_u_watching => k_is)
    (case k_Room_u_watching => k_is)
    (case a_Room_u_refuse_watcher => k_is)
    (case i_Room_u_refuse_watcher => k_is)
    (case l_Room_u_refuse_watcher => k_is)
    (case c_Room_u_refuse_watcher => k_is)
    (case k_Room_u_refuse_watcher => k_is)
    (case a_arriving => k_is)
    (case l_arriving => k_is)
    (case c_arriving => k_is)
    (case k_arriving => k_is)
    (case a_line_now => k_is)
    (case l_line_now => k_is)
    (case c_line_now => k_is)
    (case k_line_now => k_is)
    (case a_whole => k_is)
    (case l_whole => k_is)
    (case c_whole => k_is)
    (case k_whole => k_is)
    (case a_cell_at => k_is)
    (case l_cell_at => k_is)
    (case c_cell_at => k_is)
    (case k_cell_at => k_is)
    (case a_sign => k_is)
    (case l_sign => k_is)
    (case c_sign => k_is)
    (case k_sign => k_is)
    (case a_text => k_is)
    (case l_text => k_is)
    (case c_text => k_is)
    (case k_text => k_is)
    (case a_pool => k_is)
    (case l_pool => k_is)
    (case c_pool => k_is)
    (case k_pool => k_is)
    (case a_prefix => k_is)
    (case l_prefix => k_is)
    (case c_prefix => k_is)
    (case k_prefix => k_is)
    (case a_only => k_is)
    (case l_only => k_is)
    (case c_only => k_is)
    (case k_only => k_is)
    (case a_call => k_is)
    (case l_call => k_is)
    (case c_call => k_is)
    (case k_call => k_is)
    (case a_done => k_is)
    (case l_done => k_is)
    (case c_done => k_is)
    (case k_done => k_is)
    (case a_ticks => k_is)
    (case l_ticks => k_is)
    (case c_ticks => k_is)
    (case k_ticks => k_is)
    (case a_deed => k_is)
    (case l_deed => k_is)
    (case c_deed => k_is)
    (case k_deed => k_is)
    (case a_pairs => k_is)
    (case l_pairs => k_is)
    (case c_pairs => k_is)
    (case k_pairs => k_is)
    (case a_did => k_is)
    (case l_did => k_is)
    (case c_did => k_is)
    (case k_did => k_is)
    (case a_key => k_is)
    (case l_key => k_is)
    (case c_key => k_is)
    (case k_key => k_is)
    (case a_crowd => k_is)
    (case l_crowd => k_is)
    (case c_crowd => k_is)
    (case k_crowd => k_is)
    (case a_knows => k_is)
    (case l_knows => k_is)
    (case c_knows => k_is)
    (case k_knows => k_is)
    (case a_stand => k_is)
    (case l_stand => k_is)
    (case c_stand => k_is)
    (case k_stand => k_is)
    (case a_begun => k_is)
    (case l_begun => k_is)
    (case c_begun => k_is)
    (case k_begun => k_is)
    (case a_step => k_is)
    (case l_step => k_is)
    (case c_step => k_is)
    (case k_step => k_is)
    (case a_law => k_is)
    (case l_law => k_is)
    (case c_law => k_is)
    (case k_law => k_is)
    (case pg_Ear => k_is)
    (case hd_Ear => k_is)
    (case po_Ear => k_is)
    (case sa_Ear => k_is)
    (case mk_Ear => k_is)
    (case kc_Ear => k_is)
    (case n0_Ear => k_is)
    (case n1_Ear => k_is)
    (case n2_Ear => k_is)
    (case pg_Line => k_is)
    (case hd_Line => k_is)
    (case po_Line => k_is)
    (case sa_Line => k_is)
    (case mk_Line => k_is)
    (case kc_Line => k_is)
    (case n0_Line => k_is)
    (case n1_Line => k_is)
    (case n2_Line => k_is)
    (case pg_Leases => k_is)
    (case hd_Leases => k_is)
    (case po_Leases => k_is)
    (case sa_Leases => k_is)
    (case mk_Leases => k_is)
    (case kc_Leases => k_is)
    (case n0_Leases => k_is)
    (case n1_Leases => k_is)
    (case n2_Leases => k_is)
    (case pg_Log => k_is)
    (case hd_Log => k_is)
    (case po_Log => k_is)
    (case sa_Log => k_is)
    (case mk_Log => k_is)
    (case kc_Log => k_is)
    (case n0_Log => k_is)
    (case n1_Log => k_is)
    (case pg_Watcher => k_is)
    (case hd_Watcher => k_is)
    (case po_Watcher => k_is)
    (case sa_Watcher => k_is)
    (case mk_Watcher => k_is)
    (case kc_Watcher => k_is)
    (case n0_Watcher => k_is)
    (case n1_Watcher => k_is)
    (case n2_Watcher => k_is)
    (case pg_Room => k_is)
    (case hd_Room => k_is)
    (case po_Room => k_is)
    (case sa_Room => k_is)
    (case mk_Room => k_is)
    (case kc_Room => k_is)
    (case n0_Room => k_is)
    (case n1_Room => k_is)
    (case n2_Room => k_is)
    (case n3_Room => k_is)
    (case n4_Room => k_is)
    (case n5_Room => k_is)
    (case n6_Room => k_is)
    (case m_WELL => k_is)
    (case m_ROW_LOST => k_is)
    (case m_BROKEN_MIDST => k_is)
    (case m_MOST_TICKS => k_is)
    (case e_LeaseError => k_is)
    (case e_BadTicks => k_is)
    (case e_NoLease => k_is)
    (case e_NoKey => k_is)
    (case e_Held => k_is)
    (case e_NoStart => k_is)
    (case e_NoWatch => k_is)
    (case hd_LeaseError => k_is)
    (case t_LeaseError => k_is)
    (case hd_BadTicks => k_is)
    (case t_BadTicks => k_is)
    (case hd_NoLease => k_is)
    (case t_NoLease => k_is)
    (case hd_NoKey => k_is)
    (case t_NoKey => k_is)
    (case hd_Held => k_is)
    (case t_Held => k_is)
    (case hd_NoStart => k_is)
    (case t_NoStart => k_is)
    (case hd_NoWatch => k_is)
    (case t_NoWatch => k_is)
    (case b_LeaseError => k_is)
    (case x_BadTicks => k_exc)
    (case kp_BadTicks => k_is)
    (case b_BadTicks => k_is)
    (case ga_BadTicks => k_is)
    (case gt_BadTicks => k_is)
    (case cl_BadTicks => k_is)
    (case mr_BadTicks => k_is)
    (case o_BadTicks_BadTicks => k_is)
    (case o_BadTicks_NoLease => k_is)
    (case o_BadTicks_NoKey => k_is)
    (case o_BadTicks_Held => k_is)
    (case o_BadTicks_NoStart => k_is)
    (case o_BadTicks_NoWatch => k_is)
    (case ov_BadTicks => k_is)
    (case q_BadTicks => k_is)
    (case x_NoLease => k_exc)
    (case kp_NoLease => k_is)
    (case b_NoLease => k_is)
    (case ga_NoLease => k_is)
    (case gt_NoLease => k_is)
    (case cl_NoLease => k_is)
    (case mr_NoLease => k_is)
    (case o_NoLease_BadTicks => k_is)
    (case o_NoLease_NoLease => k_is)
    (case o_NoLease_NoKey => k_is)
    (case o_NoLease_Held => k_is)
    (case o_NoLease_NoStart => k_is)
    (case o_NoLease_NoWatch => k_is)
    (case ov_NoLease => k_is)
    (case q_NoLease => k_is)
    (case x_NoKey => k_exc)
    (case kp_NoKey => k_is)
    (case b_NoKey => k_is)
    (case ga_NoKey => k_is)
    (case gt_NoKey => k_is)
    (case cl_NoKey => k_is)
    (case mr_NoKey => k_is)
    (case o_NoKey_BadTicks => k_is)
    (case o_NoKey_NoLease => k_is)
    (case o_NoKey_NoKey => k_is)
    (case o_NoKey_Held => k_is)
    (case o_NoKey_NoStart => k_is)
    (case o_NoKey_NoWatch => k_is)
    (case ov_NoKey => k_is)
    (case q_NoKey => k_is)
    (case x_Held => k_exc)
    (case kp_Held => k_is)
    (case b_Held => k_is)
    (case ga_Held => k_is)
    (case gt_Held => k_is)
    (case cl_Held => k_is)
    (case mr_Held => k_is)
    (case o_Held_BadTicks => k_is)
    (case o_Held_NoLease => k_is)
    (case o_Held_NoKey => k_is)
    (case o_Held_Held => k_is)
    (case o_Held_NoStart => k_is)
    (case o_Held_NoWatch => k_is)
    (case ov_Held => k_is)
    (case q_Held => k_is)
    (case x_NoStart => k_exc)
    (case kp_NoStart => k_is)
    (case b_NoStart => k_is)
    (case ga_NoStart => k_is)
    (case gt_NoStart => k_is)
    (case cl_NoStart => k_is)
    (case mr_NoStart => k_is)
    (case o_NoStart_BadTicks => k_is)
    (case o_NoStart_NoLease => k_is)
    (case o_NoStart_NoKey => k_is)
    (case o_NoStart_Held => k_is)
    (case o_NoStart_NoStart => k_is)
    (case o_NoStart_NoWatch => k_is)
    (case ov_NoStart => k_is)
    (case q_NoStart => k_is)
    (case x_NoWatch => k_exc)
    (case kp_NoWatch => k_is)
    (case b_NoWatch => k_is)
    (case ga_NoWatch => k_is)
    (case gt_NoWatch => k_is)
    (case cl_NoWatch => k_is)
    (case mr_NoWatch => k_is)
    (case o_NoWatch_BadTicks => k_is)
    (case o_NoWatch_NoLease => k_is)
    (case o_NoWatch_NoKey => k_is)
    (case o_NoWatch_Held => k_is)
    (case o_NoWatch_NoStart => k_is)
    (case o_NoWatch_NoWatch => k_is)
    (case ov_NoWatch => k_is)
    (case q_NoWatch => k_is)
    (case sp => k_is)
    (case tk => k_is)
    (case ic_Line => k_is)
    (case im_Line => k_is)
    (case z_ValueError => k_is)
    (case z_bool => k_is)
    (case z_int => k_is)
    (case z_isinstance => k_is)
    (case z_len => k_is)
    (case z_list => k_is)
    (case z_max => k_is)
    (case z_min => k_is)
    (case z_range => k_is)
    (case z_sorted => k_is)
    (case z_str => k_is)
    (case z_tuple => k_is)
