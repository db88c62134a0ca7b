import PyProof.Rows.All
import Wide.All
import OpenK.AllK
import Wide.FinOn
import HandS.ForMost
import HandS.ForExc
import HandS.More
import HandS.Walk
import HandS.FStr
import HandS.RaiseMore
import HandS.IsInst
import HandS.ExcIs
import HandS.HotCalls
import HandS.SortRule
import HandS.Codes
import PySem.Challenge.RW_leasewatch_k02_changes_by_numbers
set_option Elab.async false
set_option linter.all false
set_option maxRecDepth 100000
set_option maxHeartbeats 8000000
/-! rules of our own: a def called within an except suite with the exception that is handled as an argument; a list walked there; a method that may raise, the wish by the slots -/
namespace LX
open PySem PySem.Spec PyProof.Rows L2 L2H
abbrev St := L2.St

structure FnP (P : Program) (w : World) (K : PySem.W.Frag) (mg : Str → Option Value) (base : Heap) (k : Nat) (f : Addr) (fd : FuncData) (ps : List Str) (sp : Addr × Obj → Sp) : Prop where
  len : ∀ p vs H Q E, sp p vs H Q E → vs.length = ps.length
  run : ∀ (A : Around) (outer : List Env) (s : Shared) (H : Hp) (args : Args) (us : List Value) (vs : List V) (Q : VK) (E : XK) (p : Addr × Obj), RoomH k A → PinOk outer H s p → (∃ vs, p.2.data = .fields vs) → Env0 P w K mg base A outer s H → BindsTo s fd args (ps.zip us) → Vals vs us → sp p vs H Q E →
    codeAny (model P w) A (.call (.ref f) args) (CR CX0 outer P w H s Q E) s
theorem fn_ofP {P : Program} {w : World} {K : PySem.W.Frag} {mg : Str → Option Value} {base : Heap} {k : Nat} {f : Addr} {name qual : Str} {params : Arguments} {body : List Stmt} {scope : Scope} {dV kV doc pm cdv ct oc : Value} {an od : Option Addr}
    {osl : Array (Option Value)} {N ps : List Str} {sp : Addr × Obj → Sp} (lk : K.lookup f = some ⟨oc, od, .func (PySem.W.fnOf name qual params body scope dV kV doc pm an cdv ct), osl⟩) (hcd : PySem.W.codeIn K cdv qual = true) (S : FnScope N ps scope)
    (len : ∀ p vs H Q E, sp p vs H Q E → vs.length = ps.length)
    (hbody : ∀ (A : Around) (outer : List Env) (s : Shared) (H : Hp) (vs : List V) (Q : VK) (E : XK) (p : Addr × Obj), RoomH k (A.deeper (envOfC qual scope s.heap.objs.size f cdv)) → (∃ vs, p.2.data = .fields vs) → sp p vs H Q E →
      ∃ t, PSs (cxH CX0 P w K mg base N qual scope f cdv A outer s H E p) body t ∧ t { nx := fun _ H' => Q .non H', rt := Q } (L2.start N vs) H) :
    FnP P w K mg base (k + 1) f (PySem.W.fnOf name qual params body scope dV kV doc pm an cdv ct) ps sp := by
  refine ⟨len, fun A outer s H args us vs Q E p hr hpin hf e0 hb r hsp => ?_⟩
  have hl := len _ _ _ _ _ hsp
  have KX : K.In s.heap := e0.mod.kin.keeps fun b o e => (e0.bs b o e).1
  have lim : s.heap.NoLimit := e0.mod.nolimit.keeps fun b o e => (e0.bs b o e).1
  have hkind : ∀ y ∈ ps.zip us, scope.names.lookup y.1 = some .local ∨ (scope.names.lookup y.1 = some .cell ∧ ((cellsFrom (s.heap.objs.size + 1) scope.names []).lookup y.1).isSome = true) := fun ⟨n, v⟩ hy => by
    rcases S.par n (List.of_mem_zip hy).1 with q | q
    · exact .inl q
    · exact .inr ⟨q, PySem.W.cellsFrom_some _ _ _ (.inl q)⟩
  refine codeAny_call_function hr.depth (KX _ _ lk) rfl S.co S.gen rfl (PySem.W.codeRec_of KX hcd) (hb _ _ _ _ ?_)
  refine wpAny_newFunctionEnv_cells S.kind hkind fun env he s1 x => ?_
  subst he
  refine ⟨lim.keeps x.toInCall.keep, codeAny_func ?_⟩
  obtain ⟨t, ht, hq⟩ := hbody A outer s H vs Q E p (hr.deeper _) hf hsp
  have I : Inv (cxH CX0 P w K mg base N qual scope f cdv A outer s H E p) [] (L2.start N vs) H s1 := inv_startH S hpin e0 hl r x
  refine wpAny_mono (ht.run [] s1 (L2.start N vs) H _ I hq) (fun fl s' hs => ?_) fun e s' hs => hs
  have fin : ∀ {σ' : St} {H' : Hp} {v : V} {u : Value}, Inv (cxH CX0 P w K mg base N qual scope f cdv A outer s H E p) [] σ' H' s' → RelV v u → Q v H' → CE outer P w H s Q u s' :=
    fun {σ' H' v u} J rv q => ⟨v, H', J.os, J.bare, J.base, J.hok, rv, q⟩
  cases fl with
  | ret u =>
    obtain ⟨v, σ', H', J, rv, q⟩ := hs
    exact fin J rv q
  | next =>
    obtain ⟨σ', H', J, q⟩ := hs
    exact fin (v := V.non) (u := Value.none) J rfl q
  | brk =>
    obtain ⟨_, _, _, q⟩ := hs
    exact False.elim q
  | cont =>
    obtain ⟨_, _, _, q⟩ := hs
    exact False.elim q
section
variable {P : Program} {w : World} {K : PySem.W.Frag} {mg : Str → Option Value} {base : Heap}
theorem okP {x qual : Str} {st : Stmt} {f : Addr} {fd : FuncData} {N ps : List Str} {k : Nat} {sp : Addr × Obj → Sp} (F : Fun K x qual st f fd) (S : FnScope N ps (defScope st)) (len : ∀ p vs H Q E, sp p vs H Q E → vs.length = ps.length)
    (hbody : ∀ (cdv : Value) (A : Around) (outer : List Env) (s : Shared) (H : Hp) (vs : List V) (Q : VK) (E : XK) (p : Addr × Obj), RoomH k (A.deeper (envOfC qual (defScope st) s.heap.objs.size f cdv)) → (∃ vs, p.2.data = .fields vs) → sp p vs H Q E →
      ∃ t, PSs (cxH CX0 P w K mg base N qual (defScope st) f cdv A outer s H E p) (defBody st) t ∧ t { nx := fun _ H' => Q .non H', rt := Q } (L2.start N vs) H) : FnP P w K mg base (k + 1) f fd ps sp := by
  obtain ⟨oc, od, kV, doc, pm, an, cdv, ct, osl, rfl, lk, hcd⟩ := F.ex
  exact fn_ofP lk hcd S len fun A outer s H vs Q E p hr hf hsp => hbody cdv A outer s H vs Q E p hr hf hsp
end
section
variable {X : Cx} {k : Nat} {f : Addr} {fd : FuncData} {ps : List Str} {sp : Addr × Obj → Sp} {x : Str} {q pos : Pos} {e : Expr} {es : List Expr} {t : TA}
theorem run_fnP {pins : List (Addr × Obj)} {σ : St} {H : Hp} {s : Shared} {Q : VK} {us : List Value} {vs : List V} {p : Addr × Obj} (F : FnP X.prog X.w X.K X.mg X.base k f fd ps sp) (hr : RoomH k X.A) (hp : p ∈ X.pn) (hf : ∃ vs, p.2.data = .fields vs) (hb : Binds X.K fd ps [])
    (I : Inv X pins σ H s) (r : Vals vs us) (h : sp p vs H Q E0) : wpAny (model X.prog X.w) X.A (call (.ref f) us) (EP X pins σ Q) X.xe s := by
  have hl : us.length = ps.length := by rw [← r.length]; exact F.len _ _ _ _ _ h
  have b := hb s us I.kIn (by rw [List.append_nil]; exact hl)
  rw [List.append_nil] at b
  have P1 := I.pin p (List.mem_append_left _ hp)
  have hpin : PinOk X.stack H s p := ⟨P1.1, P1.2.1, fun hm => (List.mem_cons.mp (I.stkSub p.1 hm)).elim P1.2.2.1 P1.2.2.2.1, P1.2.2.2.2⟩
  refine wpAny_call (codeAny_mono (F.run X.A X.stack s H ⟨us, []⟩ us vs Q E0 p hr hpin hf I.env0 b r h) fun r s' hq => ?_)
  cases r with
  | error e => exact False.elim hq
  | ok fl =>
    cases fl with
    | ret u => exact I.after hq
    | next => exact False.elim hq
    | brk => exact False.elim hq
    | cont => exact False.elim hq
def tCallP (sp : Sp) (t : TA) : TE := fun σ H Q => t σ H fun vs H1 => sp vs H1 Q E0
theorem pe_callP {p : Addr × Obj} (F : FnP X.prog X.w X.K X.mg X.base k f fd ps sp) (hr : RoomH k X.A) (hp : p ∈ X.pn) (hf : ∃ vs, p.2.data = .fields vs) (hg : Gl X x) (hm : X.mg x = some (.ref f)) (hk : PySem.W.keepIn X.K (.ref f) = true) (hb : Binds X.K fd ps [])
    (ha : PA X (e :: es) t) (hdb : (x == ("__debug__" : Str)) = false := by decide) (he : starEach (e :: es) X.env = (false, eval e X.env) :: starEach es X.env := by rfl) (hpl : (backTo pos (starEach es X.env)).any (·.1) = false := by rfl) :
    PE X (.Call (.Name x q) (e :: es) [] pos) (tCallP (sp p) t) := by
  refine ⟨fun pins s σ H Q I h => ?_⟩
  refine wpAny_Call_Name_kw (ld_glob I hg hm ?_ hdb)
  refine PySem.W.callWith_K (h₀ := X.base) I.ok.mod.kin hk (thn (ha.run pos pins s σ H _ I h) fun us s1 ⟨vs, H1, I1, r, q⟩ => ⟨I1.kIn, ?_⟩) he hpl
  exact run_fnP F hr hp hf hb I1 r q
end

/-! isinstance of the exception that is pinned -/
theorem call_isP {X : Cx} {a D : Addr} {oe : Obj} (C : ExcC X.K D) (hp : (a, oe) ∈ X.pn) (hz : Zc (.ref D) none oe) (hf : ∃ vs, oe.data = .fields vs) : CallR X (.builtin "isinstance") (rIsE X.K D a) := by
  intro pins s σ H xs us Q I r h
  obtain ⟨c, cv, b, rfl, hcv, e, q⟩ := h
  cases r with
  | cons rx rr =>
    cases rr with
    | cons rt rr =>
      cases rr
      cases rx
      have ec := hcv _ rt
      subst ec
      obtain ⟨hget, _⟩ := I.pin (a, oe) (List.mem_append.mpr (.inl hp))
      obtain ⟨vs, hv⟩ := hf
      have J : PySem.W.InstAt s.heap a oe D none := by
        obtain ⟨oc, od, oda, osl⟩ := oe
        obtain ⟨h1, h2⟩ := hz
        dsimp only at h1 h2 hv
        subst h1 h2 hv
        exact ⟨hget, rfl, rfl, trivial⟩
      exact PySem.W.kia_one (PySem.W.handS_kitx_exc C.hg C.hk C.hs C.hd C.ha C.hn C.ht C.hm) I.kIn J e (fun z => nomatch z) fun tk => ⟨.bl b, H, I.kept (t' := tk) fun _ _ z => z, rfl, q⟩

/-! a list walked within an except suite; the body leaves ahead of its end -/
def tForLP (K : PySem.W.Frag) (tl : TE) (g : TG) (tb : TS) : TS := fun D σ H => tl σ H fun x H1 => ∃ (a : Addr) (xs : List V), x = .ref a ∧ SqL K H1 a xs ∧ ∃ Pv : Nat → St → Hp → Prop, Pv 0 σ H1 ∧
  ∀ i σ H, Pv i σ H → SqL K H a xs ∧ ∃ y, xs[i]? = some y ∧ g y σ H fun σ2 H2 => tb { D with nx := Pv (i + 1), ct := Pv (i + 1), bk := D.nx } σ2 H2
theorem ps_forLP {X : Cx} {tg l : Expr} {tl : TE} {g : TG} {tb : TS} {body : List Stmt} {pos : Pos} (own : PassesOwn (model X.prog X.w) X.A X.env X.xe) (hl : PE X l tl) (hg : PG X tg g) (hb : PSs X body tb)
    (hs : ∀ x, foldedSetIterable l X.env x = pure x := by intro _; rfl) : PS X (.For tg l body [] pos) (tForLP X.K tl g tb) := by
  constructor
  intro pins s σ H D I h
  refine wpAny_For (thn (hl.run pins s σ H _ I h) ?_) hs
  rintro v s1 ⟨x, H1, I1, r1, a, xs, rfl, hq, Pv, p0, turn⟩
  obtain rfl : v = Value.ref a := r1
  obtain ⟨its, _, p, _⟩ := I1.list hq
  refine wpAny_pyIter_list p.isList ?_
  generalize hit : s1.heap.objs.size = it
  have fresh : FpOk X pins H1 it := I1.fpOk (Nat.le_of_eq hit) (I1.hok.fresh (Nat.le_of_eq hit))
  have begun : (s1.heap.push { cls := .type "list_iterator", data := .fields #[.ref a, rawInt 0] }).IsListIter it a 0 := by
    rw [← hit]
    exact ⟨_, Heap.get?_push_size _ rfl, rfl, rfl⟩
  have I2 : Inv X pins σ H1 { s1 with heap := s1.heap.push { cls := .type "list_iterator", data := .fields #[.ref a, rawInt 0] } } := I1.kept (t' := s1.toks) fun _ _ e => Heap.get?_push_of_some _ e
  refine codeAny_forLoop_any (fun n s' => ∃ i σ' H', n = xs.length - i ∧ Inv X pins σ' H' s' ∧ s'.heap.IsListIter it a i ∧ H' it = none ∧ Pv i σ' H') ?_ xs.length ⟨0, σ, H1, rfl, I2, begun, fresh.1, p0⟩
  rintro n s3 ⟨i, σ3, H3, rfl, I3, st, f0, pv⟩
  obtain ⟨_, f1, f2, f3, f4, f5⟩ := fresh
  obtain ⟨q3, y, hy, step⟩ := turn i σ3 H3 pv
  have hi : i < xs.length := (List.getElem?_eq_some_iff.mp hy).1
  obtain ⟨its3, rv3, p3, _⟩ := I3.list q3
  obtain ⟨u, hu, ru⟩ := rv3.get hy
  refine wpAny_passesOwn own (wpAny_pyNext_list_item st p3.isList (x := u) (by simpa using hu) fun h' st' sb => ?_)
  have I4 : Inv X pins σ3 H3 { s3 with heap := h' } := I3.turned (t' := s3.toks) (fun b o hb e => (sb.2 b hb).trans e) f0 f1 f3 f4 f5
  obtain ⟨o, eo, co, d_o⟩ := id st'
  refine wpAny_passesOwn own (go_of (s := { s3 with heap := h' }) eo co d_o (by decide) ?_)
  have pinned : Inv X (pins ++ [(it, o)]) σ3 H3 { s3 with heap := h' } := I4.pins_of fun q hq => by
    rcases List.mem_append.mp hq with hq | hq
    · exact I4.pin q (List.mem_append_right _ hq)
    · obtain rfl := List.mem_singleton.mp hq
      exact ⟨eo, f0, f1, f2, fun v z => by rw [d_o] at z; cases z⟩
  refine wpAny_passesOwn own (thn (hg.run _ _ σ3 H3 y u _ pinned ru step) ?_)
  rintro _ s6 ⟨σ6, H6, I6, q6⟩
  refine wpAny_passesOwn own (thn (hb.run _ s6 σ6 H6 _ I6 q6) ?_)
  intro f s7 q7
  have drop : ∀ {σ7 : St} {H7 : Hp}, Inv X (pins ++ [(it, o)]) σ7 H7 s7 → Inv X pins σ7 H7 s7 := fun J => J.pins_of fun q hq => J.pin q (List.mem_append_right _ (List.mem_append_left _ hq))
  have next : ∀ {σ7 : St} {H7 : Hp}, Inv X (pins ++ [(it, o)]) σ7 H7 s7 → Pv (i + 1) σ7 H7 → ∃ m, m < xs.length - i ∧ ∃ j σ' H', m = xs.length - j ∧ Inv X pins σ' H' s7 ∧ s7.heap.IsListIter it a j ∧ H' it = none ∧ Pv j σ' H' := fun {σ7 H7} J n7 => by
    have w := J.pin (it, o) (List.mem_append_right _ (List.mem_append_right _ (List.mem_singleton.mpr rfl)))
    exact ⟨xs.length - (i + 1), by omega, i + 1, σ7, H7, rfl, drop J, ⟨o, w.1, co, d_o⟩, w.2.1, n7⟩
  cases f with
  | next =>
    obtain ⟨σ7, H7, J, n7⟩ := q7
    exact next J n7
  | cont =>
    obtain ⟨σ7, H7, J, n7⟩ := q7
    exact next J n7
  | brk =>
    obtain ⟨σ7, H7, J, n7⟩ := q7
    exact ⟨σ7, H7, drop J, n7⟩
  | ret v =>
    obtain ⟨x7, σ7, H7, J, r7, n7⟩ := q7
    exact ⟨x7, σ7, H7, drop J, r7, n7⟩

/-! a method that may raise: the wish by the caller's slots -/
section
variable {X : Cx} {CX : CXT} {k : Nat} {f C : Addr} {fd : FuncData} {ps : List Str} {sp : Sp} {E : St → XK} {m : Str} {pos apos : Pos} {e o : Expr} {es : List Expr} {ta : TE} {t : TA}
theorem pe_methE {pl : Sem Bool} (he : PE X o ta) (c : Cls X.K C) (hm : Meth X.K C m f) (F : FnOk X.prog X.w X.K X.mg X.base CX k f fd ps sp) (hr : Room k X.A) (hb : Binds X.K fd ps []) (hx : ∀ σ, PassesAt CX X σ (E σ)) (ha : PA X (e :: es) t)
    (hst : starEach (e :: es) X.env = (false, eval e X.env) :: starEach es X.env := by rfl) (hpl : (backTo pos (starEach es X.env)).any (·.1) = false := by rfl)
    (ht : eval (.Call (.Attribute o m apos) (e :: es) [] pos) X.env = (do
      let ov ← eval o X.env
      standAt apos.atName
      let (f, first) ← holding [ov] (getMethod ov m pl)
      callWith pos f first (backTo pos (starEach (e :: es) X.env)) (backToKw pos (keywordEach [] X.env))) := by rfl) :
    PE X (.Call (.Attribute o m apos) (e :: es) [] pos) (tMethH C m sp E ta t) := by
  refine ⟨fun pins s σ H Q I h => ?_⟩
  refine PySem.W.methodCall_KW (pl := pl) (thn (he.run pins s σ H _ I h) fun u s1 ⟨x, H1, I1, rx, a, dx, fs, ex, ea, l, q⟩ => ?_) ht
  subst ex
  obtain rfl : u = Value.ref a := rx
  refine getmeth_ok I1 ea c hm l ?_
  refine PySem.W.callWith_K (first := [.ref a]) (h₀ := X.base) I.ok.mod.kin hm.kp (thn (ha.run pos pins s1 σ H1 _ I1 q) fun us s2 ⟨vs, H2, I2, r, q2⟩ => ⟨I2.kIn, ?_⟩) hst hpl
  exact run_fnS (us := .ref a :: us) (vs := .ref a :: vs) F hr hb (hx σ) I2 (.cons rfl r) q2
end
end LX

namespace KB
open PySem L2 L2H LX
/-! ### heaps: what stays -/
/-- all but the ones named stand as they stood; tuples always; nothing goes -/
structure Ch (H H' : Hp) (l : List Addr) : Prop where
  st : ∀ b o, H b = some o → (b ∉ l ∨ ∃ xs, o = .tup xs) → H' b = some o
  th : ∀ b o, H b = some o → ∃ u, H' b = some u
theorem Ch.refl (H : Hp) (l : List Addr) : Ch H H l := ⟨fun _ _ h _ => h, fun _ o h => ⟨o, h⟩⟩
theorem Ch.of {H H' : Hp} (s : Same H H') (l : List Addr) : Ch H H' l := ⟨fun _ _ h _ => s _ _ h, fun _ o h => ⟨o, s _ _ h⟩⟩
theorem Ch.trans {H H1 H2 : Hp} {l : List Addr} (a : Ch H H1 l) (b : Ch H1 H2 l) : Ch H H2 l := ⟨fun _ _ h n => b.st _ _ (a.st _ _ h n) n, fun _ _ h => let ⟨_, z⟩ := a.th _ _ h; b.th _ _ z⟩
theorem Ch.mono {H H1 : Hp} {l m : List Addr} (a : Ch H H1 l) (s : ∀ x ∈ l, x ∈ m) : Ch H H1 m := ⟨fun _ _ h n => a.st _ _ h (n.imp (fun z y => z (s _ y)) id), a.th⟩
theorem Ch.same {H H1 H2 : Hp} {l : List Addr} (a : Ch H H1 l) (s : Same H1 H2) : Ch H H2 l := a.trans (Ch.of s l)
theorem Ch.new {H H' : Hp} {l : List Addr} (h : Ch H H' l) {a : Addr} (o : HO) (n : H a = none) : Ch H (upd H' a o) l := ⟨fun b u e m => by
  rw [upd_ne (ne_of_none e n)]
  exact h.st b u e m, fun b u e => by
  rw [upd_ne (ne_of_none e n)]
  exact h.th b u e⟩
theorem Ch.mut {H H' : Hp} {l : List Addr} (h : Ch H H' l) {a : Addr} {o u : HO} (m : a ∈ l) (e : H a = some u) (n : ∀ xs, u ≠ .tup xs) : Ch H (upd H' a o) l := ⟨fun b v eb k => by
  have ne : b ≠ a := fun z => by
    subst z
    rw [e] at eb
    cases eb
    rcases k with k | ⟨xs, k⟩
    · exact k m
    · exact n xs k
  rw [upd_ne ne]
  exact h.st b v eb k, fun b v eb => by
  by_cases z : b = a
  · subst z
    exact ⟨o, upd_same⟩
  · rw [upd_ne z]
    exact h.th b v eb⟩
theorem Ch.tup {H H' : Hp} {l : List Addr} (h : Ch H H' l) : ∀ b xs, H b = some (.tup xs) → H' b = some (.tup xs) := fun b xs e => h.st b _ e (.inr ⟨xs, rfl⟩)
theorem Ch.at {H H' : Hp} {l : List Addr} (h : Ch H H' l) {b : Addr} {o : HO} (e : H b = some o) (n : b ∉ l) : H' b = some o := h.st b o e (.inl n)
theorem Ch.none {H H' : Hp} {l : List Addr} (h : Ch H H' l) : ∀ x, H' x = Option.none → H x = Option.none := fun x e => by
  cases q : H x with
  | none => rfl
  | some o =>
    obtain ⟨u, hu⟩ := h.th x o q
    rw [e] at hu
    cases hu
theorem same_new {H : Hp} {l : Addr} {o : HO} (h : H l = Option.none) : Same H (upd H l o) := fun b u e => by rw [upd_ne (ne_of_none e h)]; exact e
/-- where only new ones and such as were not there at the start were changed -/
theorem Ch.old {H0 H H' : Hp} {l : List Addr} (s : Same H0 H) (c : Ch H H' l) (f : ∀ b ∈ l, H0 b = Option.none) : Same H0 H' := fun b o e => c.st _ _ (s _ _ e) (.inl fun m => by
  have := f b m
  rw [e] at this
  cases this)
/-! ### places in lists -/
theorem at_map {α : Type} {f : α → V} {ns : List α} {z : Int} (h0 : 0 ≤ z) (h1 : z < ns.length) : ∃ t, t ∈ ns ∧ ns[z.toNat]? = some t ∧ atI (ns.map f) z = some (f t) := by
  obtain ⟨j, rfl⟩ := Int.eq_ofNat_of_zero_le h0
  have hl : j < ns.length := by omega
  exact ⟨ns[j], List.getElem_mem hl, List.getElem?_eq_getElem hl, atI_nat (by rw [List.getElem?_map, List.getElem?_eq_getElem hl]; rfl)⟩
theorem at_ints {ns : List Int} {z : Int} (h0 : 0 ≤ z) (h1 : z < ns.length) : ∃ t, t ∈ ns ∧ atI (ns.map V.int) z = some (V.int t) := by
  obtain ⟨t, a, _, b⟩ := at_map (f := V.int) h0 h1
  exact ⟨t, a, b⟩
theorem at_strs {ns : List Str} {z : Int} (h0 : 0 ≤ z) (h1 : z < ns.length) : ∃ t, t ∈ ns ∧ atI (ns.map V.str) z = some (V.str t) := by
  obtain ⟨t, a, _, b⟩ := at_map (f := V.str) h0 h1
  exact ⟨t, a, b⟩
/-! ### texts -/
abbrev tl (z : Str) : List Nat := z.cps.toList
/-- every sign is one; at most n of them -/
structure TOk (n : Nat) (z : Str) : Prop where
  ok : ∀ c ∈ tl z, c < 0x110000
  le : z.length ≤ n
theorem tl_len (z : Str) : (tl z).length = z.length := Array.length_toList
theorem TOk.mono {n m : Nat} {z : Str} (h : TOk n z) (l : n ≤ m) : TOk m z := ⟨h.ok, Nat.le_trans h.le l⟩
theorem TOk.str {n : Nat} {z : Str} (h : TOk n z) : PyData.strOk z = true := by
  unfold PyData.strOk
  rw [← Array.all_toList, List.all_eq_true]
  exact fun c hc => decide_eq_true (h.ok c hc)
theorem TOk.line {n : Nat} {z : Str} (h : TOk n z) (l : n ≤ 1000) : z.length ≤ sizeLine := Nat.le_trans h.le (Nat.le_trans l (by decide))
theorem TOk.app {n m : Nat} {x y : Str} (h : TOk n x) (k : TOk m y) : TOk (n + m) (x ++ y) := by
  have e : tl (x ++ y) = tl x ++ tl y := TL.tl_append x y
  refine ⟨fun c hc => ?_, ?_⟩
  · rw [e] at hc
    rcases List.mem_append.mp hc with hc | hc
    · exact h.ok c hc
    · exact k.ok c hc
  · rw [← tl_len, e, List.length_append, tl_len, tl_len]
    have := h.le
    have := k.le
    omega
theorem TOk.cut {n : Nat} {z : Str} (h : TOk n z) (lo hi : Option Int) : TOk n (cutS z lo hi) := by
  refine ⟨fun c hc => ?_, Nat.le_trans (cutS_length z lo hi) h.le⟩
  have e : tl (cutS z lo hi) = (tl z |>.drop (HT.sIx z.length 0 lo)).take (HT.sIx z.length z.length hi - HT.sIx z.length 0 lo) := by
    unfold cutS tl
    exact List.toList_toArray
  rw [e] at hc
  exact h.ok c (List.mem_of_mem_drop (List.mem_of_mem_take hc))
theorem TOk.nil : TOk 0 "" := by
  refine ⟨fun c hc => ?_, Nat.le_refl _⟩
  have e : tl ("" : Str) = [] := rfl
  rw [e] at hc
  cases hc
theorem TOk.one {c : Nat} (h : c < 0x110000) : TOk 1 (⟨#[c]⟩ : Str) := by
  refine ⟨fun d hd => ?_, Nat.le_refl _⟩
  have e : tl (⟨#[c]⟩ : Str) = [c] := rfl
  rw [e] at hd
  rw [List.mem_singleton.mp hd]
  exact h
theorem join_ok : ∀ {ys : List Str}, (∀ y ∈ ys, TOk 1 y) → TOk ys.length (Str.join "" ys)
  | [], _ => TOk.nil
  | [x], h => h x List.mem_cons_self
  | x :: z :: r, h => by
    have a := h x List.mem_cons_self
    have b := join_ok (ys := z :: r) fun y hy => h y (List.mem_cons_of_mem _ hy)
    have c := (a.app TOk.nil).app b
    exact c.mono (by simp only [List.length_cons]; omega)
theorem join_len : ∀ {ys : List Str}, (∀ y ∈ ys, TOk 1 y) → (ys.map (·.length)).sum + ys.length * ("" : Str).length ≤ ys.length
  | [], _ => Nat.le_refl _
  | x :: r, h => by
    have a := (h x List.mem_cons_self).le
    have b := join_len (ys := r) fun y hy => h y (List.mem_cons_of_mem _ hy)
    have e : ("" : Str).length = 0 := rfl
    rw [e, Nat.mul_zero, Nat.add_zero] at b ⊢
    rw [List.map_cons, List.sum_cons, List.length_cons]
    omega
/-! ### a change: a tuple of five -/
structure Row where
  n : Int
  t : Int
  w : Str
  k : Str
  v : Str
def Row.V (r : Row) : List V := [.int r.n, .int r.t, .str r.w, .str r.k, .str r.v]
def Row.D (r : Row) : PyData := .tuple [.int r.n, .int r.t, .str r.w, .str r.k, .str r.v]
structure Row.Ok (r : Row) : Prop where
  w : PyData.strOk r.w = true
  k : TOk 60 r.k
  v : TOk 60 r.v
abbrev RowsAt (H : Hp) (ts : List Addr) (rs : List Row) : Prop := Paired (fun (t : Addr) (r : Row) => H t = some (.tup r.V)) ts rs
theorem RowsAt.keep {H H' : Hp} {ts : List Addr} {rs : List Row} (m : RowsAt H ts rs) (k : ∀ b xs, H b = some (.tup xs) → H' b = some (.tup xs)) : RowsAt H' ts rs := Paired.mono (fun _ _ h => k _ _ h) m
theorem RowsAt.dp {K : PySem.W.Frag} {H : Hp} : ∀ {ts : List Addr} {rs : List Row}, RowsAt H ts rs → DpAll K H (ts.map V.ref) (rs.map Row.D)
  | _, _, .nil => .nil
  | _, _, .cons r m => .cons (.tup (.inl (.inl r)) (.cons (.int _) (.cons (.int _) (.cons (.str _) (.cons (.str _) (.cons (.str _) .nil)))))) (RowsAt.dp m)
theorem RowsAt.at {H : Hp} : ∀ {ts : List Addr} {rs : List Row} {i : Nat} {x : V}, RowsAt H ts rs → (ts.map V.ref)[i]? = some x → ∃ t r, x = V.ref t ∧ rs[i]? = some r ∧ H t = some (.tup r.V)
  | _, _, i, x, .nil, h => by simp at h
  | _, _, 0, x, .cons r m, h => by
    have e : x = V.ref _ := (Option.some.inj h).symm
    exact ⟨_, _, e, rfl, r⟩
  | _, _, i + 1, x, .cons r m, h => RowsAt.at (i := i) m h
theorem Row.shaped {r : Row} (h : r.Ok) : r.D.canLay0 = true := by
  show (true && (true && (PyData.strOk r.w && (PyData.strOk r.k && (PyData.strOk r.v && true))))) = true
  rw [h.w, h.k.str, h.v.str]
  rfl
theorem rows_lay : ∀ {rs : List Row}, (∀ r ∈ rs, r.Ok) → PyData.canLayAll0 (rs.map Row.D) = true
  | [], _ => rfl
  | r :: rs, h => by
    show (r.D.canLay0 && PyData.canLayAll0 (rs.map Row.D)) = true
    rw [Row.shaped (h r List.mem_cons_self), rows_lay fun x hx => h x (List.mem_cons_of_mem _ hx)]
    rfl
theorem rows_depth : ∀ rs : List Row, PyData.depthAll (rs.map Row.D) ≤ 2
  | [] => by simp [PyData.depthAll]
  | r :: rs => by
    have h := rows_depth rs
    simp only [List.map_cons, PyData.depthAll, Row.D, PyData.depth]
    omega
theorem rows_shaped {rs : List Row} (h : ∀ r ∈ rs, r.Ok) : SeqAt.shaped (.list (rs.map Row.D)) = true := by
  have d := rows_depth rs
  unfold SeqAt.shaped
  rw [Bool.and_eq_true]
  refine ⟨rows_lay h, decide_eq_true ?_⟩
  simp only [PyData.depth]
  omega
theorem rows_eqv {rs : List Row} (h : ∀ r ∈ rs, r.Ok) : PyData.eqv (.list (rs.map Row.D)) (.list (rs.map Row.D)) = true := PySem.SeqAt.eqv_refl _ (rows_lay h)
/-! ### pairs of texts -/
abbrev PairsAt (H : Hp) (ts : List Addr) (ps : List (Str × Str)) : Prop := Paired (fun (t : Addr) (p : Str × Str) => H t = some (.tup [.str p.1, .str p.2])) ts ps
def pairD (p : Str × Str) : PyData := .tuple [.str p.1, .str p.2]
def PairOk (p : Str × Str) : Prop := TOk 60 p.1 ∧ TOk 60 p.2
theorem PairsAt.keep {H H' : Hp} {ts : List Addr} {ps : List (Str × Str)} (m : PairsAt H ts ps) (k : ∀ b xs, H b = some (.tup xs) → H' b = some (.tup xs)) : PairsAt H' ts ps := Paired.mono (fun _ _ h => k _ _ h) m
theorem PairsAt.dp {K : PySem.W.Frag} {H : Hp} : ∀ {ts : List Addr} {ps : List (Str × Str)}, PairsAt H ts ps → DpAll K H (ts.map V.ref) (ps.map pairD)
  | _, _, .nil => .nil
  | _, _, .cons r m => .cons (.tup (.inl (.inl r)) (.cons (.str _) (.cons (.str _) .nil))) (PairsAt.dp m)
theorem PairsAt.at {H : Hp} : ∀ {ts : List Addr} {ps : List (Str × Str)} {i : Nat} {x : V}, PairsAt H ts ps → (ts.map V.ref)[i]? = some x → ∃ t a b, x = V.ref t ∧ H t = some (.tup [.str a, .str b])
  | _, _, i, x, .nil, h => by simp at h
  | _, _, 0, x, .cons r m, h => by
    have e : x = V.ref _ := (Option.some.inj h).symm
    exact ⟨_, _, _, e, r⟩
  | _, _, i + 1, x, .cons r m, h => PairsAt.at (i := i) m h
theorem pairs_lay : ∀ {ps : List (Str × Str)}, (∀ r ∈ ps, PairOk r) → PyData.canLayAll0 (ps.map pairD) = true
  | [], _ => rfl
  | p :: r, h => by
    show ((PyData.strOk p.1 && (PyData.strOk p.2 && true)) && PyData.canLayAll0 (r.map pairD)) = true
    rw [(h p List.mem_cons_self).1.str, (h p List.mem_cons_self).2.str, pairs_lay fun x hx => h x (List.mem_cons_of_mem _ hx)]
    rfl
theorem pairs_depth : ∀ ps : List (Str × Str), PyData.depthAll (ps.map pairD) ≤ 2
  | [] => by simp [PyData.depthAll]
  | p :: r => by
    have h := pairs_depth r
    simp only [List.map_cons, PyData.depthAll, pairD, PyData.depth]
    omega
theorem pairs_shaped {ps : List (Str × Str)} (h : ∀ r ∈ ps, PairOk r) : SeqAt.shaped (.list (ps.map pairD)) = true := by
  have d := pairs_depth ps
  unfold SeqAt.shaped
  rw [Bool.and_eq_true]
  refine ⟨pairs_lay h, decide_eq_true ?_⟩
  simp only [PyData.depth]
  omega
theorem pairs_eqv {ps : List (Str × Str)} (h : ∀ r ∈ ps, PairOk r) : PyData.eqv (.list (ps.map pairD)) (.list (ps.map pairD)) = true := PySem.SeqAt.eqv_refl _ (pairs_lay h)
end KB

namespace KL
open PySem L2 L2H LX KB
def top (i : Nat) : Stmt := PySem.Challenge.pw_leasewatch_k02_changes_by_numbers.main.body.getD i (.Pass ⟨0, 0, 0, 0⟩)
abbrev s_Log_init : Stmt := inClass (top 1) 0
abbrev p_Log_init : List Str := ["self"]
abbrev n_Log_init : List Str := ["self"]
theorem sc_Log_init : FnScope n_Log_init p_Log_init (defScope s_Log_init) := ⟨rfl, rfl, rfl, by decide +kernel, rfl, by decide +kernel, by decide +kernel⟩
abbrev s_Log_note : Stmt := inClass (top 1) 1
abbrev p_Log_note : List Str := ["self", "tick", "word", "key", "value"]
abbrev n_Log_note : List Str := ["self", "tick", "word", "key", "value", "number"]
theorem sc_Log_note : FnScope n_Log_note p_Log_note (defScope s_Log_note) := ⟨rfl, rfl, rfl, by decide +kernel, rfl, by decide +kernel, by decide +kernel⟩
abbrev s_Log_last : Stmt := inClass (top 1) 2
abbrev p_Log_last : List Str := ["self"]
abbrev n_Log_last : List Str := ["self"]
theorem sc_Log_last : FnScope n_Log_last p_Log_last (defScope s_Log_last) := ⟨rfl, rfl, rfl, by decide +kernel, rfl, by decide +kernel, by decide +kernel⟩
abbrev s_Log_first : Stmt := inClass (top 1) 3
abbrev p_Log_first : List Str := ["self"]
abbrev n_Log_first : List Str := ["self"]
theorem sc_Log_first : FnScope n_Log_first p_Log_first (defScope s_Log_first) := ⟨rfl, rfl, rfl, by decide +kernel, rfl, by decide +kernel, by decide +kernel⟩
abbrev s_Log_wanted : Stmt := inClass (top 1) 4
abbrev p_Log_wanted : List Str := ["self", "prefix", "behind", "most"]
abbrev n_Log_wanted : List Str := ["self", "prefix", "behind", "most", "told", "at", "change"]
theorem sc_Log_wanted : FnScope n_Log_wanted p_Log_wanted (defScope s_Log_wanted) := ⟨rfl, rfl, rfl, by decide +kernel, rfl, by decide +kernel, by decide +kernel⟩
abbrev s_Log_forget : Stmt := inClass (top 1) 5
abbrev p_Log_forget : List Str := ["self", "upto"]
abbrev n_Log_forget : List Str := ["self", "upto", "many"]
theorem sc_Log_forget : FnScope n_Log_forget p_Log_forget (defScope s_Log_forget) := ⟨rfl, rfl, rfl, by decide +kernel, rfl, by decide +kernel, by decide +kernel⟩
abbrev s_whole : Stmt := top 3
abbrev p_whole : List Str := ["_law_found"]
abbrev n_whole : List Str := ["_law_found"]
theorem sc_whole : FnScope n_whole p_whole (defScope s_whole) := ⟨rfl, rfl, rfl, by decide +kernel, rfl, by decide +kernel, by decide +kernel⟩
abbrev s_cell_at : Stmt := top 4
abbrev p_cell_at : List Str := ["_law_script", "_law_k"]
abbrev n_cell_at : List Str := ["_law_script", "_law_k"]
theorem sc_cell_at : FnScope n_cell_at p_cell_at (defScope s_cell_at) := ⟨rfl, rfl, rfl, by decide +kernel, rfl, by decide +kernel, by decide +kernel⟩
abbrev s_sign : Stmt := top 5
abbrev p_sign : List Str := ["_law_cell"]
abbrev n_sign : List Str := ["_law_cell", "_law_some"]
theorem sc_sign : FnScope n_sign p_sign (defScope s_sign) := ⟨rfl, rfl, rfl, by decide +kernel, rfl, by decide +kernel, by decide +kernel⟩
abbrev s_text : Stmt := top 6
abbrev p_text : List Str := ["_law_cell", "_law_size"]
abbrev n_text : List Str := ["_law_cell", "_law_size", "_law_k"]
theorem sc_text : FnScope n_text p_text (defScope s_text) := ⟨rfl, rfl, rfl, by decide +kernel, rfl, by decide +kernel, by decide +kernel⟩
abbrev s_pool : Stmt := top 7
abbrev p_pool : List Str := ["_law_cell", "_law_other"]
abbrev n_pool : List Str := ["_law_cell", "_law_other", "_law_first", "_law_one", "_law_two", "_law_at"]
theorem sc_pool : FnScope n_pool p_pool (defScope s_pool) := ⟨rfl, rfl, rfl, by decide +kernel, rfl, by decide +kernel, by decide +kernel⟩
abbrev s_prefix : Stmt := top 8
abbrev p_prefix : List Str := ["_law_pool_here", "_law_cell"]
abbrev n_prefix : List Str := ["_law_pool_here", "_law_cell"]
theorem sc_prefix : FnScope n_prefix p_prefix (defScope s_prefix) := ⟨rfl, rfl, rfl, by decide +kernel, rfl, by decide +kernel, by decide +kernel⟩
abbrev s_change : Stmt := top 9
abbrev p_change : List Str := ["_law_found"]
abbrev n_change : List Str := ["_law_found"]
theorem sc_change : FnScope n_change p_change (defScope s_change) := ⟨rfl, rfl, rfl, by decide +kernel, rfl, by decide +kernel, by decide +kernel⟩
abbrev s_changes : Stmt := top 10
abbrev p_changes : List Str := ["_law_found", "_law_due"]
abbrev n_changes : List Str := ["_law_found", "_law_due", "_law_one", "_law_good"]
theorem sc_changes : FnScope n_changes p_changes (defScope s_changes) := ⟨rfl, rfl, rfl, by decide +kernel, rfl, by decide +kernel, by decide +kernel⟩
abbrev s_pairs : Stmt := top 11
abbrev p_pairs : List Str := ["_law_found", "_law_due"]
abbrev n_pairs : List Str := ["_law_found", "_law_due", "_law_one", "_law_good"]
theorem sc_pairs : FnScope n_pairs p_pairs (defScope s_pairs) := ⟨rfl, rfl, rfl, by decide +kernel, rfl, by decide +kernel, by decide +kernel⟩
abbrev s_wanted : Stmt := top 12
abbrev p_wanted : List Str := ["_law_mine", "_law_prefix_here", "_law_behind", "_law_most"]
abbrev n_wanted : List Str := ["_law_mine", "_law_prefix_here", "_law_behind", "_law_most", "_law_due", "_law_row"]
theorem sc_wanted : FnScope n_wanted p_wanted (defScope s_wanted) := ⟨rfl, rfl, rfl, by decide +kernel, rfl, by decide +kernel, by decide +kernel⟩
abbrev s_noted : Stmt := top 13
abbrev p_noted : List Str := ["_law_log", "_law_mine", "_law_pool_here", "_law_cell", "_law_more"]
abbrev n_noted : List Str := ["_law_log", "_law_mine", "_law_pool_here", "_law_cell", "_law_more", "_law_value", "_law_tick", "_law_row", "_law_found"]
theorem sc_noted : FnScope n_noted p_noted (defScope s_noted) := ⟨rfl, rfl, rfl, by decide +kernel, rfl, by decide +kernel, by decide +kernel⟩
abbrev s_forgot : Stmt := top 14
abbrev p_forgot : List Str := ["_law_log", "_law_mine", "_law_cell"]
abbrev n_forgot : List Str := ["_law_log", "_law_mine", "_law_cell", "_law_upto", "_law_due", "_law_found"]
theorem sc_forgot : FnScope n_forgot p_forgot (defScope s_forgot) := ⟨rfl, rfl, rfl, by decide +kernel, rfl, by decide +kernel, by decide +kernel⟩
abbrev s_ends : Stmt := top 15
abbrev p_ends : List Str := ["_law_log", "_law_mine"]
abbrev n_ends : List Str := ["_law_log", "_law_mine", "_law_last", "_law_first"]
theorem sc_ends : FnScope n_ends p_ends (defScope s_ends) := ⟨rfl, rfl, rfl, by decide +kernel, rfl, by decide +kernel, by decide +kernel⟩
abbrev s_step : Stmt := top 16
abbrev p_step : List Str := ["_law_log", "_law_mine", "_law_pool_here", "_law_kind", "_law_cell"]
abbrev n_step : List Str := ["_law_log", "_law_mine", "_law_pool_here", "_law_kind", "_law_cell", "_law_prefix_here", "_law_behind", "_law_most"]
theorem sc_step : FnScope n_step p_step (defScope s_step) := ⟨rfl, rfl, rfl, by decide +kernel, rfl, by decide +kernel, by decide +kernel⟩
abbrev s_law : Stmt := top 17
abbrev p_law : List Str := ["_law_script"]
abbrev n_law : List Str := ["_law_script", "_law_logs", "_law_mine", "_law_pool_here", "_law_k", "_law_which", "_law_rows", "_law_found"]
theorem sc_law : FnScope n_law p_law (defScope s_law) := ⟨rfl, rfl, rfl, by decide +kernel, rfl, by decide +kernel, by decide +kernel⟩
end KL

namespace KL
open PySem L2 L2H LX KB
/-! ### a law's plain helpers: whole, cell_at, sign, text, pool, prefix -/
structure LTxt (mg : Str → Option Value) : Prop where
  isi : mg "isinstance" = none
  int : mg "int" = none
  bool : mg "bool" = none
  str : mg "str" = none
  len : mg "len" = none
  sorted : mg "sorted" = none
  list : mg "list" = none
  tuple : mg "tuple" = none
  range : mg "range" = none
/-- a def of the law as its callers see it -/
structure Def (P : Program) (w : World) (K : PySem.W.Frag) (mg : Str → Option Value) (base : Heap) (x : Str) (k : Nat) (ps : List Str) (sp : Sp) : Prop where
  ex : ∃ f fd, mg x = some (.ref f) ∧ PySem.W.keepIn K (.ref f) = true ∧ Binds K fd ps [] ∧ FnOk P w K mg base CX0 k f fd ps sp
def Plain (v : V) (b : Bool) : Prop := ((∃ i, v = .int i) ∧ b = true) ∨ ((v = .non ∨ ∃ z, v = .str z) ∧ b = false)
def spWhole : Sp := fun vs H Q _ => ∃ (v : V) (b : Bool), vs = [v] ∧ Plain v b ∧ Q (.bl b) H
def spCellA (K : PySem.W.Frag) : Sp := fun vs H Q _ => ∃ (a : Addr) (ns : List Int) (j : Nat), vs = [.ref a, .int j] ∧ SqL K H a (ns.map V.int) ∧ ∀ t, Q (.int t) H
def spSign : Sp := fun vs H Q _ => ∃ (c : Int), vs = [.int c] ∧ ∀ z, TOk 1 z → Q (.str z) H
def spText : Sp := fun vs H Q _ => ∃ (c n : Int), vs = [.int c, .int n] ∧ 0 ≤ n ∧ n ≤ 60 ∧ ∀ z H', TOk n.toNat z → Same H H' → Q (.str z) H'
def spPool : Sp := fun vs H Q _ => ∃ (c o : Int), vs = [.int c, .int o] ∧ ∀ (q : Addr) (zs : List Str) (H' : Hp), H q = none → H' q = some (.lst (zs.map V.str)) → zs.length = 6 → (∀ z ∈ zs, TOk 60 z) → Same H H' → Q (.ref q) H'
def spPrefix : Sp := fun vs H Q _ => ∃ (q : Addr) (zs : List Str) (c : Int), vs = [.ref q, .int c] ∧ H q = some (.lst (zs.map V.str)) ∧ zs.length = 6 ∧ (∀ z ∈ zs, TOk 60 z) ∧ ∀ z H', TOk 60 z → Same H H' → Q (.str z) H'
section
variable {P : Program} {w : World} {K : PySem.W.Frag} {mg : Str → Option Value} {base : Heap}
theorem ok_whole {f : Addr} {fd : FuncData} (F : Fun K "_law_whole" "_law_whole" s_whole f fd) (T : LTxt mg) : FnOk P w K mg base CX0 1 f fd p_whole spWhole := by
  refine F.ok sc_whole (fun vs H Q E h => ?_) (fun cdv A outer s H vs Q E hr h => ?_)
  · obtain ⟨v, b, rfl, _⟩ := h
    rfl
  · obtain ⟨v, b, rfl, hb, k⟩ := h
    refine ⟨_, pss_one (ps_ret (pe_and (pe_callB call_isi (by rfl) T.isi (by decide +kernel) (pa_cons (pv 0) (pa_cons (pe_bltn (v := V.ty "int") (by rfl) T.int (by decide +kernel) rfl) pa_nil)))
      (pe_one (pe_not (pe_callB call_isi (by rfl) T.isi (by decide +kernel) (pa_cons (pv 0) (pa_cons (pe_bltn (v := V.ty "bool") (by rfl) T.bool (by decide +kernel) rfl) pa_nil))))))), ?_⟩
    rcases hb with ⟨⟨i, rfl⟩, rfl⟩ | ⟨hv, rfl⟩
    · refine ⟨_, rfl, _, _, _, _, true, rfl, .ty _, .base (.int i), kit_ty (by decide +kernel), true, rfl, ?_⟩
      refine iteT ?_
      exact ⟨_, rfl, _, _, _, _, false, rfl, .ty _, .base (.int i), kit_ty (by decide +kernel), false, rfl, k⟩
    · rcases hv with rfl | ⟨z, rfl⟩
      · refine ⟨_, rfl, _, _, _, _, false, rfl, .ty _, .base .non, kit_ty (by decide +kernel), false, rfl, ?_⟩
        exact iteF k
      · refine ⟨_, rfl, _, _, _, _, false, rfl, .ty _, .base (.str z), kit_ty (by decide +kernel), false, rfl, ?_⟩
        exact iteF k
theorem ok_cell {f : Addr} {fd : FuncData} (F : Fun K "_law_cell_at" "_law_cell_at" s_cell_at f fd) (T : LTxt mg) : FnOk P w K mg base CX0 1 f fd p_cell_at (spCellA K) := by
  refine F.ok sc_cell_at (fun vs H Q E h => ?_) (fun cdv A outer s H vs Q E hr h => ?_)
  · obtain ⟨a, ns, j, rfl, _⟩ := h
    rfl
  · obtain ⟨a, ns, j, rfl, hs, k⟩ := h
    refine ⟨_, pss_cons (ps_if (pt_cmpR op_lt (pv 1) (pe_callB call_len_seq (by rfl) T.len PySem.boot_len (pa_cons (pv 0) pa_nil)) (nomark _)) (pss_one (ps_ret (pe_ix ix_list (pv 0) (pv 1) (fun _ _ => rfl)))) pss_nil)
      (pss_one (ps_ret pe_int)), ?_⟩
    refine ⟨_, rfl, _, rfl, a, _, rfl, .inl hs, _, _, rfl, rfl, _, rfl, ?_⟩
    rw [List.length_map]
    by_cases c : (j : Int) < ns.length
    · rw [decide_eq_true c]
      refine iteT ?_
      obtain ⟨t, _, e⟩ := at_ints (ns := ns) (z := (j : Int)) (by omega) c
      exact ⟨_, rfl, _, rfl, a, _, _, _, rfl, rfl, hs, e, k t⟩
    · rw [decide_eq_false c]
      refine iteF ?_
      exact k 0
theorem sign_go {z : Str} {i : Int} {H : Hp} {Q : VK} (h1 : z.length = 94) (h2 : PyData.strOk z = true) (k : ∀ y, TOk 1 y → Q (.str y) H) :
    ∃ x j c, V.str z = .str x ∧ V.int (i % 94) = .int j ∧ x.length ≤ sizeLine ∧ atI x.cps.toList j = some c ∧ Q (.str ⟨#[c]⟩) H := by
  have hl : z.cps.toList.length = 94 := by rw [Array.length_toList]; exact h1
  obtain ⟨j, hj⟩ := Int.eq_ofNat_of_zero_le (a := i % 94) (by omega)
  have hlt : j < z.cps.toList.length := by omega
  refine ⟨z, _, z.cps.toList[j], rfl, rfl, by rw [h1]; decide, by rw [hj]; exact atI_nat (List.getElem?_eq_getElem hlt), k _ (TOk.one ?_)⟩
  unfold PyData.strOk at h2
  rw [← Array.all_toList, List.all_eq_true] at h2
  exact of_decide_eq_true (h2 _ (List.getElem_mem hlt))
theorem ok_sign {f : Addr} {fd : FuncData} (F : Fun K "_law_sign" "_law_sign" s_sign f fd) : FnOk P w K mg base CX0 1 f fd p_sign spSign := by
  refine F.ok sc_sign (fun vs H Q E h => ?_) (fun cdv A outer s H vs Q E hr h => ?_)
  · obtain ⟨c, rfl, _⟩ := h
    rfl
  · obtain ⟨c, rfl, k⟩ := h
    refine ⟨_, pss_cons (ps_set (i := 1) sc_sign.nd rfl (Or.inl rfl) pe_str) (pss_cons (ps_set (i := 1) sc_sign.nd rfl (Or.inl rfl) (pe_op op_add_str (pv 1) pe_str))
      (pss_one (ps_ret (pe_ix ix_str (pv 1) (pe_op op_mod (pv 0) pe_int) (fun _ _ => rfl))))), ?_⟩
    refine ⟨_, rfl, _, _, rfl, rfl, (by decide +kernel), ?_⟩
    refine ⟨_, rfl, _, rfl, _, _, rfl, rfl, (by show (0 : Int) < 94; decide), ?_⟩
    exact sign_go (by decide +kernel) (by decide +kernel) k
theorem ok_text {f : Addr} {fd : FuncData} (F : Fun K "_law_text" "_law_text" s_text f fd) (T : LTxt mg) (D1 : Def P w K mg base "_law_sign" 1 p_sign spSign) : FnOk P w K mg base CX0 2 f fd p_text spText := by
  obtain ⟨fS, fdS, gS, kS, bS, GS⟩ := D1.ex
  refine F.ok sc_text (fun vs H Q E h => ?_) (fun cdv A outer s H vs Q E hr h => ?_)
  · obtain ⟨c, n, rfl, _⟩ := h
    rfl
  · obtain ⟨c, n, rfl, n0, n1, k⟩ := h
    refine ⟨_, pss_one (ps_ret (pe_join pe_str (pe_lc (own := [("_law_k", 2)]) (g := gName 2) rfl sc_text.nd (pi_range1 (by rfl) T.range (pa_cons (pv 1) pa_nil)) (blkOk_by (own := [("_law_k", 2)]) (N := n_text) (sc := defScope s_text) (by decide +kernel))
      (fun _ _ _ _ _ => pg_name (i := 2) sc_text.nd rfl (Or.inl rfl) (Or.inr rfl)) (fun _ _ _ _ _ => pts_nil)
      (fun _ _ _ _ _ => pe_call GS hr rfl gS kS bS .nil pass0 (pa_cons (pe_op op_add (pv 0) (pe_op op_mul (pe_op op_mul pe_int (pv 2)) (pv 2))) pa_nil))))), ?_⟩
    refine ⟨⟨_, rfl⟩, _, rfl, n, rfl, by omega, by omega, fun D hD => ?_⟩
    refine lc_range (lo := 0) (n := n.toNat) (fun i H' => ∃ ys : List Str, Same H H' ∧ H' D = some (.lst (ys.map V.str)) ∧ ys.length = i ∧ ∀ y ∈ ys, TOk 1 y) ⟨[], same_new hD, upd_same, rfl, fun y hy => by cases hy⟩ ?_ ?_
    · rintro i H1 hi ⟨ys, hs, hl, len, ok⟩
      refine ⟨rfl, _, rfl, _, rfl, _, _, rfl, rfl, .inl ⟨by decide, by decide⟩, _, rfl, _, _, rfl, rfl, .inl ⟨by omega, by omega⟩, _, _, rfl, rfl, _, rfl, fun z hz => ?_⟩
      refine ⟨_, hl, by rw [List.length_map]; exact small1000 (by omega), ys ++ [z], fun b o e => ?_, by rw [upd_same, List.map_append]; rfl, by rw [List.length_append, len]; rfl, fun y hy => ?_⟩
      · rw [upd_ne (ne_of_none e hD)]; exact hs b o e
      · rcases List.mem_append.mp hy with hy | hy
        · exact ok y hy
        · rw [List.mem_singleton.mp hy]; exact hz
    · rintro H1 ⟨ys, hs, hl, len, ok⟩
      refine ⟨_, D, ys, rfl, rfl, .inl (SqL.of hl), Nat.le_trans (join_len ok) (by omega), ?_⟩
      rw [TL.join_eq]
      refine k _ _ ?_ hs
      rw [← len]
      exact join_ok ok
theorem ok_pool {f : Addr} {fd : FuncData} (F : Fun K "_law_pool" "_law_pool" s_pool f fd) (T : LTxt mg) (D1 : Def P w K mg base "_law_sign" 1 p_sign spSign) (D2 : Def P w K mg base "_law_text" 2 p_text spText) : FnOk P w K mg base CX0 3 f fd p_pool spPool := by
  obtain ⟨fS, fdS, gS, kS, bS, GS⟩ := D1.ex
  obtain ⟨fT, fdT, gT, kT, bT, GT⟩ := D2.ex
  refine F.ok sc_pool (fun vs H Q E h => ?_) (fun cdv A outer s H vs Q E hr h => ?_)
  · obtain ⟨c, o, rfl, _⟩ := h
    rfl
  · obtain ⟨c, o, rfl, k⟩ := h
    have hr1 : Room 1 _ := hr.mono (by decide)
    refine ⟨_, pss_cons (ps_set (i := 2) sc_pool.nd rfl (Or.inl rfl) (pe_call GT hr rfl gT kT bT .nil pass0 (pa_cons (pv 0) (pa_cons (pe_ix ix_list (pe_lst (pa_cons (pe_op op_add pe_int (pe_op op_mod (pv 0) pe_int)) (pa_cons (pe_op op_add pe_int (pe_op op_mod (pv 0) pe_int)) pa_nil)))
          (pe_op op_mod (pe_op op_fdiv (pv 0) pe_int) pe_int) (fun _ _ => rfl)) pa_nil))))
      (pss_cons (ps_set (i := 3) sc_pool.nd rfl (Or.inl rfl) (pe_call GS hr1 rfl gS kS bS .nil pass0 (pa_cons (pv 1) pa_nil)))
      (pss_cons (ps_set (i := 4) sc_pool.nd rfl (Or.inl rfl) (pe_call GS hr1 rfl gS kS bS .nil pass0 (pa_cons (pe_op op_fdiv (pv 1) pe_int) pa_nil)))
      (pss_cons (ps_set (i := 5) sc_pool.nd rfl (Or.inl rfl) (pe_op op_mod (pe_op op_fdiv (pv 1) pe_int) (pe_op op_add (pe_callB call_len_str (by rfl) T.len PySem.boot_len (pa_cons (pv 2) pa_nil)) pe_int)))
      (pss_one (ps_ret (pe_lst (pa_cons (pv 2) (pa_cons (pe_op op_add_str (pv 2) (pv 3)) (pa_cons (pe_op op_add_str (pe_op op_add_str (pe_slice sl_str (pv 2) po_none (po_some (pv 5))) (pv 4)) (pe_slice sl_str (pv 2) (po_some (pv 5)) po_none))
        (pa_cons (pv 3) (pa_cons (pe_op op_add_str (pv 4) (pv 2)) (pa_cons (pe_call GT hr rfl gT kT bT .nil pass0 (pa_cons (pv 1) (pa_cons (pe_op op_sub pe_int (pe_op op_mod (pv 1) pe_int)) pa_nil))) pa_nil)))))))))))), ?_⟩
    refine ⟨_, rfl, _, rfl, _, _, rfl, rfl, (by show (0 : Int) < 4; decide), _, _, rfl, rfl, _, rfl, _, _, rfl, rfl, (by show (0 : Int) < 18; decide), _, _, rfl, rfl, (by show 2 ≤ sizeLine; decide), fun l hl => ?_⟩
    obtain ⟨n, hn, e⟩ := at_ints (ns := [1 + c % 4, 1 + c % 18]) (z := c / 4 % 2) (by omega) (by show c / 4 % 2 < 2; omega)
    have hn1 : 0 ≤ n ∧ n ≤ 18 := by
      simp only [List.mem_cons, List.not_mem_nil, or_false] at hn
      omega
    refine ⟨_, rfl, _, _, rfl, rfl, ⟨by decide, by decide⟩, _, _, rfl, rfl, (by show (0 : Int) < 2; decide), l, _, _, _, rfl, rfl, SqL.of upd_same, e, c, n, rfl, by omega, by omega, fun z1 H1 t1 s1 => ?_⟩
    have t1 : TOk 18 z1 := t1.mono (by omega)
    refine ⟨_, rfl, _, rfl, fun z2 t2 => ?_⟩
    refine ⟨_, rfl, _, _, rfl, rfl, ⟨by decide, by decide⟩, _, rfl, fun z3 t3 => ?_⟩
    refine ⟨_, rfl, _, _, rfl, rfl, ⟨by decide, by decide⟩, _, rfl, _, rfl, t1.line (by decide), _, _, rfl, rfl, _, _, rfl, rfl, ?_, ?_⟩
    · show (0 : Int) < (z1.length : Int) + 1
      omega
    have c1 := t1.cut none (some (o / 8836 % ((z1.length : Int) + 1)))
    have c2 := t1.cut (some (o / 8836 % ((z1.length : Int) + 1))) none
    have a1 := (c1.app t3).app c2
    have a2 := t1.app t2
    have a3 := t3.app t1
    have L1 : ∀ {x y : Str} {n m : Nat}, TOk n x → TOk m y → n + m ≤ 1000 → x.length + y.length ≤ sizeLine := fun {x y n m} a b h => by
      have := a.le
      have := b.le
      exact Nat.le_of_lt (small1000 (by omega))
    refine ⟨_, rfl, _, rfl, _, rfl, _, _, rfl, rfl, L1 t1 t2 (by decide), ?_⟩
    refine ⟨_, rfl, _, rfl, _, rfl, _, rfl, t1.line (by decide), _, rfl, _, _, rfl, rfl, L1 c1 t3 (by decide), ?_⟩
    refine ⟨_, rfl, _, rfl, _, rfl, _, rfl, t1.line (by decide), _, _, rfl, rfl, L1 (c1.app t3) c2 (by decide), ?_⟩
    refine ⟨_, rfl, _, rfl, _, rfl, _, _, rfl, rfl, L1 t3 t1 (by decide), ?_⟩
    refine ⟨_, rfl, _, rfl, _, _, rfl, rfl, (by show (0 : Int) < 3; decide), _, _, rfl, rfl, o, 20 - o % 3, rfl, by omega, by omega, fun z4 H2 t4 s2 => ?_⟩
    refine ⟨(by show 6 ≤ sizeLine; decide), fun q hq => ?_⟩
    have s0 : Same H H2 := fun b u e => s2 _ _ (s1 _ _ (same_new hl _ _ e))
    refine k q [z1, z1 ++ z2, cutS z1 none (some (o / 8836 % ((z1.length : Int) + 1))) ++ z3 ++ cutS z1 (some (o / 8836 % ((z1.length : Int) + 1))) none, z2, z3 ++ z1, z4] _ (s0.free hq) upd_same rfl (fun z hz => ?_) fun b u e => ?_
    · simp only [List.mem_cons, List.not_mem_nil, or_false] at hz
      rcases hz with rfl | rfl | rfl | rfl | rfl | rfl
      · exact t1.mono (by decide)
      · exact a2.mono (by decide)
      · exact a1.mono (by decide)
      · exact t2.mono (by decide)
      · exact a3.mono (by decide)
      · exact t4.mono (by omega)
    · rw [upd_ne (ne_of_none (s0 _ _ e) hq)]; exact s0 _ _ e
theorem ok_prefix {f : Addr} {fd : FuncData} (F : Fun K "_law_prefix" "_law_prefix" s_prefix f fd) : FnOk P w K mg base CX0 1 f fd p_prefix spPrefix := by
  refine F.ok sc_prefix (fun vs H Q E h => ?_) (fun cdv A outer s H vs Q E hr h => ?_)
  · obtain ⟨q, zs, c, rfl, _⟩ := h
    rfl
  · obtain ⟨q, zs, c, rfl, hq, hl, ok, k⟩ := h
    obtain ⟨z0, z1, z2, z3, z4, z5, rfl⟩ : ∃ z0 z1 z2 z3 z4 z5, zs = [z0, z1, z2, z3, z4, z5] := by
      match zs, hl with
      | [z0, z1, z2, z3, z4, z5], _ => exact ⟨z0, z1, z2, z3, z4, z5, rfl⟩
    have o4 := ok z4 (by simp)
    refine ⟨_, pss_one (ps_ret (pe_ix ix_list (pe_lst (pa_cons pe_str (pa_cons pe_str (pa_cons (pe_ix ix_list (pv 0) pe_int (fun _ _ => rfl)) (pa_cons (pe_ix ix_list (pv 0) pe_int (fun _ _ => rfl)) (pa_cons (pe_ix ix_list (pv 0) pe_int (fun _ _ => rfl))
      (pa_cons (pe_slice sl_str (pe_ix ix_list (pv 0) pe_int (fun _ _ => rfl)) po_none (po_some pe_int)) (pa_cons (pe_ix ix_list (pv 0) pe_int (fun _ _ => rfl)) pa_nil))))))))
      (pe_op op_mod (pv 1) pe_int) (fun _ _ => rfl))), ?_⟩
    refine ⟨_, rfl, q, _, 0, .str z0, rfl, rfl, SqL.of hq, rfl, _, rfl, q, _, 3, .str z3, rfl, rfl, SqL.of hq, rfl, _, rfl, q, _, 1, .str z1, rfl, rfl, SqL.of hq, rfl, _, rfl, q, _, 4, .str z4, rfl, rfl, SqL.of hq, rfl, _, rfl, _, rfl, o4.line (by decide),
      _, rfl, q, _, 5, .str z5, rfl, rfl, SqL.of hq, rfl, (by show 7 ≤ sizeLine; decide), fun l hl => ?_⟩
    obtain ⟨z, hz, e⟩ := at_strs (ns := ["", "", z0, z3, z1, cutS z4 none (some 1), z5]) (z := c % 7) (by omega) (by show c % 7 < 7; omega)
    refine ⟨_, rfl, _, _, rfl, rfl, (by show (0 : Int) < 7; decide), l, _, _, _, rfl, rfl, SqL.of upd_same, e, ?_⟩
    refine k z _ ?_ (same_new hl)
    simp only [List.mem_cons, List.not_mem_nil, or_false] at hz
    rcases hz with rfl | rfl | rfl | rfl | rfl | rfl | rfl
    · exact TOk.nil.mono (by decide)
    · exact TOk.nil.mono (by decide)
    · exact ok _ (by simp)
    · exact ok _ (by simp)
    · exact ok _ (by simp)
    · exact o4.cut _ _
    · exact ok _ (by simp)
end
end KL

namespace KL
open PySem L2 L2H LX KB
/-! ### a law's plain helpers: change, changes -/
def spChange : Sp := fun vs H Q _ => ∃ (t : Addr) (r : Row), vs = [.ref t] ∧ H t = some (.tup r.V) ∧ Q (.bl true) H
def spChanges (K : PySem.W.Frag) : Sp := fun vs H Q _ => ∃ (f d : Addr) (ts us : List Addr) (rs : List Row), vs = [.ref f, .ref d] ∧ H f = some (.lst (ts.map V.ref)) ∧ H d = some (.lst (us.map V.ref)) ∧ RowsAt H ts rs ∧ RowsAt H us rs ∧ (∀ r ∈ rs, r.Ok) ∧
  Q (.bl true) (upd H f (.lst []))
section
variable {P : Program} {w : World} {K : PySem.W.Frag} {mg : Str → Option Value} {base : Heap}
theorem ok_change {f : Addr} {fd : FuncData} (F : Fun K "_law_change" "_law_change" s_change f fd) (T : LTxt mg) (D1 : Def P w K mg base "_law_whole" 1 p_whole spWhole) : FnOk P w K mg base CX0 2 f fd p_change spChange := by
  obtain ⟨fW, fdW, gW, kW, bW, GW⟩ := D1.ex
  refine F.ok sc_change (fun vs H Q E h => ?_) (fun cdv A outer s H vs Q E hr h => ?_)
  · obtain ⟨t, r, rfl, _⟩ := h
    rfl
  · obtain ⟨t, r, rfl, ht, k⟩ := h
    refine ⟨_, pss_cons (ps_if (PW.pt (pw_or (pt_not (pt_val (pe_callB call_isi (by rfl) T.isi (by decide +kernel) (pa_cons (pv 0) (pa_cons (pe_bltn (v := V.ty "tuple") (by rfl) T.tuple (by decide +kernel) rfl) pa_nil)))))
          (pw_or1 (pt_cmpR op_ne (pe_callB call_len_seq (by rfl) T.len PySem.boot_len (pa_cons (pv 0) pa_nil)) pe_int (nomark _))))) (pss_one (ps_ret pe_bl)) pss_nil)
      (pss_cons (ps_if (PW.pt (pw_or (pt_not (pt_val (pe_call GW hr rfl gW kW bW .nil pass0 (pa_cons (pe_ix ix_tup (pv 0) pe_int (fun _ _ => rfl)) pa_nil))))
          (pw_or1 (pt_not (pt_val (pe_call GW hr rfl gW kW bW .nil pass0 (pa_cons (pe_ix ix_tup (pv 0) pe_int (fun _ _ => rfl)) pa_nil))))))) (pss_one (ps_ret pe_bl)) pss_nil)
      (pss_one (ps_ret (pe_and (pe_callB call_isi (by rfl) T.isi (by decide +kernel) (pa_cons (pe_ix ix_tup (pv 0) pe_int (fun _ _ => rfl)) (pa_cons (pe_bltn (v := V.ty "str") (by rfl) T.str (by decide +kernel) rfl) pa_nil)))
        (pe_and (pe_callB call_isi (by rfl) T.isi (by decide +kernel) (pa_cons (pe_ix ix_tup (pv 0) pe_int (fun _ _ => rfl)) (pa_cons (pe_bltn (v := V.ty "str") (by rfl) T.str (by decide +kernel) rfl) pa_nil)))
        (pe_one (pe_callB call_isi (by rfl) T.isi (by decide +kernel) (pa_cons (pe_ix ix_tup (pv 0) pe_int (fun _ _ => rfl)) (pa_cons (pe_bltn (v := V.ty "str") (by rfl) T.str (by decide +kernel) rfl) pa_nil))))))))), ?_⟩
    refine ⟨_, rfl, _, _, _, _, true, rfl, .ty _, .base (.tup ht), kit_ty (by decide +kernel), true, rfl, iteF ?_⟩
    refine ⟨_, rfl, t, _, rfl, .inr (SqT.of ht), rfl, _, rfl, iteNS rfl ?_⟩
    refine ⟨_, rfl, t, _, 0, .int r.n, rfl, rfl, SqT.of ht, rfl, _, true, rfl, .inl ⟨⟨r.n, rfl⟩, rfl⟩, true, rfl, iteF ?_⟩
    refine ⟨_, rfl, t, _, 1, .int r.t, rfl, rfl, SqT.of ht, rfl, _, true, rfl, .inl ⟨⟨r.t, rfl⟩, rfl⟩, true, rfl, iteF ?_⟩
    refine ⟨_, rfl, t, _, 2, .str r.w, rfl, rfl, SqT.of ht, rfl, _, _, _, _, true, rfl, .ty _, .base (.str r.w), kit_ty (by decide +kernel), true, rfl, iteT ?_⟩
    refine ⟨_, rfl, t, _, 3, .str r.k, rfl, rfl, SqT.of ht, rfl, _, _, _, _, true, rfl, .ty _, .base (.str r.k), kit_ty (by decide +kernel), true, rfl, iteT ?_⟩
    exact ⟨_, rfl, t, _, 4, .str r.v, rfl, rfl, SqT.of ht, rfl, _, _, _, _, true, rfl, .ty _, .base (.str r.v), kit_ty (by decide +kernel), k⟩
theorem ok_changes {f : Addr} {fd : FuncData} (F : Fun K "_law_changes" "_law_changes" s_changes f fd) (T : LTxt mg) (D1 : Def P w K mg base "_law_change" 2 p_change spChange) : FnOk P w K mg base CX0 3 f fd p_changes (spChanges K) := by
  obtain ⟨fC, fdC, gC, kC, bC, GC⟩ := D1.ex
  refine F.ok sc_changes (fun vs H Q E h => ?_) (fun cdv A outer s H vs Q E hr h => ?_)
  · obtain ⟨f, d, ts, us, rs, rfl, _⟩ := h
    rfl
  · obtain ⟨fo, d, ts, us, rs, rfl, hf, hd, mf, md, ok, k⟩ := h
    have hu64 := hr.units
    refine ⟨_, pss_cons (ps_if (PW.pt (pw_or (pt_not (pt_val (pe_callB call_isi (by rfl) T.isi (by decide +kernel) (pa_cons (pv 0) (pa_cons (pe_bltn (v := V.ty "list") (by rfl) T.list (by decide +kernel) rfl) pa_nil)))))
          (pw_or1 (pt_cmpR op_ne (pe_callB call_len_seq (by rfl) T.len PySem.boot_len (pa_cons (pv 0) pa_nil)) (pe_callB call_len_seq (by rfl) T.len PySem.boot_len (pa_cons (pv 1) pa_nil)) (nomark _))))) (pss_one (ps_ret pe_bl)) pss_nil)
      (pss_cons (ps_for PassesOwn.never rfl (pi_list (pv 0)) (pg_name (i := 2) sc_changes.nd rfl (Or.inl rfl))
        (pss_one (ps_if (pt_not (pt_val (pe_call GC hr rfl gC kC bC .nil pass0 (pa_cons (pv 2) pa_nil)))) (pss_one (ps_ret pe_bl)) pss_nil)))
      (pss_cons (ps_set (i := 3) sc_changes.nd rfl (Or.inl rfl) (pe_cmpR (op_eqD hu64) (pv 0) (pv 1) (nomark _)))
      (pss_cons (ps_expr (pe_bm0 PySem.F.plainAttrs_list PySem.F.slot_list_clear PySem.F.type_list_clear mt_clear (pv 0)))
      (pss_one (ps_ret (pv 3)))))), ?_⟩
    refine ⟨_, rfl, _, _, _, _, true, rfl, .ty _, .base (.lst hf), kit_ty (by decide +kernel), true, rfl, iteF ?_⟩
    refine ⟨_, rfl, fo, _, rfl, .inl (SqL.of hf), _, rfl, d, _, rfl, .inl (SqL.of hd), rfl, _, rfl, iteNS (by rw [List.length_map, List.length_map, Paired.length mf, Paired.length md]) ?_⟩
    refine ⟨_, rfl, fo, rfl, ⟨_, SqL.of hf⟩, for_list (xs := ts.map V.ref) (fun i σ H' => H = H' ∧ ∃ y, σ = [some (.ref fo), some (.ref d), y, none]) ⟨rfl, none, rfl⟩ ?_ ?_ ?_⟩
    · rintro i σ H' _ ⟨rfl, _⟩
      exact SqL.of hf
    · rintro i x σ H' hx ⟨rfl, y, rfl⟩
      obtain ⟨t, r, rfl, _, ht⟩ := RowsAt.at mf hx
      exact ⟨_, rfl, t, r, rfl, ht, true, rfl, iteF ⟨rfl, _, rfl⟩⟩
    · rintro σ H' ⟨rfl, y, rfl⟩
      refine ⟨_, rfl, _, rfl, .list (rs.map Row.D), .list (rs.map Row.D), .lst (SqL.of hf) mf.dp, .lst (SqL.of hd) md.dp, rows_shaped ok, rows_shaped ok, ?_⟩
      rw [rows_eqv ok]
      exact ⟨_, rfl, .inl ⟨rfl, _, SqL.of hf⟩, fo, _, rfl, rfl, hf, _, rfl, k⟩
end
end KL

namespace KB
open PySem L2 L2H LX
/-! ### logs by themselves, as plain lists -/
/-- does a key begin with a prefix -/
def isPre (p k : Str) : Bool := decide (cutS k none (some (p.length : Int)) = p)
def wantedM (rs : List Row) (g : Nat) (p : Str) (b most : Int) : List Row := ((rs.drop g).filter fun r => decide (r.n > b) && isPre p r.k).take most.toNat
/-- what is forgotten when all up to u is -/
def goneM (len g : Nat) (u : Int) : Nat := max g (min u.toNat len)
theorem goneM_ge (len g : Nat) (u : Int) : g ≤ goneM len g u := Nat.le_max_left _ _
theorem goneM_le {len g : Nat} (u : Int) (h : g ≤ len) : goneM len g u ≤ len := Nat.max_le.mpr ⟨h, Nat.min_le_right _ _⟩
/-- numbered from 1 on -/
def Num (rs : List Row) : Prop := ∀ (i : Nat) (r : Row), rs[i]? = some r → r.n = (i : Int) + 1
theorem Num.nil : Num [] := fun i r h => by simp at h
theorem Num.snoc {rs : List Row} (h : Num rs) {r : Row} (e : r.n = (rs.length : Int) + 1) : Num (rs ++ [r]) := fun i x hx => by
  by_cases c : i < rs.length
  · rw [List.getElem?_append_left c] at hx
    exact h i x hx
  · rw [List.getElem?_append_right (by omega)] at hx
    have z : i - rs.length = 0 := by
      cases q : i - rs.length with
      | zero => rfl
      | succ n => rw [q] at hx; simp at hx
    rw [z] at hx
    cases hx
    rw [e]
    omega
theorem isPre_nil (k : Str) : isPre "" k = true := by
  unfold isPre
  refine decide_eq_true ?_
  refine TL.ext_tl ?_
  have e : TL.tl (cutS k none (some ((("" : Str).length : Nat) : Int))) = ((tl k).drop 0).take (HT.sIx k.length k.length (some (0 : Int)) - 0) := by
    show (cutS k none (some (0 : Int))).cps.toList = _
    unfold cutS
    exact List.toList_toArray
  rw [e]
  have z : HT.sIx k.length k.length (some (0 : Int)) = 0 := by
    have q := HT.sIx_nat k.length k.length 0
    rw [Nat.zero_min] at q
    exact q
  rw [z]
  rfl
theorem wantedM_all {rs : List Row} (h : Num rs) (g : Nat) {most : Int} (hm : (rs.length : Int) ≤ most) : wantedM rs g "" 0 most = rs.drop g := by
  unfold wantedM
  have e : (rs.drop g).filter (fun r => decide (r.n > 0) && isPre "" r.k) = rs.drop g := by
    refine List.filter_eq_self.mpr fun r hr => ?_
    obtain ⟨i, hi⟩ := List.mem_iff_getElem?.mp (List.mem_of_mem_drop hr)
    have := h i r hi
    rw [isPre_nil, Bool.and_true]
    exact decide_eq_true (by omega)
  rw [e]
  refine List.take_of_length_le ?_
  rw [List.length_drop]
  omega
theorem wantedM_ok {rs : List Row} (h : ∀ r ∈ rs, r.Ok) (g : Nat) (p : Str) (b m : Int) : ∀ r ∈ wantedM rs g p b m, r.Ok := fun r hr =>
  h r (List.mem_of_mem_drop (List.mem_filter.mp (List.mem_of_mem_take hr)).1)
theorem RowsAt.drop {H : Hp} : ∀ {ts : List Addr} {rs : List Row} (n : Nat), RowsAt H ts rs → RowsAt H (ts.drop n) (rs.drop n)
  | _, _, 0, m => m
  | _, _, n + 1, .nil => .nil
  | _, _, n + 1, .cons r m => RowsAt.drop n m
theorem RowsAt.take {H : Hp} : ∀ {ts : List Addr} {rs : List Row} (n : Nat), RowsAt H ts rs → RowsAt H (ts.take n) (rs.take n)
  | _, _, 0, m => .nil
  | _, _, n + 1, .nil => .nil
  | _, _, n + 1, .cons r m => .cons r (RowsAt.take n m)
theorem RowsAt.last {H : Hp} {ts : List Addr} {rs : List Row} (m : RowsAt H ts rs) (h : 0 < rs.length) : ∃ t r, atI (ts.map V.ref) (-1) = some (V.ref t) ∧ H t = some (.tup r.V) ∧ rs[rs.length - 1]? = some r := by
  have hl := Paired.length m
  rcases List.eq_nil_or_concat ts with e | ⟨l, b, e⟩
  · subst e
    simp only [List.length_nil] at hl
    omega
  · have ha : atI (ts.map V.ref) (-1) = some (V.ref b) := by
      have q := atI_last (l.map V.ref) (V.ref b)
      rw [e]
      simpa using q
    have hx : (ts.map V.ref)[rs.length - 1]? = some (V.ref b) := by
      have e2 : rs.length - 1 = l.length := by
        rw [← hl, e]
        simp
      rw [e2, e]
      simp
    obtain ⟨t, r, et, er, ht⟩ := RowsAt.at m hx
    cases et
    exact ⟨b, r, ha, ht, er⟩
theorem cutV_from (xs : List V) {g : Nat} (h : g ≤ xs.length) : cutV xs (some (g : Int)) none = xs.drop g := by
  unfold cutV
  rw [HT.sIx_none, HT.sIx_nat, Nat.min_eq_left h]
  refine List.take_of_length_le ?_
  rw [List.length_drop]
  exact Nat.le_refl _
theorem cutV_upto (xs : List V) {m : Int} (h : 0 ≤ m) : cutV xs none (some m) = xs.take m.toNat := by
  obtain ⟨j, rfl⟩ := Int.eq_ofNat_of_zero_le h
  unfold cutV
  rw [HT.sIx_none]
  have e : HT.sIx xs.length xs.length (some ((j : Nat) : Int)) = min j xs.length := HT.sIx_nat _ _ _
  show (xs.drop 0).take (HT.sIx xs.length xs.length (some ((j : Nat) : Int)) - 0) = _
  rw [e, List.drop_zero, Nat.sub_zero, Int.toNat_natCast]
  by_cases c : j ≤ xs.length
  · rw [Nat.min_eq_left c]
  · rw [Nat.min_eq_right (by omega), List.take_length, List.take_of_length_le (by omega)]
/-! ### what stands by a log, whatever it is made of -/
/-- F' holds what F held and new ones -/
def Grow (F F' : List Addr) (H : Hp) : Prop := ∀ a ∈ F', a ∈ F ∨ H a = none
theorem Grow.refl (F : List Addr) (H : Hp) : Grow F F H := fun _ h => .inl h
theorem Grow.apart {F F' S : List Addr} {H : Hp} (g : Grow F F' H) (d : ∀ a ∈ F, a ∉ S) (s : ∀ a ∈ S, ∃ o, H a = some o) : ∀ a ∈ F', a ∉ S := fun a ha m => by
  rcases g a ha with h | h
  · exact d a h m
  · obtain ⟨o, e⟩ := s a m
    rw [h] at e
    cases e
theorem Grow.apart2 {F F' S : List Addr} {H : Hp} (g : Grow F F' H) (d : ∀ a ∈ S, a ∉ F) (s : ∀ a ∈ S, ∃ o, H a = some o) : ∀ a ∈ S, a ∉ F' := fun a ha m => by
  rcases g a m with h | h
  · exact d a ha h
  · obtain ⟨o, e⟩ := s a ha
    rw [h] at e
    cases e
theorem Grow.trans {F F1 F2 : List Addr} {H H1 : Hp} (a : Grow F F1 H) (b : Grow F1 F2 H1) (k : ∀ x, H1 x = none → H x = none) : Grow F F2 H := fun x hx => by
  rcases b x hx with h | h
  · exact a x h
  · exact .inr (k x h)
theorem Ch.seq {F F1 : List Addr} {H H1 H2 : Hp} (a : Ch H H1 F) (g : Grow F F1 H) (b : Ch H1 H2 F1) : Ch H H2 F := by
  refine ⟨fun x o e n => b.st x o (a.st x o e n) (n.imp (fun z y => ?_) id), fun x o e => let ⟨_, z⟩ := a.th x o e; b.th _ _ z⟩
  rcases g x y with h | h
  · exact z h
  · rw [e] at h
    cases h
def spLogInit (C : Addr) (Lg : List Addr → Hp → Addr → List Row → Nat → Prop) : Sp := fun vs H Q _ => ∃ (p dx : Addr), vs = [.ref p] ∧ H p = some (.ins C dx []) ∧
  ∀ F H', Lg F H' p [] 0 → (∀ a ∈ F, a = p ∨ H a = none) → Ch H H' [p] → Q .non H'
def spLogNote (Lg : List Addr → Hp → Addr → List Row → Nat → Prop) : Sp := fun vs H Q _ => ∃ (F : List Addr) (p : Addr) (t : Int) (w k v : Str) (rs : List Row) (g : Nat), vs = [.ref p, .int t, .str w, .str k, .str v] ∧ Lg F H p rs g ∧ rs.length ≤ 100000 ∧ (Row.mk 0 t w k v).Ok ∧
  ∀ F' H', Lg F' H' p (rs ++ [⟨(rs.length : Int) + 1, t, w, k, v⟩]) g → Grow F F' H → Ch H H' F → Q (.int ((rs.length : Int) + 1)) H'
def spLogLast (Lg : List Addr → Hp → Addr → List Row → Nat → Prop) : Sp := fun vs H Q _ => ∃ (F : List Addr) (p : Addr) (rs : List Row) (g : Nat), vs = [.ref p] ∧ Lg F H p rs g ∧
  ∀ F' H', Lg F' H' p rs g → Grow F F' H → Ch H H' F → Q (.int rs.length) H'
def spLogFirst (Lg : List Addr → Hp → Addr → List Row → Nat → Prop) : Sp := fun vs H Q _ => ∃ (F : List Addr) (p : Addr) (rs : List Row) (g : Nat), vs = [.ref p] ∧ Lg F H p rs g ∧
  ∀ F' H', Lg F' H' p rs g → Grow F F' H → Ch H H' F → Q (.int ((g : Int) + 1)) H'
def spLogWanted (Lg : List Addr → Hp → Addr → List Row → Nat → Prop) : Sp := fun vs H Q _ => ∃ (F : List Addr) (p : Addr) (z : Str) (b m : Int) (rs : List Row) (g : Nat), vs = [.ref p, .str z, .int b, .int m] ∧ Lg F H p rs g ∧ TOk 60 z ∧ 0 ≤ m ∧ b ≤ 100000 ∧ rs.length ≤ 900 ∧
  ∀ F' q ts H', Lg F' H' p rs g → Grow F F' H → Ch H H' F → H q = none → q ∉ F' → H' q = some (.lst (ts.map V.ref)) → RowsAt H' ts (wantedM rs g z b m) → Q (.ref q) H'
def spLogForget (Lg : List Addr → Hp → Addr → List Row → Nat → Prop) : Sp := fun vs H Q _ => ∃ (F : List Addr) (p : Addr) (u : Int) (rs : List Row) (g : Nat), vs = [.ref p, .int u] ∧ Lg F H p rs g ∧ rs.length ≤ 900 ∧
  ∀ F' H', Lg F' H' p rs (goneM rs.length g u) → Grow F F' H → Ch H H' F → Q (.int ((goneM rs.length g u : Int) - g)) H'
/-- a method as its callers see it -/
structure MDef (P : Program) (w : World) (K : PySem.W.Frag) (mg : Str → Option Value) (base : Heap) (C : Addr) (m : Str) (CX : CXT) (k : Nat) (sp : Sp) : Prop where
  ex : ∃ f fd ps, Meth K C m f ∧ Binds K fd ps [] ∧ FnOk P w K mg base CX k f fd ps sp
structure LogApi (P : Program) (w : World) (K : PySem.W.Frag) (mg : Str → Option Value) (base : Heap) (C : Addr) (Lg : List Addr → Hp → Addr → List Row → Nat → Prop) : Prop where
  frame : ∀ {F H H' p rs g l}, Lg F H p rs g → Ch H H' l → (∀ a ∈ F, a ∉ l) → Lg F H' p rs g
  own : ∀ {F H p rs g}, Lg F H p rs g → ∀ a ∈ F, ∃ o, H a = some o
  inst : ∀ {F H p rs g}, Lg F H p rs g → p ∈ F ∧ ∃ dx fs, H p = some (.ins C dx fs) ∧ ∀ m ∈ ([("note" : Str), "last", "first", "wanted", "forget"] : List Str), fs.lookup m = none
  le : ∀ {F H p rs g}, Lg F H p rs g → g ≤ rs.length
  make : ∃ f fd ps, Mk K C f ∧ Binds K fd ps [] ∧ FnOk P w K mg base CX0 2 f fd ps (spLogInit C Lg)
  note : MDef P w K mg base C "note" CX0 2 (spLogNote Lg)
  last : MDef P w K mg base C "last" CX0 2 (spLogLast Lg)
  first : MDef P w K mg base C "first" CX0 2 (spLogFirst Lg)
  wanted : MDef P w K mg base C "wanted" CX0 3 (spLogWanted Lg)
  forget : MDef P w K mg base C "forget" CX0 3 (spLogForget Lg)
end KB

namespace KL
open PySem L2 L2H LX KB
/-! ### law_k02's own: the rows it keeps by itself -/
def mineD (r : Addr) (g : Int) (t : Addr) : List (Key × V) := [(Sum.inr "rows", .ref r), (Sum.inr "gone", .int g), (Sum.inr "told", .ref t)]
theorem inr_ne {a b : Str} (h : ¬ a = b) : ¬ ((Sum.inr a : Key) = Sum.inr b) := fun e => h (Sum.inr.inj e)
theorem w_rg : ¬ (("rows" : Str) = "gone") := by decide +kernel
theorem w_rt : ¬ (("rows" : Str) = "told") := by decide +kernel
theorem w_gt : ¬ (("gone" : Str) = "told") := by decide +kernel
theorem mine_r (r : Addr) (g : Int) (t : Addr) : valV (mineD r g t) (Sum.inr "rows") = some (.ref r) := valV_pos rfl
theorem mine_g (r : Addr) (g : Int) (t : Addr) : valV (mineD r g t) (Sum.inr "gone") = some (.int g) := by
  unfold mineD
  rw [valV_neg (inr_ne w_rg), valV_pos rfl]
theorem mine_t (r : Addr) (g : Int) (t : Addr) : valV (mineD r g t) (Sum.inr "told") = some (.ref t) := by
  unfold mineD
  rw [valV_neg (inr_ne w_rt), valV_neg (inr_ne w_gt), valV_pos rfl]
theorem mine_putT (r : Addr) (g : Int) (t t' : Addr) : putK (mineD r g t) (Sum.inr "told") (.ref t') = mineD r g t' := by
  unfold putK
  rw [valV_any, mine_t, if_pos (show (some (V.ref t)).isSome = true from rfl)]
  unfold mineD
  simp only [List.map_cons, List.map_nil, if_neg (inr_ne w_rt), if_neg (inr_ne w_gt), if_pos]
theorem mine_putG (r : Addr) (g g' : Int) (t : Addr) : putK (mineD r g t) (Sum.inr "gone") (.int g') = mineD r g' t := by
  have h : ¬ ((Sum.inr ("told" : Str) : Key) = Sum.inr ("gone" : Str)) := inr_ne fun e => w_gt e.symm
  unfold putK
  rw [valV_any, mine_g, if_pos (show (some (V.int g)).isSome = true from rfl)]
  unfold mineD
  simp only [List.map_cons, List.map_nil, if_neg (inr_ne w_rg), if_neg h, if_pos]
structure MineAt (H : Hp) (m r t : Addr) (ts : List Addr) (rs : List Row) (g : Nat) : Prop where
  di : H m = some (.dK (mineD r g t))
  ro : H r = some (.lst (ts.map V.ref))
  at_ : RowsAt H ts rs
  to : H t = some (.lst [])
  rt : r ≠ t
theorem MineAt.gR {H : Hp} {m r t : Addr} {ts : List Addr} {rs : List Row} {g : Nat} (M : MineAt H m r t ts rs g) : DGet H m (.str "rows") (some (.ref r)) := by
  have h := DGet.k (k := Sum.inr "rows") M.di
  rw [mine_r] at h
  exact h
theorem MineAt.gG {H : Hp} {m r t : Addr} {ts : List Addr} {rs : List Row} {g : Nat} (M : MineAt H m r t ts rs g) : DGet H m (.str "gone") (some (.int g)) := by
  have h := DGet.k (k := Sum.inr "gone") M.di
  rw [mine_g] at h
  exact h
theorem MineAt.gT {H : Hp} {m r t : Addr} {ts : List Addr} {rs : List Row} {g : Nat} (M : MineAt H m r t ts rs g) : DGet H m (.str "told") (some (.ref t)) := by
  have h := DGet.k (k := Sum.inr "told") M.di
  rw [mine_t] at h
  exact h
theorem MineAt.ch {H H' : Hp} {m r t : Addr} {ts : List Addr} {rs : List Row} {g : Nat} {l : List Addr} (M : MineAt H m r t ts rs g) (c : Ch H H' l) (h1 : m ∉ l) (h2 : r ∉ l) (h3 : t ∉ l) : MineAt H' m r t ts rs g :=
  ⟨c.at M.di h1, c.at M.ro h2, M.at_.keep c.tup, c.at M.to h3, M.rt⟩
theorem MineAt.same {H H' : Hp} {m r t : Addr} {ts : List Addr} {rs : List Row} {g : Nat} (M : MineAt H m r t ts rs g) (s : Same H H') : MineAt H' m r t ts rs g :=
  M.ch (Ch.of s []) (fun z => nomatch z) (fun z => nomatch z) (fun z => nomatch z)
def spWanted : Sp := fun vs H Q _ => ∃ (m r t : Addr) (z : Str) (b mo : Int) (ts : List Addr) (rs : List Row) (g : Nat), vs = [.ref m, .str z, .int b, .int mo] ∧ MineAt H m r t ts rs g ∧ TOk 60 z ∧ 0 ≤ mo ∧ rs.length ≤ 900 ∧ g ≤ rs.length ∧ (∀ r ∈ rs, r.Ok) ∧
  ∀ q us H', H q = none → H' q = some (.lst (us.map V.ref)) → RowsAt H' us (wantedM rs g z b mo) → Same H H' → Q (.ref q) H'
section
variable {P : Program} {w : World} {K : PySem.W.Frag} {mg : Str → Option Value} {base : Heap}
theorem ok_wanted {f : Addr} {fd : FuncData} (F : Fun K "_law_wanted" "_law_wanted" s_wanted f fd) (T : LTxt mg) : FnOk P w K mg base CX0 1 f fd p_wanted spWanted := by
  refine F.ok sc_wanted (fun vs H Q E h => ?_) (fun cdv A outer s H vs Q E hr h => ?_)
  · obtain ⟨m, r, t, z, b, mo, ts, rs, g, rfl, _⟩ := h
    rfl
  · obtain ⟨m, r, t, z, b, mo, ts, rs, g, rfl, M, hz, hm, hl, hg, ok, k⟩ := h
    have hu := hu_of hr
    refine ⟨_, pss_cons (ps_set (i := 4) sc_wanted.nd rfl (Or.inl rfl) (pe_lst pa_nil))
      (pss_cons (ps_for PassesOwn.never rfl (pi_list (pe_slice sl_list (pe_dget hu (pv 0) pe_str (fun _ _ => rfl)) (po_some (pe_dget hu (pv 0) pe_str (fun _ _ => rfl))) po_none)) (pg_name (i := 5) sc_wanted.nd rfl (Or.inl rfl))
        (pss_one (ps_if (PW.pt (pw_and (pt_cmpR op_gt (pe_ix ix_tup (pv 5) pe_int (fun _ _ => rfl)) (pv 2) (nomark _))
            (pw_and1 (pt_cmpR op_eq (pe_slice sl_str (pe_ix ix_tup (pv 5) pe_int (fun _ _ => rfl)) po_none (po_some (pe_callB call_len_str (by rfl) T.len PySem.boot_len (pa_cons (pv 1) pa_nil)))) (pv 1) (nomark _)))))
          (pss_one (ps_expr (pe_bm PySem.F.plainAttrs_list PySem.F.slot_list_append PySem.F.type_list_append mt_append (pv 4) (pa_cons (pv 5) pa_nil)))) pss_nil)))
      (pss_one (ps_ret (pe_slice sl_list (pv 4) po_none (po_some (pv 3)))))), ?_⟩
    refine ⟨(by show 0 ≤ sizeLine; decide), fun D hD => ?_⟩
    have M1 := M.same (same_new (o := .lst []) hD)
    have lt : (ts.map V.ref).length = rs.length := by rw [List.length_map, Paired.length M.at_]
    refine ⟨_, rfl, m, _, rfl, M1.gR, _, rfl, m, _, rfl, M1.gG, _, rfl, r, _, rfl, SqL.of M1.ro, fun S hS => ?_⟩
    rw [cutV_from _ (by rw [lt]; exact hg), ← List.map_drop]
    have hDS : D ≠ S := ne_of_none upd_same hS
    have hSD := hDS.symm
    generalize hH2 : upd (upd H D (.lst [])) S (.lst ((ts.drop g).map V.ref)) = H2
    have s2 : Same H H2 := fun x u e => by rw [← hH2]; exact same_new hS _ _ (same_new hD _ _ e)
    have hS2 : H2 S = some (.lst ((ts.drop g).map V.ref)) := by rw [← hH2]; exact upd_same
    have hD2 : H2 D = some (.lst []) := by rw [← hH2, upd_ne hDS]; exact upd_same
    have md : RowsAt H2 (ts.drop g) (rs.drop g) := (M.same s2).at_.drop g
    refine ⟨S, rfl, ⟨_, SqL.of hS2⟩, for_list (xs := (ts.drop g).map V.ref) (fun i σ H' => (∃ y, σ = [some (.ref m), some (.str z), some (.int b), some (.int mo), some (.ref D), y]) ∧ Ch H2 H' [D] ∧ ∃ ds, H' D = some (.lst (ds.map V.ref)) ∧ RowsAt H' ds (((rs.drop g).take i).filter fun r => decide (r.n > b) && isPre z r.k))
      ⟨⟨none, rfl⟩, Ch.refl _ _, [], hD2, .nil⟩ ?_ ?_ ?_⟩
    · rintro i σ H' _ ⟨_, c, _⟩
      exact SqL.of (c.at hS2 (fun x => hSD (List.mem_singleton.mp x)))
    · rintro i x σ H3 hx ⟨⟨y, rfl⟩, c, ds, hd, mds⟩
      obtain ⟨t1, ro, rfl, hro, ht⟩ := RowsAt.at md hx
      have ht3 := c.tup _ _ ht
      have okr : ro.Ok := ok ro (List.mem_of_mem_drop (List.mem_of_getElem? hro))
      have stp : (rs.drop g).take (i + 1) = (rs.drop g).take i ++ [ro] := by rw [List.take_add_one, hro]; rfl
      have stay : ∀ (bb : Bool), (decide (ro.n > b) && isPre z ro.k) = false → (∃ y', ([some (V.ref m), some (V.str z), some (V.int b), some (V.int mo), some (V.ref D), some (V.ref t1)] : L2.St) = [some (.ref m), some (.str z), some (.int b), some (.int mo), some (.ref D), y']) ∧ Ch H2 H3 [D] ∧ ∃ ds, H3 D = some (.lst (ds.map V.ref)) ∧ RowsAt H3 ds (((rs.drop g).take (i + 1)).filter fun r => decide (r.n > b) && isPre z r.k) := fun bb e => by
        refine ⟨⟨_, rfl⟩, c, ds, hd, ?_⟩
        rw [stp, List.filter_append, List.filter_cons_of_neg (by rw [e]; decide), List.filter_nil, List.append_nil]
        exact mds
      refine ⟨_, rfl, t1, _, 0, .int ro.n, rfl, rfl, SqT.of ht3, rfl, _, rfl, _, _, rfl, rfl, _, rfl, ?_⟩
      by_cases c1 : ro.n > b
      · rw [decide_eq_true c1]
        refine iteT ?_
        refine ⟨_, rfl, t1, _, 3, .str ro.k, rfl, rfl, SqT.of ht3, rfl, _, rfl, _, rfl, hz.line (by decide), _, rfl, _, rfl, okr.k.line (by decide), _, rfl, rfl, _, rfl, ?_⟩
        by_cases c2 : isPre z ro.k = true
        · have c2' : cutS ro.k none (some (z.length : Int)) = z := of_decide_eq_true c2
          rw [c2', decide_eq_true rfl]
          refine iteT ?_
          have hlen : ds.length ≤ rs.length := by
            rw [Paired.length mds]
            refine Nat.le_trans (List.length_filter_le _ _) ?_
            rw [List.length_take, List.length_drop]
            omega
          refine ⟨_, rfl, .inl ⟨rfl, _, SqL.of hd⟩, _, rfl, D, _, _, rfl, rfl, hd, by rw [List.length_map]; exact small1000 (by omega), ⟨_, rfl⟩, c.mut (List.mem_singleton.mpr rfl) hD2 (fun xs e => by cases e), ds ++ [t1], by rw [upd_same, List.map_append]; rfl, ?_⟩
          rw [stp, List.filter_append, List.filter_cons_of_pos (by rw [c2, decide_eq_true c1]; rfl), List.filter_nil]
          have nD : ∀ a xs, H3 a = some (.tup xs) → a ≠ D := fun a xs e => ne_of e hd (by intro q; cases q)
          refine Paired.snoc (mds.keep fun a xs e => by rw [upd_ne (nD a xs e)]; exact e) (by rw [upd_ne (nD _ _ ht3)]; exact ht3)
        · have c2' : ¬ cutS ro.k none (some (z.length : Int)) = z := fun e => c2 (decide_eq_true e)
          rw [decide_eq_false (fun e => c2' (by first | exact V.str.inj e | exact e))]
          exact iteF (stay true (by rw [decide_eq_true c1, Bool.true_and]; exact Bool.eq_false_iff.mpr c2))
      · rw [decide_eq_false c1]
        exact iteF (stay true (by rw [decide_eq_false c1]; rfl))
    · rintro σ H3 ⟨⟨y, rfl⟩, c, ds, hd, mds⟩
      rw [List.length_map, Paired.length md, List.take_length] at mds
      refine ⟨_, rfl, _, rfl, _, rfl, D, _, rfl, SqL.of hd, fun q hq => ?_⟩
      rw [cutV_upto _ hm, ← List.map_take]
      have s3 : Same H H3 := fun x u e => c.at (s2 _ _ e) (fun y => (ne_of_none e hD) (List.mem_singleton.mp y))
      refine k q _ _ (s3.free hq) upd_same ((mds.take mo.toNat).keep fun a xs e => by rw [upd_ne (ne_of_none e hq)]; exact e) fun x u e => ?_
      rw [upd_ne (ne_of_none (s3 _ _ e) hq)]
      exact s3 _ _ e
end
end KL

namespace KL
open PySem L2 L2H LX KB
variable {Lg : List Addr → Hp → Addr → List Row → Nat → Prop}
/-- a log and the rows that the law keeps beside it -/
structure Side (Lg : List Addr → Hp → Addr → List Row → Nat → Prop) (F : List Addr) (H : Hp) (p m r t : Addr) (ts : List Addr) (rs : List Row) (g : Nat) : Prop where
  lg : Lg F H p rs g
  mi : MineAt H m r t ts rs g
  dm : ∀ a ∈ F, a ∉ [m, r, t]
  num : Num rs
  ok : ∀ x ∈ rs, x.Ok
/-- the outcome of a step: the side anew, what changed -/
def After (Lg : List Addr → Hp → Addr → List Row → Nat → Prop) (F : List Addr) (H : Hp) (p m r t : Addr) (n : Nat) (H' : Hp) : Prop :=
  ∃ F' ts' rs' g', Side Lg F' H' p m r t ts' rs' g' ∧ Grow F F' H ∧ Ch H H' (m :: r :: F) ∧ rs'.length ≤ n + 1
def spNoted (Lg : List Addr → Hp → Addr → List Row → Nat → Prop) : Sp := fun vs H Q _ => ∃ (F : List Addr) (p m r t q : Addr) (c mo : Int) (ts : List Addr) (rs : List Row) (g : Nat) (zs : List Str), vs = [.ref p, .ref m, .ref q, .int c, .int mo] ∧ Side Lg F H p m r t ts rs g ∧ rs.length ≤ 890 ∧
  H q = some (.lst (zs.map V.str)) ∧ zs.length = 6 ∧ (∀ z ∈ zs, TOk 60 z) ∧ q ∉ [m, r, t] ∧ ∀ H', After Lg F H p m r t rs.length H' → Q (.bl true) H'
def spForgot (Lg : List Addr → Hp → Addr → List Row → Nat → Prop) : Sp := fun vs H Q _ => ∃ (F : List Addr) (p m r t : Addr) (c : Int) (ts : List Addr) (rs : List Row) (g : Nat), vs = [.ref p, .ref m, .int c] ∧ Side Lg F H p m r t ts rs g ∧ rs.length ≤ 890 ∧
  ∀ H', After Lg F H p m r t rs.length H' → Q (.bl true) H'
def spEnds (Lg : List Addr → Hp → Addr → List Row → Nat → Prop) : Sp := fun vs H Q _ => ∃ (F : List Addr) (p m r t : Addr) (ts : List Addr) (rs : List Row) (g : Nat), vs = [.ref p, .ref m] ∧ Side Lg F H p m r t ts rs g ∧
  ∀ H' F', Side Lg F' H' p m r t ts rs g → Grow F F' H → Ch H H' F → Q (.bl true) H'
theorem Num.last {rs : List Row} (h : Num rs) {r : Row} (e : rs[rs.length - 1]? = some r) (n : 0 < rs.length) : r.n = rs.length := by
  have := h _ _ e
  omega
section
variable {P : Program} {w : World} {K : PySem.W.Frag} {mg : Str → Option Value} {base : Heap}
theorem ok_noted {f C : Addr} {fd : FuncData} (F : Fun K "_law_noted" "_law_noted" s_noted f fd) (cl : Cls K C) (A1 : LogApi P w K mg base C Lg) (DT : Def P w K mg base "_law_text" 2 p_text spText) (DW : Def P w K mg base "_law_whole" 1 p_whole spWhole) (LT : LTxt mg) :
    FnOk P w K mg base CX0 3 f fd p_noted (spNoted Lg) := by
  obtain ⟨fT, fdT, gT, kT, bT, GT⟩ := DT.ex
  obtain ⟨fW, fdW, gW, kW, bW, GW⟩ := DW.ex
  obtain ⟨fN, fdN, psN, mN, bN, GN⟩ := A1.note.ex
  refine F.ok sc_noted (fun vs H Q E h => ?_) (fun cdv A outer s H vs Q E hr h => ?_)
  · obtain ⟨F, p, m, r, t, q, c, mo, ts, rs, g, zs, rfl, _⟩ := h
    rfl
  · obtain ⟨Fo, p, m, r, t, q, c, mo, ts, rs, g, zs, rfl, S, hl, hq, hz6, hzs, nq, k⟩ := h
    have hu := hu_of hr
    have hu64 := hr.units
    have hr1 : Room 1 _ := hr.mono (by decide)
    refine ⟨_, pss_cons (ps_set (i := 5) sc_noted.nd rfl (Or.inl rfl) (pe_call GT hr rfl gT kT bT .nil pass0 (pa_cons (pv 4) (pa_cons (pe_ix ix_list (pe_lst (pa_cons (pe_op op_mod (pv 3) pe_int) (pa_cons (pe_op op_mod (pv 4) pe_int) pa_nil)))
          (pe_op op_fdiv (pe_op op_mod (pe_op op_fdiv (pv 3) pe_int) pe_int) pe_int) (fun _ _ => rfl)) pa_nil))))
      (pss_cons (ps_set (i := 6) sc_noted.nd rfl (Or.inl rfl) (pe_op op_mod (pv 4) pe_int))
      (C8.pss_cut (ps_if (pt_cmpR (op_neD hu64) (pe_dget hu (pv 1) pe_str (fun _ _ => rfl)) (pe_lst pa_nil) (nomark _))
        (pss_one (ps_set (i := 6) sc_noted.nd rfl (Or.inl rfl) (pe_op op_add (pe_op op_mod (pv 6) pe_int) (pe_ix ix_tup (pe_ix ix_list (pe_dget hu (pv 1) pe_str (fun _ _ => rfl)) (pe_un un_neg pe_int) (fun _ _ => rfl)) pe_int (fun _ _ => rfl))))) pss_nil)
      (pss_cons (ps_set (i := 7) sc_noted.nd rfl (Or.inl rfl) (pe_tup (pa_cons (pe_op op_add (pe_callB call_len_seq (by rfl) LT.len PySem.boot_len (pa_cons (pe_dget hu (pv 1) pe_str (fun _ _ => rfl)) pa_nil)) pe_int) (pa_cons (pv 6)
        (pa_cons (pe_ix ix_list (pe_lst (pa_cons pe_str (pa_cons pe_str pa_nil))) (pe_op op_mod (pv 3) pe_int) (fun _ _ => rfl))
        (pa_cons (pe_ix ix_list (pv 2) (pe_op op_mod (pe_op op_fdiv (pv 3) pe_int) pe_int) (fun _ _ => rfl))
        (pa_cons (pe_ix ix_list (pe_lst (pa_cons (pv 5) (pa_cons pe_str pa_nil))) (pe_op op_mod (pv 3) pe_int) (fun _ _ => rfl)) pa_nil)))))))
      (pss_cons (ps_expr (pe_bm PySem.F.plainAttrs_list PySem.F.slot_list_append PySem.F.type_list_append mt_append (pe_dget hu (pv 1) pe_str (fun _ _ => rfl)) (pa_cons (pv 7) pa_nil)))
      (pss_cons (ps_set (i := 8) sc_noted.nd rfl (Or.inl rfl) (pe_meth (E := E0) (pv 0) cl mN GN hr bN .nil pass0 (pa_cons (pe_ix ix_tup (pv 7) pe_int (fun _ _ => rfl)) (pa_cons (pe_ix ix_tup (pv 7) pe_int (fun _ _ => rfl)) (pa_cons (pe_ix ix_tup (pv 7) pe_int (fun _ _ => rfl)) (pa_cons (pe_ix ix_tup (pv 7) pe_int (fun _ _ => rfl)) pa_nil))))))
      (pss_one (ps_ret (pe_and (pe_call GW hr1 rfl gW kW bW .nil pass0 (pa_cons (pv 8) pa_nil)) (pe_one (pe_cmpR op_eq (pv 8) (pe_ix ix_tup (pv 7) pe_int (fun _ _ => rfl)) (nomark _))))))))))), ?_⟩
    have M := S.mi
    refine ⟨_, rfl, _, rfl, _, _, rfl, rfl, (by show (0 : Int) < 5; decide), _, rfl, _, _, rfl, rfl, (by show (0 : Int) < 41; decide), (by show 2 ≤ sizeLine; decide), fun l1 hl1 => ?_⟩
    obtain ⟨n1, hn1, e1⟩ := at_ints (ns := [c % 5, mo % 41]) (z := c / 12 % 5 / 4) (by omega) (by show c / 12 % 5 / 4 < 2; omega)
    have hn : 0 ≤ n1 ∧ n1 ≤ 40 := by
      simp only [List.mem_cons, List.not_mem_nil, or_false] at hn1
      omega
    refine ⟨_, rfl, _, _, rfl, rfl, ⟨by decide, by decide⟩, _, _, rfl, rfl, (by show (0 : Int) < 5; decide), _, _, rfl, rfl, ⟨by decide, by decide⟩, l1, _, _, _, rfl, rfl, SqL.of upd_same, e1, mo, n1, rfl, hn.1, by omega, fun val H1 tv s1 => ?_⟩
    have tv : TOk 60 val := tv.mono (by omega)
    have s1 : Same H H1 := fun b u e => s1 _ _ (same_new hl1 _ _ e)
    refine ⟨_, rfl, _, _, rfl, rfl, (by show (0 : Int) < 1000; decide), ?_⟩
    refine ⟨fun σ H' => (∃ tick : Int, σ = [some (.ref p), some (.ref m), some (.ref q), some (.int c), some (.int mo), some (.str val), some (.int tick), none, none]) ∧ Same H1 H', ?_, ?_⟩
    · have M1 := M.same s1
      refine ⟨_, rfl, m, _, rfl, M1.gR, (by show 0 ≤ sizeLine; decide), fun l2 hl2 => ?_⟩
      have M2 := M1.same (same_new (o := .lst []) hl2)
      refine ⟨.list (rs.map Row.D), .list [], .lst (SqL.of M2.ro) M2.at_.dp, .lst (SqL.of upd_same) .nil, rows_shaped S.ok, rfl, _, rfl, ?_⟩
      cases rs with
      | nil => exact iteF ⟨⟨_, rfl⟩, same_new hl2⟩
      | cons r0 rr =>
        obtain ⟨tz, ro, ea, hz, _⟩ := RowsAt.last M2.at_ (by simp)
        refine iteT ⟨_, rfl, _, _, rfl, rfl, (by show (0 : Int) < 7; decide), _, rfl, m, _, rfl, M2.gR, _, rfl, r, _, _, _, rfl, rfl, SqL.of M2.ro, ea, _, _, 1, .int ro.t, rfl, rfl, SqT.of hz, rfl, _, _, rfl, rfl, ⟨_, rfl⟩, same_new hl2⟩
    rintro σ H2 ⟨⟨tick, rfl⟩, s2⟩
    have s12 := s1.trans s2
    have M2 := M.same s12
    have lt : (ts.map V.ref).length = rs.length := by rw [List.length_map, Paired.length M.at_]
    refine ⟨_, rfl, m, _, rfl, M2.gR, r, _, rfl, .inl (SqL.of M2.ro), _, _, rfl, rfl, _, rfl, (by show 2 ≤ sizeLine; decide), fun l3 hl3 => ?_⟩
    rw [lt]
    obtain ⟨wd, hwd, e2⟩ := at_strs (ns := ["put", "cut"]) (z := c % 2) (by omega) (by show c % 2 < 2; omega)
    have wok : PyData.strOk wd = true := by
      simp only [List.mem_cons, List.not_mem_nil, or_false] at hwd
      rcases hwd with rfl | rfl <;> decide +kernel
    obtain ⟨ky, hky, e3⟩ := at_strs (ns := zs) (z := c / 2 % 6) (by omega) (by rw [hz6]; show c / 2 % 6 < 6; omega)
    have s3 := s12.trans (same_new (o := .lst [V.str "put", V.str "cut"]) hl3)
    refine ⟨_, rfl, _, _, rfl, rfl, (by show (0 : Int) < 2; decide), l3, _, _, _, rfl, rfl, SqL.of upd_same, e2, _, rfl, _, rfl, _, _, rfl, rfl, ⟨by decide, by decide⟩, _, _, rfl, rfl, (by show (0 : Int) < 6; decide), q, _, _, _, rfl, rfl, SqL.of (s3 _ _ hq), e3, _, rfl, (by show 2 ≤ sizeLine; decide), fun l4 hl4 => ?_⟩
    obtain ⟨vl, hvl, e4⟩ := at_strs (ns := [val, ""]) (z := c % 2) (by omega) (by show c % 2 < 2; omega)
    have vok : TOk 60 vl := by
      simp only [List.mem_cons, List.not_mem_nil, or_false] at hvl
      rcases hvl with rfl | rfl
      · exact tv
      · exact TOk.nil.mono (by decide)
    have s4 := s3.trans (same_new (o := .lst [V.str val, V.str ""]) hl4)
    refine ⟨_, rfl, _, _, rfl, rfl, (by show (0 : Int) < 2; decide), l4, _, _, _, rfl, rfl, SqL.of upd_same, e4, (by show 5 ≤ sizeLine; decide), fun tp htp => ?_⟩
    have rok : (Row.mk ((rs.length : Int) + 1) tick wd ky vl).Ok := ⟨wok, hzs _ hky, vok⟩
    have s5 := s4.trans (same_new (o := .tup (Row.mk ((rs.length : Int) + 1) tick wd ky vl).V) htp)
    have tp0 : H tp = none := s4.free htp
    dsimp only
    generalize hH5 : upd (upd (upd H2 l3 (.lst [V.str "put", V.str "cut"])) l4 (.lst [V.str val, V.str ""])) tp (.tup [V.int ((rs.length : Int) + 1), V.int tick, V.str wd, V.str ky, V.str vl]) = H5
    have s5 : Same H H5 := by rw [← hH5]; exact s5
    have M5 := M.same s5
    have ht5 : H5 tp = some (.tup (Row.mk ((rs.length : Int) + 1) tick wd ky vl).V) := by rw [← hH5]; exact upd_same
    have lt5 : (ts.map V.ref).length < sizeLine := by rw [lt]; exact small1000 (by omega)
    refine ⟨_, rfl, m, _, rfl, M5.gR, .inl ⟨rfl, _, SqL.of M5.ro⟩, _, rfl, r, _, _, rfl, rfl, M5.ro, lt5, ?_⟩
    have ea : ts.map V.ref ++ [V.ref tp] = (ts ++ [tp]).map V.ref := by rw [List.map_append]; rfl
    rw [ea]
    have cr : Ch H5 (upd H5 r (.lst ((ts ++ [tp]).map V.ref))) [r] := (Ch.refl _ _).mut (List.mem_singleton.mpr rfl) M5.ro (fun xs z => by cases z)
    have mr : m ≠ r := ne_of M5.di M5.ro (by intro z; cases z)
    have tr : tp ≠ r := ne_of ht5 M5.ro (by intro z; cases z)
    have M6 : MineAt (upd H5 r (.lst ((ts ++ [tp]).map V.ref))) m r t (ts ++ [tp]) (rs ++ [Row.mk ((rs.length : Int) + 1) tick wd ky vl]) g :=
      ⟨by rw [upd_ne mr]; exact M5.di, upd_same, Paired.snoc (M5.at_.keep cr.tup) (cr.tup _ _ ht5), by rw [upd_ne M5.rt.symm]; exact M5.to, M5.rt⟩
    generalize hH6 : upd H5 r (.lst ((ts ++ [tp]).map V.ref)) = H6 at cr M6
    have ht6 := cr.tup _ _ ht5
    have c6 : Ch H H6 [r] := (Ch.of s5 _).trans cr
    have L6 := A1.frame S.lg c6 (fun a ha => fun z => S.dm a ha (by simp [List.mem_singleton.mp z]))
    obtain ⟨hpF, dz, fs, hob, hfs⟩ := A1.inst L6
    refine ⟨_, rfl, p, dz, fs, rfl, hob, hfs _ (by simp), _, rfl, tp, _, 1, .int tick, rfl, rfl, SqT.of ht6, rfl, _, rfl, tp, _, 2, .str wd, rfl, rfl, SqT.of ht6, rfl, _, rfl, tp, _, 3, .str ky, rfl, rfl, SqT.of ht6, rfl, _, rfl, tp, _, 4, .str vl, rfl, rfl, SqT.of ht6, rfl,
      Fo, p, tick, wd, ky, vl, rs, g, rfl, L6, by omega, ⟨wok, hzs _ hky, vok⟩, fun F' H7 L7 G7 C7 => ?_⟩
    have ht7 := C7.tup _ _ ht6
    refine ⟨_, rfl, _, true, rfl, .inl ⟨⟨_, rfl⟩, rfl⟩, true, rfl, iteT ?_⟩
    refine ⟨_, rfl, _, rfl, tp, _, 0, .int ((rs.length : Int) + 1), rfl, rfl, SqT.of ht7, rfl, rfl, ?_⟩
    rw [decide_eq_true rfl]
    have G8 : Grow Fo F' H := fun x hx => by
      rcases G7 x hx with z | z
      · exact .inl z
      · exact .inr (c6.none x z)
    have dF : ∀ a ∈ Fo, a ∉ [m, r, t] := S.dm
    have n3 : ∀ a ∈ [m, r, t], ∃ o, H a = some o := fun a ha => by
      simp only [List.mem_cons, List.not_mem_nil, or_false] at ha
      rcases ha with rfl | rfl | rfl
      · exact ⟨_, M.di⟩
      · exact ⟨_, M.ro⟩
      · exact ⟨_, M.to⟩
    refine k H7 ⟨F', ts ++ [tp], rs ++ [Row.mk ((rs.length : Int) + 1) tick wd ky vl], g, ⟨L7, M6.ch C7 (fun z => dF _ z (by simp)) (fun z => dF _ z (by simp)) (fun z => dF _ z (by simp)), G8.apart dF n3, S.num.snoc rfl, fun x hx => ?_⟩, G8, ?_, ?_⟩
    · rcases List.mem_append.mp hx with hx | hx
      · exact S.ok x hx
      · rw [List.mem_singleton.mp hx]; exact rok
    · exact (c6.mono fun x hx => by rw [List.mem_singleton.mp hx]; simp).trans (C7.mono fun x hx => List.mem_cons_of_mem _ (List.mem_cons_of_mem _ hx))
    · rw [List.length_append]; simp
theorem ok_forgot {f C : Addr} {fd : FuncData} (F : Fun K "_law_forgot" "_law_forgot" s_forgot f fd) (cl : Cls K C) (A1 : LogApi P w K mg base C Lg) (DW : Def P w K mg base "_law_whole" 1 p_whole spWhole) (LT : LTxt mg) (mx : mg "max" = none) (mn : mg "min" = none) :
    FnOk P w K mg base CX0 4 f fd p_forgot (spForgot Lg) := by
  obtain ⟨fW, fdW, gW, kW, bW, GW⟩ := DW.ex
  obtain ⟨fN, fdN, psN, mN, bN, GN⟩ := A1.forget.ex
  refine F.ok sc_forgot (fun vs H Q E h => ?_) (fun cdv A outer s H vs Q E hr h => ?_)
  · obtain ⟨F, p, m, r, t, c, ts, rs, g, rfl, _⟩ := h
    rfl
  · obtain ⟨Fo, p, m, r, t, c, ts, rs, g, rfl, S, hl, k⟩ := h
    have hu := hu_of hr
    have hr1 : Room 1 _ := hr.mono (by decide)
    refine ⟨_, pss_cons (ps_set (i := 3) sc_forgot.nd rfl (Or.inl rfl) (pe_op op_mod (pv 2) (pe_op op_add (pe_callB call_len_seq (by rfl) LT.len PySem.boot_len (pa_cons (pe_dget hu (pv 1) pe_str (fun _ _ => rfl)) pa_nil)) pe_int)))
      (pss_cons (ps_set (i := 4) sc_forgot.nd rfl (Or.inl rfl) (pe_callB (call_max2 rfl) (by rfl) mx (by decide +kernel) (pa_cons pe_int (pa_cons (pe_op op_sub (pe_callB (call_min2 rfl) (by rfl) mn (by decide +kernel)
          (pa_cons (pv 3) (pa_cons (pe_callB call_len_seq (by rfl) LT.len PySem.boot_len (pa_cons (pe_dget hu (pv 1) pe_str (fun _ _ => rfl)) pa_nil)) pa_nil))) (pe_dget hu (pv 1) pe_str (fun _ _ => rfl))) pa_nil))))
      (pss_cons (ps_dput hu (pv 1) pe_str (pe_op op_add (pe_dget hu (pv 1) pe_str (fun _ _ => rfl)) (pv 4)) rfl)
      (pss_cons (ps_set (i := 5) sc_forgot.nd rfl (Or.inl rfl) (pe_meth (E := E0) (pv 0) cl mN GN hr bN .nil pass0 (pa_cons (pv 3) pa_nil)))
      (pss_one (ps_ret (pe_and (pe_call GW hr1 rfl gW kW bW .nil pass0 (pa_cons (pv 5) pa_nil)) (pe_one (pe_cmpR op_eq (pv 5) (pv 4) (nomark _))))))))), ?_⟩
    have M := S.mi
    have hg := A1.le S.lg
    have lt : (ts.map V.ref).length = rs.length := by rw [List.length_map, Paired.length M.at_]
    refine ⟨_, rfl, _, rfl, m, _, rfl, M.gR, r, _, rfl, .inl (SqL.of M.ro), _, _, rfl, rfl, _, _, rfl, rfl, (by show (0 : Int) < ((ts.map V.ref).length : Int) + 3; omega), ?_⟩
    have e0 : 0 ≤ c % (((ts.map V.ref).length : Int) + 3) := Int.emod_nonneg _ (by omega)
    refine ⟨_, rfl, _, rfl, m, _, rfl, M.gR, r, _, rfl, .inl (SqL.of M.ro), _, _, rfl, _, rfl, m, _, rfl, M.gG, _, _, rfl, rfl, _, _, rfl, ?_⟩
    dsimp only
    rw [lt]
    rw [lt] at e0
    generalize hu2 : c % ((rs.length : Int) + 3) = u at e0
    have ed : (if (if (rs.length : Int) < u then (rs.length : Int) else u) - (g : Int) > 0 then (if (rs.length : Int) < u then (rs.length : Int) else u) - (g : Int) else 0) = (goneM rs.length g u : Int) - g := by
      unfold goneM
      split <;> split <;> omega
    rw [ed]
    refine ⟨_, rfl, m, _, rfl, M.gG, _, rfl, _, _, rfl, rfl, _, rfl, m, _, rfl, DPut.k (kvs := mineD r g t) (k := Sum.inr "gone") M.di (by show 3 < sizeLine; decide), ?_⟩
    rw [mine_putG]
    have eg : (g : Int) + ((goneM rs.length g u : Int) - g) = (goneM rs.length g u : Int) := by omega
    rw [eg]
    have cm : Ch H (upd H m (.dK (mineD r (goneM rs.length g u : Int) t))) [m] := (Ch.refl _ _).mut (List.mem_singleton.mpr rfl) M.di (fun xs z => by cases z)
    have mr : r ≠ m := ne_of M.ro M.di (by intro z; cases z)
    have mt : t ≠ m := ne_of M.to M.di (by intro z; cases z)
    have M6 : MineAt (upd H m (.dK (mineD r (goneM rs.length g u : Int) t))) m r t ts rs (goneM rs.length g u) :=
      ⟨upd_same, by rw [upd_ne mr]; exact M.ro, M.at_.keep cm.tup, by rw [upd_ne mt]; exact M.to, M.rt⟩
    generalize hH6 : upd H m (.dK (mineD r (goneM rs.length g u : Int) t)) = H6 at cm M6
    have L6 := A1.frame S.lg cm (fun a ha => fun z => S.dm a ha (by simp [List.mem_singleton.mp z]))
    obtain ⟨hpF, dz, fs, hob, hfs⟩ := A1.inst L6
    refine ⟨_, rfl, p, dz, fs, rfl, hob, hfs _ (by simp), _, rfl, Fo, p, u, rs, g, rfl, L6, by omega, fun F' H7 L7 G7 C7 => ?_⟩
    refine ⟨_, rfl, _, true, rfl, .inl ⟨⟨_, rfl⟩, rfl⟩, true, rfl, iteT ?_⟩
    refine ⟨_, rfl, _, rfl, rfl, ?_⟩
    rw [decide_eq_true rfl]
    have G8 : Grow Fo F' H := fun x hx => by
      rcases G7 x hx with z | z
      · exact .inl z
      · exact .inr (cm.none x z)
    have dF : ∀ a ∈ Fo, a ∉ [m, r, t] := S.dm
    have n3 : ∀ a ∈ [m, r, t], ∃ o, H a = some o := fun a ha => by
      simp only [List.mem_cons, List.not_mem_nil, or_false] at ha
      rcases ha with rfl | rfl | rfl
      · exact ⟨_, M.di⟩
      · exact ⟨_, M.ro⟩
      · exact ⟨_, M.to⟩
    refine k H7 ⟨F', ts, rs, goneM rs.length g u, ⟨L7, M6.ch C7 (fun z => dF _ z (by simp)) (fun z => dF _ z (by simp)) (fun z => dF _ z (by simp)), G8.apart dF n3, S.num, S.ok⟩, G8, ?_, Nat.le_succ _⟩
    exact (cm.mono fun x hx => by rw [List.mem_singleton.mp hx]; simp).trans (C7.mono fun x hx => List.mem_cons_of_mem _ (List.mem_cons_of_mem _ hx))
theorem ok_ends {f C : Addr} {fd : FuncData} (F : Fun K "_law_ends" "_law_ends" s_ends f fd) (cl : Cls K C) (A1 : LogApi P w K mg base C Lg) (DW : Def P w K mg base "_law_whole" 1 p_whole spWhole) (LT : LTxt mg) :
    FnOk P w K mg base CX0 3 f fd p_ends (spEnds Lg) := by
  obtain ⟨fW, fdW, gW, kW, bW, GW⟩ := DW.ex
  obtain ⟨fN, fdN, psN, mN, bN, GN⟩ := A1.last.ex
  obtain ⟨fM, fdM, psM, mM, bM, GM⟩ := A1.first.ex
  refine F.ok sc_ends (fun vs H Q E h => ?_) (fun cdv A outer s H vs Q E hr h => ?_)
  · obtain ⟨F, p, m, r, t, ts, rs, g, rfl, _⟩ := h
    rfl
  · obtain ⟨Fo, p, m, r, t, ts, rs, g, rfl, S, k⟩ := h
    have hu := hu_of hr
    have hr1 : Room 1 _ := hr.mono (by decide)
    refine ⟨_, pss_cons (ps_set (i := 2) sc_ends.nd rfl (Or.inl rfl) (pe_meth0 (E := E0) (pv 0) cl mN GN hr bN .nil pass0))
      (pss_cons (ps_set (i := 3) sc_ends.nd rfl (Or.inl rfl) (pe_meth0 (E := E0) (pv 0) cl mM GM hr bM .nil pass0))
      (pss_cons (ps_if (PW.pt (pw_or (pt_not (pt_val (pe_call GW hr1 rfl gW kW bW .nil pass0 (pa_cons (pv 2) pa_nil)))) (pw_or1 (pt_not (pt_val (pe_call GW hr1 rfl gW kW bW .nil pass0 (pa_cons (pv 3) pa_nil))))))) (pss_one (ps_ret pe_bl)) pss_nil)
      (pss_one (ps_ret (pe_and (pe_cmpR op_eq (pv 2) (pe_callB call_len_seq (by rfl) LT.len PySem.boot_len (pa_cons (pe_dget hu (pv 1) pe_str (fun _ _ => rfl)) pa_nil)) (nomark _))
        (pe_one (pe_cmpR op_eq (pv 3) (pe_op op_add (pe_dget hu (pv 1) pe_str (fun _ _ => rfl)) pe_int) (nomark _)))))))), ?_⟩
    have dF := S.dm
    have n3 : ∀ {H1 : Hp}, MineAt H1 m r t ts rs g → ∀ a ∈ [m, r, t], ∃ o, H1 a = some o := fun {H1} M a ha => by
      simp only [List.mem_cons, List.not_mem_nil, or_false] at ha
      rcases ha with rfl | rfl | rfl
      · exact ⟨_, M.di⟩
      · exact ⟨_, M.ro⟩
      · exact ⟨_, M.to⟩
    obtain ⟨hpF, dz, fs, hob, hfs⟩ := A1.inst S.lg
    refine ⟨_, rfl, p, dz, fs, rfl, hob, hfs _ (by simp), Fo, p, rs, g, rfl, S.lg, fun F1 H1 L1 G1 C1 => ?_⟩
    have M1 := S.mi.ch C1 (fun z => dF _ z (by simp)) (fun z => dF _ z (by simp)) (fun z => dF _ z (by simp))
    have d1 := G1.apart dF (n3 S.mi)
    obtain ⟨hpF1, dz1, fs1, hob1, hfs1⟩ := A1.inst L1
    refine ⟨_, rfl, p, dz1, fs1, rfl, hob1, hfs1 _ (by simp), F1, p, rs, g, rfl, L1, fun F2 H2 L2 G2 C2 => ?_⟩
    have M2 := M1.ch C2 (fun z => d1 _ z (by simp)) (fun z => d1 _ z (by simp)) (fun z => d1 _ z (by simp))
    have d2 := G2.apart d1 (n3 M1)
    have lt : (ts.map V.ref).length = rs.length := by rw [List.length_map, Paired.length M2.at_]
    refine ⟨_, rfl, _, true, rfl, .inl ⟨⟨_, rfl⟩, rfl⟩, true, rfl, iteF ?_⟩
    refine ⟨_, rfl, _, true, rfl, .inl ⟨⟨_, rfl⟩, rfl⟩, true, rfl, iteF ?_⟩
    refine ⟨_, rfl, _, rfl, m, _, rfl, M2.gR, r, _, rfl, .inl (SqL.of M2.ro), rfl, ?_⟩
    rw [lt, decide_eq_true rfl]
    refine ⟨true, rfl, iteT ?_⟩
    refine ⟨_, rfl, _, rfl, m, _, rfl, M2.gG, _, _, rfl, rfl, rfl, ?_⟩
    rw [decide_eq_true rfl]
    exact k H2 F2 ⟨L2, M2, d2, S.num, S.ok⟩ (G1.trans G2 C1.none) (C1.seq G1 C2)
end
end KL

namespace KL
open PySem L2 L2H LX KB
variable {Lg : List Addr → Hp → Addr → List Row → Nat → Prop}
def PoolAt (H : Hp) (q : Addr) : Prop := ∃ zs : List Str, H q = some (.lst (zs.map V.str)) ∧ zs.length = 6 ∧ ∀ z ∈ zs, TOk 60 z
def spStep (Lg : List Addr → Hp → Addr → List Row → Nat → Prop) : Sp := fun vs H Q _ => ∃ (F : List Addr) (p m r t q : Addr) (ki c : Int) (ts : List Addr) (rs : List Row) (g : Nat), vs = [.ref p, .ref m, .ref q, .int ki, .int c] ∧ Side Lg F H p m r t ts rs g ∧ rs.length ≤ 890 ∧ PoolAt H q ∧ q ∉ [m, r, t] ∧
  ∀ H', After Lg F H p m r t rs.length H' → Q (.bl true) H'
theorem Side.th {F : List Addr} {H : Hp} {p m r t : Addr} {ts : List Addr} {rs : List Row} {g : Nat} (S : Side Lg F H p m r t ts rs g) : ∀ a ∈ [m, r, t], ∃ o, H a = some o := fun a ha => by
  simp only [List.mem_cons, List.not_mem_nil, or_false] at ha
  rcases ha with rfl | rfl | rfl
  · exact ⟨_, S.mi.di⟩
  · exact ⟨_, S.mi.ro⟩
  · exact ⟨_, S.mi.to⟩
section
variable {P : Program} {w : World} {K : PySem.W.Frag} {mg : Str → Option Value} {base : Heap}
theorem ok_step {f C : Addr} {fd : FuncData} (F : Fun K "_law_step" "_law_step" s_step f fd) (cl : Cls K C) (A1 : LogApi P w K mg base C Lg) (LT : LTxt mg) (ab : mg "abs" = none)
    (D1 : Def P w K mg base "_law_forgot" 4 p_forgot (spForgot Lg)) (D2 : Def P w K mg base "_law_prefix" 1 p_prefix spPrefix) (D3 : Def P w K mg base "_law_changes" 3 p_changes (spChanges K)) (D4 : Def P w K mg base "_law_wanted" 1 p_wanted spWanted) (D5 : Def P w K mg base "_law_noted" 3 p_noted (spNoted Lg)) :
    FnOk P w K mg base CX0 5 f fd p_step (spStep Lg) := by
  obtain ⟨f1, fd1, g1, k1, b1, G1⟩ := D1.ex
  obtain ⟨f2, fd2, g2, k2, b2, G2⟩ := D2.ex
  obtain ⟨f3, fd3, g3, k3, b3, G3⟩ := D3.ex
  obtain ⟨f4, fd4, g4, k4, b4, G4⟩ := D4.ex
  obtain ⟨f5, fd5, g5, k5, b5, G5⟩ := D5.ex
  obtain ⟨fN, fdN, psN, mN, bN, GN⟩ := A1.wanted.ex
  refine F.ok sc_step (fun vs H Q E h => ?_) (fun cdv A outer s H vs Q E hr h => ?_)
  · obtain ⟨F, p, m, r, t, q, ki, c, ts, rs, g, rfl, _⟩ := h
    rfl
  · obtain ⟨Fo, p, m, r, t, q, ki, c, ts, rs, g, rfl, S, hl, ⟨zs, hq, hz6, hzs⟩, nq, k⟩ := h
    have hu := hu_of hr
    have hr1 : Room 1 _ := hr.mono (by decide)
    have hr3 : Room 3 _ := hr.mono (by decide)
    refine ⟨_, pss_cons (ps_if (pt_cmpR op_eq (pe_op op_mod (pe_op op_fdiv (pv 3) pe_int) pe_int) pe_int (nomark _)) (pss_one (ps_ret (pe_call G1 hr rfl g1 k1 b1 .nil pass0 (pa_cons (pv 0) (pa_cons (pv 1) (pa_cons (pv 4) pa_nil)))))) pss_nil)
      (pss_cons (ps_if (pt_cmpR op_eq (pe_op op_mod (pe_op op_fdiv (pv 3) pe_int) pe_int) pe_int (nomark _))
        (pss_cons (ps_set (i := 5) sc_step.nd rfl (Or.inl rfl) (pe_call G2 hr1 rfl g2 k2 b2 .nil pass0 (pa_cons (pv 2) (pa_cons (pe_op op_fdiv (pv 3) pe_int) pa_nil))))
        (pss_cons (ps_set (i := 6) sc_step.nd rfl (Or.inl rfl) (pe_op op_mod (pv 4) (pe_op op_add (pe_callB call_len_seq (by rfl) LT.len PySem.boot_len (pa_cons (pe_dget hu (pv 1) pe_str (fun _ _ => rfl)) pa_nil)) pe_int)))
        (pss_cons (ps_set (i := 7) sc_step.nd rfl (Or.inl rfl) (pe_ix ix_list (pe_lst (pa_cons (pe_op op_mod (pe_op op_fdiv (pv 3) pe_int) pe_int) (pa_cons (pe_op op_mod (pe_op op_fdiv (pv 3) pe_int) pe_int) pa_nil))) (pe_op op_mod (pv 4) pe_int) (fun _ _ => rfl)))
        (pss_one (ps_ret (pe_call G3 hr3 rfl g3 k3 b3 .nil pass0 (pa_cons (pe_meth (E := E0) (pv 0) cl mN GN hr3 bN .nil pass0 (pa_cons (pv 5) (pa_cons (pv 6) (pa_cons (pv 7) pa_nil))))
          (pa_cons (pe_call G4 hr1 rfl g4 k4 b4 .nil pass0 (pa_cons (pv 1) (pa_cons (pv 5) (pa_cons (pv 6) (pa_cons (pv 7) pa_nil))))) pa_nil)))))))) pss_nil)
      (pss_one (ps_ret (pe_call G5 hr3 rfl g5 k5 b5 .nil pass0 (pa_cons (pv 0) (pa_cons (pv 1) (pa_cons (pv 2) (pa_cons (pe_op op_fdiv (pv 3) pe_int) (pa_cons (pe_callB call_abs (by rfl) ab (by decide +kernel) (pa_cons (pv 4) pa_nil)) pa_nil))))))))), ?_⟩
    refine ⟨_, rfl, _, _, rfl, rfl, ⟨by decide, by decide⟩, _, _, rfl, rfl, (by show (0 : Int) < 4; decide), rfl, _, rfl, ?_⟩
    refine ite2 (fun _ => ?_) fun _ => ?_
    · exact ⟨_, rfl, _, rfl, _, rfl, Fo, p, m, r, t, c, ts, rs, g, rfl, S, hl, fun H' h => k H' h⟩
    refine ⟨_, rfl, _, _, rfl, rfl, ⟨by decide, by decide⟩, _, _, rfl, rfl, (by show (0 : Int) < 4; decide), rfl, _, rfl, ?_⟩
    refine ite2 (fun _ => ?_) fun _ => ?_
    · refine ⟨_, rfl, _, rfl, _, _, rfl, rfl, ⟨by decide, by decide⟩, q, zs, _, rfl, hq, hz6, hzs, fun z H1 tz s1 => ?_⟩
      have M1 := S.mi.same s1
      refine ⟨_, rfl, _, rfl, m, _, rfl, M1.gR, r, _, rfl, .inl (SqL.of M1.ro), _, _, rfl, rfl, _, _, rfl, rfl, (by show (0 : Int) < ((ts.map V.ref).length : Int) + 2; omega), ?_⟩
      refine ⟨_, rfl, _, _, rfl, rfl, ⟨by decide, by decide⟩, _, _, rfl, rfl, (by show (0 : Int) < 5; decide), _, rfl, _, _, rfl, rfl, ⟨by decide, by decide⟩, _, _, rfl, rfl, (by show (0 : Int) < 97; decide), (by show 2 ≤ sizeLine; decide), fun l1 hl1 => ?_⟩
      obtain ⟨mo, hmo, e1⟩ := at_ints (ns := [ki / 56 % 5, ki / 56 % 97]) (z := c % 2) (by omega) (by show c % 2 < 2; omega)
      have mo0 : 0 ≤ mo := by
        simp only [List.mem_cons, List.not_mem_nil, or_false] at hmo
        omega
      have s2 : Same H (upd H1 l1 (.lst [V.int (ki / 56 % 5), V.int (ki / 56 % 97)])) := s1.trans (same_new hl1)
      refine ⟨_, rfl, _, _, rfl, rfl, (by show (0 : Int) < 2; decide), l1, _, _, _, rfl, rfl, SqL.of upd_same, e1, ?_⟩
      dsimp only
      generalize upd H1 l1 (.lst [V.int (ki / 56 % 5), V.int (ki / 56 % 97)]) = H2 at s2
      have hbh : c % (((ts.map V.ref).length : Int) + 2) ≤ 100000 := by
        have h1 := Int.emod_lt_of_pos c (show (0 : Int) < ((ts.map V.ref).length : Int) + 2 by omega)
        have h2 : (ts.map V.ref).length = rs.length := by rw [List.length_map, Paired.length S.mi.at_]
        omega
      generalize c % (((ts.map V.ref).length : Int) + 2) = bh at hbh
      have L2 := A1.frame S.lg (Ch.of s2 []) (fun _ _ z => nomatch z)
      have M2 := S.mi.same s2
      obtain ⟨hpF, dz, fs, hob, hfs⟩ := A1.inst L2
      refine ⟨_, rfl, p, dz, fs, rfl, hob, hfs _ (by simp), _, rfl, _, rfl, _, rfl, Fo, p, z, bh, mo, rs, g, rfl, L2, tz, mo0, hbh, by omega, fun F' f0 us H3 L3 G3' C3 n3 f3 h3 r3 => ?_⟩
      have M3 := M2.ch C3 (fun y => S.dm _ y (by simp)) (fun y => S.dm _ y (by simp)) (fun y => S.dm _ y (by simp))
      refine ⟨_, rfl, _, rfl, _, rfl, _, rfl, m, r, t, z, bh, mo, ts, rs, g, rfl, M3, tz, mo0, by omega, A1.le L3, S.ok, fun q2 us2 H4 n4 h4 r4 s4 => ?_⟩
      refine ⟨f0, q2, us, us2, wantedM rs g z bh mo, rfl, s4 _ _ h3, h4, r3.keep (fun a xs e => s4 _ _ e), r4, wantedM_ok S.ok g z bh mo, ?_⟩
      have c34 : Ch H3 (upd H4 f0 (.lst [])) [f0] := (Ch.of s4 _).mut (List.mem_singleton.mpr rfl) h3 (fun xs e => by cases e)
      have G8 : Grow Fo F' H := fun x hx => by
        rcases G3' x hx with y | y
        · exact .inl y
        · exact .inr (s2.free y)
      have L5 := A1.frame L3 c34 (fun a ha y => f3 (by rw [← List.mem_singleton.mp y]; exact ha))
      have f0H : H f0 = none := s2.free n3
      have nf : ∀ a ∈ [m, r, t], a ∉ [f0] := fun a ha y => by
        obtain ⟨o, e⟩ := S.th a ha
        rw [List.mem_singleton.mp y, f0H] at e
        cases e
      refine k _ ⟨F', ts, rs, g, ⟨L5, M3.ch c34 (nf _ (by simp)) (nf _ (by simp)) (nf _ (by simp)), G8.apart S.dm S.th, S.num, S.ok⟩, G8, ?_, Nat.le_succ _⟩
      exact ((((Ch.of s2 _).trans (C3.mono fun x hx => List.mem_cons_of_mem _ (List.mem_cons_of_mem _ hx))).trans (Ch.of s4 _)).new _ f0H)
    · refine ⟨_, rfl, _, rfl, _, rfl, _, rfl, _, _, rfl, rfl, ⟨by decide, by decide⟩, _, rfl, _, rfl, Fo, p, m, r, t, q, _, _, ts, rs, g, zs, rfl, S, hl, hq, hz6, hzs, nq, fun H' h => k H' h⟩
end
end KL

namespace KL
open PySem L2 L2H LX KB
variable {Lg : List Addr → Hp → Addr → List Row → Nat → Prop}
structure Sd where
  F : List Addr
  p : Addr
  m : Addr
  r : Addr
  t : Addr
  ts : List Addr
  rs : List Row
  g : Nat
abbrev SdAt (Lg : List Addr → Hp → Addr → List Row → Nat → Prop) (H : Hp) (X : Sd) : Prop := Side Lg X.F H X.p X.m X.r X.t X.ts X.rs X.g
/-- what one side owns and nobody else may name -/
structure Far (X Y : Sd) (S0 : List Addr) : Prop where
  f : ∀ a ∈ X.F, a ∉ Y.m :: Y.r :: Y.t :: S0
  m : X.m ∉ Y.m :: Y.r :: Y.t :: S0
  r : X.r ∉ Y.m :: Y.r :: Y.t :: S0
structure Both (Lg : List Addr → Hp → Addr → List Row → Nat → Prop) (H0 H : Hp) (S0 : List Addr) (X Y : Sd) : Prop where
  sx : SdAt Lg H X
  sy : SdAt Lg H Y
  xy : ∀ a ∈ X.F, a ∉ Y.F
  yx : ∀ a ∈ [X.m, X.r], a ∉ Y.F
  xy2 : ∀ a ∈ [Y.m, Y.r], a ∉ X.F
  fx : Far X Y S0
  fy : Far Y X S0
  th : ∀ a ∈ S0, ∃ o, H a = some o
  old : Same H0 H
  nx : ∀ a ∈ X.m :: X.r :: X.F, H0 a = none
  ny : ∀ a ∈ Y.m :: Y.r :: Y.F, H0 a = none
theorem Both.swap {H0 H : Hp} {S0 : List Addr} {X Y : Sd} (B : Both Lg H0 H S0 X Y) : Both Lg H0 H S0 Y X :=
  ⟨B.sy, B.sx, fun a h1 h2 => B.xy a h2 h1, B.xy2, B.yx, B.fy, B.fx, B.th, B.old, B.ny, B.nx⟩
section
variable {P : Program} {w : World} {K : PySem.W.Frag} {mg : Str → Option Value} {base : Heap}
/-- the one side goes on; the other one and what stands besides stay -/
theorem Both.go {C : Addr} (A1 : LogApi P w K mg base C Lg) {H0 H H' : Hp} {S0 : List Addr} {X Y X' : Sd} (B : Both Lg H0 H S0 X Y) (S : SdAt Lg H' X') (em : X'.m = X.m) (er : X'.r = X.r) (c : Ch H H' (X.m :: X.r :: X.F)) (g : Grow X.F X'.F H)
    (et : X'.t = X.t ∨ H X'.t = none) : Both Lg H0 H' S0 X' Y ∧ ∀ a ∈ S0, ∀ o, H a = some o → H' a = some o := by
  have some_ne : ∀ {a b : Addr} {o : HO}, H a = some o → H b = none → a ≠ b := fun e n => ne_of_none e n
  have dY : ∀ a ∈ Y.F, a ∉ X.m :: X.r :: X.F := fun a ha z => by
    rcases List.mem_cons.mp z with z | z
    · exact B.yx _ (by simp) (z ▸ ha)
    · rcases List.mem_cons.mp z with z | z
      · exact B.yx _ (by simp) (z ▸ ha)
      · exact B.xy a z ha
  have mY : ∀ a ∈ [Y.m, Y.r, Y.t], a ∉ X.m :: X.r :: X.F := fun a ha z => by
    have sub : a ∈ Y.m :: Y.r :: Y.t :: S0 := by
      simp only [List.mem_cons, List.not_mem_nil, or_false] at ha ⊢
      rcases ha with h | h | h <;> simp [h]
    rcases List.mem_cons.mp z with z | z
    · exact B.fx.m (z ▸ sub)
    · rcases List.mem_cons.mp z with z | z
      · exact B.fx.r (z ▸ sub)
      · exact B.fx.f a z sub
  have mS : ∀ a ∈ S0, a ∉ X.m :: X.r :: X.F := fun a ha z => by
    have sub : a ∈ Y.m :: Y.r :: Y.t :: S0 := by simp [ha]
    rcases List.mem_cons.mp z with z | z
    · exact B.fx.m (z ▸ sub)
    · rcases List.mem_cons.mp z with z | z
      · exact B.fx.r (z ▸ sub)
      · exact B.fx.f a z sub
  have sY : SdAt Lg H' Y := ⟨A1.frame B.sy.lg c dY, B.sy.mi.ch c (mY _ (by simp)) (mY _ (by simp)) (mY _ (by simp)), B.sy.dm, B.sy.num, B.sy.ok⟩
  have keepS : ∀ a ∈ S0, ∀ o, H a = some o → H' a = some o := fun a ha o e => c.at e (mS a ha)
  have thY : ∀ a ∈ Y.m :: Y.r :: Y.t :: S0, ∃ o, H a = some o := fun a ha => by
    simp only [List.mem_cons] at ha
    rcases ha with rfl | rfl | rfl | h
    · exact B.sy.th _ (by simp)
    · exact B.sy.th _ (by simp)
    · exact B.sy.th _ (by simp)
    · exact B.th a h
  have fX : ∀ a ∈ X'.F, a ∉ Y.m :: Y.r :: Y.t :: S0 := g.apart B.fx.f thY
  have newX : ∀ a ∈ X'.F, a ∉ X.F → H a = none := fun a ha n => (g a ha).resolve_left n
  have xy' : ∀ a ∈ X'.F, a ∉ Y.F := g.apart B.xy (A1.own B.sy.lg)
  have tY : ∀ a, a ∈ Y.m :: Y.r :: Y.F → (∃ o, H a = some o) → a ≠ X.t → a ≠ X'.t := fun a _ ho ne z => by
    rcases et with e | e
    · exact ne (z.trans e)
    · obtain ⟨o, q⟩ := ho
      rw [z, e] at q
      cases q
  have lift : ∀ a, (∃ o, H a = some o) → a ∉ X.m :: X.r :: X.t :: S0 → a ∉ X'.m :: X'.r :: X'.t :: S0 := fun a ho n z => by
    rw [em, er] at z
    simp only [List.mem_cons, not_or] at n z
    rcases z with z | z | z | z
    · exact n.1 z
    · exact n.2.1 z
    · rcases et with e | e
      · exact n.2.2.1 (z.trans e)
      · obtain ⟨o, q⟩ := ho
        rw [z, e] at q
        cases q
    · exact n.2.2.2 z
  refine ⟨⟨S, sY, xy', by rw [em, er]; exact B.yx, g.apart2 B.xy2 (fun a ha => B.sy.th a (by simp only [List.mem_cons, List.not_mem_nil, or_false] at ha ⊢; rcases ha with h | h <;> simp [h])), ⟨fX, by rw [em]; exact B.fx.m, by rw [er]; exact B.fx.r⟩,
    ⟨fun a ha => lift a (A1.own B.sy.lg a ha) (B.fy.f a ha), lift _ (B.sy.th _ (by simp)) B.fy.m, lift _ (B.sy.th _ (by simp)) B.fy.r⟩, fun a ha => ?_, c.old B.old B.nx, fun a ha => ?_, B.ny⟩, keepS⟩
  · obtain ⟨o, e⟩ := B.th a ha
    exact ⟨o, keepS a ha o e⟩
  · rw [em, er] at ha
    simp only [List.mem_cons] at ha
    rcases ha with h | h | h
    · exact B.nx a (by simp [h])
    · exact B.nx a (by simp [h])
    · rcases g a h with z | z
      · exact B.nx a (by simp [z])
      · exact B.old.free z
end
end KL

namespace KL
open PySem L2 L2H LX KB
variable {Lg : List Addr → Hp → Addr → List Row → Nat → Prop}
theorem merge_mine (r t : Addr) : mergeK [] (mineD r 0 t) = mineD r 0 t := by
  unfold mergeK mineD
  simp only [List.foldl_cons, List.foldl_nil]
  have e1 : putK ([] : List (Key × V)) (Sum.inr "rows") (V.ref r) = [((Sum.inr "rows" : Key), V.ref r)] := putK_new _ rfl
  have e2 : putK [((Sum.inr "rows" : Key), V.ref r)] (Sum.inr "gone") (V.int 0) = [((Sum.inr "rows" : Key), V.ref r), (Sum.inr "gone", V.int 0)] := putK_new _ (by rw [valV_neg (inr_ne w_rg)]; rfl)
  have e3 : putK [((Sum.inr "rows" : Key), V.ref r), (Sum.inr "gone", V.int 0)] (Sum.inr "told") (V.ref t) = [((Sum.inr "rows" : Key), V.ref r), (Sum.inr "gone", V.int 0), (Sum.inr "told", V.ref t)] := putK_new _ (by rw [valV_neg (inr_ne w_rt), valV_neg (inr_ne w_gt)]; rfl)
  rw [e1, e2, e3]
theorem mine_made {H : Hp} {p r t : Addr} (hp : H p = none) (hr : upd H p (.dK []) r = none) (ht : upd (upd H p (.dK [])) r (.lst []) t = none) :
    MineAt (upd (upd (upd (upd H p (.dK [])) r (.lst [])) t (.lst [])) p (.dK (mergeK [] (mineD r 0 t)))) p r t [] [] 0 ∧ Same H (upd (upd (upd (upd H p (.dK [])) r (.lst [])) t (.lst [])) p (.dK (mergeK [] (mineD r 0 t)))) ∧
    upd (upd (upd H p (.dK [])) r (.lst [])) t (.lst []) p = some (.dK []) ∧ ∀ a ∈ [p, r, t], H a = none := by
  have s1 : Same H (upd H p (.dK [])) := same_new hp
  have s2 : Same (upd H p (.dK [])) (upd (upd H p (.dK [])) r (.lst [])) := same_new hr
  have s3 := same_new (o := .lst []) ht
  have pr : p ≠ r := ne_of_none upd_same hr
  have pt : p ≠ t := ne_of_none (s2 _ _ upd_same) ht
  have rt : r ≠ t := ne_of_none upd_same ht
  refine ⟨⟨by rw [merge_mine]; exact upd_same, ?_, .nil, ?_, rt⟩, fun b o q => ?_, s3 _ _ (s2 _ _ upd_same), fun a ha => ?_⟩
  · rw [upd_ne pr.symm, upd_ne rt]; exact upd_same
  · rw [upd_ne pt.symm]; exact upd_same
  · rw [upd_ne (ne_of_none q hp)]
    exact s3 _ _ (s2 _ _ (s1 _ _ q))
  · simp only [List.mem_cons, List.not_mem_nil, or_false] at ha
    rcases ha with rfl | rfl | rfl
    · exact hp
    · exact s1.free hr
    · exact s1.free (s2.free ht)
theorem apartBy {H : Hp} {A B : List Addr} (a1 : ∀ a ∈ A, ∃ o, H a = some o) (b1 : ∀ b ∈ B, H b = none) : ∀ a ∈ A, a ∉ B := fun a ha hb => by
  obtain ⟨o, e⟩ := a1 a ha
  rw [b1 a hb] at e
  cases e
theorem log_made {C : Addr} {H H' : Hp} {x dx : Addr} {F : List Addr} (nx : H x = none) (ndx : H dx = none) (f : ∀ a ∈ F, a = x ∨ upd (upd H dx (.own x)) x (.ins C dx []) a = none) (c : Ch (upd (upd H dx (.own x)) x (.ins C dx [])) H' [x]) :
    Same H H' ∧ ∀ a ∈ F, H a = none := by
  have s0 : Same H (upd (upd H dx (.own x)) x (.ins C dx [])) := fun b o e => by
    rw [upd_ne (ne_of_none e nx), upd_ne (ne_of_none e ndx)]; exact e
  refine ⟨fun b o e => c.at (s0 _ _ e) fun z => ne_of_none e nx (List.mem_singleton.mp z), fun a ha => ?_⟩
  rcases f a ha with rfl | h
  · exact nx
  · exact s0.free h
def spLaw (K : PySem.W.Frag) : Sp := fun vs H Q _ => ∃ (a : Addr) (ns : List Int), vs = [.ref a] ∧ SqL K H a (ns.map V.int) ∧ ns.length ≤ 63 ∧ ∀ H', Q (.bl true) H'
theorem rg2 : ∀ m : Fin 64, Builtin.Range.small 2 ((m.val : Int) - 1) 2 = true ∧ Builtin.Range.rangeSize 2 ((m.val : Int) - 1) 2 = (((m.val - 2) / 2 : Nat) : Int) := by decide +kernel
theorem rg2_of {m : Nat} (h : m ≤ 63) : RgC 2 ((m : Int) - 1) 2 ((m - 2) / 2) := by
  have q := rg2 ⟨m, by omega⟩
  exact ⟨by decide, by decide, q.1, q.2⟩
/-- what stands between two turns: wh says which side is which place's -/
def Wld (Lg : List Addr → Hp → Addr → List Row → Nat → Prop) (H0 : Hp) (L Mn q : Addr) (n : Nat) (wh : Int) (H : Hp) : Prop := ∃ (X Y : Sd) (ls ms : List V), H L = some (.lst ls) ∧ H Mn = some (.lst ms) ∧ PoolAt H q ∧
  atI ls wh = some (.ref X.p) ∧ atI ls (1 - wh) = some (.ref Y.p) ∧ atI ms wh = some (.ref X.m) ∧ atI ms (1 - wh) = some (.ref Y.m) ∧ Both Lg H0 H [L, Mn, q] X Y ∧ X.rs.length ≤ n ∧ Y.rs.length ≤ n
theorem Wld.swap {H0 H : Hp} {L Mn q : Addr} {n : Nat} {wh : Int} (h : Wld Lg H0 L Mn q n wh H) : Wld Lg H0 L Mn q n (1 - wh) H := by
  obtain ⟨X, Y, ls, ms, h1, h2, h3, h4, h5, h6, h7, h8, h9, h10⟩ := h
  have e : 1 - (1 - wh) = wh := by omega
  exact ⟨Y, X, ls, ms, h1, h2, h3, h5, by rw [e]; exact h4, h7, by rw [e]; exact h6, h8.swap, h10, h9⟩
theorem Wld.to {H0 H : Hp} {L Mn q : Addr} {n : Nat} {wh wh' : Int} (h : Wld Lg H0 L Mn q n wh H) (a : wh = 0 ∨ wh = 1) (b : wh' = 0 ∨ wh' = 1) : Wld Lg H0 L Mn q n wh' H := by
  by_cases e : wh = wh'
  · rw [← e]; exact h
  · have z : wh' = 1 - wh := by omega
    rw [z]; exact h.swap
theorem Wld.mono {H0 H : Hp} {L Mn q : Addr} {n n' : Nat} {wh : Int} (h : Wld Lg H0 L Mn q n wh H) (l : n ≤ n') : Wld Lg H0 L Mn q n' wh H := by
  obtain ⟨X, Y, ls, ms, h1, h2, h3, h4, h5, h6, h7, h8, h9, h10⟩ := h
  exact ⟨X, Y, ls, ms, h1, h2, h3, h4, h5, h6, h7, h8, Nat.le_trans h9 l, Nat.le_trans h10 l⟩
theorem Wld.old {H0 H : Hp} {L Mn q : Addr} {n : Nat} {wh : Int} (h : Wld Lg H0 L Mn q n wh H) : Same H0 H := by
  obtain ⟨X, Y, ls, ms, h1, h2, h3, h4, h5, h6, h7, h8, h9, h10⟩ := h
  exact h8.old
theorem nq_of {H0 H : Hp} {L Mn q : Addr} {X Y : Sd} {zs : List Str} (B : Both Lg H0 H [L, Mn, q] X Y) (h : H q = some (.lst (zs.map V.str))) (l : zs.length = 6) : q ∉ [X.m, X.r, X.t] := fun z => by
  simp only [List.mem_cons, List.not_mem_nil, or_false] at z
  rcases z with z | z | z
  · exact B.fx.m (by simp [z])
  · exact B.fx.r (by simp [z])
  · have e := B.sx.mi.to
    rw [← z, h] at e
    have e2 : zs.map V.str = [] := HO.lst.inj (Option.some.inj e)
    have e3 := congrArg List.length e2
    rw [List.length_map, l] at e3
    cases e3
section
variable {P : Program} {w : World} {K : PySem.W.Frag} {mg : Str → Option Value} {base : Heap}
theorem PoolAt.of {H H' : Hp} {q : Addr} (h : PoolAt H q) (k : ∀ o, H q = some o → H' q = some o) : PoolAt H' q := by
  obtain ⟨zs, h1, h2⟩ := h
  exact ⟨zs, k _ h1, h2⟩
/-- a turn of the one side -/
theorem Wld.go {C : Addr} (A1 : LogApi P w K mg base C Lg) {H0 H H' : Hp} {L Mn q : Addr} {n : Nat} {wh : Int} {X Y X' : Sd} {ls ms : List V} (h1 : H L = some (.lst ls)) (h2 : H Mn = some (.lst ms)) (h3 : PoolAt H q)
    (h4 : atI ls wh = some (.ref X.p)) (h5 : atI ls (1 - wh) = some (.ref Y.p)) (h6 : atI ms wh = some (.ref X.m)) (h7 : atI ms (1 - wh) = some (.ref Y.m)) (B : Both Lg H0 H [L, Mn, q] X Y) (hy : Y.rs.length ≤ n)
    (S : SdAt Lg H' X') (ep : X'.p = X.p) (em : X'.m = X.m) (er : X'.r = X.r) (c : Ch H H' (X.m :: X.r :: X.F)) (g : Grow X.F X'.F H) (et : X'.t = X.t ∨ H X'.t = none) (hx : X'.rs.length ≤ n) : Wld Lg H0 L Mn q n wh H' := by
  obtain ⟨B', k⟩ := B.go A1 S em er c g et
  exact ⟨X', Y, ls, ms, k _ (by simp) _ h1, k _ (by simp) _ h2, h3.of (k _ (by simp)), by rw [ep]; exact h4, h5, by rw [em]; exact h6, h7, B', hx, hy⟩
theorem Wld.same {C : Addr} (A1 : LogApi P w K mg base C Lg) {H0 H H' : Hp} {L Mn q : Addr} {n : Nat} {wh : Int} (h : Wld Lg H0 L Mn q n wh H) (s : Same H H') : Wld Lg H0 L Mn q n wh H' := by
  obtain ⟨X, Y, ls, ms, h1, h2, h3, h4, h5, h6, h7, h8, h9, h10⟩ := h
  have c : ∀ l, Ch H H' l := fun l => Ch.of s l
  exact Wld.go A1 h1 h2 h3 h4 h5 h6 h7 h8 h10 (X' := X) ⟨A1.frame h8.sx.lg (c []) (fun _ _ z => nomatch z), h8.sx.mi.same s, h8.sx.dm, h8.sx.num, h8.sx.ok⟩ rfl rfl rfl (c _) (Grow.refl _ _) (.inl rfl) h9
theorem ok_law {f C : Addr} {fd : FuncData} (F : Fun K "law" "law" s_law f fd) (cl : Cls K C) (mgC : mg "Log" = some (.ref C)) (A1 : LogApi P w K mg base C Lg) (LT : LTxt mg)
    (D0 : Def P w K mg base "_law_cell_at" 1 p_cell_at (spCellA K)) (D1 : Def P w K mg base "_law_pool" 3 p_pool spPool) (D2 : Def P w K mg base "_law_noted" 3 p_noted (spNoted Lg)) (D3 : Def P w K mg base "_law_step" 5 p_step (spStep Lg))
    (D4 : Def P w K mg base "_law_ends" 3 p_ends (spEnds Lg)) (D5 : Def P w K mg base "_law_changes" 3 p_changes (spChanges K)) : FnOk P w K mg base CX0 6 f fd p_law (spLaw K) := by
  obtain ⟨f0, fd0, g0, k0, b0, G0⟩ := D0.ex
  obtain ⟨f1, fd1, g1, k1, b1, G1⟩ := D1.ex
  obtain ⟨f2, fd2, g2, k2, b2, G2⟩ := D2.ex
  obtain ⟨f3, fd3, g3, k3, b3, G3⟩ := D3.ex
  obtain ⟨f4, fd4, g4, k4, b4, G4⟩ := D4.ex
  obtain ⟨f5, fd5, g5, k5, b5, G5⟩ := D5.ex
  obtain ⟨fI, fdI, psI, MI, bI, GI⟩ := A1.make
  obtain ⟨fN, fdN, psN, mN, bN, GN⟩ := A1.wanted.ex
  refine F.ok sc_law (fun vs H Q E h => ?_) (fun cdv A outer s H vs Q E hr h => ?_)
  · obtain ⟨a, ns, rfl, _⟩ := h
    rfl
  · obtain ⟨a, ns, rfl, hs, hlen, k⟩ := h
    have hu := hu_of hr
    have hu64 := hr.units
    have hr1 : Room 1 _ := hr.mono (by decide)
    have hr3 : Room 3 _ := hr.mono (by decide)
    refine ⟨_, pss_cons (ps_set (i := 1) sc_law.nd rfl (Or.inl rfl) (pe_lst (pa_cons (pe_make0 MI GI hr3 rfl mgC bI .nil pass0) (pa_cons (pe_make0 MI GI hr3 rfl mgC bI .nil pass0) pa_nil))))
      (pss_cons (ps_set (i := 2) sc_law.nd rfl (Or.inl rfl) (pe_lst (pa_cons (pe_disp (pps_cons pe_str (pe_lst pa_nil) (pps_cons pe_str pe_int (pps_cons pe_str (pe_lst pa_nil) pps_nil))) (by rfl) (by rfl) (fun z => by cases z) (by decide))
        (pa_cons (pe_disp (pps_cons pe_str (pe_lst pa_nil) (pps_cons pe_str pe_int (pps_cons pe_str (pe_lst pa_nil) pps_nil))) (by rfl) (by rfl) (fun z => by cases z) (by decide)) pa_nil))))
      (pss_cons (ps_set (i := 3) sc_law.nd rfl (Or.inl rfl) (pe_call G1 hr3 rfl g1 k1 b1 .nil pass0 (pa_cons (pe_call G0 hr1 rfl g0 k0 b0 .nil pass0 (pa_cons (pv 0) (pa_cons pe_int pa_nil))) (pa_cons (pe_call G0 hr1 rfl g0 k0 b0 .nil pass0 (pa_cons (pv 0) (pa_cons pe_int pa_nil))) pa_nil))))
      (C8.pss_cut (ps_if (pt_cmpR op_eq (pe_op op_mod (pe_call G0 hr1 rfl g0 k0 b0 .nil pass0 (pa_cons (pv 0) (pa_cons pe_int pa_nil))) pe_int) pe_int (nomark _))
        (pss_one (ps_for PassesOwn.never rfl (pi_range1 (by rfl) LT.range (pa_cons pe_int pa_nil)) (pg_name (i := 4) sc_law.nd rfl (Or.inl rfl))
          (pss_one (ps_if (pt_not (pt_val (pe_call G2 hr3 rfl g2 k2 b2 .nil pass0 (pa_cons (pe_ix ix_list (pv 1) (pe_op op_mod (pv 4) pe_int) (fun _ _ => rfl)) (pa_cons (pe_ix ix_list (pv 2) (pe_op op_mod (pv 4) pe_int) (fun _ _ => rfl)) (pa_cons (pv 3)
            (pa_cons (pe_op op_add (pe_op op_mul (pv 4) pe_int) pe_int) (pa_cons (pv 4) pa_nil)))))))) (pss_one (ps_ret pe_bl)) pss_nil)))) pss_nil)
      (pss_cons (ps_for PassesOwn.never rfl (pi_range3 (by rfl) LT.range (pa_cons pe_int (pa_cons (pe_op op_sub (pe_callB call_len_seq (by rfl) LT.len PySem.boot_len (pa_cons (pv 0) pa_nil)) pe_int) (pa_cons pe_int pa_nil)))) (pg_name (i := 4) sc_law.nd rfl (Or.inl rfl))
        (pss_cons (ps_set (i := 5) sc_law.nd rfl (Or.inl rfl) (pe_op op_mod (pe_ix ix_list (pv 0) (pv 4) (fun _ _ => rfl)) pe_int))
        (pss_cons (ps_if (pt_not (pt_val (pe_call G3 hr rfl g3 k3 b3 .nil pass0 (pa_cons (pe_ix ix_list (pv 1) (pv 5) (fun _ _ => rfl)) (pa_cons (pe_ix ix_list (pv 2) (pv 5) (fun _ _ => rfl)) (pa_cons (pv 3) (pa_cons (pe_ix ix_list (pv 0) (pv 4) (fun _ _ => rfl)) (pa_cons (pe_ix ix_list (pv 0) (pe_op op_add (pv 4) pe_int) (fun _ _ => rfl)) pa_nil)))))))) (pss_one (ps_ret pe_bl)) pss_nil)
        (pss_cons (ps_if (PW.pt (pw_or (pt_not (pt_val (pe_call G4 hr3 rfl g4 k4 b4 .nil pass0 (pa_cons (pe_ix ix_list (pv 1) pe_int (fun _ _ => rfl)) (pa_cons (pe_ix ix_list (pv 2) pe_int (fun _ _ => rfl)) pa_nil)))))
          (pw_or1 (pt_not (pt_val (pe_call G4 hr3 rfl g4 k4 b4 .nil pass0 (pa_cons (pe_ix ix_list (pv 1) pe_int (fun _ _ => rfl)) (pa_cons (pe_ix ix_list (pv 2) pe_int (fun _ _ => rfl)) pa_nil)))))))) (pss_one (ps_ret pe_bl)) pss_nil)
        (pss_cons (ps_set (i := 6) sc_law.nd rfl (Or.inl rfl) (pe_dget hu (pe_ix ix_list (pv 2) (pv 5) (fun _ _ => rfl)) pe_str (fun _ _ => rfl)))
        (pss_cons (ps_set (i := 7) sc_law.nd rfl (Or.inl rfl) (pe_meth (E := E0) (pe_ix ix_list (pv 1) (pv 5) (fun _ _ => rfl)) cl mN GN hr3 bN .nil pass0 (pa_cons pe_str (pa_cons pe_int (pa_cons (pe_op op_pow pe_int pe_int) pa_nil)))))
        (pss_cons (ps_if (PW.pt (pw_or (pt_cmpR (op_neD hu64) (pe_dget hu (pe_ix ix_list (pv 2) (pv 5) (fun _ _ => rfl)) pe_str (fun _ _ => rfl)) (pe_lst pa_nil) (nomark _))
          (pw_or1 (pt_not (pt_val (pe_call G5 hr3 rfl g5 k5 b5 .nil pass0 (pa_cons (pv 7) (pa_cons (pe_slice sl_list (pv 6) (po_some (pe_dget hu (pe_ix ix_list (pv 2) (pv 5) (fun _ _ => rfl)) pe_str (fun _ _ => rfl))) po_none) pa_nil)))))))) (pss_one (ps_ret pe_bl)) pss_nil)
        (pss_one (ps_dput hu (pe_ix ix_list (pv 2) (pv 5) (fun _ _ => rfl)) pe_str (pv 7) rfl)))))))))
      (pss_one (ps_ret (pe_call G4 hr3 rfl g4 k4 b4 .nil pass0 (pa_cons (pe_ix ix_list (pv 1) pe_int (fun _ _ => rfl)) (pa_cons (pe_ix ix_list (pv 2) pe_int (fun _ _ => rfl)) pa_nil))))))))), ?_⟩
    intro p0 dx nx ndx nex
    refine ⟨p0, dx, rfl, upd_same, fun F0 Ha La fa Ca => ⟨rfl, ?_⟩⟩
    obtain ⟨sa, na⟩ := log_made nx ndx fa Ca
    intro p1 dy ny ndy ney
    refine ⟨p1, dy, rfl, upd_same, fun F1 Hb Lb fb Cb => ⟨rfl, ?_⟩⟩
    obtain ⟨sb, nb⟩ := log_made ny ndy fb Cb
    have La2 := A1.frame La (Ch.of sb []) (fun _ _ z => nomatch z)
    refine ⟨(by show 2 ≤ sizeLine; decide), fun L hL => ?_⟩
    generalize hHc : upd Hb L (.lst [V.ref p0, V.ref p1]) = Hc
    have sc : Same Hb Hc := by rw [← hHc]; exact same_new hL
    have hLc : Hc L = some (.lst [V.ref p0, V.ref p1]) := by rw [← hHc]; exact upd_same
    intro m0 hm0
    refine ⟨(by show 0 ≤ sizeLine; decide), fun r0 hr0 => ⟨(by show 0 ≤ sizeLine; decide), fun t0 ht0 => ?_⟩⟩
    obtain ⟨M0, sd, mid0, nd0⟩ := mine_made hm0 hr0 ht0
    refine ⟨mid0, mineD r0 0 t0, rfl, (by show 3 ≤ 15; decide), ?_⟩
    revert M0 sd
    generalize upd (upd (upd (upd Hc m0 (.dK [])) r0 (.lst [])) t0 (.lst [])) m0 (.dK (mergeK [] (mineD r0 0 t0))) = Hd
    intro M0 sd
    intro m1 hm1
    refine ⟨(by show 0 ≤ sizeLine; decide), fun r1 hr1' => ⟨(by show 0 ≤ sizeLine; decide), fun t1 ht1 => ?_⟩⟩
    obtain ⟨M1, se, mid1, nd1⟩ := mine_made hm1 hr1' ht1
    refine ⟨mid1, mineD r1 0 t1, rfl, (by show 3 ≤ 15; decide), ?_⟩
    revert M1 se
    generalize upd (upd (upd (upd Hd m1 (.dK [])) r1 (.lst [])) t1 (.lst [])) m1 (.dK (mergeK [] (mineD r1 0 t1))) = He
    intro M1 se
    refine ⟨(by show 2 ≤ sizeLine; decide), fun Mn hMn => ?_⟩
    generalize hHf : upd He Mn (.lst [V.ref m0, V.ref m1]) = Hf
    have sf : Same He Hf := by rw [← hHf]; exact same_new hMn
    have hMf : Hf Mn = some (.lst [V.ref m0, V.ref m1]) := by rw [← hHf]; exact upd_same
    have sH : Same H Hf := fun b o e => sf _ _ (se _ _ (sd _ _ (sc _ _ (sb _ _ (sa _ _ e)))))
    refine ⟨_, rfl, a, ns, 0, rfl, sH.seq hs, fun c0 => ⟨_, rfl, a, ns, 1, rfl, sH.seq hs, fun c1 => ⟨c0, c1, rfl, fun q zs Hg hq hqz hz6 hzs sg => ?_⟩⟩⟩
    -- what each was at its making
    have bN : ∀ x, Hc x = none → Hb x = none := fun x => sc.free
    have cN : ∀ x, Hd x = none → Hc x = none := fun x => sd.free
    have dN : ∀ x, He x = none → Hd x = none := fun x => se.free
    have eN : ∀ x, Hf x = none → He x = none := fun x => sf.free
    have thF0 : ∀ x ∈ F0, ∃ o, Hb x = some o := A1.own La2
    have thF1 : ∀ x ∈ F1, ∃ o, Hb x = some o := A1.own Lb
    have nb0 : ∀ x ∈ [m0, r0, t0], Hb x = none := fun x hx => bN _ (nd0 x hx)
    have nb1 : ∀ x ∈ [m1, r1, t1], Hb x = none := fun x hx => bN _ (cN _ (nd1 x hx))
    have nS : ∀ x ∈ [L, Mn, q], Hb x = none := fun x hx => by
      simp only [List.mem_cons, List.not_mem_nil, or_false] at hx
      rcases hx with rfl | rfl | rfl
      · exact hL
      · exact bN _ (cN _ (dN _ hMn))
      · exact bN _ (cN _ (dN _ (eN _ hq)))
    have nb0S : ∀ x ∈ m0 :: r0 :: t0 :: [L, Mn, q], Hb x = none := fun x hx => by
      rcases List.mem_append.mp (show x ∈ [m0, r0, t0] ++ [L, Mn, q] from hx) with h | h
      · exact nb0 x h
      · exact nS x h
    have nb1S : ∀ x ∈ m1 :: r1 :: t1 :: [L, Mn, q], Hb x = none := fun x hx => by
      rcases List.mem_append.mp (show x ∈ [m1, r1, t1] ++ [L, Mn, q] from hx) with h | h
      · exact nb1 x h
      · exact nS x h
    have md0 : ∀ x ∈ [m0, r0], ∃ o, Hd x = some o := fun x hx => by
      simp only [List.mem_cons, List.not_mem_nil, or_false] at hx
      rcases hx with rfl | rfl
      · exact ⟨_, M0.di⟩
      · exact ⟨_, M0.ro⟩
    have md1 : ∀ x ∈ [m1, r1], ∃ o, He x = some o := fun x hx => by
      simp only [List.mem_cons, List.not_mem_nil, or_false] at hx
      rcases hx with rfl | rfl
      · exact ⟨_, M1.di⟩
      · exact ⟨_, M1.ro⟩
    have f0 : ∀ x ∈ [m0, r0], x ∉ m1 :: r1 :: t1 :: [L, Mn, q] := fun x hx z => by
      obtain ⟨o, e⟩ := md0 x hx
      simp only [List.mem_cons, List.not_mem_nil, or_false] at z
      have nl : ∀ y, Hd y = none → x ≠ y := fun y h => ne_of_none e h
      rcases z with z | z | z | z | z | z
      · exact nl _ (nd1 m1 (by simp)) z
      · exact nl _ (nd1 r1 (by simp)) z
      · exact nl _ (nd1 t1 (by simp)) z
      · have hx' : x ∈ [m0, r0, t0] := by
          simp only [List.mem_cons, List.not_mem_nil, or_false] at hx ⊢
          rcases hx with h | h <;> simp [h]
        have h2 := nd0 x hx'
        rw [z, hLc] at h2
        cases h2
      · exact nl _ (dN _ hMn) z
      · exact nl _ (dN _ (eN _ hq)) z
    have f1 : ∀ x ∈ [m1, r1], x ∉ m0 :: r0 :: t0 :: [L, Mn, q] := fun x hx z => by
      obtain ⟨o, e⟩ := md1 x hx
      have hx' : x ∈ [m1, r1, t1] := by
        simp only [List.mem_cons, List.not_mem_nil, or_false] at hx ⊢
        rcases hx with h | h <;> simp [h]
      have h2 := nd1 x hx'
      simp only [List.mem_cons, List.not_mem_nil, or_false] at z
      rcases z with z | z | z | z | z | z
      · rw [z, M0.di] at h2; cases h2
      · rw [z, M0.ro] at h2; cases h2
      · rw [z, M0.to] at h2; cases h2
      · rw [z, sd _ _ hLc] at h2; cases h2
      · exact ne_of_none e hMn z
      · exact ne_of_none e (eN _ hq) z
    have sG : ∀ b o, Hb b = some o → Hg b = some o := fun b o e => sg _ _ (sf _ _ (se _ _ (sd _ _ (sc _ _ e))))
    have B0 : Both Lg H Hg [L, Mn, q] ⟨F0, p0, m0, r0, t0, [], [], 0⟩ ⟨F1, p1, m1, r1, t1, [], [], 0⟩ := by
      refine ⟨⟨A1.frame La2 (Ch.of sG []) (fun _ _ z => nomatch z), (M0.same se).same (sf.trans sg), apartBy thF0 nb0, Num.nil, (fun _ h => nomatch h)⟩, ⟨A1.frame Lb (Ch.of sG []) (fun _ _ z => nomatch z), M1.same (sf.trans sg), apartBy thF1 nb1, Num.nil, (fun _ h => nomatch h)⟩,
        apartBy (A1.own La) (fun x hx => nb x hx), fun x hx z => ?_, fun x hx z => ?_, ⟨apartBy thF0 nb1S, f0 _ (by simp), f0 _ (by simp)⟩, ⟨apartBy thF1 nb0S, f1 _ (by simp), f1 _ (by simp)⟩, fun x hx => ?_, sH.trans sg, fun x hx => ?_, fun x hx => ?_⟩
      · obtain ⟨o, e⟩ := thF1 x z
        have hx' : x ∈ [m0, r0, t0] := by
          simp only [List.mem_cons, List.not_mem_nil, or_false] at hx ⊢
          rcases hx with h | h <;> simp [h]
        rw [nb0 x hx'] at e
        cases e
      · obtain ⟨o, e⟩ := thF0 x z
        have hx' : x ∈ [m1, r1, t1] := by
          simp only [List.mem_cons, List.not_mem_nil, or_false] at hx ⊢
          rcases hx with h | h <;> simp [h]
        rw [nb1 x hx'] at e
        cases e
      · simp only [List.mem_cons, List.not_mem_nil, or_false] at hx
        rcases hx with rfl | rfl | rfl
        · exact ⟨_, sg _ _ (sf _ _ (se _ _ (sd _ _ hLc)))⟩
        · exact ⟨_, sg _ _ hMf⟩
        · exact ⟨_, hqz⟩
      · rcases List.mem_append.mp (show x ∈ [m0, r0] ++ F0 from hx) with h | h
        · exact sa.free (sb.free (nb0 x (by simp only [List.mem_cons, List.not_mem_nil, or_false] at h ⊢; rcases h with h | h <;> simp [h])))
        · exact na x h
      · rcases List.mem_append.mp (show x ∈ [m1, r1] ++ F1 from hx) with h | h
        · exact sa.free (sb.free (nb1 x (by simp only [List.mem_cons, List.not_mem_nil, or_false] at h ⊢; rcases h with h | h <;> simp [h])))
        · exact sa.free (nb x h)
    have W0 : Wld Lg H L Mn q 0 0 Hg := ⟨_, _, _, _, sg _ _ (sf _ _ (se _ _ (sd _ _ hLc))), sg _ _ hMf, ⟨zs, hqz, hz6, hzs⟩, rfl, rfl, rfl, rfl, B0, Nat.le_refl _, Nat.le_refl _⟩
    clear B0 f0 f1 md0 md1 nb1S nb0S nS nb1 nb0 thF1 thF0
    refine ⟨fun σ H' => (∃ y4, σ = [some (.ref a), some (.ref L), some (.ref Mn), some (.ref q), y4, none, none, none]) ∧ Wld Lg H L Mn q 240 0 H', ?_, ?_⟩
    · refine ⟨_, rfl, a, ns, 0, rfl, (sH.trans sg).seq hs, fun t => ⟨_, _, rfl, rfl, (by show (0 : Int) < 6; decide), rfl, _, rfl, ?_⟩⟩
      refine ite2 (fun _ => ?_) fun _ => ⟨⟨_, rfl⟩, W0.mono (by decide)⟩
      refine ⟨240, rfl, by decide, by decide, for_range (n := 240) (fun i σ H' => (∃ y4, σ = [some (.ref a), some (.ref L), some (.ref Mn), some (.ref q), y4, none, none, none]) ∧ Wld Lg H L Mn q i 0 H') ⟨⟨_, rfl⟩, W0⟩ ?_ fun σ H' h => h⟩
      rintro i σ H1 hi ⟨⟨y4, rfl⟩, W1⟩
      have hw : ((0 : Int) + i) % 2 = 0 ∨ ((0 : Int) + i) % 2 = 1 := by omega
      obtain ⟨X, Y, ls, ms, h1, h2, ⟨zs1, h3, h3a, h3b⟩, h4, h5, h6, h7, B, lx, ly⟩ := W1.to (.inl rfl) hw
      refine ⟨_, rfl, _, rfl, _, _, rfl, rfl, (by show (0 : Int) < 2; decide), L, _, _, _, rfl, rfl, SqL.of h1, h4, _, rfl, _, rfl, _, _, rfl, rfl, (by show (0 : Int) < 2; decide), Mn, _, _, _, rfl, rfl, SqL.of h2, h6, _, rfl, _, rfl, _, _, rfl, rfl, .inl ⟨by omega, by omega⟩, _, _, rfl, rfl, _, rfl,
        X.F, X.p, X.m, X.r, X.t, q, _, _, X.ts, X.rs, X.g, zs1, rfl, B.sx, by omega, h3, h3a, h3b, nq_of B h3 h3a, fun H2 af => ⟨true, rfl, iteF ⟨⟨_, rfl⟩, ?_⟩⟩⟩
      obtain ⟨F', ts', rs', g', S', G', C', l'⟩ := af
      have W2 := Wld.go A1 (X' := ⟨F', X.p, X.m, X.r, X.t, ts', rs', g'⟩) h1 h2 ⟨zs1, h3, h3a, h3b⟩ h4 h5 h6 h7 B (Nat.le_trans ly (Nat.le_succ i)) S' rfl rfl rfl C' G' (.inl rfl) (by show rs'.length ≤ i + 1; omega)
      exact W2.to hw (.inl rfl)
    · rintro σ H1 ⟨⟨y4, rfl⟩, W1⟩
      have seq : ∀ {n wh H'}, Wld Lg H L Mn q n wh H' → SqL K H' a (ns.map V.int) := fun {n wh H'} h => h.old.seq hs
      have hlm : (ns.map V.int).length ≤ 63 := by rw [List.length_map]; exact hlen
      refine ⟨_, rfl, a, _, rfl, .inl (seq W1), _, _, rfl, rfl, 2, _, 2, ((ns.map V.int).length - 2) / 2, rfl, rg2_of hlm,
        for_rangeC (n := ((ns.map V.int).length - 2) / 2) (fun i σ H' => (∃ y4 y5 y6 y7, σ = [some (.ref a), some (.ref L), some (.ref Mn), some (.ref q), y4, y5, y6, y7]) ∧ Wld Lg H L Mn q (240 + i) 0 H') ⟨⟨_, _, _, _, rfl⟩, W1⟩ ?_ ?_⟩
      · rintro i σ H2 hi ⟨⟨z4, z5, z6, z7, rfl⟩, W2⟩
        rw [List.length_map] at hi
        obtain ⟨kind, _, a1⟩ := at_ints (ns := ns) (z := 2 + (i : Int) * 2) (by omega) (by omega)
        obtain ⟨cell, _, a2⟩ := at_ints (ns := ns) (z := 2 + (i : Int) * 2 + 1) (by omega) (by omega)
        refine ⟨_, rfl, _, rfl, a, _, _, _, rfl, rfl, seq W2, a1, _, _, rfl, rfl, (by show (0 : Int) < 2; decide), ?_⟩
        have hw : kind % 2 = 0 ∨ kind % 2 = 1 := by omega
        have bn : 240 + i ≤ 300 := by omega
        obtain ⟨X, Y, ls, ms, h1, h2, ⟨zs1, h3, h3a, h3b⟩, h4, h5, h6, h7, B, lx, ly⟩ := W2.to (.inl rfl) hw
        refine ⟨_, rfl, _, rfl, L, _, _, _, rfl, rfl, SqL.of h1, h4, _, rfl, _, rfl, Mn, _, _, _, rfl, rfl, SqL.of h2, h6, _, rfl, _, rfl, _, rfl, a, _, _, _, rfl, rfl, seq W2, a1, _, rfl, _, rfl, _, _, rfl, rfl, a, _, _, _, rfl, rfl, seq W2, a2,
          X.F, X.p, X.m, X.r, X.t, q, kind, cell, X.ts, X.rs, X.g, rfl, B.sx, by omega, ⟨zs1, h3, h3a, h3b⟩, nq_of B h3 h3a, fun H3 af => ⟨true, rfl, iteF ?_⟩⟩
        obtain ⟨F', ts', rs', g', S', G', C', l'⟩ := af
        have W3 := Wld.go A1 (n := 240 + (i + 1)) (X' := ⟨F', X.p, X.m, X.r, X.t, ts', rs', g'⟩) h1 h2 ⟨zs1, h3, h3a, h3b⟩ h4 h5 h6 h7 B (by omega) S' rfl rfl rfl C' G' (.inl rfl) (by show rs'.length ≤ 240 + (i + 1); omega)
        clear S' G' C' l' h1 h2 h3 h3a h3b h4 h5 h6 h7 B lx ly
        have W3' := W3.to hw (.inl rfl)
        clear W3
        have sub : ∀ {X : Sd}, ∀ x ∈ X.F, x ∈ X.m :: X.r :: X.F := fun {X} x hx => List.mem_cons_of_mem _ (List.mem_cons_of_mem _ hx)
        obtain ⟨X, Y, ls, ms, h1, h2, h3, h4, h5, h6, h7, B, lx, ly⟩ := W3'
        refine ⟨_, rfl, L, _, 0, _, rfl, rfl, SqL.of h1, h4, _, rfl, Mn, _, 0, _, rfl, rfl, SqL.of h2, h6, X.F, X.p, X.m, X.r, X.t, X.ts, X.rs, X.g, rfl, B.sx, fun H4 F4 S4 G4' C4 => ⟨true, rfl, iteF ?_⟩⟩
        have W4 := (Wld.go A1 (n := 240 + (i + 1)) (X' := ⟨F4, X.p, X.m, X.r, X.t, X.ts, X.rs, X.g⟩) h1 h2 h3 h4 h5 h6 h7 B ly S4 rfl rfl rfl (C4.mono sub) G4' (.inl rfl) lx).to (.inl rfl) (wh' := 1) (.inr rfl)
        clear S4 G4' C4 h1 h2 h3 h4 h5 h6 h7 B lx ly
        obtain ⟨X, Y, ls, ms, h1, h2, h3, h4, h5, h6, h7, B, lx, ly⟩ := W4
        refine ⟨_, rfl, L, _, 1, _, rfl, rfl, SqL.of h1, h4, _, rfl, Mn, _, 1, _, rfl, rfl, SqL.of h2, h6, X.F, X.p, X.m, X.r, X.t, X.ts, X.rs, X.g, rfl, B.sx, fun H5 F5 S5 G5' C5 => ⟨true, rfl, iteF ?_⟩⟩
        have W5 := (Wld.go A1 (n := 240 + (i + 1)) (X' := ⟨F5, X.p, X.m, X.r, X.t, X.ts, X.rs, X.g⟩) h1 h2 h3 h4 h5 h6 h7 B ly S5 rfl rfl rfl (C5.mono sub) G5' (.inl rfl) lx).to (.inr rfl) hw
        clear S5 G5' C5 h1 h2 h3 h4 h5 h6 h7 B lx ly
        obtain ⟨X, Y, ls, ms, h1, h2, h3, h4, h5, h6, h7, B, lx, ly⟩ := W5
        -- all that are kept
        refine ⟨_, rfl, _, rfl, Mn, _, _, _, rfl, rfl, SqL.of h2, h6, X.m, _, rfl, B.sx.mi.gR, ?_⟩
        obtain ⟨hpF, dz, fs, hob, hfs⟩ := A1.inst B.sx.lg
        refine ⟨_, rfl, _, rfl, L, _, _, _, rfl, rfl, SqL.of h1, h4, X.p, dz, fs, rfl, hob, hfs _ (by simp), _, _, rfl, rfl, ⟨by decide, by decide, by decide⟩, X.F, X.p, "", 0, _, X.rs, X.g, rfl, B.sx.lg, TOk.nil.mono (by decide), (by decide), (by decide), by omega, fun F6 f6 us H6 L6 G6 C6 n6 nf6 h6f r6 => ?_⟩
        have t6 : (10 : Int) ^ (6 : Int).toNat = 1000000 := (by decide +kernel)
        rw [wantedM_all B.sx.num X.g (by show (X.rs.length : Int) ≤ 10 ^ (6 : Int).toNat; omega)] at r6
        have M6 := B.sx.mi.ch C6 (fun z => B.sx.dm _ z (by simp)) (fun z => B.sx.dm _ z (by simp)) (fun z => B.sx.dm _ z (by simp))
        have nL : L ∉ X.F := fun z => B.fx.f _ z (by simp)
        have nM : Mn ∉ X.F := fun z => B.fx.f _ z (by simp)
        have e2 := C6.at h2 nM
        refine ⟨_, rfl, _, rfl, Mn, _, _, _, rfl, rfl, SqL.of e2, h6, X.m, _, rfl, M6.gT, (by show 0 ≤ sizeLine; decide), fun z6 hz6' => ?_⟩
        have s7 : Same H6 (upd H6 z6 (.lst [])) := same_new hz6'
        have M7 := M6.same s7
        refine ⟨.list [], .list [], .lst (SqL.of M7.to) .nil, .lst (SqL.of upd_same) .nil, rfl, rfl, _, rfl, iteF ?_⟩
        refine ⟨_, rfl, _, rfl, _, rfl, _, rfl, Mn, _, _, _, rfl, rfl, SqL.of (s7 _ _ e2), h6, X.m, _, rfl, M7.gG, _, rfl, X.r, _, rfl, SqL.of M7.ro, fun d8 hd8 => ?_⟩
        have lt : (X.ts.map V.ref).length = X.rs.length := by rw [List.length_map, Paired.length M7.at_]
        rw [cutV_from _ (by rw [lt]; exact A1.le B.sx.lg), ← List.map_drop]
        have s8 := s7.trans (same_new (o := .lst ((X.ts.drop X.g).map V.ref)) hd8)
        have hd8' : upd (upd H6 z6 (.lst [])) d8 (.lst ((X.ts.drop X.g).map V.ref)) d8 = some (.lst ((X.ts.drop X.g).map V.ref)) := upd_same
        generalize upd (upd H6 z6 (.lst [])) d8 (.lst ((X.ts.drop X.g).map V.ref)) = H8 at s8 hd8'
        refine ⟨f6, d8, us, X.ts.drop X.g, X.rs.drop X.g, rfl, s8 _ _ h6f, hd8', r6.keep (fun x xs e => s8 _ _ e), (M6.same s8).at_.drop X.g, fun x hx => B.sx.ok x (List.mem_of_mem_drop hx), true, rfl, iteF ?_⟩
        have f60 : H2 f6 = none ∨ True := .inr trivial
        -- told: the list that was cleared
        have c8 : Ch H6 (upd H8 f6 (.lst [])) [f6] := (Ch.of s8 _).mut (List.mem_singleton.mpr rfl) h6f (fun xs e => by cases e)
        have nmf : ∀ x ∈ [X.m, X.r, X.t], x ∉ [f6] := fun x hx y => by
          obtain ⟨o, e⟩ := B.sx.th x hx
          rw [List.mem_singleton.mp y, n6] at e
          cases e
        have M9 := M6.ch c8 (nmf _ (by simp)) (nmf _ (by simp)) (nmf _ (by simp))
        have nMf : Mn ∉ [f6] := fun y => by rw [List.mem_singleton.mp y, n6] at h2; cases h2
        have e9 := c8.at e2 nMf
        have hf9 : upd H8 f6 (.lst []) f6 = some (.lst []) := upd_same
        generalize upd H8 f6 (.lst []) = H9 at c8 M9 e9 hf9
        refine ⟨_, rfl, _, rfl, _, rfl, Mn, _, _, _, rfl, rfl, SqL.of e9, h6, X.m, _, rfl, DPut.k (kvs := mineD X.r X.g X.t) (k := Sum.inr "told") M9.di (by show 3 < sizeLine; decide), ?_⟩
        rw [mine_putT]
        refine ⟨⟨_, _, _, _, rfl⟩, ?_⟩
        have mr : X.r ≠ X.m := ne_of M9.ro M9.di (by intro z; cases z)
        have fm : f6 ≠ X.m := ne_of hf9 M9.di (by intro z; cases z)
        have rf : X.r ≠ f6 := fun z => nmf X.r (by simp) (by rw [z]; simp)
        have cm : Ch H9 (upd H9 X.m (.dK (mineD X.r X.g f6))) [X.m] := (Ch.refl _ _).mut (List.mem_singleton.mpr rfl) M9.di (fun xs e => by cases e)
        have M10 : MineAt (upd H9 X.m (.dK (mineD X.r X.g f6))) X.m X.r f6 X.ts X.rs X.g := ⟨upd_same, by rw [upd_ne mr]; exact M9.ro, M9.at_.keep cm.tup, by rw [upd_ne fm]; exact hf9, rf⟩
        have L9 := A1.frame L6 c8 (fun x hx y => nf6 (by rw [← List.mem_singleton.mp y]; exact hx))
        have dm6 := G6.apart B.sx.dm B.sx.th
        have L10 := A1.frame L9 cm (fun x hx y => dm6 x hx (by rw [List.mem_singleton.mp y]; simp))
        have S10 : SdAt Lg (upd H9 X.m (.dK (mineD X.r X.g f6))) ⟨F6, X.p, X.m, X.r, f6, X.ts, X.rs, X.g⟩ := ⟨L10, M10, fun x hx y => by
          simp only [List.mem_cons, List.not_mem_nil, or_false] at y
          rcases y with y | y | y
          · exact dm6 x hx (by simp [y])
          · exact dm6 x hx (by simp [y])
          · exact nf6 (by rw [← y]; exact hx), B.sx.num, B.sx.ok⟩
        have cAll : Ch H5 (upd H9 X.m (.dK (mineD X.r X.g f6))) (X.m :: X.r :: X.F) := by
          refine ⟨fun x o e n => ?_, fun x o e => ?_⟩
          · have x1 := (C6.mono sub).st x o e n
            have x2 : x ∉ [f6] := fun y => by rw [List.mem_singleton.mp y, n6] at e; cases e
            exact (cm.mono (m := X.m :: X.r :: X.F) (fun y hy => by rw [List.mem_singleton.mp hy]; simp)).st x o (c8.at x1 x2) n
          · obtain ⟨o1, x1⟩ := C6.th x o e
            obtain ⟨o2, x2⟩ := c8.th x o1 x1
            exact cm.th x o2 x2
        have W10 := Wld.go A1 (n := 240 + (i + 1)) (X' := ⟨F6, X.p, X.m, X.r, f6, X.ts, X.rs, X.g⟩) h1 h2 h3 h4 h5 h6 h7 B ly S10 rfl rfl rfl cAll G6 (.inr n6) lx
        exact W10.to hw (.inl rfl)
      · rintro σ H2 ⟨⟨z4, z5, z6, z7, rfl⟩, W2⟩
        obtain ⟨X, Y, ls, ms, h1, h2, h3, h4, h5, h6, h7, B, lx, ly⟩ := W2
        exact ⟨_, rfl, L, _, 0, _, rfl, rfl, SqL.of h1, h4, _, rfl, Mn, _, 0, _, rfl, rfl, SqL.of h2, h6, X.F, X.p, X.m, X.r, X.t, X.ts, X.rs, X.g, rfl, B.sx, fun H4 F4 S4 G4' C4 => k H4⟩
end
end KL

namespace KB
open PySem L2 L2H LX
/-! ### an object's fields, by place -/
def pos (k : Str) : List Str → Option Nat
  | [] => none
  | x :: r => if x = k then some 0 else (pos k r).map (· + 1)
theorem zf_no {k : Str} : ∀ {ns : List Str} {vs : List V}, pos k ns = none → (ns.zip vs).lookup k = none
  | [], _, _ => rfl
  | x :: r, [], _ => rfl
  | x :: r, v :: vs, h => by
    unfold pos at h
    by_cases e : x = k
    · rw [if_pos e] at h; cases h
    · rw [if_neg e] at h
      have h2 : pos k r = none := by
        cases q : pos k r with
        | none => rfl
        | some i => rw [q] at h; cases h
      rw [List.zip_cons_cons, List.lookup_cons, show (k == x) = false from beq_eq_false_iff_ne.mpr fun z => e z.symm]
      exact zf_no h2
theorem zf_get {k : Str} : ∀ {ns : List Str} {vs : List V} {i : Nat} {v : V}, pos k ns = some i → vs[i]? = some v → (ns.zip vs).lookup k = some v
  | [], _, i, v, h, _ => by cases h
  | x :: r, [], i, v, _, h => by simp at h
  | x :: r, u :: vs, i, v, h, hv => by
    unfold pos at h
    by_cases e : x = k
    · rw [if_pos e] at h
      cases h
      rw [List.zip_cons_cons, List.lookup_cons, show (k == x) = true from beq_iff_eq.mpr e.symm]
      exact hv
    · rw [if_neg e] at h
      cases q : pos k r with
      | none => rw [q] at h; cases h
      | some j =>
        rw [q] at h
        cases h
        rw [List.zip_cons_cons, List.lookup_cons, show (k == x) = false from beq_eq_false_iff_ne.mpr fun z => e z.symm]
        exact zf_get q hv
theorem zf_put {k : Str} {y : V} : ∀ {ns : List Str} {vs : List V} {i : Nat}, pos k ns = some i → ns.length = vs.length → putF k y (ns.zip vs) = ns.zip (vs.set i y)
  | [], _, i, h, _ => by cases h
  | x :: r, [], i, _, h => by cases h
  | x :: r, u :: vs, i, h, hl => by
    unfold pos at h
    rw [List.zip_cons_cons]
    show (if x = k then (x, y) :: r.zip vs else (x, u) :: putF k y (r.zip vs)) = _
    by_cases e : x = k
    · rw [if_pos e] at h ⊢
      cases h
      rfl
    · rw [if_neg e] at h ⊢
      cases q : pos k r with
      | none => rw [q] at h; cases h
      | some j =>
        rw [q] at h
        cases h
        rw [zf_put q (Nat.succ.inj hl)]
        rfl
theorem zf_new {k : Str} {y : V} : ∀ {ns : List Str} {vs : List V}, pos k ns = none → ns.length = vs.length → putF k y (ns.zip vs) = (ns ++ [k]).zip (vs ++ [y])
  | [], [], h, _ => rfl
  | [], _ :: _, _, h => by cases h
  | x :: r, [], _, h => by cases h
  | x :: r, u :: vs, h, hl => by
    unfold pos at h
    rw [List.zip_cons_cons]
    show (if x = k then (x, y) :: r.zip vs else (x, u) :: putF k y (r.zip vs)) = _
    by_cases e : x = k
    · rw [if_pos e] at h; cases h
    · rw [if_neg e] at h ⊢
      have h2 : pos k r = none := by
        cases q : pos k r with
        | none => rfl
        | some i => rw [q] at h; cases h
      rw [zf_new h2 (Nat.succ.inj hl)]
      rfl
/-! ### does a text begin with another -/
theorem starts_isPre (k p : Str) : Txt.startswith k p = isPre p k := by
  have hk : (tl k).length = k.length := Array.length_toList
  have hp : (tl p).length = p.length := Array.length_toList
  have e1 : Txt.startswith k p = (decide (p.length ≤ k.length) && ((tl k).take p.length == tl p)) := by
    unfold Txt.startswith
    rw [PySem.StrLaws.subAt_eq, Nat.zero_add, List.drop_zero]
  have e2 : tl (cutS k none (some (p.length : Int))) = (tl k).take (min p.length k.length) := by
    show ((k.cps.toList.drop (HT.sIx k.length 0 none)).take (HT.sIx k.length k.length (some (p.length : Int)) - HT.sIx k.length 0 none)).toArray.toList = _
    rw [List.toList_toArray, HT.sIx_none, HT.sIx_nat, List.drop_zero, Nat.sub_zero]
  rw [e1]
  unfold isPre
  by_cases c : p.length ≤ k.length
  · rw [decide_eq_true c, Bool.true_and]
    rw [Nat.min_eq_left c] at e2
    by_cases d : (tl k).take p.length = tl p
    · rw [beq_iff_eq.mpr d]
      refine (decide_eq_true ?_).symm
      exact TL.ext_tl (e2.trans d)
    · rw [beq_eq_false_iff_ne.mpr d]
      refine (decide_eq_false fun z => d ?_).symm
      rw [← e2, z]
  · rw [decide_eq_false c, Bool.false_and]
    refine (decide_eq_false fun z => c ?_).symm
    have q := congrArg (fun s : Str => (tl s).length) z
    rw [e2, List.length_take, hp, hk] at q
    omega
theorem smallS {n : Nat} (h : n ≤ 200000) : n < sizeLine := Nat.lt_of_le_of_lt h (by decide)
end KB

namespace KL
open PySem L2 L2H LX KB
/-! ### the program's log -/
abbrev nsLog : List Str := ["_forgotten", "_kept"]
structure LogT (K : PySem.W.Frag) (C : Addr) : Prop where
  cl : Cls K C
  nF : NoAttr K C "_forgotten"
  nK : NoAttr K C "_kept"
structure LgAt (C : Addr) (H : Hp) (p q : Addr) (ts : List Addr) (rs : List Row) (g : Nat) : Prop where
  ob : ∃ dx, H p = some (.ins C dx (nsLog.zip [.int g, .ref q]))
  kp : H q = some (.lst (ts.map V.ref))
  at_ : RowsAt H ts (rs.drop g)
  le : g ≤ rs.length
  num : Num rs
def LgP (C : Addr) : List Addr → Hp → Addr → List Row → Nat → Prop := fun F H p rs g => ∃ q ts, F = [p, q] ∧ LgAt C H p q ts rs g
theorem LgAt.pq {C : Addr} {H : Hp} {p q : Addr} {ts : List Addr} {rs : List Row} {g : Nat} (L : LgAt C H p q ts rs g) : p ≠ q := by
  obtain ⟨dx, h⟩ := L.ob
  exact ne_of h L.kp (by intro z; cases z)
theorem LgAt.len {C : Addr} {H : Hp} {p q : Addr} {ts : List Addr} {rs : List Row} {g : Nat} (L : LgAt C H p q ts rs g) : ts.length = rs.length - g := by
  rw [Paired.length L.at_, List.length_drop]
theorem LgP.frame {C : Addr} {F : List Addr} {H H' : Hp} {p : Addr} {rs : List Row} {g : Nat} {l : List Addr} (L : LgP C F H p rs g) (c : Ch H H' l) (d : ∀ a ∈ F, a ∉ l) : LgP C F H' p rs g := by
  obtain ⟨q, ts, rfl, L⟩ := L
  obtain ⟨dx, h⟩ := L.ob
  exact ⟨q, ts, rfl, ⟨dx, c.at h (d p (by simp))⟩, c.at L.kp (d q (by simp)), L.at_.keep c.tup, L.le, L.num⟩
theorem LgP.own {C : Addr} {F : List Addr} {H : Hp} {p : Addr} {rs : List Row} {g : Nat} (L : LgP C F H p rs g) : ∀ a ∈ F, ∃ o, H a = some o := by
  obtain ⟨q, ts, rfl, L⟩ := L
  obtain ⟨dx, h⟩ := L.ob
  intro a ha
  simp only [List.mem_cons, List.not_mem_nil, or_false] at ha
  rcases ha with rfl | rfl
  · exact ⟨_, h⟩
  · exact ⟨_, L.kp⟩
theorem LgP.inst {C : Addr} {F : List Addr} {H : Hp} {p : Addr} {rs : List Row} {g : Nat} (L : LgP C F H p rs g) : p ∈ F ∧ ∃ dx fs, H p = some (.ins C dx fs) ∧ ∀ m ∈ ([("note" : Str), "last", "first", "wanted", "forget"] : List Str), fs.lookup m = none := by
  obtain ⟨q, ts, rfl, L⟩ := L
  obtain ⟨dx, h⟩ := L.ob
  refine ⟨by simp, dx, _, h, fun m hm => ?_⟩
  simp only [List.mem_cons, List.not_mem_nil, or_false] at hm
  rcases hm with rfl | rfl | rfl | rfl | rfl <;> exact zf_no (by decide +kernel)
theorem LgP.le {C : Addr} {F : List Addr} {H : Hp} {p : Addr} {rs : List Row} {g : Nat} (L : LgP C F H p rs g) : g ≤ rs.length := by
  obtain ⟨q, ts, rfl, L⟩ := L
  exact L.le
/-- last and first read only -/
def spLast0 (C : Addr) : Sp := fun vs H Q _ => ∃ (F : List Addr) (p : Addr) (rs : List Row) (g : Nat), vs = [.ref p] ∧ LgP C F H p rs g ∧ Q (.int rs.length) H
def spFirst0 (C : Addr) : Sp := fun vs H Q _ => ∃ (F : List Addr) (p : Addr) (rs : List Row) (g : Nat), vs = [.ref p] ∧ LgP C F H p rs g ∧ Q (.int ((g : Int) + 1)) H
section
variable {P : Program} {w : World} {K : PySem.W.Frag} {mg : Str → Option Value} {base : Heap}
theorem ok_Log_init {f C : Addr} {fd : FuncData} (F : Fun K "__init__" "Log.__init__" s_Log_init f fd) (T : LogT K C) : FnOk P w K mg base CX0 1 f fd p_Log_init (spLogInit C (LgP C)) := by
  refine F.ok sc_Log_init (fun vs H Q E h => ?_) (fun cdv A outer s H vs Q E hr h => ?_)
  · obtain ⟨p, dx, rfl, _⟩ := h
    rfl
  · obtain ⟨p, dx, rfl, hp, k⟩ := h
    refine ⟨_, pss_cons (ps_fld (pv 0) pe_int rfl) (pss_one (ps_fld (pv 0) (pe_lst pa_nil) rfl)), ?_⟩
    refine ⟨_, rfl, p, C, dx, [], rfl, hp, T.cl, T.nF, (by show 0 < 1000; decide), ?_⟩
    refine ⟨(by show 0 ≤ sizeLine; decide), fun q hq => ?_⟩
    have npq : p ≠ q := ne_of_none upd_same hq
    refine ⟨_, rfl, p, C, dx, _, rfl, (by rw [upd_ne npq]; exact upd_same), T.cl, T.nK, (by show 1 < 1000; decide), ?_⟩
    have q0 : H q = none := by rw [upd_ne npq.symm] at hq; exact hq
    refine k [p, q] _ ⟨q, [], rfl, ⟨dx, upd_same⟩, ?_, .nil, Nat.le_refl _, Num.nil⟩ (fun a ha => ?_) ⟨fun b o e n => ?_, fun b o e => ?_⟩
    · rw [upd_ne npq.symm]; exact upd_same
    · simp only [List.mem_cons, List.not_mem_nil, or_false] at ha
      rcases ha with rfl | rfl
      · exact .inl rfl
      · exact .inr q0
    · have nb : b ≠ p := fun z => by
        subst z
        rcases n with n | ⟨xs, n⟩
        · exact n (by simp)
        · rw [hp] at e; cases e; cases n
      rw [upd_ne nb, upd_ne (ne_of_none e q0), upd_ne nb]
      exact e
    · by_cases z : b = p
      · subst z; exact ⟨_, upd_same⟩
      · rw [upd_ne z, upd_ne (ne_of_none e q0), upd_ne z]; exact ⟨o, e⟩
theorem ok_Log_last {f C : Addr} {fd : FuncData} (F : Fun K "last" "Log.last" s_Log_last f fd) (T : LogT K C) (ml : mg "len" = none) : FnOk P w K mg base CX0 1 f fd p_Log_last (spLast0 C) := by
  refine F.ok sc_Log_last (fun vs H Q E h => ?_) (fun cdv A outer s H vs Q E hr h => ?_)
  · obtain ⟨Fs, p, rs, g, rfl, _⟩ := h
    rfl
  · obtain ⟨Fs, p, rs, g, rfl, ⟨q, ts, rfl, L⟩, k⟩ := h
    obtain ⟨dx, hp⟩ := L.ob
    refine ⟨_, pss_one (ps_ret (pe_op op_add (pe_fld (pv 0) rfl) (pe_callB call_len_seq (by rfl) ml PySem.boot_len (pa_cons (pe_fld (pv 0) rfl) pa_nil)))), ?_⟩
    refine ⟨_, rfl, p, C, dx, _, _, rfl, hp, T.cl, T.nF, zf_get (i := 0) (by decide +kernel) rfl, _, rfl, p, C, dx, _, _, rfl, hp, T.cl, T.nK, zf_get (i := 1) (by decide +kernel) rfl, q, _, rfl, .inl (SqL.of L.kp), _, _, rfl, rfl, ?_⟩
    have e : (g : Int) + ((ts.map V.ref).length : Int) = (rs.length : Int) := by
      rw [List.length_map, L.len]
      have := L.le
      omega
    show Q (.int ((g : Int) + ((ts.map V.ref).length : Int))) H
    rw [e]
    exact k
theorem ok_Log_first {f C : Addr} {fd : FuncData} (F : Fun K "first" "Log.first" s_Log_first f fd) (T : LogT K C) : FnOk P w K mg base CX0 1 f fd p_Log_first (spFirst0 C) := by
  refine F.ok sc_Log_first (fun vs H Q E h => ?_) (fun cdv A outer s H vs Q E hr h => ?_)
  · obtain ⟨Fs, p, rs, g, rfl, _⟩ := h
    rfl
  · obtain ⟨Fs, p, rs, g, rfl, ⟨q, ts, rfl, L⟩, k⟩ := h
    obtain ⟨dx, hp⟩ := L.ob
    refine ⟨_, pss_one (ps_ret (pe_op op_add (pe_fld (pv 0) rfl) pe_int)), ?_⟩
    exact ⟨_, rfl, p, C, dx, _, _, rfl, hp, T.cl, T.nF, zf_get (i := 0) (by decide +kernel) rfl, _, _, rfl, rfl, k⟩
theorem ok_Log_note {f fL C : Addr} {fd fdL : FuncData} {psL : List Str} (F : Fun K "note" "Log.note" s_Log_note f fd) (T : LogT K C) (mL : Meth K C "last" fL) (bL : Binds K fdL psL []) (GL : FnOk P w K mg base CX0 1 fL fdL psL (spLast0 C)) :
    FnOk P w K mg base CX0 2 f fd p_Log_note (spLogNote (LgP C)) := by
  refine F.ok sc_Log_note (fun vs H Q E h => ?_) (fun cdv A outer s H vs Q E hr h => ?_)
  · obtain ⟨Fs, p, t, wd, ky, v, rs, g, rfl, _⟩ := h
    rfl
  · obtain ⟨Fs, p, t, wd, ky, v, rs, g, rfl, LP, hl, ok, k⟩ := h
    obtain ⟨q, ts, rfl, L⟩ := id LP
    obtain ⟨dx, hp⟩ := L.ob
    refine ⟨_, pss_cons (ps_set (i := 5) sc_Log_note.nd rfl (Or.inl rfl) (pe_op op_add (pe_meth0 (pv 0) T.cl mL GL hr bL .nil pass0) pe_int))
      (pss_cons (ps_expr (pe_bm PySem.F.plainAttrs_list PySem.F.slot_list_append PySem.F.type_list_append mt_append (pe_fld (pv 0) rfl) (pa_cons (pe_tup (pa_cons (pv 5) (pa_cons (pv 1) (pa_cons (pv 2) (pa_cons (pv 3) (pa_cons (pv 4) pa_nil)))))) pa_nil)))
      (pss_one (ps_ret (pv 5)))), ?_⟩
    refine ⟨_, rfl, p, dx, _, rfl, hp, zf_no (by decide +kernel), _, p, rs, g, rfl, LP, _, _, rfl, rfl, ?_⟩
    refine ⟨_, rfl, p, C, dx, _, _, rfl, hp, T.cl, T.nK, zf_get (i := 1) (by decide +kernel) rfl, .inl ⟨rfl, _, .inl (.inl L.kp)⟩, _, rfl, _, rfl, _, rfl, _, rfl, _, rfl, (by show 5 ≤ sizeLine; decide), fun x hx => ?_⟩
    have nxq : q ≠ x := ne_of_none L.kp hx
    have nxp : p ≠ x := ne_of_none hp hx
    have hl2 : (ts.map V.ref).length < sizeLine := by
      rw [List.length_map, L.len]
      exact smallS (by omega)
    refine ⟨q, ts.map V.ref, .ref x, rfl, rfl, by rw [upd_ne nxq]; exact L.kp, hl2, ?_⟩
    refine ⟨_, rfl, ?_⟩
    have c1 : Ch H (upd (upd H x (.tup [.int ((rs.length : Int) + 1), .int t, .str wd, .str ky, .str v])) q (.lst (ts.map V.ref ++ [.ref x]))) [p, q] :=
      ((Ch.refl H [p, q]).new _ hx).mut (by simp) L.kp (fun xs e => by cases e)
    refine k [p, q] _ ⟨q, ts ++ [x], rfl, ⟨dx, ?_⟩, ?_, ?_, ?_, ?_⟩ (Grow.refl _ _) c1
    · rw [upd_ne L.pq, upd_ne nxp]; exact hp
    · rw [upd_same, List.map_append]; rfl
    · rw [List.drop_append_of_le_length L.le]
      refine Paired.snoc (L.at_.keep c1.tup) ?_
      show upd _ q _ x = _
      rw [upd_ne nxq.symm]
      exact upd_same
    · rw [List.length_append]
      exact Nat.le_trans L.le (Nat.le_add_right _ _)
    · exact L.num.snoc rfl
end
end KL

namespace KL
open PySem L2 L2H LX KB
/-! ### what a log is wanted for -/
theorem numDrop {rs : List Row} (h : Num rs) {g i : Nat} {r : Row} (e : (rs.drop g)[i]? = some r) : r.n = (g : Int) + i + 1 := by
  rw [List.getElem?_drop] at e
  have := h _ _ e
  omega
/-- the first ones that are not above b are passed over at once -/
theorem filter_from {rs : List Row} (h : Num rs) (g : Nat) (p : Str) (b : Int) : (rs.drop g).filter (fun r => decide (r.n > b) && isPre p r.k) = ((rs.drop g).drop (b - g).toNat).filter fun r => isPre p r.k := by
  rw [← List.take_append_drop (b - g).toNat (rs.drop g), List.filter_append]
  have e1 : ((rs.drop g).take (b - g).toNat).filter (fun r => decide (r.n > b) && isPre p r.k) = [] := by
    refine List.filter_eq_nil_iff.mpr fun r hr => ?_
    obtain ⟨i, hi⟩ := List.mem_iff_getElem?.mp hr
    rw [List.getElem?_take] at hi
    by_cases c : i < (b - g).toNat
    · rw [if_pos c] at hi
      have := numDrop h hi
      rw [decide_eq_false (by omega), Bool.false_and]
      decide
    · rw [if_neg c] at hi; cases hi
  have e2 : ((rs.drop g).drop (b - g).toNat).filter (fun r => decide (r.n > b) && isPre p r.k) = ((rs.drop g).drop (b - g).toNat).filter fun r => isPre p r.k := by
    refine List.filter_congr fun r hr => ?_
    obtain ⟨i, hi⟩ := List.mem_iff_getElem?.mp hr
    rw [List.drop_drop] at hi
    have := numDrop h hi
    rw [decide_eq_true (by omega), Bool.true_and]
  rw [e1, e2, List.nil_append, List.take_append_drop]
theorem take_snoc {l : List Row} {i : Nat} {r : Row} (h : l[i]? = some r) : l.take (i + 1) = l.take i ++ [r] := by
  rw [List.take_add_one, h]; rfl
section
variable {P : Program} {w : World} {K : PySem.W.Frag} {mg : Str → Option Value} {base : Heap}
theorem ok_Log_wanted {f C : Addr} {fd : FuncData} (F : Fun K "wanted" "Log.wanted" s_Log_wanted f fd) (T : LogT K C) (ml : mg "len" = none) (mm : mg "max" = none) (mr : mg "range" = none) : FnOk P w K mg base CX0 1 f fd p_Log_wanted (spLogWanted (LgP C)) := by
  refine F.ok sc_Log_wanted (fun vs H Q E h => ?_) (fun cdv A outer s H vs Q E hr h => ?_)
  · obtain ⟨Fs, p, z, b, m, rs, g, rfl, _⟩ := h
    rfl
  · obtain ⟨Fs, p, z, b, m, rs, g, rfl, LP, oz, hm, hb, hl, k⟩ := h
    obtain ⟨q, ts, rfl, L⟩ := id LP
    obtain ⟨dx, hp⟩ := L.ob
    refine ⟨_, pss_cons (ps_set (i := 4) sc_Log_wanted.nd rfl (Or.inl rfl) (pe_lst pa_nil))
      (pss_cons (ps_for PassesOwn.never rfl (pi_range2 (by rfl) mr (pa_cons (pe_callB (call_max2 rfl) (by rfl) mm (by decide +kernel) (pa_cons pe_int (pa_cons (pe_op op_sub (pv 2) (pe_fld (pv 0) rfl)) pa_nil)))
          (pa_cons (pe_callB call_len_seq (by rfl) ml PySem.boot_len (pa_cons (pe_fld (pv 0) rfl) pa_nil)) pa_nil))) (pg_name (i := 5) sc_Log_wanted.nd rfl (Or.inl rfl))
        (pss_cons (ps_if (pt_cmpR op_ge (pe_callB call_len_seq (by rfl) ml PySem.boot_len (pa_cons (pv 4) pa_nil)) (pv 3) (nomark _)) (pss_one ps_break) pss_nil)
        (pss_cons (ps_set (i := 6) sc_Log_wanted.nd rfl (Or.inl rfl) (pe_ix ix_list (pe_fld (pv 0) rfl) (pv 5) (fun _ _ => rfl)))
        (pss_one (ps_if (pt_val (pe_m1 PySem.F.slot_str_startswith PySem.F.type_str_startswith mt_startswith (pe_ix ix_tup (pv 6) pe_int (fun _ _ => rfl)) (pv 1))) (pss_one (ps_expr (pe_bm PySem.F.plainAttrs_list PySem.F.slot_list_append PySem.F.type_list_append mt_append (pv 4) (pa_cons (pv 6) pa_nil)))) pss_nil)))))
      (pss_one (ps_ret (pv 4)))), ?_⟩
    refine ⟨(by show 0 ≤ sizeLine; decide), fun d hd => ?_⟩
    have npd : p ≠ d := ne_of_none hp hd
    have nqd : q ≠ d := ne_of_none L.kp hd
    have hp1 : upd H d (.lst []) p = some (.ins C dx (nsLog.zip [.int g, .ref q])) := by rw [upd_ne npd]; exact hp
    have hq1 : upd H d (.lst []) q = some (.lst (ts.map V.ref)) := by rw [upd_ne nqd]; exact L.kp
    have gF : (nsLog.zip [V.int (g : Int), V.ref q]).lookup ("_forgotten" : Str) = some (.int g) := zf_get (i := 0) (by decide +kernel) rfl
    have gK : (nsLog.zip [V.int (g : Int), V.ref q]).lookup ("_kept" : Str) = some (.ref q) := zf_get (i := 1) (by decide +kernel) rfl
    have lt : (ts.map V.ref).length = rs.length - g := by rw [List.length_map, L.len]
    refine ⟨_, rfl, _, rfl, p, C, dx, _, _, rfl, hp1, T.cl, T.nF, gF, _, _, rfl, rfl, _, _, rfl, _, rfl, p, C, dx, _, _, rfl, hp1, T.cl, T.nK, gK, q, _, rfl, .inl (SqL.of hq1), _, _, rfl, ?_⟩
    have elo : (if b - (g : Int) > 0 then b - (g : Int) else 0) = (((b - g).toNat : Nat) : Int) := by split <;> omega
    rw [elo, lt]
    have le := L.le
    refine ⟨by omega, ?_⟩
    have en : (((rs.length - g : Nat) : Int) - (((b - g).toNat : Nat) : Int)).toNat = ((rs.drop g).drop (b - g).toNat).length := by
      rw [List.length_drop, List.length_drop]
      omega
    rw [en]
    have ekey : wantedM rs g z b m = (((rs.drop g).drop (b - g).toNat).filter fun r => isPre z r.k).take m.toNat := by
      unfold wantedM
      rw [filter_from L.num]
    generalize hks : (rs.drop g).drop (b - g).toNat = ks at en ekey ⊢
    have s1 : Same H (upd H d (.lst [])) := same_new hd
    -- what is told at the end
    have fin : ∀ {us : List Addr} {H' : Hp}, Same H H' → H' d = some (.lst (us.map V.ref)) → RowsAt H' us (wantedM rs g z b m) → Q (.ref d) H' := fun {us H'} sm h1 h2 =>
      k [p, q] d us H' (LP.frame (Ch.of sm []) (fun _ _ z => nomatch z)) (Grow.refl _ _) (Ch.of sm _) hd (fun y => by
        simp only [List.mem_cons, List.not_mem_nil, or_false] at y
        rcases y with y | y
        · exact npd y.symm
        · exact nqd y.symm) h1 h2
    refine for_range (lo := (((b - g).toNat : Nat) : Int)) (n := ks.length) (fun i σ H' => ∃ (us : List Addr) (y5 y6 : Option V), σ = [some (.ref p), some (.str z), some (.int b), some (.int m), some (.ref d), y5, y6] ∧ Same H H' ∧ H' d = some (.lst (us.map V.ref)) ∧
      RowsAt H' us ((ks.take i).filter fun r => isPre z r.k) ∧ (us.length : Int) ≤ m) ⟨[], none, none, rfl, s1, upd_same, .nil, hm⟩ ?_ ?_
    · rintro i σ H1 hi ⟨us, y5, y6, rfl, sm, hd1, hr1, hlm⟩
      obtain ⟨r, hr⟩ : ∃ r, ks[i]? = some r := ⟨ks[i], by simp [hi]⟩
      have hp2 := sm _ _ hp
      have hq2 := sm _ _ L.kp
      have hul : us.length ≤ rs.length := by
        have h1 := Paired.length hr1
        have h2 := List.length_filter_le (fun r => isPre z r.k) (ks.take i)
        have h3 := List.length_take_le i ks
        have h4 : ks.length ≤ rs.length := by
          rw [← hks, List.length_drop, List.length_drop]
          omega
        omega
      refine ⟨_, rfl, d, _, rfl, .inl (SqL.of hd1), _, rfl, _, _, rfl, rfl, _, rfl, ?_⟩
      rw [List.length_map]
      by_cases c1 : (us.length : Int) ≥ m
      · rw [decide_eq_true c1]
        refine iteT ⟨_, rfl, fin sm hd1 ?_⟩
        have e : wantedM rs g z b m = (ks.take i).filter fun r => isPre z r.k := by
          rw [ekey]
          have h1 := Paired.length hr1
          conv => lhs; rw [← List.take_append_drop i ks, List.filter_append]
          exact List.take_left' (by omega)
        rw [e]
        exact hr1
      rw [decide_eq_false c1]
      refine iteF ?_
      have hx : (rs.drop g)[(b - g).toNat + i]? = some r := by
        rw [← hks, List.getElem?_drop] at hr
        exact hr
      obtain ⟨t, ht, ht2⟩ : ∃ t, (ts.map V.ref)[(b - g).toNat + i]? = some (.ref t) ∧ H1 t = some (.tup r.V) := by
        have hlt : (b - g).toNat + i < (ts.map V.ref).length := by
          rw [List.length_map, Paired.length L.at_]
          exact (List.getElem?_eq_some_iff.mp hx).1
        obtain ⟨t, r', e1, e2, e3⟩ := RowsAt.at L.at_ (List.getElem?_eq_getElem hlt)
        rw [hx] at e2
        cases e2
        exact ⟨t, by rw [List.getElem?_eq_getElem hlt, e1], sm _ _ e3⟩
      have hat : atI (ts.map V.ref) ((((b - g).toNat : Nat) : Int) + (i : Int)) = some (.ref t) := by
        have e : ((((b - g).toNat : Nat) : Int) + (i : Int)) = (((b - g).toNat + i : Nat) : Int) := by omega
        rw [e]
        exact atI_nat ht
      refine ⟨_, rfl, p, C, dx, _, _, rfl, hp2, T.cl, T.nK, gK, _, rfl, q, _, _, _, rfl, rfl, SqL.of hq2, hat, ?_⟩
      refine ⟨_, rfl, t, _, 3, .str r.k, rfl, rfl, SqT.of ht2, rfl, ⟨_, rfl⟩, _, rfl, _, _, rfl, rfl, _, rfl, ?_⟩
      rw [starts_isPre, take_snoc hr, List.filter_append]
      by_cases c2 : isPre z r.k = true
      · rw [c2, List.filter_cons_of_pos (by exact c2), List.filter_nil]
        refine iteT ⟨_, rfl, .inl ⟨rfl, _, SqL.of hd1⟩, _, rfl, d, _, _, rfl, rfl, hd1, by rw [List.length_map]; exact smallS (by omega), ?_⟩
        have cD : Ch H1 (upd H1 d (.lst (us.map V.ref ++ [.ref t]))) [d] := (Ch.refl _ _).mut (List.mem_singleton.mpr rfl) hd1 (fun xs e => by cases e)
        refine ⟨us ++ [t], _, _, rfl, ?_, by rw [upd_same, List.map_append]; rfl, Paired.snoc (hr1.keep cD.tup) (cD.tup _ _ ht2), by rw [List.length_append]; simp only [List.length_cons, List.length_nil]; omega⟩
        exact fun b o e => cD.at (sm _ _ e) fun y => ne_of_none e hd (List.mem_singleton.mp y)
      · rw [Bool.eq_false_iff.mpr c2, List.filter_cons_of_neg (by exact c2), List.filter_nil, List.append_nil]
        exact iteF ⟨us, _, _, rfl, sm, hd1, hr1, hlm⟩
    · rintro σ H1 ⟨us, y5, y6, rfl, sm, hd1, hr1, hlm⟩
      rw [List.take_length] at hr1
      refine ⟨_, rfl, fin sm hd1 ?_⟩
      rw [ekey, List.take_of_length_le (by have := Paired.length hr1; omega)]
      exact hr1
end
end KL

namespace KL
open PySem L2 L2H LX KB
/-! ### what a log forgets -/
section
variable {P : Program} {w : World} {K : PySem.W.Frag} {mg : Str → Option Value} {base : Heap}
theorem ok_Log_forget {f fL C : Addr} {fd fdL : FuncData} {psL : List Str} (F : Fun K "forget" "Log.forget" s_Log_forget f fd) (T : LogT K C) (mx : mg "max" = none) (mn : mg "min" = none) (mL : Meth K C "last" fL) (bL : Binds K fdL psL []) (GL : FnOk P w K mg base CX0 1 fL fdL psL (spLast0 C)) :
    FnOk P w K mg base CX0 2 f fd p_Log_forget (spLogForget (LgP C)) := by
  refine F.ok sc_Log_forget (fun vs H Q E h => ?_) (fun cdv A outer s H vs Q E hr h => ?_)
  · obtain ⟨Fs, p, u, rs, g, rfl, _⟩ := h
    rfl
  · obtain ⟨Fs, p, u, rs, g, rfl, LP, hl, k⟩ := h
    obtain ⟨q, ts, rfl, L⟩ := id LP
    obtain ⟨dx, hp⟩ := L.ob
    have le := L.le
    refine ⟨_, pss_cons (ps_set (i := 2) sc_Log_forget.nd rfl (Or.inl rfl) (pe_callB (call_max2 rfl) (by rfl) mx (by decide +kernel) (pa_cons pe_int (pa_cons (pe_op op_sub (pe_callB (call_min2 rfl) (by rfl) mn (by decide +kernel)
        (pa_cons (pv 1) (pa_cons (pe_meth0 (pv 0) T.cl mL GL hr bL .nil pass0) pa_nil))) (pe_fld (pv 0) rfl)) pa_nil))))
      (pss_cons (ps_fld (pv 0) (pe_slice sl_list (pe_fld (pv 0) rfl) (po_some (pv 2)) po_none) rfl)
      (pss_cons (ps_fldaug (pv 0) (pv 2) in_add)
      (pss_one (ps_ret (pv 2))))), ?_⟩
    have gF : ∀ (x : Int) (y : Addr), (nsLog.zip [V.int x, V.ref y]).lookup ("_forgotten" : Str) = some (.int x) := fun x y => zf_get (i := 0) (by decide +kernel) rfl
    have gK : ∀ (x : Int) (y : Addr), (nsLog.zip [V.int x, V.ref y]).lookup ("_kept" : Str) = some (.ref y) := fun x y => zf_get (i := 1) (by decide +kernel) rfl
    refine ⟨_, rfl, _, rfl, p, dx, _, rfl, hp, zf_no (by decide +kernel), _, p, rs, g, rfl, LP, _, _, rfl, _, rfl, p, C, dx, _, _, rfl, hp, T.cl, T.nF, gF _ _, _, _, rfl, rfl, _, _, rfl, ?_⟩
    have em : (if (if (rs.length : Int) < u then (rs.length : Int) else u) - (g : Int) > 0 then (if (rs.length : Int) < u then (rs.length : Int) else u) - (g : Int) else 0) = ((goneM rs.length g u - g : Nat) : Int) := by
      unfold goneM
      by_cases c1 : (rs.length : Int) < u
      · rw [if_pos c1]
        split <;> omega
      · rw [if_neg c1]
        split <;> omega
    rw [em]
    have g1 := goneM_ge rs.length g u
    have g2 := goneM_le u le
    generalize goneM rs.length g u = n at g1 g2 k ⊢
    refine ⟨_, rfl, p, C, dx, _, _, rfl, hp, T.cl, T.nK, gK _ _, ?_⟩
    have lt : (ts.map V.ref).length = rs.length - g := by rw [List.length_map, L.len]
    refine ⟨_, rfl, _, rfl, q, _, rfl, SqL.of L.kp, fun q2 hq2 => ?_⟩
    rw [cutV_from _ (by rw [lt]; omega), ← List.map_drop]
    have npq : p ≠ q2 := ne_of_none hp hq2
    have nqq : q ≠ q2 := ne_of_none L.kp hq2
    have hp1 : upd H q2 (.lst ((ts.drop (n - g)).map V.ref)) p = some (.ins C dx (nsLog.zip [.int g, .ref q])) := by rw [upd_ne npq]; exact hp
    refine ⟨_, rfl, p, C, dx, _, rfl, hp1, T.cl, T.nK, (by show 2 < 1000; decide), ?_⟩
    rw [zf_put (i := 1) (by decide +kernel) rfl]
    refine ⟨_, rfl, p, C, dx, _, _, rfl, upd_same, T.cl, T.nF, gF _ _, _, rfl, _, _, rfl, rfl, dx, _, upd_same, (by show 2 < 1000; decide), ?_⟩
    rw [zf_put (i := 0) (by decide +kernel) rfl]
    refine ⟨_, rfl, ?_⟩
    have e1 : ((n - g : Nat) : Int) = (n : Int) - g := by omega
    have e2 : (g : Int) + ((n - g : Nat) : Int) = n := by omega
    rw [e2, e1]
    have c1 : Ch H (upd (upd (upd H q2 (.lst ((ts.drop (n - g)).map V.ref))) p (.ins C dx (nsLog.zip [.int g, .ref q2]))) p (.ins C dx (nsLog.zip [.int n, .ref q2]))) [p, q] :=
      (((Ch.refl H [p, q]).new _ hq2).mut (by simp) hp (fun _ z => by cases z)).mut (by simp) hp (fun _ z => by cases z)
    refine k [p, q2] _ ⟨q2, ts.drop (n - g), rfl, ⟨dx, upd_same⟩, ?_, ?_, g2, L.num⟩ (fun a ha => ?_) c1
    · rw [upd_ne npq.symm, upd_ne npq.symm]; exact upd_same
    · have e : rs.drop n = (rs.drop g).drop (n - g) := by
        rw [List.drop_drop]
        congr 1
        omega
      rw [e]
      exact (L.at_.drop (n - g)).keep c1.tup
    · simp only [List.mem_cons, List.not_mem_nil, or_false] at ha
      rcases ha with rfl | rfl
      · exact .inl (by simp)
      · exact .inr hq2
end
end KL

namespace KL
open PySem
theorem kit_own {K : PySem.W.Frag} {D B : Addr} {b : Bool} (hd : PySem.W.hasDictIn K B = true) (ht : PySem.W.typeIn K (.ref B) = some (.type "type")) (self : PySem.W.subIn K (.ref D) (.ref D) = some true) (h : PySem.W.subIn K (.ref D) (.ref B) = some b) :
    PySem.W.kitOne K (.ref D) (.ref B) = some b := by
  by_cases e : D = B
  · subst e
    rw [self] at h
    rw [← h]
    exact if_pos (beq_self_eq_true _)
  · obtain ⟨cd, hc, _⟩ := PySem.W.any_some hd
    have n : ¬ ((Value.ref D == Value.ref B) = true) := fun z => e (Value.ref.inj (beq_iff_eq.mp z))
    have y : ((PySem.W.clsIn K B).isSome && PySem.W.typeIn K (.ref B) == some (.type "type")) = true := by rw [hc, ht]; rfl
    unfold PySem.W.kitOne PySem.W.kitCls
    rw [if_neg n]
    dsimp only
    rw [if_pos y]
    exact h
theorem kit_type {K : PySem.W.Frag} {D : Addr} {T : String} {b : Bool} (m : PySem.W.kitMeta T = true) (h : PySem.W.subIn K (.ref D) (.type T) = some b) : PySem.W.kitOne K (.ref D) (.type T) = some b := by
  have n : ¬ ((Value.ref D == Value.type T) = true) := fun z => by cases beq_iff_eq.mp z
  unfold PySem.W.kitOne PySem.W.kitCls
  rw [if_neg n]
  dsimp only
  rw [if_pos m]
  exact h
end KL

namespace KL
open PySem L2 L2H LX KB

theorem all_mk {l : PySem.W.OpenLaw} {w : World} {K : PySem.W.Frag} {h : Heap} {mg : Str → Option Value} {fa C_Log f_Log_init f_Log_note f_Log_last f_Log_first f_Log_wanted f_Log_forget f_whole f_cell_at f_sign f_text f_pool f_prefix f_change f_changes f_wanted f_noted f_forgot f_ends f_step f_law : Addr} (X : K.In h) (G : h.Ns mainGlobals mg) (hfa : mg "law" = some (.ref fa))
    {od_Log_init an_Log_init od_Log_note an_Log_note od_Log_last an_Log_last od_Log_first an_Log_first od_Log_wanted an_Log_wanted od_Log_forget an_Log_forget od_whole an_whole od_cell_at an_cell_at od_sign an_sign od_text an_text od_pool an_pool od_prefix an_prefix od_change an_change od_changes an_changes od_wanted an_wanted od_noted an_noted od_forgot an_forgot od_ends an_ends od_step an_step od_law an_law : Option Addr} {sl_Log_init sl_Log_note sl_Log_last sl_Log_first sl_Log_wanted sl_Log_forget sl_whole sl_cell_at sl_sign sl_text sl_pool sl_prefix sl_change sl_changes sl_wanted sl_noted sl_forgot sl_ends sl_step sl_law : Array (Option Value)} {oc_Log_init kV_Log_init dc_Log_init pm_Log_init cd_Log_init ct_Log_init oc_Log_note kV_Log_note dc_Log_note pm_Log_note cd_Log_note ct_Log_note oc_Log_last kV_Log_last dc_Log_last pm_Log_last cd_Log_last ct_Log_last oc_Log_first kV_Log_first dc_Log_first pm_Log_first cd_Log_first ct_Log_first oc_Log_wanted kV_Log_wanted dc_Log_wanted pm_Log_wanted cd_Log_wanted ct_Log_wanted oc_Log_forget kV_Log_forget dc_Log_forget pm_Log_forget cd_Log_forget ct_Log_forget oc_whole kV_whole dc_whole pm_whole cd_whole ct_whole oc_cell_at kV_cell_at dc_cell_at pm_cell_at cd_cell_at ct_cell_at oc_sign kV_sign dc_sign pm_sign cd_sign ct_sign oc_text kV_text dc_text pm_text cd_text ct_text oc_pool kV_pool dc_pool pm_pool cd_pool ct_pool oc_prefix kV_prefix dc_prefix pm_prefix cd_prefix ct_prefix oc_change kV_change dc_change pm_change cd_change ct_change oc_changes kV_changes dc_changes pm_changes cd_changes ct_changes oc_wanted kV_wanted dc_wanted pm_wanted cd_wanted ct_wanted oc_noted kV_noted dc_noted pm_noted cd_noted ct_noted oc_forgot kV_forgot dc_forgot pm_forgot cd_forgot ct_forgot oc_ends kV_ends dc_ends pm_ends cd_ends ct_ends oc_step kV_step dc_step pm_step cd_step ct_step oc_law kV_law dc_law pm_law cd_law ct_law : Value}
    (aC_Log : PySem.W.nsIn K mainGlobals "Log" = some (some (.ref C_Log)))
    (a_Log_init : PySem.W.findIn K (.ref C_Log) "__init__" = some (some (.ref f_Log_init)))
    (i_Log_init : PySem.W.isFn K (.ref f_Log_init) = true)
    (l_Log_init : K.lookup f_Log_init = some ⟨oc_Log_init, od_Log_init, .func (PySem.W.fnOf "__init__" "Log.__init__" (defArgs s_Log_init) (defBody s_Log_init) (defScope s_Log_init) .none kV_Log_init dc_Log_init pm_Log_init an_Log_init cd_Log_init ct_Log_init), sl_Log_init⟩)
    (c_Log_init : PySem.W.codeIn K cd_Log_init "Log.__init__" = true)
    (k_Log_init : PySem.W.keepIn K (.ref f_Log_init) = true)
    (a_Log_note : PySem.W.findIn K (.ref C_Log) "note" = some (some (.ref f_Log_note)))
    (i_Log_note : PySem.W.isFn K (.ref f_Log_note) = true)
    (l_Log_note : K.lookup f_Log_note = some ⟨oc_Log_note, od_Log_note, .func (PySem.W.fnOf "note" "Log.note" (defArgs s_Log_note) (defBody s_Log_note) (defScope s_Log_note) .none kV_Log_note dc_Log_note pm_Log_note an_Log_note cd_Log_note ct_Log_note), sl_Log_note⟩)
    (c_Log_note : PySem.W.codeIn K cd_Log_note "Log.note" = true)
    (k_Log_note : PySem.W.keepIn K (.ref f_Log_note) = true)
    (a_Log_last : PySem.W.findIn K (.ref C_Log) "last" = some (some (.ref f_Log_last)))
    (i_Log_last : PySem.W.isFn K (.ref f_Log_last) = true)
    (l_Log_last : K.lookup f_Log_last = some ⟨oc_Log_last, od_Log_last, .func (PySem.W.fnOf "last" "Log.last" (defArgs s_Log_last) (defBody s_Log_last) (defScope s_Log_last) .none kV_Log_last dc_Log_last pm_Log_last an_Log_last cd_Log_last ct_Log_last), sl_Log_last⟩)
    (c_Log_last : PySem.W.codeIn K cd_Log_last "Log.last" = true)
    (k_Log_last : PySem.W.keepIn K (.ref f_Log_last) = true)
    (a_Log_first : PySem.W.findIn K (.ref C_Log) "first" = some (some (.ref f_Log_first)))
    (i_Log_first : PySem.W.isFn K (.ref f_Log_first) = true)
    (l_Log_first : K.lookup f_Log_first = some ⟨oc_Log_first, od_Log_first, .func (PySem.W.fnOf "first" "Log.first" (defArgs s_Log_first) (defBody s_Log_first) (defScope s_Log_first) .none kV_Log_first dc_Log_first pm_Log_first an_Log_first cd_Log_first ct_Log_first), sl_Log_first⟩)
    (c_Log_first : PySem.W.codeIn K cd_Log_first "Log.first" = true)
    (k_Log_first : PySem.W.keepIn K (.ref f_Log_first) = true)
    (a_Log_wanted : PySem.W.findIn K (.ref C_Log) "wanted" = some (some (.ref f_Log_wanted)))
    (i_Log_wanted : PySem.W.isFn K (.ref f_Log_wanted) = true)
    (l_Log_wanted : K.lookup f_Log_wanted = some ⟨oc_Log_wanted, od_Log_wanted, .func (PySem.W.fnOf "wanted" "Log.wanted" (defArgs s_Log_wanted) (defBody s_Log_wanted) (defScope s_Log_wanted) .none kV_Log_wanted dc_Log_wanted pm_Log_wanted an_Log_wanted cd_Log_wanted ct_Log_wanted), sl_Log_wanted⟩)
    (c_Log_wanted : PySem.W.codeIn K cd_Log_wanted "Log.wanted" = true)
    (k_Log_wanted : PySem.W.keepIn K (.ref f_Log_wanted) = true)
    (a_Log_forget : PySem.W.findIn K (.ref C_Log) "forget" = some (some (.ref f_Log_forget)))
    (i_Log_forget : PySem.W.isFn K (.ref f_Log_forget) = true)
    (l_Log_forget : K.lookup f_Log_forget = some ⟨oc_Log_forget, od_Log_forget, .func (PySem.W.fnOf "forget" "Log.forget" (defArgs s_Log_forget) (defBody s_Log_forget) (defScope s_Log_forget) .none kV_Log_forget dc_Log_forget pm_Log_forget an_Log_forget cd_Log_forget ct_Log_forget), sl_Log_forget⟩)
    (c_Log_forget : PySem.W.codeIn K cd_Log_forget "Log.forget" = true)
    (k_Log_forget : PySem.W.keepIn K (.ref f_Log_forget) = true)
    (a_whole : PySem.W.nsIn K mainGlobals "_law_whole" = some (some (.ref f_whole)))
    (l_whole : K.lookup f_whole = some ⟨oc_whole, od_whole, .func (PySem.W.fnOf "_law_whole" "_law_whole" (defArgs s_whole) (defBody s_whole) (defScope s_whole) .none kV_whole dc_whole pm_whole an_whole cd_whole ct_whole), sl_whole⟩)
    (c_whole : PySem.W.codeIn K cd_whole "_law_whole" = true)
    (k_whole : PySem.W.keepIn K (.ref f_whole) = true)
    (a_cell_at : PySem.W.nsIn K mainGlobals "_law_cell_at" = some (some (.ref f_cell_at)))
    (l_cell_at : K.lookup f_cell_at = some ⟨oc_cell_at, od_cell_at, .func (PySem.W.fnOf "_law_cell_at" "_law_cell_at" (defArgs s_cell_at) (defBody s_cell_at) (defScope s_cell_at) .none kV_cell_at dc_cell_at pm_cell_at an_cell_at cd_cell_at ct_cell_at), sl_cell_at⟩)
    (c_cell_at : PySem.W.codeIn K cd_cell_at "_law_cell_at" = true)
    (k_cell_at : PySem.W.keepIn K (.ref f_cell_at) = true)
    (a_sign : PySem.W.nsIn K mainGlobals "_law_sign" = some (some (.ref f_sign)))
    (l_sign : K.lookup f_sign = some ⟨oc_sign, od_sign, .func (PySem.W.fnOf "_law_sign" "_law_sign" (defArgs s_sign) (defBody s_sign) (defScope s_sign) .none kV_sign dc_sign pm_sign an_sign cd_sign ct_sign), sl_sign⟩)
    (c_sign : PySem.W.codeIn K cd_sign "_law_sign" = true)
    (k_sign : PySem.W.keepIn K (.ref f_sign) = true)
    (a_text : PySem.W.nsIn K mainGlobals "_law_text" = some (some (.ref f_text)))
    (l_text : K.lookup f_text = some ⟨oc_text, od_text, .func (PySem.W.fnOf "_law_text" "_law_text" (defArgs s_text) (defBody s_text) (defScope s_text) .none kV_text dc_text pm_text an_text cd_text ct_text), sl_text⟩)
    (c_text : PySem.W.codeIn K cd_text "_law_text" = true)
    (k_text : PySem.W.keepIn K (.ref f_text) = true)
    (a_pool : PySem.W.nsIn K mainGlobals "_law_pool" = some (some (.ref f_pool)))
    (l_pool : K.lookup f_pool = some ⟨oc_pool, od_pool, .func (PySem.W.fnOf "_law_pool" "_law_pool" (defArgs s_pool) (defBody s_pool) (defScope s_pool) .none kV_pool dc_pool pm_pool an_pool cd_pool ct_pool), sl_pool⟩)
    (c_pool : PySem.W.codeIn K cd_pool "_law_pool" = true)
    (k_pool : PySem.W.keepIn K (.ref f_pool) = true)
    (a_prefix : PySem.W.nsIn K mainGlobals "_law_prefix" = some (some (.ref f_prefix)))
    (l_prefix : K.lookup f_prefix = some ⟨oc_prefix, od_prefix, .func (PySem.W.fnOf "_law_prefix" "_law_prefix" (defArgs s_prefix) (defBody s_prefix) (defScope s_prefix) .none kV_prefix dc_prefix pm_prefix an_prefix cd_prefix ct_prefix), sl_prefix⟩)
    (c_prefix : PySem.W.codeIn K cd_prefix "_law_prefix" = true)
    (k_prefix : PySem.W.keepIn K (.ref f_prefix) = true)
    (a_change : PySem.W.nsIn K mainGlobals "_law_change" = some (some (.ref f_change)))
    (l_change : K.lookup f_change = some ⟨oc_change, od_change, .func (PySem.W.fnOf "_law_change" "_law_change" (defArgs s_change) (defBody s_change) (defScope s_change) .none kV_change dc_change pm_change an_change cd_change ct_change), sl_change⟩)
    (c_change : PySem.W.codeIn K cd_change "_law_change" = true)
    (k_change : PySem.W.keepIn K (.ref f_change) = true)
    (a_changes : PySem.W.nsIn K mainGlobals "_law_changes" = some (some (.ref f_changes)))
    (l_changes : K.lookup f_changes = some ⟨oc_changes, od_changes, .func (PySem.W.fnOf "_law_changes" "_law_changes" (defArgs s_changes) (defBody s_changes) (defScope s_changes) .none kV_changes dc_changes pm_changes an_changes cd_changes ct_changes), sl_changes⟩)
    (c_changes : PySem.W.codeIn K cd_changes "_law_changes" = true)
    (k_changes : PySem.W.keepIn K (.ref f_changes) = true)
    (a_wanted : PySem.W.nsIn K mainGlobals "_law_wanted" = some (some (.ref f_wanted)))
    (l_wanted : K.lookup f_wanted = some ⟨oc_wanted, od_wanted, .func (PySem.W.fnOf "_law_wanted" "_law_wanted" (defArgs s_wanted) (defBody s_wanted) (defScope s_wanted) .none kV_wanted dc_wanted pm_wanted an_wanted cd_wanted ct_wanted), sl_wanted⟩)
    (c_wanted : PySem.W.codeIn K cd_wanted "_law_wanted" = true)
    (k_wanted : PySem.W.keepIn K (.ref f_wanted) = true)
    (a_noted : PySem.W.nsIn K mainGlobals "_law_noted" = some (some (.ref f_noted)))
    (l_noted : K.lookup f_noted = some ⟨oc_noted, od_noted, .func (PySem.W.fnOf "_law_noted" "_law_noted" (defArgs s_noted) (defBody s_noted) (defScope s_noted) .none kV_noted dc_noted pm_noted an_noted cd_noted ct_noted), sl_noted⟩)
    (c_noted : PySem.W.codeIn K cd_noted "_law_noted" = true)
    (k_noted : PySem.W.keepIn K (.ref f_noted) = true)
    (a_forgot : PySem.W.nsIn K mainGlobals "_law_forgot" = some (some (.ref f_forgot)))
    (l_forgot : K.lookup f_forgot = some ⟨oc_forgot, od_forgot, .func (PySem.W.fnOf "_law_forgot" "_law_forgot" (defArgs s_forgot) (defBody s_forgot) (defScope s_forgot) .none kV_forgot dc_forgot pm_forgot an_forgot cd_forgot ct_forgot), sl_forgot⟩)
    (c_forgot : PySem.W.codeIn K cd_forgot "_law_forgot" = true)
    (k_forgot : PySem.W.keepIn K (.ref f_forgot) = true)
    (a_ends : PySem.W.nsIn K mainGlobals "_law_ends" = some (some (.ref f_ends)))
    (l_ends : K.lookup f_ends = some ⟨oc_ends, od_ends, .func (PySem.W.fnOf "_law_ends" "_law_ends" (defArgs s_ends) (defBody s_ends) (defScope s_ends) .none kV_ends dc_ends pm_ends an_ends cd_ends ct_ends), sl_ends⟩)
    (c_ends : PySem.W.codeIn K cd_ends "_law_ends" = true)
    (k_ends : PySem.W.keepIn K (.ref f_ends) = true)
    (a_step : PySem.W.nsIn K mainGlobals "_law_step" = some (some (.ref f_step)))
    (l_step : K.lookup f_step = some ⟨oc_step, od_step, .func (PySem.W.fnOf "_law_step" "_law_step" (defArgs s_step) (defBody s_step) (defScope s_step) .none kV_step dc_step pm_step an_step cd_step ct_step), sl_step⟩)
    (c_step : PySem.W.codeIn K cd_step "_law_step" = true)
    (k_step : PySem.W.keepIn K (.ref f_step) = true)
    (a_law : PySem.W.nsIn K mainGlobals "law" = some (some (.ref f_law)))
    (l_law : K.lookup f_law = some ⟨oc_law, od_law, .func (PySem.W.fnOf "law" "law" (defArgs s_law) (defBody s_law) (defScope s_law) .none kV_law dc_law pm_law an_law cd_law ct_law), sl_law⟩)
    (c_law : PySem.W.codeIn K cd_law "law" = true)
    (k_law : PySem.W.keepIn K (.ref f_law) = true)
    (pg_Log : PySem.W.plainGet K C_Log Str.empty = true)
    (hd_Log : PySem.W.hasDictIn K C_Log = true)
    (po_Log : PySem.W.plainOver K C_Log = true)
    (sa_Log : PySem.W.findIn K (.ref C_Log) "__setattr__" = some (some (.builtin "object.__setattr__")))
    (mk_Log : PySem.W.makesIn K C_Log = true)
    (kc_Log : PySem.W.keepIn K (.ref C_Log) = true)
    (n0_Log : PySem.W.findIn K (.ref C_Log) "_forgotten" = some none)
    (n1_Log : PySem.W.findIn K (.ref C_Log) "_kept" = some none)
    (z_abs : PySem.W.nsIn K mainGlobals "abs" = some none)
    (z_bool : PySem.W.nsIn K mainGlobals "bool" = some none)
    (z_int : PySem.W.nsIn K mainGlobals "int" = some none)
    (z_isinstance : PySem.W.nsIn K mainGlobals "isinstance" = some none)
    (z_len : PySem.W.nsIn K mainGlobals "len" = some none)
    (z_list : PySem.W.nsIn K mainGlobals "list" = some none)
    (z_max : PySem.W.nsIn K mainGlobals "max" = some none)
    (z_min : PySem.W.nsIn K mainGlobals "min" = some none)
    (z_range : PySem.W.nsIn K mainGlobals "range" = some none)
    (z_sorted : PySem.W.nsIn K mainGlobals "sorted" = some none)
    (z_str : PySem.W.nsIn K mainGlobals "str" = some none)
    (z_tuple : PySem.W.nsIn K mainGlobals "tuple" = some none)
    : ∃ fd : FuncData, (∀ (s : Shared) (v : Value), BindsTo s fd ⟨[v], []⟩ [("_law_script", v)]) ∧ ∀ base : Heap, K.In base → base.Ns mainGlobals mg → FnOk l.prog w K mg base CX0 6 fa fd ["_law_script"] (spLaw K) := by
  have e := hfa.symm.trans (PySem.W.mg_of X G a_law)
  cases e
  have Z_abs := PySem.W.mg_none_of X G z_abs
  have Z_bool := PySem.W.mg_none_of X G z_bool
  have Z_int := PySem.W.mg_none_of X G z_int
  have Z_isinstance := PySem.W.mg_none_of X G z_isinstance
  have Z_len := PySem.W.mg_none_of X G z_len
  have Z_list := PySem.W.mg_none_of X G z_list
  have Z_max := PySem.W.mg_none_of X G z_max
  have Z_min := PySem.W.mg_none_of X G z_min
  have Z_range := PySem.W.mg_none_of X G z_range
  have Z_sorted := PySem.W.mg_none_of X G z_sorted
  have Z_str := PySem.W.mg_none_of X G z_str
  have Z_tuple := PySem.W.mg_none_of X G z_tuple
  have LT : LTxt mg := ⟨Z_isinstance, Z_int, Z_bool, Z_str, Z_len, Z_sorted, Z_list, Z_tuple, Z_range⟩
  have cl_Log : Cls K C_Log := ⟨pg_Log, hd_Log, po_Log, sa_Log⟩
  have M_Log : Mk K C_Log f_Log_init := ⟨mk_Log, a_Log_init, i_Log_init, kc_Log⟩
  have g_Log := PySem.W.mg_of X G aC_Log
  have F_Log_init := fun_mk (st := s_Log_init) l_Log_init c_Log_init k_Log_init
  have b_Log_init := F_Log_init.binds (ps := p_Log_init) fun _ _ _ _ _ _ us hl => match us, hl with | [_], _ => rfl
  have F_Log_note := fun_mk (st := s_Log_note) l_Log_note c_Log_note k_Log_note
  have b_Log_note := F_Log_note.binds (ps := p_Log_note) fun _ _ _ _ _ _ us hl => match us, hl with | [_, _, _, _, _], _ => rfl
  have F_Log_last := fun_mk (st := s_Log_last) l_Log_last c_Log_last k_Log_last
  have b_Log_last := F_Log_last.binds (ps := p_Log_last) fun _ _ _ _ _ _ us hl => match us, hl with | [_], _ => rfl
  have F_Log_first := fun_mk (st := s_Log_first) l_Log_first c_Log_first k_Log_first
  have b_Log_first := F_Log_first.binds (ps := p_Log_first) fun _ _ _ _ _ _ us hl => match us, hl with | [_], _ => rfl
  have F_Log_wanted := fun_mk (st := s_Log_wanted) l_Log_wanted c_Log_wanted k_Log_wanted
  have b_Log_wanted := F_Log_wanted.binds (ps := p_Log_wanted) fun _ _ _ _ _ _ us hl => match us, hl with | [_, _, _, _], _ => rfl
  have F_Log_forget := fun_mk (st := s_Log_forget) l_Log_forget c_Log_forget k_Log_forget
  have b_Log_forget := F_Log_forget.binds (ps := p_Log_forget) fun _ _ _ _ _ _ us hl => match us, hl with | [_, _], _ => rfl
  have F_whole := fun_mk (st := s_whole) l_whole c_whole k_whole
  have b_whole := F_whole.binds (ps := p_whole) fun _ _ _ _ _ _ us hl => match us, hl with | [_], _ => rfl
  have F_cell_at := fun_mk (st := s_cell_at) l_cell_at c_cell_at k_cell_at
  have b_cell_at := F_cell_at.binds (ps := p_cell_at) fun _ _ _ _ _ _ us hl => match us, hl with | [_, _], _ => rfl
  have F_sign := fun_mk (st := s_sign) l_sign c_sign k_sign
  have b_sign := F_sign.binds (ps := p_sign) fun _ _ _ _ _ _ us hl => match us, hl with | [_], _ => rfl
  have F_text := fun_mk (st := s_text) l_text c_text k_text
  have b_text := F_text.binds (ps := p_text) fun _ _ _ _ _ _ us hl => match us, hl with | [_, _], _ => rfl
  have F_pool := fun_mk (st := s_pool) l_pool c_pool k_pool
  have b_pool := F_pool.binds (ps := p_pool) fun _ _ _ _ _ _ us hl => match us, hl with | [_, _], _ => rfl
  have F_prefix := fun_mk (st := s_prefix) l_prefix c_prefix k_prefix
  have b_prefix := F_prefix.binds (ps := p_prefix) fun _ _ _ _ _ _ us hl => match us, hl with | [_, _], _ => rfl
  have F_change := fun_mk (st := s_change) l_change c_change k_change
  have b_change := F_change.binds (ps := p_change) fun _ _ _ _ _ _ us hl => match us, hl with | [_], _ => rfl
  have F_changes := fun_mk (st := s_changes) l_changes c_changes k_changes
  have b_changes := F_changes.binds (ps := p_changes) fun _ _ _ _ _ _ us hl => match us, hl with | [_, _], _ => rfl
  have F_wanted := fun_mk (st := s_wanted) l_wanted c_wanted k_wanted
  have b_wanted := F_wanted.binds (ps := p_wanted) fun _ _ _ _ _ _ us hl => match us, hl with | [_, _, _, _], _ => rfl
  have F_noted := fun_mk (st := s_noted) l_noted c_noted k_noted
  have b_noted := F_noted.binds (ps := p_noted) fun _ _ _ _ _ _ us hl => match us, hl with | [_, _, _, _, _], _ => rfl
  have F_forgot := fun_mk (st := s_forgot) l_forgot c_forgot k_forgot
  have b_forgot := F_forgot.binds (ps := p_forgot) fun _ _ _ _ _ _ us hl => match us, hl with | [_, _, _], _ => rfl
  have F_ends := fun_mk (st := s_ends) l_ends c_ends k_ends
  have b_ends := F_ends.binds (ps := p_ends) fun _ _ _ _ _ _ us hl => match us, hl with | [_, _], _ => rfl
  have F_step := fun_mk (st := s_step) l_step c_step k_step
  have b_step := F_step.binds (ps := p_step) fun _ _ _ _ _ _ us hl => match us, hl with | [_, _, _, _, _], _ => rfl
  have F_law := fun_mk (st := s_law) l_law c_law k_law
  have b_law := F_law.binds (ps := p_law) fun _ _ _ _ _ _ us hl => match us, hl with | [_], _ => rfl
  have m_Log_init : Meth K C_Log "__init__" f_Log_init := ⟨a_Log_init, i_Log_init, k_Log_init⟩
  have m_Log_note : Meth K C_Log "note" f_Log_note := ⟨a_Log_note, i_Log_note, k_Log_note⟩
  have m_Log_last : Meth K C_Log "last" f_Log_last := ⟨a_Log_last, i_Log_last, k_Log_last⟩
  have m_Log_first : Meth K C_Log "first" f_Log_first := ⟨a_Log_first, i_Log_first, k_Log_first⟩
  have m_Log_wanted : Meth K C_Log "wanted" f_Log_wanted := ⟨a_Log_wanted, i_Log_wanted, k_Log_wanted⟩
  have m_Log_forget : Meth K C_Log "forget" f_Log_forget := ⟨a_Log_forget, i_Log_forget, k_Log_forget⟩
  have g_whole := PySem.W.mg_of X G a_whole
  have g_cell_at := PySem.W.mg_of X G a_cell_at
  have g_sign := PySem.W.mg_of X G a_sign
  have g_text := PySem.W.mg_of X G a_text
  have g_pool := PySem.W.mg_of X G a_pool
  have g_prefix := PySem.W.mg_of X G a_prefix
  have g_change := PySem.W.mg_of X G a_change
  have g_changes := PySem.W.mg_of X G a_changes
  have g_wanted := PySem.W.mg_of X G a_wanted
  have g_noted := PySem.W.mg_of X G a_noted
  have g_forgot := PySem.W.mg_of X G a_forgot
  have g_ends := PySem.W.mg_of X G a_ends
  have g_step := PySem.W.mg_of X G a_step
  refine ⟨PySem.W.fnOf "law" "law" (defArgs s_law) (defBody s_law) (defScope s_law) .none kV_law dc_law pm_law an_law cd_law ct_law, fun s v => .of_eq rfl, fun base _ _ => ?_⟩
  have TG : LogT K C_Log := ⟨cl_Log, n0_Log, n1_Log⟩
  have GL := ok_Log_last (P := l.prog) (w := w) (base := base) F_Log_last TG Z_len
  have GF := ok_Log_first (P := l.prog) (w := w) (mg := mg) (base := base) F_Log_first TG
  have A1 : LogApi l.prog w K mg base C_Log (LgP C_Log) :=
    { frame := LgP.frame, own := LgP.own, inst := LgP.inst, le := LgP.le
      make := ⟨_, _, _, M_Log, b_Log_init, (ok_Log_init F_Log_init TG).mono (by decide)⟩
      note := ⟨_, _, _, m_Log_note, b_Log_note, ok_Log_note F_Log_note TG m_Log_last b_Log_last GL⟩
      last := ⟨_, _, _, m_Log_last, b_Log_last, (GL.imp fun vs H Q E ⟨F, p, rs, g, e, L, q⟩ => ⟨F, p, rs, g, e, L, q F H L (Grow.refl _ _) (Ch.refl _ _)⟩).mono (by decide)⟩
      first := ⟨_, _, _, m_Log_first, b_Log_first, (GF.imp fun vs H Q E ⟨F, p, rs, g, e, L, q⟩ => ⟨F, p, rs, g, e, L, q F H L (Grow.refl _ _) (Ch.refl _ _)⟩).mono (by decide)⟩
      wanted := ⟨_, _, _, m_Log_wanted, b_Log_wanted, (ok_Log_wanted F_Log_wanted TG Z_len Z_max Z_range).mono (by decide)⟩
      forget := ⟨_, _, _, m_Log_forget, b_Log_forget, (ok_Log_forget F_Log_forget TG Z_max Z_min m_Log_last b_Log_last GL).mono (by decide)⟩ }
  have D_whole : Def l.prog w K mg base "_law_whole" 1 p_whole spWhole := ⟨_, _, g_whole, k_whole, b_whole, ok_whole F_whole LT⟩
  have D_cell : Def l.prog w K mg base "_law_cell_at" 1 p_cell_at (spCellA K) := ⟨_, _, g_cell_at, k_cell_at, b_cell_at, ok_cell F_cell_at LT⟩
  have D_sign : Def l.prog w K mg base "_law_sign" 1 p_sign spSign := ⟨_, _, g_sign, k_sign, b_sign, ok_sign F_sign⟩
  have D_text : Def l.prog w K mg base "_law_text" 2 p_text spText := ⟨_, _, g_text, k_text, b_text, ok_text F_text LT D_sign⟩
  have D_pool : Def l.prog w K mg base "_law_pool" 3 p_pool spPool := ⟨_, _, g_pool, k_pool, b_pool, ok_pool F_pool LT D_sign D_text⟩
  have D_prefix : Def l.prog w K mg base "_law_prefix" 1 p_prefix spPrefix := ⟨_, _, g_prefix, k_prefix, b_prefix, ok_prefix F_prefix⟩
  have D_change : Def l.prog w K mg base "_law_change" 2 p_change spChange := ⟨_, _, g_change, k_change, b_change, ok_change F_change LT D_whole⟩
  have D_changes : Def l.prog w K mg base "_law_changes" 3 p_changes (spChanges K) := ⟨_, _, g_changes, k_changes, b_changes, ok_changes F_changes LT D_change⟩
  have D_wanted : Def l.prog w K mg base "_law_wanted" 1 p_wanted spWanted := ⟨_, _, g_wanted, k_wanted, b_wanted, ok_wanted F_wanted LT⟩
  have D_noted : Def l.prog w K mg base "_law_noted" 3 p_noted (spNoted (LgP C_Log)) := ⟨_, _, g_noted, k_noted, b_noted, ok_noted F_noted cl_Log A1 D_text D_whole LT⟩
  have D_forgot : Def l.prog w K mg base "_law_forgot" 4 p_forgot (spForgot (LgP C_Log)) := ⟨_, _, g_forgot, k_forgot, b_forgot, ok_forgot F_forgot cl_Log A1 D_whole LT Z_max Z_min⟩
  have D_ends : Def l.prog w K mg base "_law_ends" 3 p_ends (spEnds (LgP C_Log)) := ⟨_, _, g_ends, k_ends, b_ends, ok_ends F_ends cl_Log A1 D_whole LT⟩
  have D_step : Def l.prog w K mg base "_law_step" 5 p_step (spStep (LgP C_Log)) := ⟨_, _, g_step, k_step, b_step, ok_step F_step cl_Log A1 LT Z_abs D_forgot D_prefix D_changes D_wanted D_noted⟩
  exact ok_law F_law cl_Log g_Log A1 LT D_cell D_pool D_noted D_step D_ends D_changes

theorem walk {l : PySem.W.OpenLaw} {q : Program} {loose : List Str} {XP : (Str → Option Value) → Heap → Prop} {YP : World → Heap → Prop} {d : DefRec} {K : Params → PySem.W.Frag} (hn : l.most = some 63) (hdf : d.params.defaults = [])
    (hY : ∀ (w : World) (h : Heap), YP w h → (K w.params).In h)
    (F : ∀ (w : World) (mg : Str → Option Value) (fa : Addr) (h : Heap), (K w.params).In h → h.Ns mainGlobals mg → mg d.name = some (.ref fa) →
      ∃ fd : FuncData, (∀ (s : Shared) (u : Value), BindsTo s fd ⟨[u], []⟩ [("_law_script", u)]) ∧ ∀ base : Heap, (K w.params).In base → base.Ns mainGlobals mg → FnOk l.prog w (K w.params) mg base CX0 6 fa fd ["_law_script"] (spLaw (K w.params))) :
    PySem.W.WalkO q loose XP YP l.row.toRowW d [] (fun f vs => PySem.call f vs) :=
  L2.walk_of (n := 63) (k := 6) (x := "_law_script") (CX := fun _ => CX0) (sp := fun w => spLaw (K w.params)) hn (by decide) hdf ⟨rfl, by decide, by decide⟩ hY F (fun _ _ a ns hl _ hS => ⟨a, ns, rfl, hS, hl, fun _ => rfl⟩) fun _ _ _ _ _ z => z
end KL

open PySem PySem.W PyProof.Rows
set_option maxRecDepth 100000 in
set_option maxHeartbeats 0 in
theorem PySem.Challenge.cw_leasewatch_k02_changes_by_numbers_holds : PySem.Challenge.rw_leasewatch_k02_changes_by_numbers.Holds := by
  w_on; o_law; k_head; (case hw => w_witness2)
  k_fill
  refine KL.walk (l := PySem.Challenge.rw_leasewatch_k02_changes_by_numbers) rfl rfl (fun w h Y => PySem.W.kIn_of Y) ?F
  case F =>
    intro w mg fa h KX G hmg
    refine' KL.all_mk KX G hmg ?aC_Log ?a_Log_init ?i_Log_init ?l_Log_init ?c_Log_init ?k_Log_init ?a_Log_note ?i_Log_note ?l_Log_note ?c_Log_note ?k_Log_note ?a_Log_last ?i_Log_last ?l_Log_last ?c_Log_last ?k_Log_last ?a_Log_first ?i_Log_first ?l_Log_first ?c_Log_first ?k_Log_first ?a_Log_wanted ?i_Log_wanted ?l_Log_wanted ?c_Log_wanted ?k_Log_wanted ?a_Log_forget ?i_Log_forget ?l_Log_forget ?c_Log_forget ?k_Log_forget ?a_whole ?l_whole ?c_whole ?k_whole ?a_cell_at ?l_cell_at ?c_cell_at ?k_cell_at ?a_sign ?l_sign ?c_sign ?k_sign ?a_text ?l_text ?c_text ?k_text ?a_pool ?l_pool ?c_pool ?k_pool ?a_prefix ?l_prefix ?c_prefix ?k_prefix ?a_change ?l_change ?c_change ?k_change ?a_changes ?l_changes ?c_changes ?k_changes ?a_wanted ?l_wanted ?c_wanted ?k_wanted ?a_noted ?l_noted ?c_noted ?k_noted ?a_forgot ?l_forgot ?c_forgot ?k_forgot ?a_ends ?l_ends ?c_ends ?k_ends ?a_step ?l_step ?c_step ?k_step ?a_law ?l_law ?c_law ?k_law ?pg_Log ?hd_Log ?po_Log ?sa_Log ?mk_Log ?kc_Log ?n0_Log ?n1_Log ?z_abs ?z_bool ?z_int ?z_isinstance ?z_len ?z_list ?z_max ?z_min ?z_range ?z_sorted ?z_str ?z_tuple
    (case aC_Log => k_is)
    (case a_Log_init => k_is)
    (case i_Log_init => k_is)
    (case l_Log_init => k_is)
    (case c_Log_init => k_is)
    (case k_Log_init => k_is)
    (case a_Log_note => k_is)
    (case i_Log_note => k_is)
    (case l_Log_note => k_is)
    (case c_Log_note => k_is)
    (case k_Log_note => k_is)
    (case a_Log_last => k_is)
    (case i_Log_last => k_is)
    (case l_Log_last => k_is)
    (case c_Log_last => k_is)
    (case k_Log_last => k_is)
    (case a_Log_first => k_is)
    (case i_Log_first => k_is)
    (case l_Log_first => k_is)
    (case c_Log_first => k_is)
    (case k_Log_first => k_is)
    (case a_Log_wanted => k_is)
    (case i_Log_wanted => k_is)
    (case l_Log_wanted => k_is)
    (case c_Log_wanted => k_is)
    (case k_Log_wanted => k_is)
    (case a_Log_forget => k_is)
    (case i_Log_forget => k_is)
    (case l_Log_forget => k_is)
    (case c_Log_forget => k_is)
    (case k_Log_forget => k_is)
    (case a_whole => k_is)
    (case l_whole => k_is)
    (case c_whole => k_is)
    (case k_whole => k_is)
    (case a_cell_at => k_is)
    (case l_cell_at => k_is)
    (case c_cell_at => k_is)
    (case k_cell_at => k_is)
    (case a_sign => k_is)
    (case l_sign => k_is)
    (case c_sign => k_is)
    (case k_sign => k_is)
    (case a_text => k_is)
    (case l_text => k_is)
    (case c_text => k_is)
    (case k_text => k_is)
    (case a_pool => k_is)
    (case l_pool => k_is)
    (case c_pool => k_is)
    (case k_pool => k_is)
    (case a_prefix => k_is)
    (case l_prefix => k_is)
    (case c_prefix => k_is)
    (case k_prefix => k_is)
    (case a_change => k_is)
    (case l_change => k_is)
    (case c_change => k_is)
    (case k_change => k_is)
    (case a_changes => k_is)
    (case l_changes => k_is)
    (case c_changes => k_is)
    (case k_changes => k_is)
    (case a_wanted => k_is)
    (case l_wanted => k_is)
    (case c_wanted => k_is)
    (case k_wanted => k_is)
    (case a_noted => k_is)
    (case l_noted => k_is)
    (case c_noted => k_is)
    (case k_noted => k_is)
    (case a_forgot => k_is)
    (case l_forgot => k_is)
    (case c_forgot => k_is)
    (case k_forgot => k_is)
    (case a_ends => k_is)
    (case l_ends => k_is)
    (case c_ends => k_is)
    (case k_ends => k_is)
    (case a_step => k_is)
    (case l_step => k_is)
    (case c_step => k_is)
    (case k_step => k_is)
    (case a_law => k_is)
    (case l_law => k_is)
    (case c_law => k_is)
    (case k_law => k_is)
    (case pg_Log => k_is)
    (case hd_Log => k_is)
    (case po_Log => k_is)
    (case sa_Log => k_is)
    (case mk_Log => k_is)
    (case kc_Log => k_is)
    (case n0_Log => k_is)
    (case n1_Log => k_is)
    (case z_abs => k_is)
    (case z_bool => k_is)
    (case z_int => k_is)
    (case z_isinstance => k_is)
    (case z_len => k_is)
    (case z_list => k_is)
    (case z_max => k_is)
    (case z_min => k_is)
    (case z_range => k_is)
    (case z_sorted => k_is)
    (case z_str => k_is)
    (case z_tuple => k_is)
