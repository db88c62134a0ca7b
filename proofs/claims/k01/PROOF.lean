import PyProof.Rows.All
import Wide.All
import OpenK.AllK
import Wide.FinOn
import HandS.ForMost
import HandS.ForExc
import HandS.More
import HandS.Walk
import HandS.FStr
import HandS.RaiseMore
import HandS.IsInst
import HandS.ExcIs
import HandS.HotCalls
import HandS.SortRule
import HandS.Codes
import PySem.Challenge.RW_leasewatch_k01_leases_by_themselves
set_option Elab.async false
set_option linter.all false
set_option maxRecDepth 100000
set_option maxHeartbeats 8000000
/-! rules of our own: a def called within an except suite with the exception that is handled as an argument; a list walked there; a method that may raise, the wish by the slots -/
namespace LX
open PySem PySem.Spec PyProof.Rows L2 L2H
abbrev St := L2.St

structure FnP (P : Program) (w : World) (K : PySem.W.Frag) (mg : Str → Option Value) (base : Heap) (k : Nat) (f : Addr) (fd : FuncData) (ps : List Str) (sp : Addr × Obj → Sp) : Prop where
  len : ∀ p vs H Q E, sp p vs H Q E → vs.length = ps.length
  run : ∀ (A : Around) (outer : List Env) (s : Shared) (H : Hp) (args : Args) (us : List Value) (vs : List V) (Q : VK) (E : XK) (p : Addr × Obj), RoomH k A → PinOk outer H s p → (∃ vs, p.2.data = .fields vs) → Env0 P w K mg base A outer s H → BindsTo s fd args (ps.zip us) → Vals vs us → sp p vs H Q E →
    codeAny (model P w) A (.call (.ref f) args) (CR CX0 outer P w H s Q E) s
theorem fn_ofP {P : Program} {w : World} {K : PySem.W.Frag} {mg : Str → Option Value} {base : Heap} {k : Nat} {f : Addr} {name qual : Str} {params : Arguments} {body : List Stmt} {scope : Scope} {dV kV doc pm cdv ct oc : Value} {an od : Option Addr}
    {osl : Array (Option Value)} {N ps : List Str} {sp : Addr × Obj → Sp} (lk : K.lookup f = some ⟨oc, od, .func (PySem.W.fnOf name qual params body scope dV kV doc pm an cdv ct), osl⟩) (hcd : PySem.W.codeIn K cdv qual = true) (S : FnScope N ps scope)
    (len : ∀ p vs H Q E, sp p vs H Q E → vs.length = ps.length)
    (hbody : ∀ (A : Around) (outer : List Env) (s : Shared) (H : Hp) (vs : List V) (Q : VK) (E : XK) (p : Addr × Obj), RoomH k (A.deeper (envOfC qual scope s.heap.objs.size f cdv)) → (∃ vs, p.2.data = .fields vs) → sp p vs H Q E →
      ∃ t, PSs (cxH CX0 P w K mg base N qual scope f cdv A outer s H E p) body t ∧ t { nx := fun _ H' => Q .non H', rt := Q } (L2.start N vs) H) :
    FnP P w K mg base (k + 1) f (PySem.W.fnOf name qual params body scope dV kV doc pm an cdv ct) ps sp := by
  refine ⟨len, fun A outer s H args us vs Q E p hr hpin hf e0 hb r hsp => ?_⟩
  have hl := len _ _ _ _ _ hsp
  have KX : K.In s.heap := e0.mod.kin.keeps fun b o e => (e0.bs b o e).1
  have lim : s.heap.NoLimit := e0.mod.nolimit.keeps fun b o e => (e0.bs b o e).1
  have hkind : ∀ y ∈ ps.zip us, scope.names.lookup y.1 = some .local ∨ (scope.names.lookup y.1 = some .cell ∧ ((cellsFrom (s.heap.objs.size + 1) scope.names []).lookup y.1).isSome = true) := fun ⟨n, v⟩ hy => by
    rcases S.par n (List.of_mem_zip hy).1 with q | q
    · exact .inl q
    · exact .inr ⟨q, PySem.W.cellsFrom_some _ _ _ (.inl q)⟩
  refine codeAny_call_function hr.depth (KX _ _ lk) rfl S.co S.gen rfl (PySem.W.codeRec_of KX hcd) (hb _ _ _ _ ?_)
  refine wpAny_newFunctionEnv_cells S.kind hkind fun env he s1 x => ?_
  subst he
  refine ⟨lim.keeps x.toInCall.keep, codeAny_func ?_⟩
  obtain ⟨t, ht, hq⟩ := hbody A outer s H vs Q E p (hr.deeper _) hf hsp
  have I : Inv (cxH CX0 P w K mg base N qual scope f cdv A outer s H E p) [] (L2.start N vs) H s1 := inv_startH S hpin e0 hl r x
  refine wpAny_mono (ht.run [] s1 (L2.start N vs) H _ I hq) (fun fl s' hs => ?_) fun e s' hs => hs
  have fin : ∀ {σ' : St} {H' : Hp} {v : V} {u : Value}, Inv (cxH CX0 P w K mg base N qual scope f cdv A outer s H E p) [] σ' H' s' → RelV v u → Q v H' → CE outer P w H s Q u s' :=
    fun {σ' H' v u} J rv q => ⟨v, H', J.os, J.bare, J.base, J.hok, rv, q⟩
  cases fl with
  | ret u =>
    obtain ⟨v, σ', H', J, rv, q⟩ := hs
    exact fin J rv q
  | next =>
    obtain ⟨σ', H', J, q⟩ := hs
    exact fin (v := V.non) (u := Value.none) J rfl q
  | brk =>
    obtain ⟨_, _, _, q⟩ := hs
    exact False.elim q
  | cont =>
    obtain ⟨_, _, _, q⟩ := hs
    exact False.elim q
section
variable {P : Program} {w : World} {K : PySem.W.Frag} {mg : Str → Option Value} {base : Heap}
theorem okP {x qual : Str} {st : Stmt} {f : Addr} {fd : FuncData} {N ps : List Str} {k : Nat} {sp : Addr × Obj → Sp} (F : Fun K x qual st f fd) (S : FnScope N ps (defScope st)) (len : ∀ p vs H Q E, sp p vs H Q E → vs.length = ps.length)
    (hbody : ∀ (cdv : Value) (A : Around) (outer : List Env) (s : Shared) (H : Hp) (vs : List V) (Q : VK) (E : XK) (p : Addr × Obj), RoomH k (A.deeper (envOfC qual (defScope st) s.heap.objs.size f cdv)) → (∃ vs, p.2.data = .fields vs) → sp p vs H Q E →
      ∃ t, PSs (cxH CX0 P w K mg base N qual (defScope st) f cdv A outer s H E p) (defBody st) t ∧ t { nx := fun _ H' => Q .non H', rt := Q } (L2.start N vs) H) : FnP P w K mg base (k + 1) f fd ps sp := by
  obtain ⟨oc, od, kV, doc, pm, an, cdv, ct, osl, rfl, lk, hcd⟩ := F.ex
  exact fn_ofP lk hcd S len fun A outer s H vs Q E p hr hf hsp => hbody cdv A outer s H vs Q E p hr hf hsp
end
section
variable {X : Cx} {k : Nat} {f : Addr} {fd : FuncData} {ps : List Str} {sp : Addr × Obj → Sp} {x : Str} {q pos : Pos} {e : Expr} {es : List Expr} {t : TA}
theorem run_fnP {pins : List (Addr × Obj)} {σ : St} {H : Hp} {s : Shared} {Q : VK} {us : List Value} {vs : List V} {p : Addr × Obj} (F : FnP X.prog X.w X.K X.mg X.base k f fd ps sp) (hr : RoomH k X.A) (hp : p ∈ X.pn) (hf : ∃ vs, p.2.data = .fields vs) (hb : Binds X.K fd ps [])
    (I : Inv X pins σ H s) (r : Vals vs us) (h : sp p vs H Q E0) : wpAny (model X.prog X.w) X.A (call (.ref f) us) (EP X pins σ Q) X.xe s := by
  have hl : us.length = ps.length := by rw [← r.length]; exact F.len _ _ _ _ _ h
  have b := hb s us I.kIn (by rw [List.append_nil]; exact hl)
  rw [List.append_nil] at b
  have P1 := I.pin p (List.mem_append_left _ hp)
  have hpin : PinOk X.stack H s p := ⟨P1.1, P1.2.1, fun hm => (List.mem_cons.mp (I.stkSub p.1 hm)).elim P1.2.2.1 P1.2.2.2.1, P1.2.2.2.2⟩
  refine wpAny_call (codeAny_mono (F.run X.A X.stack s H ⟨us, []⟩ us vs Q E0 p hr hpin hf I.env0 b r h) fun r s' hq => ?_)
  cases r with
  | error e => exact False.elim hq
  | ok fl =>
    cases fl with
    | ret u => exact I.after hq
    | next => exact False.elim hq
    | brk => exact False.elim hq
    | cont => exact False.elim hq
def tCallP (sp : Sp) (t : TA) : TE := fun σ H Q => t σ H fun vs H1 => sp vs H1 Q E0
theorem pe_callP {p : Addr × Obj} (F : FnP X.prog X.w X.K X.mg X.base k f fd ps sp) (hr : RoomH k X.A) (hp : p ∈ X.pn) (hf : ∃ vs, p.2.data = .fields vs) (hg : Gl X x) (hm : X.mg x = some (.ref f)) (hk : PySem.W.keepIn X.K (.ref f) = true) (hb : Binds X.K fd ps [])
    (ha : PA X (e :: es) t) (hdb : (x == ("__debug__" : Str)) = false := by decide) (he : starEach (e :: es) X.env = (false, eval e X.env) :: starEach es X.env := by rfl) (hpl : (backTo pos (starEach es X.env)).any (·.1) = false := by rfl) :
    PE X (.Call (.Name x q) (e :: es) [] pos) (tCallP (sp p) t) := by
  refine ⟨fun pins s σ H Q I h => ?_⟩
  refine wpAny_Call_Name_kw (ld_glob I hg hm ?_ hdb)
  refine PySem.W.callWith_K (h₀ := X.base) I.ok.mod.kin hk (thn (ha.run pos pins s σ H _ I h) fun us s1 ⟨vs, H1, I1, r, q⟩ => ⟨I1.kIn, ?_⟩) he hpl
  exact run_fnP F hr hp hf hb I1 r q
end

/-! isinstance of the exception that is pinned -/
theorem call_isP {X : Cx} {a D : Addr} {oe : Obj} (C : ExcC X.K D) (hp : (a, oe) ∈ X.pn) (hz : Zc (.ref D) none oe) (hf : ∃ vs, oe.data = .fields vs) : CallR X (.builtin "isinstance") (rIsE X.K D a) := by
  intro pins s σ H xs us Q I r h
  obtain ⟨c, cv, b, rfl, hcv, e, q⟩ := h
  cases r with
  | cons rx rr =>
    cases rr with
    | cons rt rr =>
      cases rr
      cases rx
      have ec := hcv _ rt
      subst ec
      obtain ⟨hget, _⟩ := I.pin (a, oe) (List.mem_append.mpr (.inl hp))
      obtain ⟨vs, hv⟩ := hf
      have J : PySem.W.InstAt s.heap a oe D none := by
        obtain ⟨oc, od, oda, osl⟩ := oe
        obtain ⟨h1, h2⟩ := hz
        dsimp only at h1 h2 hv
        subst h1 h2 hv
        exact ⟨hget, rfl, rfl, trivial⟩
      exact PySem.W.kia_one (PySem.W.handS_kitx_exc C.hg C.hk C.hs C.hd C.ha C.hn C.ht C.hm) I.kIn J e (fun z => nomatch z) fun tk => ⟨.bl b, H, I.kept (t' := tk) fun _ _ z => z, rfl, q⟩

/-! a list walked within an except suite; the body leaves ahead of its end -/
def tForLP (K : PySem.W.Frag) (tl : TE) (g : TG) (tb : TS) : TS := fun D σ H => tl σ H fun x H1 => ∃ (a : Addr) (xs : List V), x = .ref a ∧ SqL K H1 a xs ∧ ∃ Pv : Nat → St → Hp → Prop, Pv 0 σ H1 ∧
  ∀ i σ H, Pv i σ H → SqL K H a xs ∧ ∃ y, xs[i]? = some y ∧ g y σ H fun σ2 H2 => tb { D with nx := Pv (i + 1), ct := Pv (i + 1), bk := D.nx } σ2 H2
theorem ps_forLP {X : Cx} {tg l : Expr} {tl : TE} {g : TG} {tb : TS} {body : List Stmt} {pos : Pos} (own : PassesOwn (model X.prog X.w) X.A X.env X.xe) (hl : PE X l tl) (hg : PG X tg g) (hb : PSs X body tb)
    (hs : ∀ x, foldedSetIterable l X.env x = pure x := by intro _; rfl) : PS X (.For tg l body [] pos) (tForLP X.K tl g tb) := by
  constructor
  intro pins s σ H D I h
  refine wpAny_For (thn (hl.run pins s σ H _ I h) ?_) hs
  rintro v s1 ⟨x, H1, I1, r1, a, xs, rfl, hq, Pv, p0, turn⟩
  obtain rfl : v = Value.ref a := r1
  obtain ⟨its, _, p, _⟩ := I1.list hq
  refine wpAny_pyIter_list p.isList ?_
  generalize hit : s1.heap.objs.size = it
  have fresh : FpOk X pins H1 it := I1.fpOk (Nat.le_of_eq hit) (I1.hok.fresh (Nat.le_of_eq hit))
  have begun : (s1.heap.push { cls := .type "list_iterator", data := .fields #[.ref a, rawInt 0] }).IsListIter it a 0 := by
    rw [← hit]
    exact ⟨_, Heap.get?_push_size _ rfl, rfl, rfl⟩
  have I2 : Inv X pins σ H1 { s1 with heap := s1.heap.push { cls := .type "list_iterator", data := .fields #[.ref a, rawInt 0] } } := I1.kept (t' := s1.toks) fun _ _ e => Heap.get?_push_of_some _ e
  refine codeAny_forLoop_any (fun n s' => ∃ i σ' H', n = xs.length - i ∧ Inv X pins σ' H' s' ∧ s'.heap.IsListIter it a i ∧ H' it = none ∧ Pv i σ' H') ?_ xs.length ⟨0, σ, H1, rfl, I2, begun, fresh.1, p0⟩
  rintro n s3 ⟨i, σ3, H3, rfl, I3, st, f0, pv⟩
  obtain ⟨_, f1, f2, f3, f4, f5⟩ := fresh
  obtain ⟨q3, y, hy, step⟩ := turn i σ3 H3 pv
  have hi : i < xs.length := (List.getElem?_eq_some_iff.mp hy).1
  obtain ⟨its3, rv3, p3, _⟩ := I3.list q3
  obtain ⟨u, hu, ru⟩ := rv3.get hy
  refine wpAny_passesOwn own (wpAny_pyNext_list_item st p3.isList (x := u) (by simpa using hu) fun h' st' sb => ?_)
  have I4 : Inv X pins σ3 H3 { s3 with heap := h' } := I3.turned (t' := s3.toks) (fun b o hb e => (sb.2 b hb).trans e) f0 f1 f3 f4 f5
  obtain ⟨o, eo, co, d_o⟩ := id st'
  refine wpAny_passesOwn own (go_of (s := { s3 with heap := h' }) eo co d_o (by decide) ?_)
  have pinned : Inv X (pins ++ [(it, o)]) σ3 H3 { s3 with heap := h' } := I4.pins_of fun q hq => by
    rcases List.mem_append.mp hq with hq | hq
    · exact I4.pin q (List.mem_append_right _ hq)
    · obtain rfl := List.mem_singleton.mp hq
      exact ⟨eo, f0, f1, f2, fun v z => by rw [d_o] at z; cases z⟩
  refine wpAny_passesOwn own (thn (hg.run _ _ σ3 H3 y u _ pinned ru step) ?_)
  rintro _ s6 ⟨σ6, H6, I6, q6⟩
  refine wpAny_passesOwn own (thn (hb.run _ s6 σ6 H6 _ I6 q6) ?_)
  intro f s7 q7
  have drop : ∀ {σ7 : St} {H7 : Hp}, Inv X (pins ++ [(it, o)]) σ7 H7 s7 → Inv X pins σ7 H7 s7 := fun J => J.pins_of fun q hq => J.pin q (List.mem_append_right _ (List.mem_append_left _ hq))
  have next : ∀ {σ7 : St} {H7 : Hp}, Inv X (pins ++ [(it, o)]) σ7 H7 s7 → Pv (i + 1) σ7 H7 → ∃ m, m < xs.length - i ∧ ∃ j σ' H', m = xs.length - j ∧ Inv X pins σ' H' s7 ∧ s7.heap.IsListIter it a j ∧ H' it = none ∧ Pv j σ' H' := fun {σ7 H7} J n7 => by
    have w := J.pin (it, o) (List.mem_append_right _ (List.mem_append_right _ (List.mem_singleton.mpr rfl)))
    exact ⟨xs.length - (i + 1), by omega, i + 1, σ7, H7, rfl, drop J, ⟨o, w.1, co, d_o⟩, w.2.1, n7⟩
  cases f with
  | next =>
    obtain ⟨σ7, H7, J, n7⟩ := q7
    exact next J n7
  | cont =>
    obtain ⟨σ7, H7, J, n7⟩ := q7
    exact next J n7
  | brk =>
    obtain ⟨σ7, H7, J, n7⟩ := q7
    exact ⟨σ7, H7, drop J, n7⟩
  | ret v =>
    obtain ⟨x7, σ7, H7, J, r7, n7⟩ := q7
    exact ⟨x7, σ7, H7, drop J, r7, n7⟩

/-! a method that may raise: the wish by the caller's slots -/
section
variable {X : Cx} {CX : CXT} {k : Nat} {f C : Addr} {fd : FuncData} {ps : List Str} {sp : Sp} {E : St → XK} {m : Str} {pos apos : Pos} {e o : Expr} {es : List Expr} {ta : TE} {t : TA}
theorem pe_methE {pl : Sem Bool} (he : PE X o ta) (c : Cls X.K C) (hm : Meth X.K C m f) (F : FnOk X.prog X.w X.K X.mg X.base CX k f fd ps sp) (hr : Room k X.A) (hb : Binds X.K fd ps []) (hx : ∀ σ, PassesAt CX X σ (E σ)) (ha : PA X (e :: es) t)
    (hst : starEach (e :: es) X.env = (false, eval e X.env) :: starEach es X.env := by rfl) (hpl : (backTo pos (starEach es X.env)).any (·.1) = false := by rfl)
    (ht : eval (.Call (.Attribute o m apos) (e :: es) [] pos) X.env = (do
      let ov ← eval o X.env
      standAt apos.atName
      let (f, first) ← holding [ov] (getMethod ov m pl)
      callWith pos f first (backTo pos (starEach (e :: es) X.env)) (backToKw pos (keywordEach [] X.env))) := by rfl) :
    PE X (.Call (.Attribute o m apos) (e :: es) [] pos) (tMethH C m sp E ta t) := by
  refine ⟨fun pins s σ H Q I h => ?_⟩
  refine PySem.W.methodCall_KW (pl := pl) (thn (he.run pins s σ H _ I h) fun u s1 ⟨x, H1, I1, rx, a, dx, fs, ex, ea, l, q⟩ => ?_) ht
  subst ex
  obtain rfl : u = Value.ref a := rx
  refine getmeth_ok I1 ea c hm l ?_
  refine PySem.W.callWith_K (first := [.ref a]) (h₀ := X.base) I.ok.mod.kin hm.kp (thn (ha.run pos pins s1 σ H1 _ I1 q) fun us s2 ⟨vs, H2, I2, r, q2⟩ => ⟨I2.kIn, ?_⟩) hst hpl
  exact run_fnS (us := .ref a :: us) (vs := .ref a :: vs) F hr hb (hx σ) I2 (.cons rfl r) q2
end
end LX

namespace K1
open PySem L2 L2H LX
/-! ### pairs of ints: the mathematics -/
abbrev Al := List (Int × Int)
def kv (l : Al) : List (Key × V) := l.map fun p => (Sum.inl p.1, V.int p.2)
def aget : Al → Int → Option Int
  | [], _ => none
  | p :: r, k => if p.1 = k then some p.2 else aget r k
def aput (l : Al) (k v : Int) : Al :=
  if (l.any fun p => decide (p.1 = k)) = true then l.map (fun p => if p.1 = k then (p.1, v) else p) else l ++ [(k, v)]
def adrop (l : Al) (k : Int) : Al := l.filter fun p => decide (p.1 ≠ k)
def NDup (l : Al) : Prop := (l.map (·.1)).Nodup
theorem kv_len (l : Al) : (kv l).length = l.length := List.length_map _
theorem inl_iff {a b : Int} : ((Sum.inl a : Key) = Sum.inl b) ↔ a = b := ⟨fun h => Sum.inl.inj h, fun h => by rw [h]⟩
theorem valV_kv (k : Int) : ∀ l : Al, valV (kv l) (Sum.inl k) = (aget l k).map V.int
  | [] => rfl
  | p :: r => by
    show valV ((Sum.inl p.1, V.int p.2) :: kv r) (Sum.inl k) = _
    by_cases h : p.1 = k
    · rw [valV_pos (p := ((Sum.inl p.1 : Key), V.int p.2)) (show (Sum.inl p.1 : Key) = Sum.inl k by rw [h])]
      simp [aget, h]
    · rw [valV_neg (p := ((Sum.inl p.1 : Key), V.int p.2)) (fun e => h (inl_iff.mp e)), valV_kv k r]
      simp [aget, h]
theorem any_kv (k : Int) (l : Al) : ((kv l).any fun q => decide (q.1 = (Sum.inl k : Key))) = l.any fun p => decide (p.1 = k) := by
  unfold kv
  rw [List.any_map]
  congr 1
  funext p
  show decide ((Sum.inl p.1 : Key) = Sum.inl k) = decide (p.1 = k)
  by_cases h : p.1 = k
  · rw [decide_eq_true h, decide_eq_true (inl_iff.mpr h)]
  · rw [decide_eq_false h, decide_eq_false fun e => h (inl_iff.mp e)]
theorem put_kv (l : Al) (k v : Int) : putK (kv l) (Sum.inl k : Key) (V.int v) = kv (aput l k v) := by
  unfold putK aput
  rw [any_kv]
  by_cases h : (l.any fun p => decide (p.1 = k)) = true
  · rw [if_pos h, if_pos h]
    unfold kv
    rw [List.map_map, List.map_map]
    congr 1
    funext p
    show (if (Sum.inl p.1 : Key) = Sum.inl k then ((Sum.inl p.1 : Key), V.int v) else (Sum.inl p.1, V.int p.2)) = ((Sum.inl (if p.1 = k then (p.1, v) else p).1 : Key), V.int (if p.1 = k then (p.1, v) else p).2)
    by_cases e : p.1 = k
    · rw [if_pos (inl_iff.mpr e), if_pos e]
    · rw [if_neg (fun z => e (inl_iff.mp z)), if_neg e]
  · rw [if_neg h, if_neg h]
    unfold kv
    rw [List.map_append]; rfl
theorem drop_kv (l : Al) (k : Int) : dropK (kv l) (Sum.inl k : Key) = kv (adrop l k) := by
  unfold dropK adrop kv
  rw [List.filter_map]
  congr 1
  congr 1
  funext p
  show decide ((Sum.inl p.1 : Key) ≠ Sum.inl k) = decide (p.1 ≠ k)
  exact decide_eq_decide.mpr (not_congr inl_iff)
theorem mapint_inj {a b : Option Int} (h : a.map V.int = b.map V.int) : a = b := by
  cases a <;> cases b <;> simp_all
theorem aget_put (l : Al) (k v j : Int) : aget (aput l k v) j = if j = k then some v else aget l j := by
  have h : (aget (aput l k v) j).map V.int = (if j = k then some v else aget l j).map V.int := by
    rw [← valV_kv, ← put_kv, valV_put]
    by_cases e : j = k
    · rw [if_pos (inl_iff.mpr e), if_pos e]; rfl
    · rw [if_neg (fun z => e (inl_iff.mp z)), if_neg e, valV_kv]
  exact mapint_inj h
theorem aget_any (k : Int) : ∀ l : Al, (l.any fun p => decide (p.1 = k)) = (aget l k).isSome
  | [] => rfl
  | p :: r => by
    rw [List.any_cons, aget_any k r]
    by_cases h : p.1 = k
    · simp [aget, h]
    · simp [aget, h]
theorem len_put (l : Al) (k v : Int) : (aput l k v).length ≤ l.length + 1 := by
  unfold aput
  split
  · rw [List.length_map]; omega
  · rw [List.length_append]; simp
theorem len_drop (l : Al) (k : Int) : (adrop l k).length ≤ l.length := List.length_filter_le _ _
theorem aget_mem {k v : Int} : ∀ {l : Al}, aget l k = some v → (k, v) ∈ l
  | [], h => by cases h
  | p :: r, h => by
    unfold aget at h
    by_cases e : p.1 = k
    · rw [if_pos e] at h
      cases h
      exact List.mem_cons.mpr (.inl (by rw [← e]))
    · rw [if_neg e] at h
      exact List.mem_cons.mpr (.inr (aget_mem h))
theorem aget_of {k v : Int} : ∀ {l : Al}, NDup l → (k, v) ∈ l → aget l k = some v
  | [], _, h => by cases h
  | p :: r, nd, h => by
    obtain ⟨h1, h2⟩ := List.nodup_cons.mp (show (p.1 :: r.map (·.1)).Nodup from nd)
    unfold aget
    rcases List.mem_cons.mp h with e | e
    · rw [← e]; simp
    · have ne : ¬ p.1 = k := fun z => h1 (List.mem_map.mpr ⟨(k, v), e, z.symm⟩)
      rw [if_neg ne]
      exact aget_of h2 e
theorem nd_adrop {l : Al} (k : Int) (h : NDup l) : NDup (adrop l k) := h.sublist (List.filter_sublist.map _)
theorem nd_aput {l : Al} (k v : Int) (h : NDup l) : NDup (aput l k v) := by
  unfold aput
  by_cases e : (l.any fun p => decide (p.1 = k)) = true
  · rw [if_pos e]
    unfold NDup
    rw [List.map_map]
    have q : ((fun x : Int × Int => x.1) ∘ fun p : Int × Int => if p.1 = k then (p.1, v) else p) = fun p => p.1 := by
      funext p
      show (if p.1 = k then (p.1, v) else p).1 = p.1
      split <;> rfl
    rw [q]
    exact h
  · rw [if_neg e]
    unfold NDup
    rw [List.map_append]
    refine L2.nd_snoc h fun m => e ?_
    obtain ⟨p, hp, ep⟩ := List.mem_map.mp m
    exact List.any_eq_true.mpr ⟨p, hp, decide_eq_true ep⟩
theorem aget_drop {l : Al} {k j v : Int} (nd : NDup l) (h : aget (adrop l k) j = some v) : aget l j = some v ∧ j ≠ k := by
  have m := List.mem_filter.mp (aget_mem h)
  exact ⟨aget_of nd m.1, of_decide_eq_true m.2⟩
theorem aget_drop_ne {l : Al} {k j v : Int} (nd : NDup l) (h : aget l j = some v) (ne : j ≠ k) : aget (adrop l k) j = some v :=
  aget_of (nd_adrop k nd) (List.mem_filter.mpr ⟨aget_mem h, decide_eq_true ne⟩)
/-- which end up to a tick -/
def dueL (E : Al) (u : Int) : Al := (E.filter fun p => decide (p.2 ≤ u)).map fun p => (p.2, p.1)
/-- the order of pairs -/
def Asc (l : Al) : Prop := l.Pairwise fun x y => SrtO.lexB y x = false
theorem asc_uniq : ∀ {p q : Al}, Asc p → Asc q → p.Perm q → p = q
  | [], q, _, _, h => (List.nil_perm.mp h).symm
  | a :: p, q, hp, hq, h => by
    cases q with
    | nil => exact absurd h.length_eq (by simp)
    | cons b q =>
      obtain ⟨p1, p2⟩ := List.pairwise_cons.mp hp
      obtain ⟨q1, q2⟩ := List.pairwise_cons.mp hq
      have ab : a = b := by
        have ma : a ∈ b :: q := h.mem_iff.mp List.mem_cons_self
        have mb : b ∈ a :: p := h.mem_iff.mpr List.mem_cons_self
        rcases List.mem_cons.mp ma with e | ma
        · exact e
        rcases List.mem_cons.mp mb with e | mb
        · exact e.symm
        have x1 := SrtO.lexB_no.mp (p1 b mb)
        have x2 := SrtO.lexB_no.mp (q1 a ma)
        obtain ⟨a1, a2⟩ := a
        obtain ⟨b1, b2⟩ := b
        dsimp only at x1 x2
        have e1 : a1 = b1 := by omega
        have e2 : a2 = b2 := by omega
        rw [e1, e2]
      subst ab
      rw [asc_uniq p2 q2 (List.perm_cons a |>.mp h)]
end K1

namespace K1
open PySem L2 L2H LX
def top (i : Nat) : Stmt := PySem.Challenge.pw_leasewatch_k01_leases_by_themselves.main.body.getD i (.Pass ⟨0, 0, 0, 0⟩)
abbrev sInit : Stmt := inClass (top 10) 0
abbrev sGrant : Stmt := inClass (top 10) 1
abbrev sRenew : Stmt := inClass (top 10) 2
abbrev sDrop : Stmt := inClass (top 10) 3
abbrev sDue : Stmt := inClass (top 10) 4
abbrev sRefuse : Stmt := inClass (top 10) 5
/-! ### a lot of leases -/
theorem k_tg : ¬ (("_ticks" : Str) = "_given") := by decide +kernel
theorem k_eg : ¬ (("_ends" : Str) = "_given") := by decide +kernel
theorem k_et : ¬ (("_ends" : Str) = "_ticks") := by decide +kernel
def flds (n : Int) (dt de : Addr) : List (Str × V) := putF "_ends" (.ref de) (putF "_ticks" (.ref dt) (putF "_given" (.int n) []))
theorem flds_eq (n : Int) (dt de : Addr) : flds n dt de = [(("_given" : Str), V.int n), ("_ticks", V.ref dt), ("_ends", V.ref de)] := by
  have h1 : ¬ (("_given" : Str) = "_ticks") := fun e => k_tg e.symm
  have h2 : ¬ (("_given" : Str) = "_ends") := fun e => k_eg e.symm
  have h3 : ¬ (("_ticks" : Str) = "_ends") := fun e => k_et e.symm
  unfold flds
  simp only [putF, if_neg h1, if_neg h2, if_neg h3]
theorem flds_n (n : Int) (dt de : Addr) : (flds n dt de).lookup ("_given" : Str) = some (.int n) := by
  unfold flds
  rw [lookup_putF, if_neg (fun e => k_eg e.symm), lookup_putF, if_neg (fun e => k_tg e.symm), lookup_putF, if_pos rfl]
theorem flds_t (n : Int) (dt de : Addr) : (flds n dt de).lookup ("_ticks" : Str) = some (.ref dt) := by
  unfold flds
  rw [lookup_putF, if_neg (fun e => k_et e.symm), lookup_putF, if_pos rfl]
theorem flds_e (n : Int) (dt de : Addr) : (flds n dt de).lookup ("_ends" : Str) = some (.ref de) := by
  unfold flds
  rw [lookup_putF, if_pos rfl]
theorem flds_no (n : Int) (dt de : Addr) {m : Str} (h1 : ¬ m = "_given") (h2 : ¬ m = "_ticks") (h3 : ¬ m = "_ends") : (flds n dt de).lookup m = none := by
  unfold flds
  rw [lookup_putF, if_neg h3, lookup_putF, if_neg h2, lookup_putF, if_neg h1]
  all_goals rfl
theorem flds_put (n y : Int) (dt de : Addr) : putF "_given" (.int y) (flds n dt de) = flds y dt de := by
  rw [flds_eq, flds_eq]
  simp only [putF, if_pos]
structure LotAt (C : Addr) (H : Hp) (p dt de : Addr) (n : Int) (T E : Al) : Prop where
  ob : ∃ dx, H p = some (.ins C dx (flds n dt de))
  tk : H dt = some (.dK (kv T))
  en : H de = some (.dK (kv E))
  ne : dt ≠ de
/-- what the walk asks of the class -/
structure Txt (K : PySem.W.Frag) (mg : Str → Option Value) (C : Addr) : Prop where
  cl : Cls K C
  nG : NoAttr K C "_given"
  nT : NoAttr K C "_ticks"
  nE : NoAttr K C "_ends"
  mgC : mg "Leases" = some (.ref C)
/-- an own error class, made with a text -/
structure ErrT (K : PySem.W.Frag) (mg : Str → Option Value) (x : Str) (B : Addr) : Prop where
  g : mg x = some (.ref B)
  x : PySem.W.excIn K B [.type "ValueError", .type "Exception", .type "BaseException", .type "object"] "ValueError.__new__" = true
  k : PySem.W.keepIn K (.ref B) = true
  b : PySem.W.subIn K (.ref B) (.type "BaseException") = some true
  t : PySem.W.typeIn K (.ref B) = some (.type "type")
/-- all but these stand as they stood -/
def But (H H' : Hp) (l : List Addr) : Prop := ∀ b o, H b = some o → b ∉ l → H' b = some o
theorem But.refl (H : Hp) (l : List Addr) : But H H l := fun _ _ h _ => h
theorem But.upd {H H' : Hp} {l : List Addr} {a : Addr} {o : HO} (h : But H H' l) (m : a ∈ l) : But H (L2.upd H' a o) l := fun b u e n => by
  have ne : b ≠ a := fun z => n (by rw [z]; exact m)
  rw [upd_ne ne]
  exact h b u e n
theorem Same.but {H H' : Hp} (h : Same H H') (l : List Addr) : But H H' l := fun b o e _ => h b o e
/-! ### the promises -/
def spInit (C : Addr) : Sp := fun vs H Q _ => ∃ (p dx : Addr), vs = [.ref p] ∧ H p = some (.ins C dx []) ∧
  ∀ (dt de : Addr) (H' : Hp), H dt = none → H de = none → LotAt C H' p dt de 0 [] [] → But H H' [p] → Q .non H'
def spRefuse (C NL : Addr) : Sp := fun vs H Q E => ∃ (p dt de : Addr) (n k : Int) (T En : Al), vs = [.ref p, .int k] ∧ LotAt C H p dt de n T En ∧
  (aget En k = none → E (.ref NL) none H) ∧ ((aget En k).isSome = true → Q .non H)
def spGrant (C BT : Addr) : Sp := fun vs H Q E => ∃ (p dt de : Addr) (n now t : Int) (T En : Al), vs = [.ref p, .int now, .int t] ∧ LotAt C H p dt de n T En ∧ T.length ≤ 900 ∧ En.length ≤ 900 ∧
  (t < 1 ∨ 1000000 < t → E (.ref BT) none H) ∧
  (1 ≤ t → t ≤ 1000000 → ∀ H', LotAt C H' p dt de (n + 1) (aput T (n + 1) t) (aput En (n + 1) (now + t)) → But H H' [p, dt, de] → Q (.int (n + 1)) H')
def spRenew (C NL : Addr) : Sp := fun vs H Q E => ∃ (p dt de : Addr) (n now k : Int) (T En : Al), vs = [.ref p, .int now, .int k] ∧ LotAt C H p dt de n T En ∧ En.length ≤ 900 ∧
  (aget En k = none → E (.ref NL) none H) ∧
  ((aget En k).isSome = true → ∃ t, aget T k = some t ∧ ∀ H', LotAt C H' p dt de n T (aput En k (now + t)) → But H H' [p, dt, de] → Q .non H')
def spDrop (C NL : Addr) : Sp := fun vs H Q E => ∃ (p dt de : Addr) (n k : Int) (T En : Al), vs = [.ref p, .int k] ∧ LotAt C H p dt de n T En ∧
  (aget En k = none → E (.ref NL) none H) ∧
  ((aget En k).isSome = true → (aget T k).isSome = true ∧ ∀ H', LotAt C H' p dt de n (adrop T k) (adrop En k) → But H H' [p, dt, de] → Q .non H')
/-- a list's items: tuples of two ints -/
abbrev Tups (H : Hp) (ts : List Addr) (ps : Al) : Prop := Paired (fun (t : Addr) (p : Int × Int) => H t = some (.tup [.int p.1, .int p.2])) ts ps
def spDue (C : Addr) : Sp := fun vs H Q _ => ∃ (p dt de : Addr) (n u : Int) (T En : Al), vs = [.ref p, .int u] ∧ LotAt C H p dt de n T En ∧ En.length ≤ 900 ∧
  ∀ (q : Addr) (ts : List Addr) (ps : Al) (H' : Hp), H q = none → H' q = some (.lst (ts.map V.ref)) → Tups H' ts ps → Asc ps → ps.Perm (dueL En u) → Same H H' → Q (.ref q) H'
section
variable {P : Program} {w : World} {K : PySem.W.Frag} {mg : Str → Option Value} {base : Heap}
theorem scI : FnScope ["self"] ["self"] (defScope sInit) := ⟨rfl, rfl, rfl, by decide +kernel, rfl, by decide +kernel, by decide +kernel⟩
theorem ok_init {f C : Addr} {fd : FuncData} (F : Fun K "__init__" "Leases.__init__" sInit f fd) (T : Txt K mg C) : FnOk P w K mg base CX0 1 f fd ["self"] (spInit C) := by
  refine F.ok scI (fun vs H Q E h => ?_) (fun cdv A outer s H vs Q E hr h => ?_)
  · obtain ⟨p, dx, rfl, _⟩ := h
    rfl
  · obtain ⟨p, dx, rfl, hp, k⟩ := h
    refine ⟨_, pss_cons (ps_fld (pv 0) pe_int rfl) (pss_cons (ps_fld (pv 0) pe_dnewK rfl) (pss_one (ps_fld (pv 0) pe_dnewK rfl))), ?_⟩
    refine ⟨_, rfl, p, C, dx, [], rfl, hp, T.cl, T.nG, (by show 0 < 1000; decide), ?_⟩
    intro dt hdt
    have npt : p ≠ dt := ne_of_none upd_same hdt
    refine ⟨_, rfl, p, C, dx, _, rfl, (by rw [upd_ne npt]; exact upd_same), T.cl, T.nT, (by show 1 < 1000; decide), ?_⟩
    intro de hde
    have npe : p ≠ de := ne_of_none upd_same hde
    have nte : dt ≠ de := ne_of_none (by rw [upd_ne npt.symm]; exact upd_same) hde
    refine ⟨_, rfl, p, C, dx, _, rfl, (by rw [upd_ne npe]; exact upd_same), T.cl, T.nE, (by show 2 < 1000; decide), ?_⟩
    have d0 : H dt = none := by rw [upd_ne npt.symm] at hdt; exact hdt
    have e0 : H de = none := by rw [upd_ne npe.symm, upd_ne nte.symm, upd_ne npe.symm] at hde; exact hde
    refine k dt de _ d0 e0 ⟨⟨dx, upd_same⟩, ?_, ?_, nte⟩ fun b o e hb => ?_
    · rw [upd_ne npt.symm, upd_ne nte, upd_ne npt.symm]; exact upd_same
    · rw [upd_ne npe.symm]; exact upd_same
    · have hb : b ≠ p := fun z => hb (by rw [z]; exact List.mem_singleton.mpr rfl)
      rw [upd_ne hb, upd_ne (ne_of_none e e0), upd_ne hb, upd_ne (ne_of_none e d0), upd_ne hb]
      exact e
theorem scR : FnScope ["self", "lease"] ["self", "lease"] (defScope sRefuse) := ⟨rfl, rfl, rfl, by decide +kernel, rfl, by decide +kernel, by decide +kernel⟩
theorem ok_refuse {f C NL : Addr} {fd : FuncData} (F : Fun K "refuse_unknown" "Leases.refuse_unknown" sRefuse f fd) (T : Txt K mg C) (N : ErrT K mg "NoLease" NL) : FnOk P w K mg base (L2.CX P w) 1 f fd ["self", "lease"] (spRefuse C NL) := by
  refine F.okX scR (fun vs H Q E h => ?_) (fun cdv A outer s H vs Q E hr h => ?_)
  · obtain ⟨p, dt, de, n, k, T, En, rfl, _⟩ := h
    rfl
  · obtain ⟨p, dt, de, n, k, T1, En, rfl, L, h1, h2⟩ := h
    have hu := hu_of hr
    obtain ⟨⟨dx, hp⟩, ht, he, _⟩ := id L
    refine ⟨_, pss_one (ps_if (pt_cmp (pc_dnotin hu (pv 1) (pe_fld (pv 0) rfl)))
      (pss_one (ps_raise rfl (takes_of rfl rfl rfl rfl) (pmk_own PySem.F.excBase_ValueError N.x N.g N.k (raises_own N.b N.t) rfl))) pss_nil), ?_⟩
    refine ⟨_, rfl, _, rfl, p, C, dx, _, _, rfl, hp, T.cl, T.nE, flds_e _ _ _, de, _, rfl, DGet.k (k := Sum.inl k) he, _, rfl, ?_⟩
    rw [valV_kv]
    cases e : aget En k with
    | none =>
      refine iteT ?_
      exact h1 e
    | some v =>
      refine iteF ?_
      exact h2 (by rw [e]; rfl)
end
end K1

namespace K1
open PySem L2 L2H LX
section
variable {P : Program} {w : World} {K : PySem.W.Frag} {mg : Str → Option Value} {base : Heap}
theorem small900 {l : Al} (h : l.length ≤ 900) : (kv l).length < sizeLine := by
  rw [kv_len]
  exact small1000 (by omega)
theorem scG : FnScope ["self", "now", "ticks", "lease"] ["self", "now", "ticks"] (defScope sGrant) := ⟨rfl, rfl, rfl, by decide +kernel, rfl, by decide +kernel, by decide +kernel⟩
theorem ok_grant {f C BT : Addr} {fd : FuncData} {tm : Tok} (F : Fun K "grant" "Leases.grant" sGrant f fd) (T : Txt K mg C) (N : ErrT K mg "BadTicks" BT) (mM : mg "MOST_TICKS" = some (.int 1000000 tm)) : FnOk P w K mg base (L2.CX P w) 1 f fd ["self", "now", "ticks"] (spGrant C BT) := by
  refine F.okX scG (fun vs H Q E h => ?_) (fun cdv A outer s H vs Q E hr h => ?_)
  · obtain ⟨p, dt, de, n, now, t, T, En, rfl, _⟩ := h
    rfl
  · obtain ⟨p, dt, de, n, now, t, T1, En, rfl, L, l1, l2, h1, h2⟩ := h
    have hu := hu_of hr
    obtain ⟨⟨dx, hp⟩, ht, he, nte⟩ := id L
    have npt : p ≠ dt := ne_of hp ht (by intro z; cases z)
    have npe : p ≠ de := ne_of hp he (by intro z; cases z)
    refine ⟨_, pss_cons (ps_if (PW.pt (pw_or (pt_cmpR op_lt (pv 2) pe_int (nomark _)) (pw_or1 (pt_cmpR op_gt (pv 2) (pe_glob (v := V.int 1000000) rfl mM ⟨_, rfl⟩) (nomark _)))))
        (pss_one (ps_raise rfl (takes_of rfl rfl rfl rfl) (SkE.pmk_own1 PySem.F.excBase_ValueError N.x N.g N.k (raises_own N.b N.t) rfl
          (pe_joined (.cons pe_str (.cons (pe_fmt (pe_glob (v := V.int 1000000) rfl mM ⟨_, rfl⟩)) (.cons pe_str .nil))))))) pss_nil)
      (pss_cons (ps_fldaug (pv 0) pe_int in_add)
      (pss_cons (ps_set (i := 3) scG.nd rfl (Or.inl rfl) (pe_fld (pv 0) rfl))
      (pss_cons (ps_dput hu (pe_fld (pv 0) rfl) (pv 3) (pv 2) rfl)
      (pss_cons (ps_dput hu (pe_fld (pv 0) rfl) (pv 3) (pe_op op_add (pv 1) (pv 2)) rfl)
      (pss_one (ps_ret (pv 3))))))), ?_⟩
    have bad : (t < 1 ∨ 1000000 < t) → tJs [tC (V.str "a lease is given for 1 to "), tFmt (tC (V.int 1000000)), tC (V.str " ticks")] Str.empty (L2.start ["self", "now", "ticks", "lease"] [V.ref p, V.int now, V.int t]) H fun out H1 => E (.ref BT) none H1 := fun hb => by
      refine ⟨_, rfl, (by decide +kernel), .inr ⟨1000000, rfl, (by decide +kernel), _, rfl, (by decide +kernel), _, rfl, (by decide +kernel), h1 hb⟩⟩
    refine ⟨_, rfl, _, _, rfl, rfl, _, rfl, ?_⟩
    by_cases c1 : t < 1
    · rw [decide_eq_true c1]
      refine iteT (iteT ?_)
      exact bad (.inl c1)
    rw [decide_eq_false c1]
    refine iteF ?_
    refine ⟨_, rfl, _, _, rfl, rfl, _, rfl, ?_⟩
    by_cases c2 : t > 1000000
    · rw [decide_eq_true c2]
      refine iteT ?_
      exact bad (.inr c2)
    rw [decide_eq_false c2]
    refine iteF ?_
    refine ⟨_, rfl, p, C, dx, _, _, rfl, hp, T.cl, T.nG, flds_n _ _ _, _, _, rfl, rfl, dx, _, hp, (by rw [flds_eq]; show 3 < 1000; decide), ?_⟩
    rw [flds_put]
    have hp1 : upd H p (.ins C dx (flds (n + 1) dt de)) p = some (.ins C dx (flds (n + 1) dt de)) := upd_same
    have ht1 : upd H p (.ins C dx (flds (n + 1) dt de)) dt = some (.dK (kv T1)) := by rw [upd_ne npt.symm]; exact ht
    have he1 : upd H p (.ins C dx (flds (n + 1) dt de)) de = some (.dK (kv En)) := by rw [upd_ne npe.symm]; exact he
    refine ⟨_, rfl, p, C, dx, _, _, rfl, hp1, T.cl, T.nG, flds_n _ _ _, ?_⟩
    refine ⟨_, rfl, _, rfl, p, C, dx, _, _, rfl, hp1, T.cl, T.nT, flds_t _ _ _, _, rfl, dt, _, rfl, DPut.k (k := Sum.inl (n + 1)) ht1 (small900 l1), ?_⟩
    rw [put_kv]
    have hp2 : ∀ o, upd (upd H p (.ins C dx (flds (n + 1) dt de))) dt o p = some (.ins C dx (flds (n + 1) dt de)) := fun o => by rw [upd_ne npt]; exact hp1
    have he2 : ∀ o, upd (upd H p (.ins C dx (flds (n + 1) dt de))) dt o de = some (.dK (kv En)) := fun o => by rw [upd_ne nte.symm]; exact he1
    refine ⟨_, rfl, _, rfl, _, _, rfl, rfl, _, rfl, p, C, dx, _, _, rfl, hp2 _, T.cl, T.nE, flds_e _ _ _, _, rfl, de, _, rfl, DPut.k (k := Sum.inl (n + 1)) (he2 _) (small900 l2), ?_⟩
    rw [put_kv]
    refine ⟨_, rfl, ?_⟩
    refine h2 (by omega) (by omega) _ ⟨⟨dx, ?_⟩, ?_, upd_same, nte⟩ (((But.refl _ _).upd (by simp)).upd (by simp) |>.upd (by simp))
    · rw [upd_ne npe]; exact hp2 _
    · rw [upd_ne nte]; exact upd_same
end
end K1

namespace K1
open PySem L2 L2H LX
section
variable {P : Program} {w : World} {K : PySem.W.Frag} {mg : Str → Option Value} {base : Heap}
theorem scN : FnScope ["self", "now", "lease"] ["self", "now", "lease"] (defScope sRenew) := ⟨rfl, rfl, rfl, by decide +kernel, rfl, by decide +kernel, by decide +kernel⟩
theorem nR : ¬ (("refuse_unknown" : Str) = "_given") ∧ ¬ (("refuse_unknown" : Str) = "_ticks") ∧ ¬ (("refuse_unknown" : Str) = "_ends") := by decide +kernel
theorem ok_renew {f fR C NL : Addr} {fd fdR : FuncData} (F : Fun K "renew" "Leases.renew" sRenew f fd) (T : Txt K mg C) (N : ErrT K mg "NoLease" NL)
    (FR : Fun K "refuse_unknown" "Leases.refuse_unknown" sRefuse fR fdR) (bR : Binds K fdR ["self", "lease"] []) (mR : Meth K C "refuse_unknown" fR) :
    FnOk P w K mg base (L2.CX P w) 2 f fd ["self", "now", "lease"] (spRenew C NL) := by
  have GR : FnOk P w K mg base (L2.CX P w) 1 fR fdR ["self", "lease"] (spRefuse C NL) := ok_refuse FR T N
  refine F.okX scN (fun vs H Q E h => ?_) (fun cdv A outer s H vs Q E hr h => ?_)
  · obtain ⟨p, dt, de, n, now, k, T, En, rfl, _⟩ := h
    rfl
  · obtain ⟨p, dt, de, n, now, k, T1, En, rfl, L, l1, h1, h2⟩ := h
    have hu := hu_of hr
    obtain ⟨⟨dx, hp⟩, ht, he, nte⟩ := id L
    have npt : p ≠ dt := ne_of hp ht (by intro z; cases z)
    have npe : p ≠ de := ne_of hp he (by intro z; cases z)
    refine ⟨_, pss_cons (ps_expr (pe_meth (E := E) (pv 0) T.cl mR GR hr bR .nil (passes_call (takes_of rfl rfl rfl rfl) (fun _ _ _ _ h => h)) (pa_cons (pv 2) pa_nil)))
      (pss_one (ps_dput hu (pe_fld (pv 0) rfl) (pv 2) (pe_op op_add (pv 1) (pe_dget hu (pe_fld (pv 0) rfl) (pv 2) (fun _ _ => rfl))) rfl)), ?_⟩
    refine ⟨_, rfl, p, dx, _, rfl, hp, flds_no _ _ _ nR.1 nR.2.1 nR.2.2, _, rfl, p, dt, de, n, k, T1, En, rfl, L, h1, fun hs => ?_⟩
    obtain ⟨t, et, q⟩ := h2 hs
    refine ⟨_, rfl, _, rfl, p, C, dx, _, _, rfl, hp, T.cl, T.nT, flds_t _ _ _, _, rfl, dt, V.int t, rfl, ?_, _, _, rfl, rfl, ?_⟩
    · have g := DGet.k (k := Sum.inl k) ht
      rw [valV_kv, et] at g
      exact g
    refine ⟨_, rfl, p, C, dx, _, _, rfl, hp, T.cl, T.nE, flds_e _ _ _, _, rfl, de, _, rfl, DPut.k (k := Sum.inl k) he (small900 l1), ?_⟩
    rw [put_kv]
    refine q _ ⟨⟨dx, ?_⟩, ?_, upd_same, nte⟩ ((But.refl _ _).upd (by simp))
    · rw [upd_ne npe]; exact hp
    · rw [upd_ne nte]; exact ht
theorem scD : FnScope ["self", "lease"] ["self", "lease"] (defScope sDrop) := ⟨rfl, rfl, rfl, by decide +kernel, rfl, by decide +kernel, by decide +kernel⟩
theorem ok_drop {f fR C NL : Addr} {fd fdR : FuncData} (F : Fun K "drop" "Leases.drop" sDrop f fd) (T : Txt K mg C) (N : ErrT K mg "NoLease" NL)
    (FR : Fun K "refuse_unknown" "Leases.refuse_unknown" sRefuse fR fdR) (bR : Binds K fdR ["self", "lease"] []) (mR : Meth K C "refuse_unknown" fR) :
    FnOk P w K mg base (L2.CX P w) 2 f fd ["self", "lease"] (spDrop C NL) := by
  have GR : FnOk P w K mg base (L2.CX P w) 1 fR fdR ["self", "lease"] (spRefuse C NL) := ok_refuse FR T N
  refine F.okX scD (fun vs H Q E h => ?_) (fun cdv A outer s H vs Q E hr h => ?_)
  · obtain ⟨p, dt, de, n, k, T, En, rfl, _⟩ := h
    rfl
  · obtain ⟨p, dt, de, n, k, T1, En, rfl, L, h1, h2⟩ := h
    have hu := hu_of hr
    obtain ⟨⟨dx, hp⟩, ht, he, nte⟩ := id L
    have npt : p ≠ dt := ne_of hp ht (by intro z; cases z)
    have npe : p ≠ de := ne_of hp he (by intro z; cases z)
    refine ⟨_, pss_cons (ps_expr (pe_meth (E := E) (pv 0) T.cl mR GR hr bR .nil (passes_call (takes_of rfl rfl rfl rfl) (fun _ _ _ _ h => h)) (pa_cons (pv 1) pa_nil)))
      (pss_cons (ps_ddel (pe_fld (pv 0) rfl) (pv 1)) (pss_one (ps_ddel (pe_fld (pv 0) rfl) (pv 1)))), ?_⟩
    refine ⟨_, rfl, p, dx, _, rfl, hp, flds_no _ _ _ nR.1 nR.2.1 nR.2.2, _, rfl, p, dt, de, n, k, T1, En, rfl, L, h1, fun hs => ?_⟩
    obtain ⟨et, q⟩ := h2 hs
    refine ⟨_, rfl, p, C, dx, _, _, rfl, hp, T.cl, T.nT, flds_t _ _ _, _, rfl, dt, _, Sum.inl k, rfl, ht, rfl, (by rw [valV_kv, Option.isSome_map]; exact et), ?_⟩
    rw [drop_kv]
    have hp2 : ∀ o, upd H dt o p = some (.ins C dx (flds n dt de)) := fun o => by rw [upd_ne npt]; exact hp
    refine ⟨_, rfl, p, C, dx, _, _, rfl, hp2 _, T.cl, T.nE, flds_e _ _ _, _, rfl, de, _, Sum.inl k, rfl, (by rw [upd_ne nte.symm]; exact he), rfl, (by rw [valV_kv, Option.isSome_map]; exact hs), ?_⟩
    rw [drop_kv]
    refine q _ ⟨⟨dx, ?_⟩, ?_, upd_same, nte⟩ (((But.refl _ _).upd (by simp)).upd (by simp))
    · rw [upd_ne npe]; exact hp2 _
    · rw [upd_ne nte]; exact upd_same
end
end K1

namespace K1
open PySem L2 L2H LX
/-! ### lists of pairs that are sorted -/
def kOf (H : Hp) (x : V) : Int × Int := match x with
  | .ref t => (match H t with
    | some (.tup [.int a, .int b]) => (a, b)
    | _ => (0, 0))
  | _ => (0, 0)
theorem kOf_at {H : Hp} {t : Addr} {p : Int × Int} (h : H t = some (.tup [.int p.1, .int p.2])) : kOf H (.ref t) = p := by
  unfold kOf
  simp only [h]
theorem sort_prem {H : Hp} : ∀ {ts : List Addr} {qs : Al}, Tups H ts qs → ∀ x ∈ ts.map V.ref, ∃ t, x = V.ref t ∧ H t = some (.tup [.int (kOf H x).1, .int (kOf H x).2])
  | _, _, .nil, x, h => by cases h
  | _, _, .cons (a := t) (b := p) r m, x, h => by
    rcases List.mem_cons.mp h with e | h
    · subst e
      exact ⟨t, rfl, by rw [kOf_at r]; exact r⟩
    · exact sort_prem m x h
theorem sort_keys {H : Hp} : ∀ {ts : List Addr} {qs : Al}, Tups H ts qs → (ts.map V.ref).map (kOf H) = qs
  | _, _, .nil => rfl
  | _, _, .cons r m => by
    rw [List.map_cons, List.map_cons, kOf_at r, sort_keys m]
theorem sort_back {H : Hp} : ∀ {ys : List V}, (∀ x ∈ ys, ∃ t, x = V.ref t ∧ H t = some (.tup [.int (kOf H x).1, .int (kOf H x).2])) → ∃ ts, ys = ts.map V.ref ∧ Tups H ts (ys.map (kOf H))
  | [], _ => ⟨[], rfl, .nil⟩
  | y :: r, h => by
    obtain ⟨t, e, ht⟩ := h y List.mem_cons_self
    obtain ⟨ts, e2, m⟩ := sort_back (ys := r) fun x hx => h x (List.mem_cons_of_mem _ hx)
    exact ⟨t :: ts, by rw [List.map_cons, ← e, ← e2], .cons ht m⟩
theorem sort_out {H : Hp} {ts : List Addr} {qs : Al} {ys : List V} (m : Tups H ts qs) (hs : SrtO.Srtd (ltP (kOf H)) ys) (hp : ys.Perm (ts.map V.ref)) :
    ∃ ts' ps, ys = ts'.map V.ref ∧ Tups H ts' ps ∧ Asc ps ∧ ps.Perm qs := by
  obtain ⟨ts', e, m'⟩ := sort_back (H := H) (ys := ys) fun x hx => sort_prem m x (hp.mem_iff.mp hx)
  refine ⟨ts', _, e, m', ?_, ?_⟩
  · exact List.pairwise_map.mpr hs
  · have q := hp.map (kOf H)
    rw [sort_keys m] at q
    exact q
theorem Tups.keep {H H' : Hp} {ts : List Addr} {ps : Al} (m : Tups H ts ps) (k : ∀ b xs, H b = some (.tup xs) → H' b = some (.tup xs)) : Tups H' ts ps := Paired.mono (fun _ _ h => k _ _ h) m
theorem dueL_snoc {E : Al} {u : Int} {i : Nat} {p : Int × Int} (h : E[i]? = some p) : dueL (E.take (i + 1)) u = dueL (E.take i) u ++ (if p.2 ≤ u then [(p.2, p.1)] else []) := by
  have e : E.take (i + 1) = E.take i ++ [p] := by
    rw [List.take_add_one, h]; rfl
  rw [e]
  unfold dueL
  rw [List.filter_append, List.map_append]
  congr 1
  by_cases c : p.2 ≤ u
  · simp [c]
  · simp [c]
theorem dueL_len (E : Al) (u : Int) : (dueL E u).length ≤ E.length := by
  unfold dueL
  rw [List.length_map]
  exact List.length_filter_le _ _
theorem kv_at {E : Al} {i : Nat} {p : Int × Int} (h : E[i]? = some p) : (kv E)[i]? = some (Sum.inl p.1, V.int p.2) := by
  unfold kv
  rw [List.getElem?_map, h]; rfl
section
variable {P : Program} {w : World} {K : PySem.W.Frag} {mg : Str → Option Value} {base : Heap}
theorem scU : FnScope ["self", "until", "lease", "end"] ["self", "until"] (defScope sDue) := ⟨rfl, rfl, rfl, by decide +kernel, rfl, by decide +kernel, by decide +kernel⟩
theorem ok_due {f C : Addr} {fd : FuncData} (F : Fun K "due" "Leases.due" sDue f fd) (T : Txt K mg C) (ms : mg "sorted" = none) : FnOk P w K mg base CX0 1 f fd ["self", "until"] (spDue C) := by
  refine F.ok scU (fun vs H Q E h => ?_) (fun cdv A outer s H vs Q E hr h => ?_)
  · obtain ⟨p, dt, de, n, u, T, En, rfl, _⟩ := h
    rfl
  · obtain ⟨p, dt, de, n, u, T1, En, rfl, L, l1, k⟩ := h
    obtain ⟨⟨dx, hp⟩, ht, he, nte⟩ := id L
    have npe : p ≠ de := ne_of hp he (by intro z; cases z)
    refine ⟨_, pss_one (ps_ret (pe_callB cr_sortedPO (by rfl) ms (by decide +kernel) (pa_cons (pe_lock
      (pe_lc (own := [("lease", 2), ("end", 3)]) (g := gTup K 2 (gCons (gName 2) (gCons (gName 3) gNil))) rfl scU.nd (pi_items (pe_fld (pv 0) rfl)) (blkOk_by (own := [("lease", 2), ("end", 3)]) (N := ["self", "until", "lease", "end"]) (sc := defScope sDue) (by decide +kernel))
        (fun _ _ _ _ _ => pg_tup (n := 2) rfl (pgs_cons (pg_name (i := 2) scU.nd rfl (Or.inl rfl) (Or.inr rfl)) (pgs_cons (pg_name (i := 3) scU.nd rfl (Or.inl rfl) (Or.inr rfl)) pgs_nil)))
        (fun _ _ _ _ _ => pts_one (pt_cmpR op_le (pv 3) (pv 1) (nomark _)))
        (fun _ _ _ _ _ => pe_tup (pa_cons (pv 3) (pa_cons (pv 2) pa_nil))))) pa_nil))), ?_⟩
    refine ⟨de, _, he, trivial, fun od => ?_⟩
    have hpL : upd H de (.frz od (.dK (kv En))) p = some (.ins C dx (flds n dt de)) := by rw [upd_ne npe]; exact hp
    refine ⟨_, rfl, p, C, dx, _, _, rfl, hpL, T.cl, T.nE, flds_e _ _ _, de, od, _, rfl, upd_same, fun D hD => ?_⟩
    refine lc_it walk_items (fun i H' => ∃ ts, Same (upd H de (.frz od (.dK (kv En)))) H' ∧ H' D = some (.lst (ts.map V.ref)) ∧ Tups H' ts (dueL (En.take i) u)) ?_ ?_ ?_ ?_
    · refine ⟨[], fun b o e => ?_, upd_same, ?_⟩
      · rw [upd_ne (ne_of_none e hD)]; exact e
      · exact .nil
    · rintro i H' _ ⟨ts, hs, _⟩
      exact hs _ _ upd_same
    · rintro i x H1 H' hi ⟨ts, hs, hl, m⟩ ⟨Tt, a, b, rfl, hn, rfl, ea, eb⟩
      have hi' : i < En.length := by rw [kv_len] at hi; exact hi
      obtain ⟨q, hq⟩ : ∃ q, En[i]? = some q := ⟨En[i], by simp [hi']⟩
      have ea : (kv En)[i]?.map (fun kv => kV kv.1) = some a := ea
      have eb : (kv En)[i]?.map Prod.snd = some b := eb
      rw [kv_at hq] at ea eb
      cases ea
      cases eb
      have hDT : D ≠ Tt := ne_of_none hl hn
      refine ⟨Tt, _, rfl, .inl (.inl upd_same), rfl, _, _, rfl, _, _, rfl, rfl, rfl, ?_⟩
      refine ⟨_, rfl, _, rfl, _, _, rfl, rfl, _, rfl, ?_⟩
      have hsT : Same H1 (upd H1 Tt (.tup [kV (Sum.inl q.1, V.int q.2).1, V.int q.2])) := fun b o e => by
        rw [upd_ne (ne_of_none e hn)]; exact e
      by_cases c : q.2 ≤ u
      · rw [decide_eq_true c]
        refine iteT ?_
        refine ⟨_, rfl, _, rfl, (by show 2 ≤ sizeLine; decide), fun z hz => ?_⟩
        have hz1 : H1 z = none := hsT.free hz
        have hDz : D ≠ z := ne_of_none hl hz1
        refine ⟨ts.map V.ref, ?_, ?_, ts ++ [z], fun b o e => ?_, ?_, ?_⟩
        · rw [upd_ne hDz]
          exact hsT _ _ hl
        · have := Paired.length m
          have l2 := dueL_len (En.take i) u
          have l3 := List.length_take_le i En
          rw [List.length_map]
          exact small1000 (by omega)
        · rw [upd_ne (ne_of_none e hD), upd_ne (ne_of_none (hs b o e) hz1)]
          exact hsT _ _ (hs b o e)
        · rw [upd_same, List.map_append]; rfl
        · rw [dueL_snoc hq, if_pos c]
          refine Paired.snoc (Tups.keep m fun b xs e => ?_) ?_
          · have nb : b ≠ D := ne_of e hl (by intro z; cases z)
            rw [upd_ne nb, upd_ne (ne_of_none e hz1)]
            exact hsT _ _ e
          · rw [upd_ne hDz.symm]; exact upd_same
      · rw [decide_eq_false c]
        refine iteF ⟨ts, fun b o e => hsT _ _ (hs b o e), hsT _ _ hl, ?_⟩
        rw [dueL_snoc hq, if_neg c, List.append_nil]
        exact Tups.keep m fun b xs e => hsT _ _ e
    · rintro H' ⟨ts, hs, hl, m⟩
      have hde : H' de = some (.frz od (.dK (kv En))) := hs _ _ upd_same
      rw [kv_len, List.take_length] at m
      have hDe : D ≠ de := ne_of hl hde (by intro z; cases z)
      have m2 : Tups (upd H' de (.dK (kv En))) ts (dueL En u) := Tups.keep m fun b xs e => by
        rw [upd_ne (ne_of e hde (by intro z; cases z))]; exact e
      refine ⟨hde, D, ts.map V.ref, kOf (upd H' de (.dK (kv En))), rfl, .inl (.inl (by rw [upd_ne hDe]; exact hl)), sort_prem m2, fun ys q h1 h2 hq => ?_⟩
      obtain ⟨ts', ps, rfl, m3, asc, pm⟩ := sort_out m2 h1 h2.perm
      have sm : Same H (upd H' de (.dK (kv En))) := fun b o e => by
        by_cases hb : b = de
        · subst hb
          rw [he] at e
          cases e
          exact upd_same
        · rw [upd_ne hb]
          exact hs b o (by rw [upd_ne hb]; exact e)
      refine k q ts' ps _ (sm.free hq) upd_same (Tups.keep m3 fun b xs e => ?_) asc pm fun b o e => ?_
      · rw [upd_ne (ne_of_none e hq)]; exact e
      · rw [upd_ne (ne_of_none (sm b o e) hq)]; exact sm b o e
end
end K1

namespace K1
open PySem L2 L2H LX
abbrev sWhole : Stmt := top 12
abbrev sCell : Stmt := top 13
abbrev sTicks : Stmt := top 14
abbrev sOnly : Stmt := top 15
abbrev sTold : Stmt := top 16
abbrev sLdue : Stmt := top 17
abbrev sEnding : Stmt := top 18
abbrev sLaw : Stmt := top 19
theorem at_ints {ns : List Int} {z : Int} (h0 : 0 ≤ z) (h1 : z < ns.length) : ∃ t, t ∈ ns ∧ atI (ns.map V.int) z = some (V.int t) := by
  obtain ⟨j, rfl⟩ := Int.eq_ofNat_of_zero_le h0
  have hl : j < ns.length := by omega
  exact ⟨ns[j], List.getElem_mem hl, atI_nat (by rw [List.getElem?_map, List.getElem?_eq_getElem hl]; rfl)⟩
theorem at_strs {ns : List Str} {z : Int} (h0 : 0 ≤ z) (h1 : z < ns.length) : ∃ t, t ∈ ns ∧ atI (ns.map V.str) z = some (V.str t) := by
  obtain ⟨j, rfl⟩ := Int.eq_ofNat_of_zero_le h0
  have hl : j < ns.length := by omega
  exact ⟨ns[j], List.getElem_mem hl, atI_nat (by rw [List.getElem?_map, List.getElem?_eq_getElem hl]; rfl)⟩
/-! ### the promises -/
def Plain (v : V) (b : Bool) : Prop := ((∃ i, v = .int i) ∧ b = true) ∨ ((v = .non ∨ ∃ z, v = .str z) ∧ b = false)
def spWhole : Sp := fun vs H Q _ => ∃ (v : V) (b : Bool), vs = [v] ∧ Plain v b ∧ Q (.bl b) H
def spCellA (K : PySem.W.Frag) : Sp := fun vs H Q _ => ∃ (a : Addr) (ns : List Int) (j : Nat), vs = [.ref a, .int j] ∧ SqL K H a (ns.map V.int) ∧ ∀ t, Q (.int t) H
def spTicks : Sp := fun vs H Q _ => ∃ (c m : Int), vs = [.int c, .int m] ∧ ∀ t H', Same H H' → Q (.int t) H'
structure LTxt (mg : Str → Option Value) : Prop where
  isi : mg "isinstance" = none
  int : mg "int" = none
  bool : mg "bool" = none
  len : mg "len" = none
  sorted : mg "sorted" = none
  list : mg "list" = none
  tuple : mg "tuple" = none
  range : mg "range" = none
  ve : mg "ValueError" = none
section
variable {P : Program} {w : World} {K : PySem.W.Frag} {mg : Str → Option Value} {base : Heap}
theorem scW : FnScope ["_law_found"] ["_law_found"] (defScope sWhole) := ⟨rfl, rfl, rfl, by decide +kernel, rfl, by decide +kernel, by decide +kernel⟩
theorem ok_whole {f : Addr} {fd : FuncData} (F : Fun K "_law_whole" "_law_whole" sWhole f fd) (T : LTxt mg) : FnOk P w K mg base CX0 1 f fd ["_law_found"] spWhole := by
  refine F.ok scW (fun vs H Q E h => ?_) (fun cdv A outer s H vs Q E hr h => ?_)
  · obtain ⟨v, b, rfl, _⟩ := h
    rfl
  · obtain ⟨v, b, rfl, hb, k⟩ := h
    refine ⟨_, pss_one (ps_ret (pe_and (pe_callB call_isi (by rfl) T.isi (by decide +kernel) (pa_cons (pv 0) (pa_cons (pe_bltn (v := V.ty "int") (by rfl) T.int (by decide +kernel) rfl) pa_nil)))
      (pe_one (pe_not (pe_callB call_isi (by rfl) T.isi (by decide +kernel) (pa_cons (pv 0) (pa_cons (pe_bltn (v := V.ty "bool") (by rfl) T.bool (by decide +kernel) rfl) pa_nil))))))), ?_⟩
    rcases hb with ⟨⟨i, rfl⟩, rfl⟩ | ⟨hv, rfl⟩
    · refine ⟨_, rfl, _, _, _, _, true, rfl, .ty _, .base (.int i), kit_ty (by decide +kernel), true, rfl, ?_⟩
      refine iteT ?_
      exact ⟨_, rfl, _, _, _, _, false, rfl, .ty _, .base (.int i), kit_ty (by decide +kernel), false, rfl, k⟩
    · rcases hv with rfl | ⟨z, rfl⟩
      · refine ⟨_, rfl, _, _, _, _, false, rfl, .ty _, .base .non, kit_ty (by decide +kernel), false, rfl, ?_⟩
        exact iteF k
      · refine ⟨_, rfl, _, _, _, _, false, rfl, .ty _, .base (.str z), kit_ty (by decide +kernel), false, rfl, ?_⟩
        exact iteF k
theorem scC : FnScope ["_law_script", "_law_k"] ["_law_script", "_law_k"] (defScope sCell) := ⟨rfl, rfl, rfl, by decide +kernel, rfl, by decide +kernel, by decide +kernel⟩
theorem ok_cell {f : Addr} {fd : FuncData} (F : Fun K "_law_cell_at" "_law_cell_at" sCell f fd) (T : LTxt mg) : FnOk P w K mg base CX0 1 f fd ["_law_script", "_law_k"] (spCellA K) := by
  refine F.ok scC (fun vs H Q E h => ?_) (fun cdv A outer s H vs Q E hr h => ?_)
  · obtain ⟨a, ns, j, rfl, _⟩ := h
    rfl
  · obtain ⟨a, ns, j, rfl, hs, k⟩ := h
    refine ⟨_, pss_cons (ps_if (pt_cmpR op_lt (pv 1) (pe_callB call_len_seq (by rfl) T.len PySem.boot_len (pa_cons (pv 0) pa_nil)) (nomark _)) (pss_one (ps_ret (pe_ix ix_list (pv 0) (pv 1) (fun _ _ => rfl)))) pss_nil)
      (pss_one (ps_ret pe_int)), ?_⟩
    refine ⟨_, rfl, _, rfl, a, _, rfl, .inl hs, _, _, rfl, rfl, _, rfl, ?_⟩
    rw [List.length_map]
    by_cases c : (j : Int) < ns.length
    · rw [decide_eq_true c]
      refine iteT ?_
      obtain ⟨t, _, e⟩ := at_ints (ns := ns) (z := (j : Int)) (by omega) c
      exact ⟨_, rfl, _, rfl, a, _, _, _, rfl, rfl, hs, e, k t⟩
    · rw [decide_eq_false c]
      refine iteF ?_
      exact k 0
theorem scK : FnScope ["_law_cell", "_law_more"] ["_law_cell", "_law_more"] (defScope sTicks) := ⟨rfl, rfl, rfl, by decide +kernel, rfl, by decide +kernel, by decide +kernel⟩
theorem ok_ticks {f : Addr} {fd : FuncData} (F : Fun K "_law_ticks" "_law_ticks" sTicks f fd) : FnOk P w K mg base CX0 1 f fd ["_law_cell", "_law_more"] spTicks := by
  refine F.ok scK (fun vs H Q E h => ?_) (fun cdv A outer s H vs Q E hr h => ?_)
  · obtain ⟨c, m, rfl, _⟩ := h
    rfl
  · obtain ⟨c, m, rfl, k⟩ := h
    refine ⟨_, pss_cons (ps_if (pt_cmpR op_eq (pe_op op_mod (pv 1) pe_int) pe_int (nomark _)) (pss_one (ps_ret (pe_ix ix_list
          (pe_lst (pa_cons pe_int (pa_cons pe_int (pa_cons pe_int (pa_cons pe_int (pa_cons (pe_un un_neg pe_int) (pa_cons (pe_op op_pow pe_int pe_int) (pa_cons (pe_op op_pow pe_int pe_int) (pa_cons (pe_un un_neg (pe_op op_pow pe_int pe_int)) pa_nil)))))))))
          (pe_op op_mod (pv 0) pe_int) (fun _ _ => rfl)))) pss_nil)
      (pss_cons (ps_if (pt_cmpR op_eq (pe_op op_mod (pv 1) pe_int) pe_int (nomark _)) (pss_one (ps_ret (pe_op op_mod (pv 0) pe_int))) pss_nil)
      (pss_one (ps_ret (pe_op op_add pe_int (pe_op op_mod (pv 0) pe_int))))), ?_⟩
    refine ⟨_, rfl, _, _, rfl, rfl, (by show (0 : Int) < 4; decide), rfl, _, rfl, ?_⟩
    refine ite2 (fun _ => ?_) fun _ => ?_
    · refine ⟨_, rfl, _, _, rfl, rfl, ⟨by decide, by decide, by decide⟩, _, _, rfl, rfl, ⟨by decide, by decide, by decide⟩, _, _, rfl, rfl, ⟨by decide, by decide, by decide⟩, _, rfl, (by show 8 ≤ sizeLine; decide), fun l hl => ?_⟩
      obtain ⟨t, _, e⟩ := at_ints (ns := [0, 1, 1000000, 1000001, -1, 10 ^ 9, 10 ^ 30, -(10 ^ 9)]) (z := c % 8) (by omega) (by show c % 8 < 8; omega)
      refine ⟨_, rfl, _, _, rfl, rfl, (by show (0 : Int) < 8; decide), l, _, _, _, rfl, rfl, SqL.of upd_same, e, ?_⟩
      exact k t _ fun b o e => by rw [upd_ne (ne_of_none e hl)]; exact e
    · refine ⟨_, rfl, _, _, rfl, rfl, (by show (0 : Int) < 4; decide), rfl, _, rfl, ?_⟩
      refine ite2 (fun _ => ?_) fun _ => ?_
      · exact ⟨_, rfl, _, _, rfl, rfl, (by show (0 : Int) < 1000003; decide), k _ _ (Same.refl _)⟩
      · exact ⟨_, rfl, _, _, rfl, rfl, (by show (0 : Int) < 6; decide), _, _, rfl, rfl, k _ _ (Same.refl _)⟩
end
end K1

namespace K1
open PySem L2 L2H LX
structure OnlyT (K : PySem.W.Frag) (D BT NL NK HE NS NW : Addr) (b n : Bool) : Prop where
  C : ExcC K D
  k1 : PySem.W.kitOne K (.ref D) (.ref BT) = some b
  k2 : PySem.W.kitOne K (.ref D) (.ref NL) = some n
  k3 : PySem.W.kitOne K (.ref D) (.ref NK) = some false
  k4 : PySem.W.kitOne K (.ref D) (.ref HE) = some false
  k5 : PySem.W.kitOne K (.ref D) (.ref NS) = some false
  k6 : PySem.W.kitOne K (.ref D) (.ref NW) = some false
  kv : PySem.W.kitOne K (.ref D) (.type "ValueError") = some true
structure Errs (K : PySem.W.Frag) (mg : Str → Option Value) (LE BT NL NK HE NS NW : Addr) : Prop where
  gL : mg "LeaseError" = some (.ref LE)
  gB : mg "BadTicks" = some (.ref BT)
  gN : mg "NoLease" = some (.ref NL)
  gK : mg "NoKey" = some (.ref NK)
  gH : mg "Held" = some (.ref HE)
  gS : mg "NoStart" = some (.ref NS)
  gW : mg "NoWatch" = some (.ref NW)
  oB : OnlyT K BT BT NL NK HE NS NW true false
  oN : OnlyT K NL BT NL NK HE NS NW false true
  eB : PySem.W.exmOne K (.ref BT) (.ref LE) = some true
  eN : PySem.W.exmOne K (.ref NL) (.ref LE) = some true
def spO (BT NL : Addr) (a : Addr) (cls : Value) (d : Option Addr) : Sp := fun vs H Q _ => ∃ (w nm : Str) (r : Bool), vs = [.ref a, .str w] ∧ d = none ∧ ((cls = .ref BT ∧ nm = "BadTicks") ∨ (cls = .ref NL ∧ nm = "NoLease")) ∧
  SeqAt.shaped (.list [.str w]) = true ∧ PyData.eqv (.list [.str nm]) (.list [.str w]) = r ∧ ∀ H', Same H H' → Q (.bl r) H'
def spOnly (BT NL : Addr) (p : Addr × Obj) : Sp := spO BT NL p.1 p.2.cls p.2.dict
section
variable {P : Program} {w : World} {K : PySem.W.Frag} {mg : Str → Option Value} {base : Heap}
theorem scO : FnScope ["_law_error", "_law_word", "_law_words"] ["_law_error", "_law_word"] (defScope sOnly) := ⟨rfl, rfl, rfl, by decide +kernel, rfl, by decide +kernel, by decide +kernel⟩
theorem ok_only {f LE BT NL NK HE NS NW : Addr} {fd : FuncData} (F : Fun K "_law_only" "_law_only" sOnly f fd) (T : LTxt mg) (M : Errs K mg LE BT NL NK HE NS NW) : FnP P w K mg base 1 f fd ["_law_error", "_law_word"] (spOnly BT NL) := by
  refine okP F scO (fun p vs H Q E h => ?_) (fun cdv A outer s H vs Q E p hr hf h => ?_)
  · obtain ⟨z, nm, r, rfl, _⟩ := h
    rfl
  · obtain ⟨z, nm, r, rfl, hd, hc, hsh, hq, k⟩ := h
    have hu : (A.deeper (PyProof.Rows.envOfC "_law_only" (defScope sOnly) s.heap.objs.size f cdv)).units + 64 < cLine := by have := hr.un; omega
    obtain ⟨D, b, n, hz, oT, hnm⟩ : ∃ D b n, Zc (.ref D) none p.2 ∧ OnlyT K D BT NL NK HE NS NW b n ∧ ((b = true ∧ n = false ∧ nm = "BadTicks") ∨ (b = false ∧ n = true ∧ nm = "NoLease")) := by
      rcases hc with ⟨h1, h2⟩ | ⟨h1, h2⟩
      · exact ⟨BT, true, false, ⟨h1, hd⟩, M.oB, .inl ⟨rfl, rfl, h2⟩⟩
      · exact ⟨NL, false, true, ⟨h1, hd⟩, M.oN, .inr ⟨rfl, rfl, h2⟩⟩
    have isP : CallR (cxH CX0 P w K mg base ["_law_error", "_law_word", "_law_words"] "_law_only" (defScope sOnly) f cdv A outer s H E p) (.builtin "isinstance") (rIsE K D p.1) := call_isP (a := p.1) (oe := p.2) oT.C (List.mem_singleton.mpr rfl) hz hf
    refine ⟨_, pss_cons (ps_set (i := 2) scO.nd rfl (Or.inl rfl) (pe_lst pa_nil))
      (pss_cons (ps_if (pt_val (pe_callB isP (by rfl) T.isi (by decide +kernel) (pa_cons (pv 0) (pa_cons (pe_glob (v := V.ref BT) (by rfl) M.gB rfl) pa_nil)))) (pss_one (ps_expr (pe_bm PySem.F.plainAttrs_list PySem.F.slot_list_append PySem.F.type_list_append mt_append (pv 2) (pa_cons pe_str pa_nil)))) pss_nil)
      (pss_cons (ps_if (pt_val (pe_callB isP (by rfl) T.isi (by decide +kernel) (pa_cons (pv 0) (pa_cons (pe_glob (v := V.ref NL) (by rfl) M.gN rfl) pa_nil)))) (pss_one (ps_expr (pe_bm PySem.F.plainAttrs_list PySem.F.slot_list_append PySem.F.type_list_append mt_append (pv 2) (pa_cons pe_str pa_nil)))) pss_nil)
      (pss_cons (ps_if (pt_val (pe_callB isP (by rfl) T.isi (by decide +kernel) (pa_cons (pv 0) (pa_cons (pe_glob (v := V.ref NK) (by rfl) M.gK rfl) pa_nil)))) (pss_one (ps_expr (pe_bm PySem.F.plainAttrs_list PySem.F.slot_list_append PySem.F.type_list_append mt_append (pv 2) (pa_cons pe_str pa_nil)))) pss_nil)
      (pss_cons (ps_if (pt_val (pe_callB isP (by rfl) T.isi (by decide +kernel) (pa_cons (pv 0) (pa_cons (pe_glob (v := V.ref HE) (by rfl) M.gH rfl) pa_nil)))) (pss_one (ps_expr (pe_bm PySem.F.plainAttrs_list PySem.F.slot_list_append PySem.F.type_list_append mt_append (pv 2) (pa_cons pe_str pa_nil)))) pss_nil)
      (pss_cons (ps_if (pt_val (pe_callB isP (by rfl) T.isi (by decide +kernel) (pa_cons (pv 0) (pa_cons (pe_glob (v := V.ref NS) (by rfl) M.gS rfl) pa_nil)))) (pss_one (ps_expr (pe_bm PySem.F.plainAttrs_list PySem.F.slot_list_append PySem.F.type_list_append mt_append (pv 2) (pa_cons pe_str pa_nil)))) pss_nil)
      (pss_cons (ps_if (pt_val (pe_callB isP (by rfl) T.isi (by decide +kernel) (pa_cons (pv 0) (pa_cons (pe_glob (v := V.ref NW) (by rfl) M.gW rfl) pa_nil)))) (pss_one (ps_expr (pe_bm PySem.F.plainAttrs_list PySem.F.slot_list_append PySem.F.type_list_append mt_append (pv 2) (pa_cons pe_str pa_nil)))) pss_nil)
      (pss_one (ps_ret (pe_and (pe_callB isP (by rfl) T.isi (by decide +kernel) (pa_cons (pv 0) (pa_cons (pe_bltn (v := V.ty "ValueError") (by rfl) T.ve (by decide +kernel) rfl) pa_nil)))
        (pe_one (pe_cmpR (op_eqD hu) (pv 2) (pe_lst (pa_cons (pv 1) pa_nil)) (nomark _)))))))))))), ?_⟩
    refine ⟨(by show 0 ≤ sizeLine; decide), fun l hl => ?_⟩
    have dl : ∀ (H' : Hp) (q : Addr) (y : Str), H' q = some (.lst [V.str y]) → Dp K H' (.ref q) (.list [.str y]) := fun H' q y e => .lst (SqL.of e) (.cons (.str _) .nil)
    have small : ([] : List V).length < sizeLine := by show 0 < sizeLine; decide
    rcases hnm with ⟨rfl, rfl, rfl⟩ | ⟨rfl, rfl, rfl⟩
    · refine ⟨_, rfl, _, _, _, rfl, (fun _ e => e), oT.k1, _, rfl, iteT ⟨_, rfl, .inl ⟨rfl, _, SqL.of upd_same⟩, l, _, _, rfl, rfl, upd_same, small, ?_⟩⟩
      refine ⟨_, rfl, _, _, _, rfl, (fun _ e => e), oT.k2, _, rfl, iteF ?_⟩
      refine ⟨_, rfl, _, _, _, rfl, (fun _ e => e), oT.k3, _, rfl, iteF ?_⟩
      refine ⟨_, rfl, _, _, _, rfl, (fun _ e => e), oT.k4, _, rfl, iteF ?_⟩
      refine ⟨_, rfl, _, _, _, rfl, (fun _ e => e), oT.k5, _, rfl, iteF ?_⟩
      refine ⟨_, rfl, _, _, _, rfl, (fun _ e => e), oT.k6, _, rfl, iteF ?_⟩
      refine ⟨_, rfl, _, _, _, rfl, (fun _ e => e), oT.kv, true, rfl, iteT ?_⟩
      refine ⟨_, rfl, _, rfl, (by show 1 ≤ sizeLine; decide), fun q hq2 => ?_⟩
      have ql : q ≠ l := fun e => by rw [e, upd_same] at hq2; cases hq2
      refine ⟨.list [.str "BadTicks"], .list [.str z], dl _ l _ (by rw [upd_ne ql.symm]; exact upd_same), dl _ q _ upd_same, (by decide +kernel), hsh, ?_⟩
      rw [hq]
      refine k _ fun b o e => ?_
      have h1 : b ≠ l := ne_of_none e hl
      have h2 : b ≠ q := ne_of_none (H := upd (upd H l (.lst [])) l (.lst ([] ++ [V.str "BadTicks"]))) (by rw [upd_ne h1, upd_ne h1]; exact e) hq2
      rw [upd_ne h2, upd_ne h1, upd_ne h1]
      exact e
    · refine ⟨_, rfl, _, _, _, rfl, (fun _ e => e), oT.k1, _, rfl, iteF ?_⟩
      refine ⟨_, rfl, _, _, _, rfl, (fun _ e => e), oT.k2, _, rfl, iteT ⟨_, rfl, .inl ⟨rfl, _, SqL.of upd_same⟩, l, _, _, rfl, rfl, upd_same, small, ?_⟩⟩
      refine ⟨_, rfl, _, _, _, rfl, (fun _ e => e), oT.k3, _, rfl, iteF ?_⟩
      refine ⟨_, rfl, _, _, _, rfl, (fun _ e => e), oT.k4, _, rfl, iteF ?_⟩
      refine ⟨_, rfl, _, _, _, rfl, (fun _ e => e), oT.k5, _, rfl, iteF ?_⟩
      refine ⟨_, rfl, _, _, _, rfl, (fun _ e => e), oT.k6, _, rfl, iteF ?_⟩
      refine ⟨_, rfl, _, _, _, rfl, (fun _ e => e), oT.kv, true, rfl, iteT ?_⟩
      refine ⟨_, rfl, _, rfl, (by show 1 ≤ sizeLine; decide), fun q hq2 => ?_⟩
      have ql : q ≠ l := fun e => by rw [e, upd_same] at hq2; cases hq2
      refine ⟨.list [.str "NoLease"], .list [.str z], dl _ l _ (by rw [upd_ne ql.symm]; exact upd_same), dl _ q _ upd_same, (by decide +kernel), hsh, ?_⟩
      rw [hq]
      refine k _ fun b o e => ?_
      have h1 : b ≠ l := ne_of_none e hl
      have h2 : b ≠ q := ne_of_none (H := upd (upd H l (.lst [])) l (.lst ([] ++ [V.str "NoLease"]))) (by rw [upd_ne h1, upd_ne h1]; exact e) hq2
      rw [upd_ne h2, upd_ne h1, upd_ne h1]
      exact e
end
end K1

namespace K1
open PySem L2 L2H LX
/-! ### the deeds, as plain functions -/
inductive Wd where
  | grant | renew | drop
def Wd.s : Wd → Str
  | .grant => "grant"
  | .renew => "renew"
  | .drop => "drop"
def res (w : Wd) (now num : Int) (G : List Int) (E : Al) : V × List Int × Al := match w with
  | .grant => if num < 1 ∨ 1000000 < num then (.str "BadTicks", G, E) else (.int ((G.length : Int) + 1), G ++ [num], aput E ((G.length : Int) + 1) (now + num))
  | .renew => match aget E num with
    | none => (.str "NoLease", G, E)
    | some _ => (.non, G, aput E num (now + G.getD (num - 1).toNat 0))
  | .drop => match aget E num with
    | none => (.str "NoLease", G, E)
    | some _ => (.non, G, adrop E num)
structure J (G : List Int) (T E : Al) : Prop where
  ndT : NDup T
  ndE : NDup E
  has : ∀ k v, aget E k = some v → ∃ j : Nat, k = (j : Int) + 1 ∧ ∃ t, G[j]? = some t ∧ aget T k = some t
theorem J.start : J [] [] [] := ⟨List.nodup_nil, List.nodup_nil, fun k v h => by cases h⟩
theorem J.grant {G : List Int} {T E : Al} (h : J G T E) (num e : Int) : J (G ++ [num]) (aput T ((G.length : Int) + 1) num) (aput E ((G.length : Int) + 1) e) := by
  refine ⟨nd_aput _ _ h.ndT, nd_aput _ _ h.ndE, fun k v hk => ?_⟩
  rw [aget_put] at hk
  by_cases c : k = (G.length : Int) + 1
  · refine ⟨G.length, c, num, by simp, ?_⟩
    rw [aget_put, if_pos c]
  · rw [if_neg c] at hk
    obtain ⟨j, e1, t, e2, e3⟩ := h.has k v hk
    have hj : j < G.length := (List.getElem?_eq_some_iff.mp e2).1
    refine ⟨j, e1, t, ?_, ?_⟩
    · rw [List.getElem?_append_left hj]; exact e2
    · rw [aget_put, if_neg c]; exact e3
theorem J.renew {G : List Int} {T E : Al} (h : J G T E) {k : Int} (e : Int) (hs : (aget E k).isSome = true) : J G T (aput E k e) := by
  refine ⟨h.ndT, nd_aput _ _ h.ndE, fun j v hj => ?_⟩
  rw [aget_put] at hj
  by_cases c : j = k
  · subst c
    obtain ⟨x, hx⟩ := Option.isSome_iff_exists.mp hs
    exact h.has j x hx
  · rw [if_neg c] at hj
    exact h.has j v hj
theorem J.drop {G : List Int} {T E : Al} (h : J G T E) (k : Int) : J G (adrop T k) (adrop E k) := by
  refine ⟨nd_adrop _ h.ndT, nd_adrop _ h.ndE, fun j v hj => ?_⟩
  obtain ⟨h1, h2⟩ := aget_drop h.ndE hj
  obtain ⟨i, e1, t, e2, e3⟩ := h.has j v h1
  exact ⟨i, e1, t, e2, aget_drop_ne h.ndT e3 h2⟩
theorem J.tick {G : List Int} {T E : Al} (h : J G T E) {k v : Int} (hk : aget E k = some v) : aget T k = some (G.getD (k - 1).toNat 0) := by
  obtain ⟨j, e1, t, e2, e3⟩ := h.has k v hk
  have z : (k - 1).toNat = j := by omega
  rw [z, List.getD_eq_getElem?_getD, e2]
  exact e3
theorem LotAt.same {C : Addr} {H H' : Hp} {p dt de : Addr} {n : Int} {T E : Al} (L : LotAt C H p dt de n T E) (s : Same H H') : LotAt C H' p dt de n T E :=
  ⟨let ⟨dx, h⟩ := L.ob; ⟨dx, s _ _ h⟩, s _ _ L.tk, s _ _ L.en, L.ne⟩
def spTold (C : Addr) : Sp := fun vs H Q _ => ∃ (p dt de : Addr) (w : Wd) (now num : Int) (G : List Int) (T E : Al), vs = [.ref p, .str w.s, .int now, .int num] ∧ LotAt C H p dt de G.length T E ∧ J G T E ∧ T.length ≤ 900 ∧ E.length ≤ 900 ∧
  ∀ H' T', LotAt C H' p dt de (res w now num G E).2.1.length T' (res w now num G E).2.2 → J (res w now num G E).2.1 T' (res w now num G E).2.2 → T'.length ≤ T.length + 1 → But H H' [p, dt, de] → Q (res w now num G E).1 H'
section
variable {P : Program} {w : World} {K : PySem.W.Frag} {mg : Str → Option Value} {base : Heap}
theorem scTo : FnScope ["_law_lot", "_law_word", "_law_now", "_law_number", "_law_error"] ["_law_lot", "_law_word", "_law_now", "_law_number"] (defScope sTold) := ⟨rfl, rfl, rfl, by decide +kernel, rfl, by decide +kernel, by decide +kernel⟩
theorem nGr : ¬ (("grant" : Str) = "_given") ∧ ¬ (("grant" : Str) = "_ticks") ∧ ¬ (("grant" : Str) = "_ends") := by decide +kernel
theorem nRe : ¬ (("renew" : Str) = "_given") ∧ ¬ (("renew" : Str) = "_ticks") ∧ ¬ (("renew" : Str) = "_ends") := by decide +kernel
theorem nDr : ¬ (("drop" : Str) = "_given") ∧ ¬ (("drop" : Str) = "_ticks") ∧ ¬ (("drop" : Str) = "_ends") := by decide +kernel
theorem shapedB : SeqAt.shaped (.list [.str "BadTicks"]) = true := by decide +kernel
theorem shapedN : SeqAt.shaped (.list [.str "NoLease"]) = true := by decide +kernel
theorem eqBB : PyData.eqv (.list [.str "BadTicks"]) (.list [.str "BadTicks"]) = true := by decide +kernel
theorem eqNN : PyData.eqv (.list [.str "NoLease"]) (.list [.str "NoLease"]) = true := by decide +kernel
theorem eqNB : PyData.eqv (.list [.str "NoLease"]) (.list [.str "BadTicks"]) = false := by decide +kernel
/-- what stands behind the defs that the law's own call -/
structure Meths (P : Program) (w : World) (K : PySem.W.Frag) (mg : Str → Option Value) (base : Heap) (C BT NL : Addr) : Prop where
  grant : ∃ f fd, Meth K C "grant" f ∧ Binds K fd ["self", "now", "ticks"] [] ∧ FnOk P w K mg base (L2.CX P w) 1 f fd ["self", "now", "ticks"] (spGrant C BT)
  renew : ∃ f fd, Meth K C "renew" f ∧ Binds K fd ["self", "now", "lease"] [] ∧ FnOk P w K mg base (L2.CX P w) 2 f fd ["self", "now", "lease"] (spRenew C NL)
  drop : ∃ f fd, Meth K C "drop" f ∧ Binds K fd ["self", "lease"] [] ∧ FnOk P w K mg base (L2.CX P w) 2 f fd ["self", "lease"] (spDrop C NL)
  due : ∃ f fd, Meth K C "due" f ∧ Binds K fd ["self", "until"] [] ∧ FnOk P w K mg base CX0 1 f fd ["self", "until"] (spDue C)
theorem ok_told {f fO C LE BT NL NK HE NS NW : Addr} {fd fdO : FuncData} (F : Fun K "_law_told" "_law_told" sTold f fd) (T : Txt K mg C) (M : Errs K mg LE BT NL NK HE NS NW) (MM : Meths P w K mg base C BT NL)
    (FO : FnP P w K mg base 1 fO fdO ["_law_error", "_law_word"] (spOnly BT NL)) (gO : mg "_law_only" = some (.ref fO)) (kO : PySem.W.keepIn K (.ref fO) = true) (bO : Binds K fdO ["_law_error", "_law_word"] []) :
    FnOk P w K mg base CX0 3 f fd ["_law_lot", "_law_word", "_law_now", "_law_number"] (spTold C) := by
  obtain ⟨fG, fdG, mG, bG, GG⟩ := MM.grant
  obtain ⟨fR, fdR, mR, bR, GR⟩ := MM.renew
  obtain ⟨fD, fdD, mD, bD, GD⟩ := MM.drop
  refine F.ok scTo (fun vs H Q E h => ?_) (fun cdv A outer s H vs Q E hr h => ?_)
  · obtain ⟨p, dt, de, w, now, num, G, T, E, rfl, _⟩ := h
    rfl
  · obtain ⟨p, dt, de, wd, now, num, G, T1, En, rfl, L, hJ, l1, l2, k⟩ := h
    have hr1 : Room 1 _ := hr.mono (by decide)
    obtain ⟨⟨dx, hp⟩, ht, he, nte⟩ := id L
    refine ⟨_, pss_one (ps_try_as (i := 4) rfl rfl scTo.nd rfl rfl ⟨rfl, by decide, .inl M.gL⟩ takes0
      (fun W pn xe tk _ => pss_cons (ps_if (pt_cmpR op_eq (pv 1) pe_str (nomark _)) (pss_one (ps_ret (pe_methE (E := WE W) (pv 0) T.cl mG GG hr1 bG (fun σ => passAt tk σ) (pa_cons (pv 2) (pa_cons (pv 3) pa_nil))))) pss_nil)
        (pss_cons (ps_if (pt_cmpR op_eq (pv 1) pe_str (nomark _)) (pss_one (ps_ret (pe_methE (E := WE W) (pv 0) T.cl mR GR hr bR (fun σ => passAt tk σ) (pa_cons (pv 2) (pa_cons (pv 3) pa_nil))))) pss_nil)
        (pss_one (ps_ret (pe_methE (E := WE W) (pv 0) T.cl mD GD hr bD (fun σ => passAt tk σ) (pa_cons (pv 3) pa_nil))))))
      (ts := fun a cls d => tSeq (tForLP K (tLst (tCons (tC (.str "BadTicks")) (tCons (tC (.str "NoLease")) tNil))) (gName 1) (tIfS (tB (tCallP (spO BT NL a cls d) (tCons (tVar 4) (tCons (tVar 1) tNil)))) (tRet (tVar 1)) tNext)) (tRet (tC (.str "another refusal"))))
      (fun a oe cls d pn hz hf => ?_)), ?_⟩
    · obtain ⟨rfl, rfl⟩ := hz

      exact pss_cons (ps_forLP PassesOwn.never (pe_lst (pa_cons pe_str (pa_cons pe_str pa_nil))) (pg_name (i := 1) scTo.nd rfl (Or.inl rfl) (Or.inr rfl))
        (pss_one (ps_if (pt_val (pe_callP (sp := spOnly BT NL) (p := (a, oe)) FO ⟨hr1.dp, hr1.un⟩ List.mem_cons_self hf (by rfl) gO kO bO (pa_cons (pv 4) (pa_cons (pv 1) pa_nil)))) (pss_one (ps_ret (pv 1))) pss_nil)))
        (pss_one (ps_ret pe_str))
    · -- what each refusal comes to
      have two : (2 : Nat) ≤ sizeLine := by decide
      have sB : ∀ (x1 : Option V), (∀ H', Same H H' → Q (.str "BadTicks") H') → wAs K (.ref LE) 4 (fun a cls d => tSeq (tForLP K (tLst (tCons (tC (.str "BadTicks")) (tCons (tC (.str "NoLease")) tNil))) (gName 1) (tIfS (tB (tCallP (spO BT NL a cls d) (tCons (tVar 4) (tCons (tVar 1) tNil)))) (tRet (tVar 1)) tNext)) (tRet (tC (.str "another refusal")))) (fun _ _ _ _ => False) { nx := fun _ H' => Q .non H', rt := Q } (.ref BT) none [some (.ref p), x1, some (.int now), some (.int num), none] H := fun x1 q => by
        refine ⟨true, M.eB, fun _ a ha => ?_, fun z => nomatch z⟩
        refine ⟨two, fun l hl => ⟨l, _, rfl, SqL.of upd_same, fun i σ H' => i = 0 ∧ σ = [some (.ref p), x1, some (.int now), some (.int num), some (.ref a)] ∧ H' = upd H l (.lst [.str "BadTicks", .str "NoLease"]), ⟨rfl, rfl, rfl⟩, ?_⟩⟩
        rintro i σ H' ⟨rfl, rfl, rfl⟩
        refine ⟨SqL.of upd_same, _, rfl, _, rfl, _, rfl, _, _, _, rfl, rfl, .inl ⟨rfl, rfl⟩, shapedB, eqBB, fun H' hs => ⟨_, rfl, iteT ⟨_, rfl, q _ fun b o e => hs _ _ (by rw [upd_ne (ne_of_none e hl)]; exact e)⟩⟩⟩
      have sN : ∀ (x1 : Option V), (∀ H', Same H H' → Q (.str "NoLease") H') → wAs K (.ref LE) 4 (fun a cls d => tSeq (tForLP K (tLst (tCons (tC (.str "BadTicks")) (tCons (tC (.str "NoLease")) tNil))) (gName 1) (tIfS (tB (tCallP (spO BT NL a cls d) (tCons (tVar 4) (tCons (tVar 1) tNil)))) (tRet (tVar 1)) tNext)) (tRet (tC (.str "another refusal")))) (fun _ _ _ _ => False) { nx := fun _ H' => Q .non H', rt := Q } (.ref NL) none [some (.ref p), x1, some (.int now), some (.int num), none] H := fun x1 q => by
        refine ⟨true, M.eN, fun _ a ha => ?_, fun z => nomatch z⟩
        refine ⟨two, fun l hl => ⟨l, _, rfl, SqL.of upd_same, fun i σ H' => (i = 0 ∨ i = 1) ∧ (∃ y, σ = [some (.ref p), y, some (.int now), some (.int num), some (.ref a)]) ∧ Same (upd H l (.lst [.str "BadTicks", .str "NoLease"])) H', ⟨.inl rfl, ⟨_, rfl⟩, Same.refl _⟩, ?_⟩⟩
        rintro i σ H' ⟨hi, ⟨y, rfl⟩, hs⟩
        refine ⟨SqL.of (hs _ _ upd_same), ?_⟩
        rcases hi with rfl | rfl
        · refine ⟨_, rfl, _, rfl, _, rfl, _, _, _, rfl, rfl, .inr ⟨rfl, rfl⟩, shapedB, eqNB, fun H2 hs2 => ⟨_, rfl, iteF ⟨.inr rfl, ⟨_, rfl⟩, hs.trans hs2⟩⟩⟩
        · refine ⟨_, rfl, _, rfl, _, rfl, _, _, _, rfl, rfl, .inr ⟨rfl, rfl⟩, shapedN, eqNN, fun H2 hs2 => ⟨_, rfl, iteT ⟨_, rfl, q _ fun b o e => hs2 _ _ (hs _ _ (by rw [upd_ne (ne_of_none e hl)]; exact e))⟩⟩⟩
      have keep : ∀ {r : V}, (res wd now num G En) = (r, G, En) → ∀ H', Same H H' → Q r H' := fun {r} e H' hs => by
        have k' := k H' T1
        rw [e] at k'
        exact k' (L.same hs) hJ (Nat.le_succ _) (Same.but hs _)
      cases wd with
      | grant =>
        refine ⟨_, rfl, rfl, _, rfl, ite2 (fun _ => ?_) fun z => absurd (by decide +kernel) z⟩
        refine ⟨_, rfl, p, dx, _, rfl, hp, flds_no _ _ _ nGr.1 nGr.2.1 nGr.2.2, _, rfl, _, rfl, p, dt, de, _, now, num, T1, En, rfl, L, l1, l2, fun bad => ?_, fun g1 g2 H' L' B' => ?_⟩
        · exact sB _ (keep (if_pos bad))
        · have e : res .grant now num G En = (.int ((G.length : Int) + 1), G ++ [num], aput En ((G.length : Int) + 1) (now + num)) := if_neg (by omega)
          have k' := k H' (aput T1 ((G.length : Int) + 1) num)
          rw [e] at k'
          refine k' ?_ (hJ.grant num _) (len_put _ _ _) B'
          have el : (((G ++ [num]).length : Nat) : Int) = (G.length : Int) + 1 := by rw [List.length_append]; simp
          show LotAt C H' p dt de (((G ++ [num]).length : Nat) : Int) _ _
          rw [el]
          exact L'
      | renew =>
        refine ⟨_, rfl, rfl, _, rfl, ite2 (fun z => absurd z (by decide +kernel)) fun _ => ?_⟩
        refine ⟨_, rfl, rfl, _, rfl, ite2 (fun _ => ?_) fun z => absurd (by decide +kernel) z⟩
        refine ⟨_, rfl, p, dx, _, rfl, hp, flds_no _ _ _ nRe.1 nRe.2.1 nRe.2.2, _, rfl, _, rfl, p, dt, de, _, now, num, T1, En, rfl, L, l2, fun bad => ?_, fun g1 => ?_⟩
        · refine sN _ (keep ?_)
          unfold res
          rw [bad]
        · obtain ⟨v, hv⟩ := Option.isSome_iff_exists.mp g1
          refine ⟨_, hJ.tick hv, fun H' L' B' => ?_⟩
          have e : res .renew now num G En = (.non, G, aput En num (now + G.getD (num - 1).toNat 0)) := by
            unfold res
            rw [hv]
          have k' := k H' T1
          rw [e] at k'
          exact k' L' (hJ.renew _ g1) (Nat.le_succ _) B'
      | drop =>
        refine ⟨_, rfl, rfl, _, rfl, ite2 (fun z => absurd z (by decide +kernel)) fun _ => ?_⟩
        refine ⟨_, rfl, rfl, _, rfl, ite2 (fun z => absurd z (by decide +kernel)) fun _ => ?_⟩
        refine ⟨_, rfl, p, dx, _, rfl, hp, flds_no _ _ _ nDr.1 nDr.2.1 nDr.2.2, _, rfl, p, dt, de, _, num, T1, En, rfl, L, fun bad => ?_, fun g1 => ?_⟩
        · refine sN _ (keep ?_)
          unfold res
          rw [bad]
        · obtain ⟨v, hv⟩ := Option.isSome_iff_exists.mp g1
          refine ⟨by rw [hJ.tick hv]; rfl, fun H' L' B' => ?_⟩
          have e : res .drop now num G En = (.non, G, adrop En num) := by
            unfold res
            rw [hv]
          have k' := k H' (adrop T1 num)
          rw [e] at k'
          exact k' L' (hJ.drop _) (Nat.le_trans (len_drop _ _) (Nat.le_succ _)) B'
end
end K1

namespace K1
open PySem L2 L2H LX
def mineD (g e t : Addr) : List (Key × V) := [(Sum.inr "given", .ref g), (Sum.inr "ends", .ref e), (Sum.inr "told", .ref t)]
theorem inr_ne {a b : Str} (h : ¬ a = b) : ¬ ((Sum.inr a : Key) = Sum.inr b) := fun e => h (Sum.inr.inj e)
theorem w_ge : ¬ (("given" : Str) = "ends") := by decide +kernel
theorem w_gt : ¬ (("given" : Str) = "told") := by decide +kernel
theorem w_et : ¬ (("ends" : Str) = "told") := by decide +kernel
theorem mine_g (g e t : Addr) : valV (mineD g e t) (Sum.inr "given") = some (.ref g) := valV_pos rfl
theorem mine_e (g e t : Addr) : valV (mineD g e t) (Sum.inr "ends") = some (.ref e) := by
  unfold mineD
  rw [valV_neg (inr_ne w_ge), valV_pos rfl]
theorem mine_t (g e t : Addr) : valV (mineD g e t) (Sum.inr "told") = some (.ref t) := by
  unfold mineD
  rw [valV_neg (inr_ne w_gt), valV_neg (inr_ne w_et), valV_pos rfl]
theorem mine_put (g e t t' : Addr) : putK (mineD g e t) (Sum.inr "told") (.ref t') = mineD g e t' := by
  unfold putK
  rw [valV_any, mine_t, if_pos (show (some (V.ref t)).isSome = true from rfl)]
  unfold mineD
  simp only [List.map_cons, List.map_nil, if_neg (inr_ne w_gt), if_neg (inr_ne w_et), if_pos]
structure MineAt (H : Hp) (m g e t : Addr) (G : List Int) (E : Al) : Prop where
  di : H m = some (.dK (mineD g e t))
  gi : H g = some (.lst (G.map V.int))
  en : H e = some (.dK (kv E))
  to : H t = some (.lst [])
  me : m ≠ e
  gt : g ≠ t
theorem MineAt.gG {H : Hp} {m g e t : Addr} {G : List Int} {E : Al} (M : MineAt H m g e t G E) : DGet H m (.str "given") (some (.ref g)) := by
  have h := DGet.k (k := Sum.inr "given") M.di
  rw [mine_g] at h
  exact h
theorem MineAt.gE {H : Hp} {m g e t : Addr} {G : List Int} {E : Al} (M : MineAt H m g e t G E) : DGet H m (.str "ends") (some (.ref e)) := by
  have h := DGet.k (k := Sum.inr "ends") M.di
  rw [mine_e] at h
  exact h
theorem MineAt.gT {H : Hp} {m g e t : Addr} {G : List Int} {E : Al} (M : MineAt H m g e t G E) : DGet H m (.str "told") (some (.ref t)) := by
  have h := DGet.k (k := Sum.inr "told") M.di
  rw [mine_t] at h
  exact h
theorem MineAt.same {H H' : Hp} {m g e t : Addr} {G : List Int} {E : Al} (M : MineAt H m g e t G E) (s : Same H H') : MineAt H' m g e t G E :=
  ⟨s _ _ M.di, s _ _ M.gi, s _ _ M.en, s _ _ M.to, M.me, M.gt⟩
theorem MineAt.putE {H : Hp} {m g e t : Addr} {G : List Int} {E E' : Al} (M : MineAt H m g e t G E) : MineAt (upd H e (.dK (kv E'))) m g e t G E' :=
  ⟨by rw [upd_ne M.me]; exact M.di, by rw [upd_ne (ne_of M.gi M.en (by intro z; cases z))]; exact M.gi, upd_same, by rw [upd_ne (ne_of M.to M.en (by intro z; cases z))]; exact M.to, M.me, M.gt⟩
theorem MineAt.putG {H : Hp} {m g e t : Addr} {G G' : List Int} {E : Al} (M : MineAt H m g e t G E) : MineAt (upd H g (.lst (G'.map V.int))) m g e t G' E :=
  ⟨by rw [upd_ne (ne_of M.di M.gi (by intro z; cases z))]; exact M.di, upd_same, by rw [upd_ne (ne_of M.en M.gi (by intro z; cases z))]; exact M.en, by rw [upd_ne M.gt.symm]; exact M.to, M.me, M.gt⟩
def spLdue : Sp := fun vs H Q _ => ∃ (m g e t : Addr) (w : Wd) (now num : Int) (G : List Int) (T E : Al), vs = [.ref m, .str w.s, .int now, .int num] ∧ MineAt H m g e t G E ∧ J G T E ∧ G.length ≤ 900 ∧ E.length ≤ 900 ∧
  ∀ H', MineAt H' m g e t (res w now num G E).2.1 (res w now num G E).2.2 → But H H' [g, e] → Q (res w now num G E).1 H'
theorem at_getD {G : List Int} {j : Nat} {t : Int} (h : G[j]? = some t) : atI (G.map V.int) ((j : Int) + 1 - 1) = some (.int t) := by
  have e : (j : Int) + 1 - 1 = (j : Int) := by omega
  rw [e]
  exact atI_nat (by rw [List.getElem?_map, h]; rfl)
section
variable {P : Program} {w : World} {K : PySem.W.Frag} {mg : Str → Option Value} {base : Heap}
theorem scLd : FnScope ["_law_lot", "_law_word", "_law_now", "_law_number"] ["_law_lot", "_law_word", "_law_now", "_law_number"] (defScope sLdue) := ⟨rfl, rfl, rfl, by decide +kernel, rfl, by decide +kernel, by decide +kernel⟩
theorem ok_ldue {f : Addr} {fd : FuncData} (F : Fun K "_law_due" "_law_due" sLdue f fd) (T : LTxt mg) : FnOk P w K mg base CX0 1 f fd ["_law_lot", "_law_word", "_law_now", "_law_number"] spLdue := by
  refine F.ok scLd (fun vs H Q E h => ?_) (fun cdv A outer s H vs Q E hr h => ?_)
  · obtain ⟨m, g, e, t, w, now, num, G, T, E, rfl, _⟩ := h
    rfl
  · obtain ⟨m, g, e, t, wd, now, num, G, T1, En, rfl, M, hJ, l1, l2, k⟩ := h
    have hu := hu_of hr
    refine ⟨_, pss_cons (ps_if (pt_cmpR op_eq (pv 1) pe_str (nomark _))
        (pss_cons (ps_if (PW.pt (pw_or (pt_cmpR op_lt (pv 3) pe_int (nomark _)) (pw_or1 (pt_cmpR op_gt (pv 3) pe_int (nomark _))))) (pss_one (ps_ret pe_str)) pss_nil)
        (pss_cons (ps_expr (pe_bm PySem.F.plainAttrs_list PySem.F.slot_list_append PySem.F.type_list_append mt_append (pe_dget hu (pv 0) pe_str (fun _ _ => rfl)) (pa_cons (pv 3) pa_nil)))
        (pss_cons (ps_dput hu (pe_dget hu (pv 0) pe_str (fun _ _ => rfl)) (pe_callB call_len_seq (by rfl) T.len PySem.boot_len (pa_cons (pe_dget hu (pv 0) pe_str (fun _ _ => rfl)) pa_nil)) (pe_op op_add (pv 2) (pv 3)) rfl)
        (pss_one (ps_ret (pe_callB call_len_seq (by rfl) T.len PySem.boot_len (pa_cons (pe_dget hu (pv 0) pe_str (fun _ _ => rfl)) pa_nil))))))) pss_nil)
      (pss_cons (ps_if (pt_cmp (pc_dnotin hu (pv 3) (pe_dget hu (pv 0) pe_str (fun _ _ => rfl)))) (pss_one (ps_ret pe_str)) pss_nil)
      (pss_cons (ps_if (pt_cmpR op_eq (pv 1) pe_str (nomark _))
        (pss_one (ps_dput hu (pe_dget hu (pv 0) pe_str (fun _ _ => rfl)) (pv 3) (pe_op op_add (pv 2) (pe_ix ix_list (pe_dget hu (pv 0) pe_str (fun _ _ => rfl)) (pe_op op_sub (pv 3) pe_int) (fun _ _ => rfl))) rfl))
        (pss_one (ps_expr (pe_dpop1 (pe_dget hu (pv 0) pe_str (fun _ _ => rfl)) (pv 3) ⟨rfl, rfl, rfl, rfl⟩))))
      (pss_one (ps_ret pe_non)))), ?_⟩
    have keep : ∀ {r : V}, (res wd now num G En) = (r, G, En) → Q r H := fun {r} e => by
      have k' := k H
      rw [e] at k'
      exact k' M (But.refl _ _)
    cases wd with
    | grant =>
      refine ⟨_, rfl, rfl, _, rfl, ite2 (fun _ => ?_) fun z => absurd (by decide +kernel) z⟩
      refine ⟨_, rfl, _, _, rfl, rfl, _, rfl, ?_⟩
      by_cases c1 : num < 1
      · rw [decide_eq_true c1]
        exact iteT (iteT (keep (if_pos (.inl c1))))
      rw [decide_eq_false c1]
      refine iteF ⟨_, rfl, _, _, rfl, rfl, _, rfl, ?_⟩
      by_cases c2 : num > 1000000
      · rw [decide_eq_true c2]
        exact iteT (keep (if_pos (.inr c2)))
      rw [decide_eq_false c2]
      refine iteF ?_
      have e1 : res .grant now num G En = (.int ((G.length : Int) + 1), G ++ [num], aput En ((G.length : Int) + 1) (now + num)) := if_neg (by omega)
      have el : (((G ++ [num]).length : Nat) : Int) = (G.length : Int) + 1 := by rw [List.length_append]; simp
      refine ⟨_, rfl, m, _, rfl, M.gG, .inl ⟨rfl, _, SqL.of M.gi⟩, _, rfl, g, _, _, rfl, rfl, M.gi, (by rw [List.length_map]; exact small1000 (by omega)), ?_⟩
      have ea : G.map V.int ++ [V.int num] = (G ++ [num]).map V.int := by rw [List.map_append]; rfl
      rw [ea]
      have M1 : MineAt (upd H g (.lst ((G ++ [num]).map V.int))) m g e t (G ++ [num]) En := M.putG
      refine ⟨_, rfl, _, rfl, _, _, rfl, rfl, _, rfl, m, _, rfl, M1.gE, ?_⟩
      refine ⟨_, rfl, m, _, rfl, M1.gG, g, _, rfl, .inl (SqL.of M1.gi), e, _, rfl, DPut.k (k := Sum.inl _) M1.en (small900 l2), ?_⟩
      rw [put_kv, List.length_map, el]
      have M2 : MineAt (upd (upd H g (.lst ((G ++ [num]).map V.int))) e (.dK (kv (aput En ((G.length : Int) + 1) (now + num))))) m g e t (G ++ [num]) (aput En ((G.length : Int) + 1) (now + num)) := M1.putE
      refine ⟨_, rfl, m, _, rfl, M2.gG, g, _, rfl, .inl (SqL.of M2.gi), ?_⟩
      rw [List.length_map, el]
      have k' := k (upd (upd H g (.lst ((G ++ [num]).map V.int))) e (.dK (kv (aput En ((G.length : Int) + 1) (now + num)))))
      rw [e1] at k'
      exact k' M2 (((But.refl _ _).upd (by simp)).upd (by simp))
    | renew =>
      refine ⟨_, rfl, rfl, _, rfl, ite2 (fun z => absurd z (by decide +kernel)) fun _ => ?_⟩
      refine ⟨_, rfl, _, rfl, m, _, rfl, M.gE, e, _, rfl, DGet.k (k := Sum.inl num) M.en, _, rfl, ?_⟩
      rw [valV_kv]
      cases hv : aget En num with
      | none =>
        refine iteT (keep ?_)
        unfold res
        rw [hv]
      | some v =>
        refine iteF ?_
        obtain ⟨j, ej, tt, hj, _⟩ := hJ.has num v hv
        subst ej
        have e1 : res .renew now ((j : Int) + 1) G En = (.non, G, aput En ((j : Int) + 1) (now + tt)) := by
          unfold res
          rw [hv]
          have z : ((j : Int) + 1 - 1).toNat = j := by omega
          show (V.non, G, aput En ((j : Int) + 1) (now + G.getD ((j : Int) + 1 - 1).toNat 0)) = _
          rw [z, List.getD_eq_getElem?_getD, hj]
          rfl
        refine ⟨_, rfl, rfl, _, rfl, ite2 (fun _ => ?_) fun z => absurd (by decide +kernel) z⟩
        refine ⟨_, rfl, _, rfl, m, _, rfl, M.gG, _, rfl, _, _, rfl, rfl, g, _, _, _, rfl, rfl, SqL.of M.gi, at_getD hj, _, _, rfl, rfl, ?_⟩
        refine ⟨_, rfl, m, _, rfl, M.gE, _, rfl, e, _, rfl, DPut.k (k := Sum.inl _) M.en (small900 l2), ?_⟩
        rw [put_kv]
        have k' := k (upd H e (.dK (kv (aput En ((j : Int) + 1) (now + tt)))))
        rw [e1] at k'
        exact k' M.putE ((But.refl _ _).upd (by simp))
    | drop =>
      refine ⟨_, rfl, rfl, _, rfl, ite2 (fun z => absurd z (by decide +kernel)) fun _ => ?_⟩
      refine ⟨_, rfl, _, rfl, m, _, rfl, M.gE, e, _, rfl, DGet.k (k := Sum.inl num) M.en, _, rfl, ?_⟩
      rw [valV_kv]
      cases hv : aget En num with
      | none =>
        refine iteT (keep ?_)
        unfold res
        rw [hv]
      | some v =>
        refine iteF ?_
        have e1 : res .drop now num G En = (.non, G, adrop En num) := by
          unfold res
          rw [hv]
        refine ⟨_, rfl, rfl, _, rfl, ite2 (fun z => absurd z (by decide +kernel)) fun _ => ?_⟩
        refine ⟨_, rfl, m, _, rfl, M.gE, e, rfl, .inl ⟨_, .of M.en⟩, _, rfl, _, Sum.inl num, .int v, M.en, rfl, (by rw [valV_kv, hv]; rfl), ?_⟩
        rw [drop_kv]
        have k' := k (upd H e (.dK (kv (adrop En num))))
        rw [e1] at k'
        exact k' M.putE ((But.refl _ _).upd (by simp))
end
end K1

namespace K1
open PySem L2 L2H LX
/-! ### pairs as data -/
def pD (p : Int × Int) : PyData := .tuple [.int p.1, .int p.2]
theorem pD_lay : ∀ ps : Al, PyData.canLayAll0 (ps.map pD) = true
  | [] => rfl
  | p :: r => by
    show ((pD p).canLay0 && PyData.canLayAll0 (r.map pD)) = true
    rw [pD_lay r, Bool.and_true]
    rfl
theorem pD_depth : ∀ ps : Al, PyData.depthAll (ps.map pD) ≤ 2
  | [] => by simp [PyData.depthAll]
  | p :: r => by
    have h := pD_depth r
    simp only [List.map_cons, PyData.depthAll, pD, PyData.depth]
    omega
theorem pD_shaped (ps : Al) : SeqAt.shaped (.list (ps.map pD)) = true := by
  have h := pD_depth ps
  unfold SeqAt.shaped
  rw [Bool.and_eq_true]
  refine ⟨pD_lay ps, decide_eq_true ?_⟩
  simp only [PyData.depth]
  omega
theorem pD_eqv (ps : Al) : PyData.eqv (.list (ps.map pD)) (.list (ps.map pD)) = true := PySem.SeqAt.eqv_refl _ (pD_lay ps)
theorem Tups.dp {K : PySem.W.Frag} {H : Hp} : ∀ {ts : List Addr} {ps : Al}, Tups H ts ps → DpAll K H (ts.map V.ref) (ps.map pD)
  | _, _, .nil => .nil
  | _, _, .cons r m => .cons (.tup (.inl (.inl r)) (.cons (.int _) (.cons (.int _) .nil))) (Tups.dp m)
theorem Tups.at {H : Hp} : ∀ {ts : List Addr} {ps : Al} {i : Nat} {x : V}, Tups H ts ps → (ts.map V.ref)[i]? = some x → ∃ t a b, x = V.ref t ∧ H t = some (.tup [.int a, .int b])
  | _, _, i, x, .nil, h => by simp at h
  | _, _, 0, x, .cons r m, h => by
    have e : x = V.ref _ := (Option.some.inj h).symm
    exact ⟨_, _, _, e, r⟩
  | _, _, i + 1, x, .cons r m, h => Tups.at (i := i) m h
def spEnd : Sp := fun vs H Q _ => ∃ (f m g e t : Addr) (u : Int) (G : List Int) (E : Al) (ts : List Addr) (ps : Al), vs = [.ref f, .ref m, .int u] ∧ MineAt H m g e t G E ∧ NDup E ∧ E.length ≤ 900 ∧
  H f = some (.lst (ts.map V.ref)) ∧ Tups H ts ps ∧ Asc ps ∧ ps.Perm (dueL E u) ∧ f ≠ g ∧
  ∀ H', MineAt H' m g e f G E → But H H' [m, f] → Q (.bl true) H'
section
variable {P : Program} {w : World} {K : PySem.W.Frag} {mg : Str → Option Value} {base : Heap}
abbrev nEnd : List Str := ["_law_found", "_law_lot", "_law_until", "_law_due_here", "_law_one", "_law_good", "_law_lease"]
theorem scEn : FnScope nEnd ["_law_found", "_law_lot", "_law_until"] (defScope sEnding) := ⟨rfl, rfl, rfl, by decide +kernel, rfl, by decide +kernel, by decide +kernel⟩
theorem ok_ending {f fW : Addr} {fd fdW : FuncData} (F : Fun K "_law_ending" "_law_ending" sEnding f fd) (T : LTxt mg)
    (GW : FnOk P w K mg base CX0 1 fW fdW ["_law_found"] spWhole) (gW : mg "_law_whole" = some (.ref fW)) (kW : PySem.W.keepIn K (.ref fW) = true) (bW : Binds K fdW ["_law_found"] []) :
    FnOk P w K mg base CX0 2 f fd ["_law_found", "_law_lot", "_law_until"] spEnd := by
  refine F.ok scEn (fun vs H Q E h => ?_) (fun cdv A outer s H vs Q E hr h => ?_)
  · obtain ⟨f, m, g, e, t, u, G, E, ts, ps, rfl, _⟩ := h
    rfl
  · obtain ⟨fo, m, g, e, t, u, G, En, ts, ps, rfl, M, nd, l2, hf, mt, asc, pm, nfg, k⟩ := h
    have hu := hu_of hr
    have hu64 := hr.units
    refine ⟨_, pss_cons (ps_set (i := 3) scEn.nd rfl (Or.inl rfl) (pe_callB cr_sortedPO (by rfl) T.sorted (by decide +kernel) (pa_cons (pe_lock
        (pe_lc (own := [("_law_lease", 6)]) (g := gName 6) rfl scEn.nd (pi_keys (pe_dget hu (pv 1) pe_str (fun _ _ => rfl))) (blkOk_by (own := [("_law_lease", 6)]) (N := nEnd) (sc := defScope sEnding) (by decide +kernel))
          (fun _ _ _ _ _ => pg_name (i := 6) scEn.nd rfl (Or.inl rfl) (Or.inr rfl))
          (fun _ _ _ _ _ => pts_one (pt_cmpR op_le (pe_dget hu (pe_dget hu (pv 1) pe_str (fun _ _ => rfl)) (pv 6) (fun _ _ => rfl)) (pv 2) (nomark _)))
          (fun _ _ _ _ _ => pe_tup (pa_cons (pe_dget hu (pe_dget hu (pv 1) pe_str (fun _ _ => rfl)) (pv 6) (fun _ _ => rfl)) (pa_cons (pv 6) pa_nil))))) pa_nil)))
      (pss_cons (ps_if (PW.pt (pw_or (pt_not (pt_val (pe_callB call_isi (by rfl) T.isi (by decide +kernel) (pa_cons (pv 0) (pa_cons (pe_bltn (v := V.ty "list") (by rfl) T.list (by decide +kernel) rfl) pa_nil)))))
          (pw_or (pt_cmpR op_ne (pe_callB call_len_seq (by rfl) T.len PySem.boot_len (pa_cons (pv 0) pa_nil)) (pe_callB call_len_seq (by rfl) T.len PySem.boot_len (pa_cons (pv 3) pa_nil)) (nomark _))
          (pw_or1 (pt_cmpR (op_neD hu64) (pe_dget hu (pv 1) pe_str (fun _ _ => rfl)) (pe_lst pa_nil) (nomark _)))))) (pss_one (ps_ret pe_bl)) pss_nil)
      (pss_cons (ps_for PassesOwn.never rfl (pi_list (pv 0)) (pg_name (i := 4) scEn.nd rfl (Or.inl rfl))
        (pss_one (ps_if (PW.pt (pw_or (pt_not (pt_val (pe_callB call_isi (by rfl) T.isi (by decide +kernel) (pa_cons (pv 4) (pa_cons (pe_bltn (v := V.ty "tuple") (by rfl) T.tuple (by decide +kernel) rfl) pa_nil)))))
          (pw_or (pt_cmpR op_ne (pe_callB call_len_seq (by rfl) T.len PySem.boot_len (pa_cons (pv 4) pa_nil)) pe_int (nomark _))
          (pw_or (pt_not (pt_val (pe_call GW hr rfl gW kW bW .nil pass0 (pa_cons (pe_ix ix_tup (pv 4) pe_int (fun _ _ => rfl)) pa_nil))))
          (pw_or1 (pt_not (pt_val (pe_call GW hr rfl gW kW bW .nil pass0 (pa_cons (pe_ix ix_tup (pv 4) pe_int (fun _ _ => rfl)) pa_nil)))))))) ) (pss_one (ps_ret pe_bl)) pss_nil)))
      (pss_cons (ps_set (i := 5) scEn.nd rfl (Or.inl rfl) (pe_cmpR (op_eqD hu64) (pv 0) (pv 3) (nomark _)))
      (pss_cons (ps_expr (pe_bm0 PySem.F.plainAttrs_list PySem.F.slot_list_clear PySem.F.type_list_clear mt_clear (pv 0)))
      (pss_cons (ps_dput hu (pv 1) pe_str (pv 0) rfl)
      (pss_one (ps_ret (pv 5)))))))), ?_⟩
    have gEr : ∀ H', H' m = some (.dK (mineD g e t)) → DGet H' m (.str "ends") (some (.ref e)) := fun H' h => by
      have q := DGet.k (k := Sum.inr "ends") h
      rw [mine_e] at q
      exact q
    refine ⟨e, _, M.en, trivial, fun od => ?_⟩
    have hmL : upd H e (.frz od (.dK (kv En))) m = some (.dK (mineD g e t)) := by rw [upd_ne M.me]; exact M.di
    refine ⟨_, rfl, m, _, rfl, gEr _ hmL, e, od, rfl, .inl ⟨_, upd_same, fun D hD => ?_⟩⟩
    refine lc_it walk_keys (fun i H' => ∃ ts, Same (upd H e (.frz od (.dK (kv En)))) H' ∧ H' D = some (.lst (ts.map V.ref)) ∧ Tups H' ts (dueL (En.take i) u)) ?_ ?_ ?_ ?_
    · refine ⟨[], fun b o e => ?_, upd_same, .nil⟩
      rw [upd_ne (ne_of_none e hD)]; exact e
    · rintro i H' _ ⟨ts, hs, _⟩
      exact hs _ _ upd_same
    · rintro i x H1 H' hi ⟨tz, hs, hl, mz⟩ ⟨rfl, kk, v, ek, rfl⟩
      have hi' : i < En.length := by rw [kv_len] at hi; exact hi
      obtain ⟨q, hq⟩ : ∃ q, En[i]? = some q := ⟨En[i], by simp [hi']⟩
      rw [kv_at hq] at ek
      cases ek
      have hm1 := hs _ _ hmL
      have he1 := hs _ _ (upd_same (H := H) (a := e) (o := .frz od (.dK (kv En))))
      have hv : aget En q.1 = some q.2 := aget_of nd (List.mem_of_getElem? hq)
      have gL : ∀ H2, H2 e = some (.frz od (.dK (kv En))) → DGet H2 e (.int q.1) (some (.int q.2)) := fun H2 h => .inl ⟨kv En, Sum.inl q.1, .inr ⟨od, h⟩, rfl, by rw [valV_kv, hv]; rfl⟩
      refine ⟨rfl, _, rfl, m, _, rfl, gEr _ hm1, _, rfl, e, _, rfl, gL _ he1, _, rfl, _, _, rfl, rfl, _, rfl, ?_⟩
      by_cases c : q.2 ≤ u
      · rw [decide_eq_true c]
        refine iteT ?_
        refine ⟨_, rfl, m, _, rfl, gEr _ hm1, _, rfl, e, _, rfl, gL _ he1, _, rfl, (by show 2 ≤ sizeLine; decide), fun z hz => ?_⟩
        have hDz : D ≠ z := ne_of_none hl hz
        refine ⟨tz.map V.ref, ?_, ?_, tz ++ [z], fun b o e => ?_, ?_, ?_⟩
        · rw [upd_ne hDz]
          exact hl
        · have := Paired.length mz
          have l2 := dueL_len (En.take i) u
          have l3 := List.length_take_le i En
          rw [List.length_map]
          exact small1000 (by omega)
        · rw [upd_ne (ne_of_none e hD), upd_ne (ne_of_none (hs b o e) hz)]
          exact hs b o e
        · rw [upd_same, List.map_append]; rfl
        · rw [dueL_snoc hq, if_pos c]
          refine Paired.snoc (Tups.keep mz fun b xs e => ?_) ?_
          · have nb : b ≠ D := ne_of e hl (by intro z; cases z)
            rw [upd_ne nb, upd_ne (ne_of_none e hz)]
            exact e
          · rw [upd_ne hDz.symm]; exact upd_same
      · rw [decide_eq_false c]
        refine iteF ⟨tz, hs, hl, ?_⟩
        rw [dueL_snoc hq, if_neg c, List.append_nil]
        exact mz
    · rintro H' ⟨tz, hs, hl, mz⟩
      have hde : H' e = some (.frz od (.dK (kv En))) := hs _ _ upd_same
      rw [kv_len, List.take_length] at mz
      have hDe : D ≠ e := ne_of hl hde (by intro z; cases z)
      have m2 : Tups (upd H' e (.dK (kv En))) tz (dueL En u) := Tups.keep mz fun b xs e => by
        rw [upd_ne (ne_of e hde (by intro z; cases z))]; exact e
      refine ⟨hde, D, tz.map V.ref, kOf (upd H' e (.dK (kv En))), rfl, .inl (.inl (by rw [upd_ne hDe]; exact hl)), sort_prem m2, fun ys q h1 h2 hq => ?_⟩
      obtain ⟨ts2, ps2, rfl, m3, asc2, pm2⟩ := sort_out m2 h1 h2.perm
      obtain rfl : ps2 = ps := asc_uniq asc2 asc (pm2.trans pm.symm)
      have sm : Same H (upd H' e (.dK (kv En))) := fun b o eb => by
        by_cases hb : b = e
        · subst hb
          rw [M.en] at eb
          cases eb
          exact upd_same
        · rw [upd_ne hb]
          exact hs b o (by rw [upd_ne hb]; exact eb)
      generalize hH2 : upd (upd H' e (.dK (kv En))) q (.lst (ts2.map V.ref)) = H2
      have s2 : Same H H2 := fun b o eb => by
        rw [← hH2, upd_ne (ne_of_none (sm b o eb) hq)]; exact sm b o eb
      have q2 : H2 q = some (.lst (ts2.map V.ref)) := by rw [← hH2]; exact upd_same
      have mq : Tups H2 ts2 ps2 := Tups.keep m3 fun b xs eb => by rw [← hH2, upd_ne (ne_of_none eb hq)]; exact eb
      have M2 : MineAt H2 m g e t G En := M.same s2
      have f2 : H2 fo = some (.lst (ts.map V.ref)) := s2 _ _ hf
      have mf : Tups H2 ts ps2 := Tups.keep mt fun b xs eb => s2 _ _ eb
      have len : (ts.map V.ref).length = (ts2.map V.ref).length := by
        rw [List.length_map, List.length_map, Paired.length mt, Paired.length mq]
      -- the three tests
      refine ⟨_, rfl, _, _, _, _, true, rfl, .ty _, .base (.lst f2), kit_ty (by decide +kernel), true, rfl, ?_⟩
      refine iteF ?_
      refine ⟨_, rfl, fo, _, rfl, .inl (SqL.of f2), _, rfl, q, _, rfl, .inl (SqL.of q2), rfl, _, rfl, ?_⟩
      refine iteNS (by rw [len]) ?_
      refine ⟨_, rfl, m, _, rfl, M2.gT, (by show 0 ≤ sizeLine; decide), fun z hz => ?_⟩
      have zt : t ≠ z := ne_of_none M2.to hz
      refine ⟨.list [], .list [], .lst (SqL.of (by rw [upd_ne zt]; exact M2.to)) .nil, .lst (SqL.of upd_same) .nil, rfl, rfl, _, rfl, ?_⟩
      refine iteF ?_
      generalize hH3 : upd H2 z (.lst []) = H3
      have s3 : Same H2 H3 := fun b o eb => by rw [← hH3, upd_ne (ne_of_none eb hz)]; exact eb
      have M3 : MineAt H3 m g e t G En := M2.same s3
      have f3 : H3 fo = some (.lst (ts.map V.ref)) := s3 _ _ f2
      have q3 : H3 q = some (.lst (ts2.map V.ref)) := s3 _ _ q2
      have mf3 : Tups H3 ts ps2 := Tups.keep mf fun b xs eb => s3 _ _ eb
      have mq3 : Tups H3 ts2 ps2 := Tups.keep mq fun b xs eb => s3 _ _ eb
      -- the loop
      refine ⟨_, rfl, fo, rfl, ⟨_, SqL.of f3⟩, for_list (xs := ts.map V.ref) (fun i σ H' => H3 = H' ∧ ∃ y, σ = [some (.ref fo), some (.ref m), some (.int u), some (.ref q), y, none, none]) ⟨rfl, none, rfl⟩ ?_ ?_ ?_⟩
      · rintro i σ H' _ ⟨rfl, _⟩
        exact SqL.of f3
      · rintro i x σ H' hx ⟨rfl, y, rfl⟩
        obtain ⟨tt, a, b, rfl, htt⟩ := Tups.at mf3 hx
        refine ⟨_, rfl, _, _, _, _, true, rfl, .ty _, .base (.tup htt), kit_ty (by decide +kernel), true, rfl, iteF ?_⟩
        refine ⟨_, rfl, tt, _, rfl, .inr (SqT.of htt), rfl, _, rfl, iteNS rfl ?_⟩
        refine ⟨_, rfl, tt, _, 0, .int a, rfl, rfl, SqT.of htt, rfl, _, true, rfl, .inl ⟨⟨a, rfl⟩, rfl⟩, true, rfl, iteF ?_⟩
        refine ⟨_, rfl, tt, _, 1, .int b, rfl, rfl, SqT.of htt, rfl, _, true, rfl, .inl ⟨⟨b, rfl⟩, rfl⟩, true, rfl, iteF ?_⟩
        exact ⟨rfl, _, rfl⟩
      · rintro σ H' ⟨rfl, y, rfl⟩
        refine ⟨_, rfl, _, rfl, .list (ps2.map pD), .list (ps2.map pD), .lst (SqL.of f3) mf3.dp, .lst (SqL.of q3) mq3.dp, pD_shaped _, pD_shaped _, ?_⟩
        rw [pD_eqv]
        refine ⟨_, rfl, .inl ⟨rfl, _, SqL.of f3⟩, fo, _, rfl, rfl, f3, ?_⟩
        have mf0 : m ≠ fo := ne_of M3.di f3 (by intro z; cases z)
        have hm4 : upd H3 fo (.lst []) m = some (.dK (mineD g e t)) := by rw [upd_ne mf0]; exact M3.di
        refine ⟨_, rfl, _, rfl, m, _, rfl, DPut.k (kvs := mineD g e t) (k := Sum.inr "told") hm4 (by show 3 < sizeLine; decide), _, rfl, ?_⟩
        rw [mine_put]
        have ef : e ≠ fo := ne_of M3.en f3 (by intro z; cases z)
        refine k _ ⟨upd_same, ?_, ?_, ?_, M3.me, nfg.symm⟩ ?_
        · have n1 : g ≠ m := ne_of M3.gi M3.di (by intro z; cases z)
          rw [upd_ne n1, upd_ne nfg.symm]
          exact M3.gi
        · rw [upd_ne M3.me.symm, upd_ne ef]
          exact M3.en
        · rw [upd_ne mf0.symm, upd_same]
        · have bb : But H H3 [m, fo] := Same.but (s2.trans s3) _
          exact (bb.upd (by simp)).upd (by simp)
end
end K1

namespace K1
open PySem L2 L2H LX
theorem LotAt.but {C : Addr} {H H' : Hp} {p dt de : Addr} {n : Int} {T E : Al} {l : List Addr} (L : LotAt C H p dt de n T E) (b : But H H' l) (h1 : p ∉ l) (h2 : dt ∉ l) (h3 : de ∉ l) : LotAt C H' p dt de n T E :=
  ⟨let ⟨dx, h⟩ := L.ob; ⟨dx, b _ _ h h1⟩, b _ _ L.tk h2, b _ _ L.en h3, L.ne⟩
theorem MineAt.but {H H' : Hp} {m g e t : Addr} {G : List Int} {E : Al} {l : List Addr} (M : MineAt H m g e t G E) (b : But H H' l) (h1 : m ∉ l) (h2 : g ∉ l) (h3 : e ∉ l) (h4 : t ∉ l) : MineAt H' m g e t G E :=
  ⟨b _ _ M.di h1, b _ _ M.gi h2, b _ _ M.en h3, b _ _ M.to h4, M.me, M.gt⟩
structure Ad where
  p : Addr
  dt : Addr
  de : Addr
  m : Addr
  g : Addr
  e : Addr
  t : Addr
/-- the two lots and the two tables that the law keeps; x stands between its told and its due -/
structure Two (C : Addr) (H0 H : Hp) (L Mn : Addr) (x y : Ad) (G : List Int) (T E : Al) (G2 : List Int) (E2 : Al) (Gy : List Int) (Ty Ey : Al) : Prop where
  lx : LotAt C H x.p x.dt x.de G.length T E
  mx : MineAt H x.m x.g x.e x.t G2 E2
  ly : LotAt C H y.p y.dt y.de Gy.length Ty Ey
  my : MineAt H y.m y.g y.e y.t Gy Ey
  nd : [x.p, x.dt, x.de, x.m, x.g, x.e, y.p, y.dt, y.de, y.m, y.g, y.e, L, Mn].Nodup
  tx : x.t ≠ y.g
  ty : y.t ≠ x.g
  old : Same H0 H
  fr : ∀ b ∈ [x.p, x.dt, x.de, x.m, x.g, x.e, y.p, y.dt, y.de, y.m, y.g, y.e, L, Mn], H0 b = none
theorem Two.toldD {C : Addr} {H0 H H' : Hp} {L Mn : Addr} {x y : Ad} {G G2 Gy G' : List Int} {T E E2 Ty Ey T' E' : Al} (W : Two C H0 H L Mn x y G T E G2 E2 Gy Ty Ey) (b : But H H' [x.p, x.dt, x.de])
    (l : LotAt C H' x.p x.dt x.de G'.length T' E') : Two C H0 H' L Mn x y G' T' E' G2 E2 Gy Ty Ey ∧ (∀ o, H L = some o → H' L = some o) ∧ ∀ o, H Mn = some o → H' Mn = some o := by
  have nd := W.nd
  simp only [List.nodup_cons, List.mem_cons, not_or, List.not_mem_nil, not_false_eq_true, and_true, List.nodup_nil] at nd
  have h1 : x.t ≠ x.p := by
    obtain ⟨dx, h⟩ := W.lx.ob
    exact ne_of W.mx.to h (by intro z; cases z)
  have h2 : x.t ≠ x.dt := ne_of W.mx.to W.lx.tk (by intro z; cases z)
  have h3 : x.t ≠ x.de := ne_of W.mx.to W.lx.en (by intro z; cases z)
  have h4 : y.t ≠ x.p := by
    obtain ⟨dx, h⟩ := W.lx.ob
    exact ne_of W.my.to h (by intro z; cases z)
  have h5 : y.t ≠ x.dt := ne_of W.my.to W.lx.tk (by intro z; cases z)
  have h6 : y.t ≠ x.de := ne_of W.my.to W.lx.en (by intro z; cases z)
  obtain ⟨n1, n2, n3, n4, n5, n6, n7, n8, n9, n10, n11, n12, n13⟩ := nd
  refine ⟨⟨l, W.mx.but b ?_ ?_ ?_ ?_, W.ly.but b ?_ ?_ ?_, W.my.but b ?_ ?_ ?_ ?_, W.nd, W.tx, W.ty, fun c o e => b _ _ (W.old _ _ e) fun hc => ?_, W.fr⟩, fun o e => b _ _ e ?_, fun o e => b _ _ e ?_⟩
  all_goals first
    | (simp only [List.mem_cons, List.not_mem_nil, or_false, not_or]; refine ⟨?_, ?_, ?_⟩ <;> first | assumption | (intro z; simp_all))
    | (have q := W.fr c (by simp only [List.mem_cons, List.not_mem_nil, or_false] at hc ⊢; rcases hc with z | z | z <;> simp [z]); rw [e] at q; cases q)
theorem Two.dueD {C : Addr} {H0 H H' : Hp} {L Mn : Addr} {x y : Ad} {G G2 Gy G' : List Int} {T E E2 Ty Ey E' : Al} (W : Two C H0 H L Mn x y G T E G2 E2 Gy Ty Ey) (b : But H H' [x.g, x.e])
    (l : MineAt H' x.m x.g x.e x.t G' E') : Two C H0 H' L Mn x y G T E G' E' Gy Ty Ey ∧ (∀ o, H L = some o → L ∉ [x.g, x.e] → H' L = some o) ∧ (∀ o, H L = some o → H' L = some o) ∧ ∀ o, H Mn = some o → H' Mn = some o := by
  have nd := W.nd
  simp only [List.nodup_cons, List.mem_cons, not_or, List.not_mem_nil, not_false_eq_true, and_true, List.nodup_nil] at nd
  have h1 : x.t ≠ x.g := W.mx.gt.symm
  have h2 : x.t ≠ x.e := ne_of W.mx.to W.mx.en (by intro z; cases z)
  have h5 : y.t ≠ x.g := W.ty
  have h6 : y.t ≠ x.e := ne_of W.my.to W.mx.en (by intro z; cases z)
  obtain ⟨n1, n2, n3, n4, n5, n6, n7, n8, n9, n10, n11, n12, n13⟩ := nd
  refine ⟨⟨W.lx.but b ?_ ?_ ?_, l, W.ly.but b ?_ ?_ ?_, W.my.but b ?_ ?_ ?_ ?_, W.nd, W.tx, W.ty, fun c o e => b _ _ (W.old _ _ e) fun hc => ?_, W.fr⟩, fun o e h => b _ _ e h, fun o e => b _ _ e ?_, fun o e => b _ _ e ?_⟩
  all_goals first
    | (simp only [List.mem_cons, List.not_mem_nil, or_false, not_or]; refine ⟨?_, ?_⟩ <;> first | assumption | (intro z; simp_all))
    | (have q := W.fr c (by simp only [List.mem_cons, List.not_mem_nil, or_false] at hc ⊢; rcases hc with z | z <;> simp [z]); rw [e] at q; cases q)
theorem Two.same {C : Addr} {H0 H H' : Hp} {L Mn : Addr} {x y : Ad} {G G2 Gy : List Int} {T E E2 Ty Ey : Al} (W : Two C H0 H L Mn x y G T E G2 E2 Gy Ty Ey) (s : Same H H') : Two C H0 H' L Mn x y G T E G2 E2 Gy Ty Ey :=
  ⟨W.lx.same s, W.mx.same s, W.ly.same s, W.my.same s, W.nd, W.tx, W.ty, W.old.trans s, W.fr⟩
theorem Two.endD {C : Addr} {H0 H H1 H' : Hp} {L Mn f : Addr} {x y : Ad} {G Gy : List Int} {T E Ty Ey : Al} (W : Two C H0 H L Mn x y G T E G E Gy Ty Ey) (s : Same H H1) (hf : H f = none) (b : But H1 H' [x.m, f])
    (l : MineAt H' x.m x.g x.e f G E) : Two C H0 H' L Mn { x with t := f } y G T E G E Gy Ty Ey ∧ (∀ o, H L = some o → H' L = some o) ∧ ∀ o, H Mn = some o → H' Mn = some o := by
  have nd := W.nd
  simp only [List.nodup_cons, List.mem_cons, not_or, List.not_mem_nil, not_false_eq_true, and_true, List.nodup_nil] at nd
  have nf : ∀ {c o}, H c = some o → c ≠ f := fun {c o} e => ne_of_none e hf
  have W1 := W.same s
  have f1 : x.p ≠ f := let ⟨dx, h⟩ := W.lx.ob; nf h
  have f2 := nf W.lx.tk
  have f3 := nf W.lx.en
  have f4 : y.p ≠ f := let ⟨dx, h⟩ := W.ly.ob; nf h
  have f5 := nf W.ly.tk
  have f6 := nf W.ly.en
  have f7 := nf W.my.di
  have f8 := nf W.my.gi
  have f9 := nf W.my.en
  have f10 := nf W.my.to
  have h5 : y.t ≠ x.m := ne_of W.my.to W.mx.di (by intro z; cases z)
  obtain ⟨n1, n2, n3, n4, n5, n6, n7, n8, n9, n10, n11, n12, n13⟩ := nd
  have two : ∀ {c : Addr}, c ≠ x.m → c ≠ f → c ∉ [x.m, f] := fun {c} a b z => by
    rcases List.mem_cons.mp z with z | z
    · exact a z
    · exact b (List.mem_singleton.mp z)
  have old : Same H0 H' := fun c o e => b _ _ (W1.old _ _ e) (two (fun z => by
    have q := W.fr x.m (by simp)
    rw [← z, e] at q
    cases q) (nf (W.old _ _ e)))
  refine ⟨⟨W1.lx.but b (two ?_ f1) (two ?_ f2) (two ?_ f3), l, W1.ly.but b (two ?_ f4) (two ?_ f5) (two ?_ f6), W1.my.but b (two ?_ f7) (two ?_ f8) (two ?_ f9) (two h5 f10), W.nd, f8.symm, W.ty, old, W.fr⟩, fun o e => b _ _ (s _ _ e) (two ?_ (nf e)), fun o e => b _ _ (s _ _ e) (two ?_ (nf e))⟩
  all_goals (intro z; simp_all)
theorem Two.swap {C : Addr} {H0 H : Hp} {L Mn : Addr} {x y : Ad} {G Gy : List Int} {T E Ty Ey : Al} (W : Two C H0 H L Mn x y G T E G E Gy Ty Ey) : Two C H0 H L Mn y x Gy Ty Ey Gy Ey G T E := by
  have pm : [y.p, y.dt, y.de, y.m, y.g, y.e, x.p, x.dt, x.de, x.m, x.g, x.e, L, Mn].Perm [x.p, x.dt, x.de, x.m, x.g, x.e, y.p, y.dt, y.de, y.m, y.g, y.e, L, Mn] :=
    List.Perm.append_right [L, Mn] (List.perm_append_comm (l₁ := [y.p, y.dt, y.de, y.m, y.g, y.e]) (l₂ := [x.p, x.dt, x.de, x.m, x.g, x.e]))
  exact ⟨W.ly, W.my, W.lx, W.mx, pm.nodup_iff.mpr W.nd, W.ty, W.tx, W.old, fun b hb => W.fr b (pm.mem_iff.mp hb)⟩
end K1

namespace K1
open PySem L2 L2H LX
/-- law's: a list of at most 63 ints is handed in, True comes out -/
def spLaw (K : PySem.W.Frag) : Sp := fun vs H Q _ => ∃ (a : Addr) (ns : List Int), vs = [.ref a] ∧ SqL K H a (ns.map V.int) ∧ ns.length ≤ 63 ∧ ∀ H', Q (.bl true) H'
def At2 (H : Hp) (L Mn : Addr) (x y : Ad) (wh : Int) : Prop := ∃ ls ms, H L = some (.lst ls) ∧ H Mn = some (.lst ms) ∧ atI ls wh = some (.ref x.p) ∧ atI ls (1 - wh) = some (.ref y.p) ∧ atI ms wh = some (.ref x.m) ∧ atI ms (1 - wh) = some (.ref y.m)
theorem At2.swap {H : Hp} {L Mn : Addr} {x y : Ad} {wh : Int} (h : At2 H L Mn x y wh) : At2 H L Mn y x (1 - wh) := by
  obtain ⟨ls, ms, h1, h2, h3, h4, h5, h6⟩ := h
  have e : 1 - (1 - wh) = wh := by omega
  exact ⟨ls, ms, h1, h2, h4, by rw [e]; exact h3, h6, by rw [e]; exact h5⟩
theorem At2.on {H H' : Hp} {L Mn : Addr} {x y : Ad} {wh : Int} (h : At2 H L Mn x y wh) (k1 : ∀ o, H L = some o → H' L = some o) (k2 : ∀ o, H Mn = some o → H' Mn = some o) : At2 H' L Mn x y wh := by
  obtain ⟨ls, ms, h1, h2, h3⟩ := h
  exact ⟨ls, ms, k1 _ h1, k2 _ h2, h3⟩
def Bd (n : Nat) (G : List Int) (T E : Al) : Prop := G.length ≤ n ∧ T.length ≤ n ∧ E.length ≤ n
theorem Bd.mono {n m : Nat} {G : List Int} {T E : Al} (h : Bd n G T E) (l : n ≤ m) : Bd m G T E := ⟨Nat.le_trans h.1 l, Nat.le_trans h.2.1 l, Nat.le_trans h.2.2 l⟩
/-- what stands between two turns -/
def Wld (C : Addr) (H0 : Hp) (L Mn : Addr) (n : Nat) (wh : Int) (H : Hp) : Prop := ∃ (x y : Ad) (G : List Int) (T E : Al) (Gy : List Int) (Ty Ey : Al), At2 H L Mn x y wh ∧ Two C H0 H L Mn x y G T E G E Gy Ty Ey ∧ J G T E ∧ J Gy Ty Ey ∧ Bd n G T E ∧ Bd n Gy Ty Ey
theorem Wld.swap {C : Addr} {H0 H : Hp} {L Mn : Addr} {n : Nat} {wh : Int} (h : Wld C H0 L Mn n wh H) : Wld C H0 L Mn n (1 - wh) H := by
  obtain ⟨x, y, G, T, E, Gy, Ty, Ey, a, w, j1, j2, b1, b2⟩ := h
  exact ⟨y, x, Gy, Ty, Ey, G, T, E, a.swap, w.swap, j2, j1, b2, b1⟩
theorem Wld.pick {C : Addr} {H0 H : Hp} {L Mn : Addr} {n : Nat} {wh : Int} (h : Wld C H0 L Mn n 0 H) (hw : wh = 0 ∨ wh = 1) : Wld C H0 L Mn n wh H := by
  rcases hw with rfl | rfl
  · exact h
  · exact h.swap
theorem Wld.back {C : Addr} {H0 H : Hp} {L Mn : Addr} {n : Nat} {wh : Int} (h : Wld C H0 L Mn n wh H) (hw : wh = 0 ∨ wh = 1) : Wld C H0 L Mn n 0 H := by
  rcases hw with rfl | rfl
  · exact h
  · exact h.swap
theorem res_bd {w : Wd} {now num : Int} {G : List Int} {T E : Al} {n : Nat} (h : Bd n G T E) : (res w now num G E).2.1.length ≤ n + 1 ∧ (res w now num G E).2.2.length ≤ n + 1 := by
  obtain ⟨h1, h2, h3⟩ := h
  cases w with
  | grant =>
    unfold res
    dsimp only
    split
    · exact ⟨by dsimp only; omega, by dsimp only; omega⟩
    · have := len_put E ((G.length : Int) + 1) (now + num)
      dsimp only
      rw [List.length_append]
      exact ⟨by simp only [List.length_cons, List.length_nil]; omega, by omega⟩
  | renew =>
    unfold res
    dsimp only
    split
    · exact ⟨by dsimp only; omega, by dsimp only; omega⟩
    · have := len_put E num (now + G.getD (num - 1).toNat 0)
      exact ⟨by dsimp only; omega, by dsimp only; omega⟩
  | drop =>
    unfold res
    dsimp only
    split
    · exact ⟨by dsimp only; omega, by dsimp only; omega⟩
    · have := len_drop E num
      exact ⟨by dsimp only; omega, by dsimp only; omega⟩
theorem res_val (w : Wd) (now num : Int) (G : List Int) (E : Al) (K : PySem.W.Frag) : ∃ d b, (∀ H, Dp K H (res w now num G E).1 d) ∧ SeqAt.shaped d = true ∧ PyData.eqv d d = true ∧ Plain (res w now num G E).1 b := by
  have s1 : SeqAt.shaped (.str "BadTicks") = true := by decide +kernel
  have s2 : SeqAt.shaped (.str "NoLease") = true := by decide +kernel
  have e1 : PyData.eqv (.str "BadTicks") (.str "BadTicks") = true := by decide +kernel
  have e2 : PyData.eqv (.str "NoLease") (.str "NoLease") = true := by decide +kernel
  have ei : ∀ i : Int, PyData.eqv (.int i) (.int i) = true := fun i => PySem.SeqAt.eqv_refl (.int i) rfl
  cases w with
  | grant =>
    unfold res
    dsimp only
    split
    · exact ⟨.str "BadTicks", false, fun H => .str _, s1, e1, .inr ⟨.inr ⟨_, rfl⟩, rfl⟩⟩
    · exact ⟨.int _, true, fun H => .int _, rfl, ei _, .inl ⟨⟨_, rfl⟩, rfl⟩⟩
  | renew =>
    unfold res
    dsimp only
    split
    · exact ⟨.str "NoLease", false, fun H => .str _, s2, e2, .inr ⟨.inr ⟨_, rfl⟩, rfl⟩⟩
    · exact ⟨.none, false, fun H => .non, rfl, rfl, .inr ⟨.inl rfl, rfl⟩⟩
  | drop =>
    unfold res
    dsimp only
    split
    · exact ⟨.str "NoLease", false, fun H => .str _, s2, e2, .inr ⟨.inr ⟨_, rfl⟩, rfl⟩⟩
    · exact ⟨.none, false, fun H => .non, rfl, rfl, .inr ⟨.inl rfl, rfl⟩⟩
theorem rg63 : ∀ m : Fin 64, Builtin.Range.small 0 ((m.val : Int) - 1) 2 = true ∧ Builtin.Range.rangeSize 0 ((m.val : Int) - 1) 2 = ((m.val / 2 : Nat) : Int) := by decide +kernel
theorem rg_of {m : Nat} (h : m ≤ 63) : RgC 0 ((m : Int) - 1) 2 (m / 2) := by
  have q := rg63 ⟨m, by omega⟩
  exact ⟨by decide, by decide, q.1, q.2⟩
theorem wd_of {z : Str} (h : z ∈ ([("grant" : Str), "renew", "grant", "drop", "renew"] : List Str)) : ∃ w : Wd, z = w.s := by
  simp only [List.mem_cons, List.not_mem_nil, or_false] at h
  rcases h with rfl | rfl | rfl | rfl | rfl
  · exact ⟨.grant, rfl⟩
  · exact ⟨.renew, rfl⟩
  · exact ⟨.grant, rfl⟩
  · exact ⟨.drop, rfl⟩
  · exact ⟨.renew, rfl⟩
end K1

namespace K1
open PySem L2 L2H LX
/-! ### what is made at the law's start -/
structure Tr (H0 H : Hp) (l : List Addr) : Prop where
  nd : l.Nodup
  th : ∀ b ∈ l, ∃ o, H b = some o
  fr : ∀ b ∈ l, H0 b = none
  old : Same H0 H
theorem Tr.start (H : Hp) : Tr H H [] := ⟨List.nodup_nil, (fun _ h => nomatch h), (fun _ h => nomatch h), Same.refl _⟩
theorem Tr.app {H0 H H' : Hp} {l : List Addr} (t : Tr H0 H l) (nw : List Addr) (h1 : ∀ a ∈ nw, H a = none) (h2 : nw.Nodup) (s : Same H H') (h3 : ∀ a ∈ nw, ∃ o, H' a = some o) : Tr H0 H' (nw ++ l) := by
  refine ⟨List.nodup_append.mpr ⟨h2, t.nd, fun a ha b hb e => ?_⟩, fun b hb => ?_, fun b hb => ?_, t.old.trans s⟩
  · obtain ⟨o, q⟩ := t.th b hb
    rw [← e, h1 a ha] at q
    cases q
  · rcases List.mem_append.mp hb with hb | hb
    · exact h3 b hb
    · obtain ⟨o, q⟩ := t.th b hb
      exact ⟨o, s _ _ q⟩
  · rcases List.mem_append.mp hb with hb | hb
    · exact t.old.free (h1 b hb)
    · exact t.fr b hb
theorem nodup_pick {l : List Addr} (hl : l.Nodup) : ∀ {is : List Nat}, is.Nodup → (∀ i ∈ is, i < l.length) → (is.map fun i => l.getD i 0).Nodup
  | [], _, _ => List.nodup_nil
  | i :: r, h, b => by
    obtain ⟨h1, h2⟩ := List.nodup_cons.mp h
    refine List.nodup_cons.mpr ⟨fun m => ?_, nodup_pick hl h2 fun j hj => b j (List.mem_cons_of_mem _ hj)⟩
    obtain ⟨j, hj, e⟩ := List.mem_map.mp m
    have bi := b i List.mem_cons_self
    have bj := b j (List.mem_cons_of_mem _ hj)
    have q := nd_ix hl (i := i) (j := j) (x := l[i]) (List.getElem?_eq_getElem bi) (by
      have e : l.getD j 0 = l.getD i 0 := e
      rw [List.getD_eq_getElem?_getD, List.getD_eq_getElem?_getD, List.getElem?_eq_getElem bi, List.getElem?_eq_getElem bj] at e
      rw [List.getElem?_eq_getElem bj]
      exact congrArg some e)
    exact h1 (q ▸ hj)
theorem lot_made {C : Addr} {H H' : Hp} {x dx dt de : Addr} (nx : H x = none) (ndx : H dx = none) (nex : dx ≠ x) (d0 : upd (upd H dx (.own x)) x (.ins C dx []) dt = none) (e0 : upd (upd H dx (.own x)) x (.ins C dx []) de = none)
    (L : LotAt C H' x dt de 0 [] []) (B : But (upd (upd H dx (.own x)) x (.ins C dx [])) H' [x]) : Same H H' ∧ (∀ a ∈ [x, dt, de], H a = none) ∧ [x, dt, de].Nodup ∧ ∀ a ∈ [x, dt, de], ∃ o, H' a = some o := by
  obtain ⟨dy, h1⟩ := L.ob
  have n1 : x ≠ dt := ne_of h1 L.tk (by intro z; cases z)
  have n2 : x ≠ de := ne_of h1 L.en (by intro z; cases z)
  have s0 : Same H (upd (upd H dx (.own x)) x (.ins C dx [])) := fun b o e => by
    rw [upd_ne (ne_of_none e nx), upd_ne (ne_of_none e ndx)]; exact e
  refine ⟨fun b o e => B _ _ (s0 _ _ e) fun z => ne_of_none e nx (List.mem_singleton.mp z), fun a ha => ?_, ?_, fun a ha => ?_⟩
  · simp only [List.mem_cons, List.not_mem_nil, or_false] at ha
    rcases ha with rfl | rfl | rfl
    · exact nx
    · exact s0.free d0
    · exact s0.free e0
  · simp [n1, n2, L.ne]
  · simp only [List.mem_cons, List.not_mem_nil, or_false] at ha
    rcases ha with rfl | rfl | rfl
    · exact ⟨_, h1⟩
    · exact ⟨_, L.tk⟩
    · exact ⟨_, L.en⟩
theorem merge_mine (g e t : Addr) : mergeK [] (mineD g e t) = mineD g e t := by
  unfold mergeK mineD
  simp only [List.foldl_cons, List.foldl_nil]
  have e1 : putK ([] : List (Key × V)) (Sum.inr "given") (V.ref g) = [((Sum.inr "given" : Key), V.ref g)] := putK_new _ rfl
  have e2 : putK [((Sum.inr "given" : Key), V.ref g)] (Sum.inr "ends") (V.ref e) = [((Sum.inr "given" : Key), V.ref g), (Sum.inr "ends", V.ref e)] := putK_new _ (by rw [valV_neg (inr_ne w_ge)]; rfl)
  have e3 : putK [((Sum.inr "given" : Key), V.ref g), (Sum.inr "ends", V.ref e)] (Sum.inr "told") (V.ref t) = [((Sum.inr "given" : Key), V.ref g), (Sum.inr "ends", V.ref e), (Sum.inr "told", V.ref t)] := putK_new _ (by rw [valV_neg (inr_ne w_gt), valV_neg (inr_ne w_et)]; rfl)
  rw [e1, e2, e3]
theorem mine_made {H : Hp} {p g e t : Addr} (hp : H p = none) (hg : upd H p (.dK []) g = none) (he : upd (upd H p (.dK [])) g (.lst []) e = none) (ht : upd (upd (upd H p (.dK [])) g (.lst [])) e (.dK []) t = none) :
    MineAt (upd (upd (upd (upd (upd H p (.dK [])) g (.lst [])) e (.dK [])) t (.lst [])) p (.dK (mergeK [] (mineD g e t)))) p g e t [] [] ∧
    Same H (upd (upd (upd (upd (upd H p (.dK [])) g (.lst [])) e (.dK [])) t (.lst [])) p (.dK (mergeK [] (mineD g e t)))) ∧ upd (upd (upd (upd H p (.dK [])) g (.lst [])) e (.dK [])) t (.lst []) p = some (.dK []) ∧
    (∀ a ∈ [p, g, e], H a = none) ∧ [p, g, e].Nodup ∧ H t = none ∧ ∀ a ∈ [p, g, e], ∃ o, (upd (upd (upd (upd (upd H p (.dK [])) g (.lst [])) e (.dK [])) t (.lst [])) p (.dK (mergeK [] (mineD g e t)))) a = some o := by
  have s1 : Same H (upd H p (.dK [])) := fun b o q => by rw [upd_ne (ne_of_none q hp)]; exact q
  have s2 : Same (upd H p (.dK [])) (upd (upd H p (.dK [])) g (.lst [])) := fun b o q => by rw [upd_ne (ne_of_none q hg)]; exact q
  have s3 : Same (upd (upd H p (.dK [])) g (.lst [])) (upd (upd (upd H p (.dK [])) g (.lst [])) e (.dK [])) := fun b o q => by rw [upd_ne (ne_of_none q he)]; exact q
  have s4 : Same (upd (upd (upd H p (.dK [])) g (.lst [])) e (.dK [])) (upd (upd (upd (upd H p (.dK [])) g (.lst [])) e (.dK [])) t (.lst [])) := fun b o q => by rw [upd_ne (ne_of_none q ht)]; exact q
  have pg : p ≠ g := ne_of_none upd_same hg
  have pe : p ≠ e := ne_of_none (s2 _ _ upd_same) he
  have pt : p ≠ t := ne_of_none (s3 _ _ (s2 _ _ upd_same)) ht
  have ge : g ≠ e := ne_of_none upd_same he
  have gt : g ≠ t := ne_of_none (s3 _ _ upd_same) ht
  have et : e ≠ t := ne_of_none upd_same ht
  have M : MineAt (upd (upd (upd (upd (upd H p (.dK [])) g (.lst [])) e (.dK [])) t (.lst [])) p (.dK (mergeK [] (mineD g e t)))) p g e t [] [] := by
    refine ⟨by rw [merge_mine]; exact upd_same, ?_, ?_, ?_, pe, gt⟩
    · rw [upd_ne pg.symm, upd_ne gt, upd_ne ge]; exact upd_same
    · rw [upd_ne pe.symm, upd_ne et]; exact upd_same
    · rw [upd_ne pt.symm]; exact upd_same
  refine ⟨M, fun b o q => ?_, s4 _ _ (s3 _ _ (s2 _ _ upd_same)), fun a ha => ?_, by simp [pg, pe, ge], s1.free (s2.free (s3.free ht)), fun a ha => ?_⟩
  · rw [upd_ne (ne_of_none q hp)]
    exact s4 _ _ (s3 _ _ (s2 _ _ (s1 _ _ q)))
  · simp only [List.mem_cons, List.not_mem_nil, or_false] at ha
    rcases ha with rfl | rfl | rfl
    · exact hp
    · exact s1.free hg
    · exact s1.free (s2.free he)
  · simp only [List.mem_cons, List.not_mem_nil, or_false] at ha
    rcases ha with rfl | rfl | rfl
    · exact ⟨_, M.di⟩
    · exact ⟨_, M.gi⟩
    · exact ⟨_, M.en⟩
end K1

namespace K1
open PySem L2 L2H LX
section
variable {P : Program} {w : World} {K : PySem.W.Frag} {mg : Str → Option Value} {base : Heap}
abbrev nLaw : List Str := ["_law_script", "_law_lots", "_law_mine", "_law_now", "_law_k", "_law_ticks_here", "_law_kind", "_law_cell", "_law_which", "_law_word", "_law_number", "_law_found", "_law_due_here", "_law_until"]
theorem scL : FnScope nLaw ["_law_script"] (defScope sLaw) := ⟨rfl, rfl, rfl, by decide +kernel, rfl, by decide +kernel, by decide +kernel⟩
/-- the defs that the law calls -/
structure Helps (P : Program) (w : World) (K : PySem.W.Frag) (mg : Str → Option Value) (base : Heap) (C : Addr) : Prop where
  whole : ∃ f fd, mg "_law_whole" = some (.ref f) ∧ PySem.W.keepIn K (.ref f) = true ∧ Binds K fd ["_law_found"] [] ∧ FnOk P w K mg base CX0 1 f fd ["_law_found"] spWhole
  cell : ∃ f fd, mg "_law_cell_at" = some (.ref f) ∧ PySem.W.keepIn K (.ref f) = true ∧ Binds K fd ["_law_script", "_law_k"] [] ∧ FnOk P w K mg base CX0 1 f fd ["_law_script", "_law_k"] (spCellA K)
  ticks : ∃ f fd, mg "_law_ticks" = some (.ref f) ∧ PySem.W.keepIn K (.ref f) = true ∧ Binds K fd ["_law_cell", "_law_more"] [] ∧ FnOk P w K mg base CX0 1 f fd ["_law_cell", "_law_more"] spTicks
  told : ∃ f fd, mg "_law_told" = some (.ref f) ∧ PySem.W.keepIn K (.ref f) = true ∧ Binds K fd ["_law_lot", "_law_word", "_law_now", "_law_number"] [] ∧ FnOk P w K mg base CX0 3 f fd ["_law_lot", "_law_word", "_law_now", "_law_number"] (spTold C)
  ldue : ∃ f fd, mg "_law_due" = some (.ref f) ∧ PySem.W.keepIn K (.ref f) = true ∧ Binds K fd ["_law_lot", "_law_word", "_law_now", "_law_number"] [] ∧ FnOk P w K mg base CX0 1 f fd ["_law_lot", "_law_word", "_law_now", "_law_number"] spLdue
  ending : ∃ f fd, mg "_law_ending" = some (.ref f) ∧ PySem.W.keepIn K (.ref f) = true ∧ Binds K fd ["_law_found", "_law_lot", "_law_until"] [] ∧ FnOk P w K mg base CX0 2 f fd ["_law_found", "_law_lot", "_law_until"] spEnd
theorem ok_law {f fI C BT NL : Addr} {fd fdI : FuncData} {tm : Tok} (F : Fun K "law" "law" sLaw f fd) (T : Txt K mg C) (LT : LTxt mg) (mM : mg "MOST_TICKS" = some (.int 1000000 tm)) (M : Mk K C fI) (GI : FnOk P w K mg base CX0 1 fI fdI ["self"] (spInit C)) (bI : Binds K fdI ["self"] [])
    (MM : Meths P w K mg base C BT NL) (HH : Helps P w K mg base C) : FnOk P w K mg base CX0 5 f fd ["_law_script"] (spLaw K) := by
  obtain ⟨fG, fdG, mG, bG, GG⟩ := MM.grant
  obtain ⟨fU, fdU, mU, bU, GU⟩ := MM.due
  obtain ⟨fW, fdW, gW, kW, bW, GW⟩ := HH.whole
  obtain ⟨fC, fdC, gC, kC, bC, GC⟩ := HH.cell
  obtain ⟨fK, fdK, gK, kK, bK, GK⟩ := HH.ticks
  obtain ⟨fT, fdT, gT, kT, bT, GT⟩ := HH.told
  obtain ⟨fD, fdD, gD, kD, bD, GD⟩ := HH.ldue
  obtain ⟨fE, fdE, gE, kE, bE, GE⟩ := HH.ending
  refine F.ok scL (fun vs H Q E h => ?_) (fun cdv A outer s H vs Q E hr h => ?_)
  · obtain ⟨a, ns, rfl, _⟩ := h
    rfl
  · obtain ⟨a, ns, rfl, hs, hlen, k⟩ := h
    have hr1 : Room 1 _ := hr.mono (by decide)
    have hr2 : Room 2 _ := hr.mono (by decide)
    have hr3 : Room 3 _ := hr.mono (by decide)
    have hu := hu_of hr
    have hu64 := hr.units
    refine ⟨_, pss_cons (ps_set (i := 1) scL.nd rfl (Or.inl rfl) (pe_lst (pa_cons (pe_make0 M GI hr2 rfl T.mgC bI .nil pass0) (pa_cons (pe_make0 M GI hr2 rfl T.mgC bI .nil pass0) pa_nil))))
      (pss_cons (ps_set (i := 2) scL.nd rfl (Or.inl rfl) (pe_lst (pa_cons (pe_disp (pps_cons pe_str (pe_lst pa_nil) (pps_cons pe_str pe_dnewK (pps_cons pe_str (pe_lst pa_nil) pps_nil))) (by rfl) (by rfl) (fun z => by cases z) (by decide))
        (pa_cons (pe_disp (pps_cons pe_str (pe_lst pa_nil) (pps_cons pe_str pe_dnewK (pps_cons pe_str (pe_lst pa_nil) pps_nil))) (by rfl) (by rfl) (fun z => by cases z) (by decide)) pa_nil))))
      (pss_cons (ps_set (i := 3) scL.nd rfl (Or.inl rfl) pe_int)
      (C8.pss_cut (ps_if (pt_cmpR op_eq (pe_op op_mod (pe_op op_fdiv (pe_call GC hr1 rfl gC kC bC .nil pass0 (pa_cons (pv 0) (pa_cons pe_int pa_nil))) pe_int) pe_int) pe_int (nomark _))
        (pss_one (ps_for PassesOwn.never rfl (pi_range1 (by rfl) LT.range (pa_cons pe_int pa_nil)) (pg_name (i := 4) scL.nd rfl (Or.inl rfl))
          (pss_cons (ps_set (i := 5) scL.nd rfl (Or.inl rfl) (pe_op op_add pe_int (pe_op op_mod (pe_op op_add (pe_call GC hr1 rfl gC kC bC .nil pass0 (pa_cons (pv 0) (pa_cons pe_int pa_nil))) (pe_op op_mul pe_int (pv 4))) pe_int)))
          (pss_one (ps_if (pt_cmpR op_ne (pe_meth (E := E0) (pe_ix ix_list (pv 1) (pe_op op_mod (pv 4) pe_int) (fun _ _ => rfl)) T.cl mG GG hr1 bG .nil passL (pa_cons (pv 3) (pa_cons (pv 5) pa_nil)))
            (pe_call GD hr1 rfl gD kD bD .nil pass0 (pa_cons (pe_ix ix_list (pv 2) (pe_op op_mod (pv 4) pe_int) (fun _ _ => rfl)) (pa_cons pe_str (pa_cons (pv 3) (pa_cons (pv 5) pa_nil))))) (nomark _)) (pss_one (ps_ret pe_bl)) pss_nil))))) pss_nil)
      (pss_cons (ps_for PassesOwn.never rfl (pi_range3 (by rfl) LT.range (pa_cons pe_int (pa_cons (pe_op op_sub (pe_callB call_len_seq (by rfl) LT.len PySem.boot_len (pa_cons (pv 0) pa_nil)) pe_int) (pa_cons pe_int pa_nil)))) (pg_name (i := 4) scL.nd rfl (Or.inl rfl))
        (pss_cons (ps_set (i := 6) scL.nd rfl (Or.inl rfl) (pe_ix ix_list (pv 0) (pv 4) (fun _ _ => rfl)))
        (pss_cons (ps_set (i := 7) scL.nd rfl (Or.inl rfl) (pe_ix ix_list (pv 0) (pe_op op_add (pv 4) pe_int) (fun _ _ => rfl)))
        (pss_cons (ps_set (i := 3) scL.nd rfl (Or.inl rfl) (pe_op op_add (pv 3) (pe_ix ix_list (pe_lst (pa_cons (pe_op op_mod (pe_op op_fdiv (pv 6) pe_int) pe_int) (pa_cons (pe_op op_mod (pv 7) (pe_op op_pow pe_int pe_int)) pa_nil)))
          (pe_op op_fdiv (pe_op op_mod (pe_op op_fdiv (pv 6) pe_int) pe_int) pe_int) (fun _ _ => rfl))))
        (pss_cons (ps_set (i := 8) scL.nd rfl (Or.inl rfl) (pe_op op_mod (pv 6) pe_int))
        (pss_cons (ps_set (i := 9) scL.nd rfl (Or.inl rfl) (pe_ix ix_list (pe_lst (pa_cons pe_str (pa_cons pe_str (pa_cons pe_str (pa_cons pe_str (pa_cons pe_str pa_nil)))))) (pe_op op_mod (pe_op op_fdiv (pv 6) pe_int) pe_int) (fun _ _ => rfl)))
        (pss_cons (ps_set (i := 10) scL.nd rfl (Or.inl rfl) (pe_op op_mod (pv 7) (pe_op op_add (pe_callB call_len_seq (by rfl) LT.len PySem.boot_len (pa_cons (pe_dget hu (pe_ix ix_list (pv 2) (pv 8) (fun _ _ => rfl)) pe_str (fun _ _ => rfl)) pa_nil)) pe_int)))
        (C8.pss_cut (ps_if (pt_cmpR op_eq (pe_op op_mod (pe_op op_fdiv (pv 6) pe_int) pe_int) pe_int (nomark _)) (pss_one (ps_set (i := 10) scL.nd rfl (Or.inl rfl) (pe_ix ix_list (pe_lst (pa_cons (pe_un un_neg pe_int) (pa_cons (pe_un un_neg pe_int) (pa_cons (pe_op op_pow pe_int pe_int) pa_nil)))) (pe_op op_mod (pv 7) pe_int) (fun _ _ => rfl)))) pss_nil)
        (C8.pss_cut (ps_if (pt_cmpR op_eq (pv 9) pe_str (nomark _)) (pss_one (ps_set (i := 10) scL.nd rfl (Or.inl rfl) (pe_call GK hr1 rfl gK kK bK .nil pass0 (pa_cons (pv 7) (pa_cons (pe_op op_fdiv (pv 6) pe_int) pa_nil))))) pss_nil)
        (pss_cons (ps_set (i := 11) scL.nd rfl (Or.inl rfl) (pe_call GT hr3 rfl gT kT bT .nil pass0 (pa_cons (pe_ix ix_list (pv 1) (pv 8) (fun _ _ => rfl)) (pa_cons (pv 9) (pa_cons (pv 3) (pa_cons (pv 10) pa_nil))))))
        (pss_cons (ps_set (i := 12) scL.nd rfl (Or.inl rfl) (pe_call GD hr1 rfl gD kD bD .nil pass0 (pa_cons (pe_ix ix_list (pv 2) (pv 8) (fun _ _ => rfl)) (pa_cons (pv 9) (pa_cons (pv 3) (pa_cons (pv 10) pa_nil))))))
        (pss_cons (ps_if (PW.pt (pw_or (pt_cmpR (op_neD hu64) (pv 11) (pv 12) (nomark _)) (pw_or1 (pt_cmpR op_ne (pe_call GW hr1 rfl gW kW bW .nil pass0 (pa_cons (pv 11) pa_nil)) (pe_call GW hr1 rfl gW kW bW .nil pass0 (pa_cons (pv 12) pa_nil)) (nomark _))))) (pss_one (ps_ret pe_bl)) pss_nil)
        (pss_cons (ps_set (i := 13) scL.nd rfl (Or.inl rfl) (pe_op op_add (pv 3) (pe_ix ix_list (pe_lst (pa_cons (pe_op op_mod (pv 7) pe_int) (pa_cons (pe_op op_mod (pv 7) pe_int) (pa_cons (pe_op op_pow pe_int pe_int) pa_nil)))) (pe_op op_mod (pv 7) pe_int) (fun _ _ => rfl))))
        (pss_cons (ps_if (pt_not (pt_val (pe_call GE hr2 rfl gE kE bE .nil pass0 (pa_cons (pe_meth (E := E0) (pe_ix ix_list (pv 1) (pv 8) (fun _ _ => rfl)) T.cl mU GU hr1 bU .nil pass0 (pa_cons (pv 13) pa_nil)) (pa_cons (pe_ix ix_list (pv 2) (pv 8) (fun _ _ => rfl)) (pa_cons (pv 13) pa_nil)))))) (pss_one (ps_ret pe_bl)) pss_nil)
        (pss_one (ps_if (pt_not (pt_val (pe_call GE hr2 rfl gE kE bE .nil pass0 (pa_cons (pe_meth (E := E0) (pe_ix ix_list (pv 1) (pe_op op_sub pe_int (pv 8)) (fun _ _ => rfl)) T.cl mU GU hr1 bU .nil pass0 (pa_cons (pv 3) pa_nil)) (pa_cons (pe_ix ix_list (pv 2) (pe_op op_sub pe_int (pv 8)) (fun _ _ => rfl)) (pa_cons (pv 3) pa_nil)))))) (pss_one (ps_ret pe_bl)) pss_nil))))))))))))))))
      (pss_one (ps_ret (pe_and (pe_call GW hr1 rfl gW kW bW .nil pass0 (pa_cons (pe_glob (v := V.int 1000000) rfl mM ⟨_, rfl⟩) pa_nil)) (pe_one (pe_cmpR op_eq (pe_glob (v := V.int 1000000) rfl mM ⟨_, rfl⟩) pe_int (nomark _)))))))))), ?_⟩
    -- _law_lots
    intro p0 dx nx ndx nex
    refine ⟨p0, dx, rfl, upd_same, fun dt0 de0 Ha d0 e0 La Ba => ⟨rfl, ?_⟩⟩
    obtain ⟨sa, na, da, ta⟩ := lot_made nx ndx nex d0 e0 La Ba
    have t1 := (Tr.start H).app _ na da sa ta
    intro p1 dy ny ndy ney
    refine ⟨p1, dy, rfl, upd_same, fun dt1 de1 Hb d1 e1 Lb Bb => ⟨rfl, ?_⟩⟩
    obtain ⟨sb, nb, db, tb⟩ := lot_made ny ndy ney d1 e1 Lb Bb
    have t2 := t1.app _ nb db sb tb
    refine ⟨(by show 2 ≤ sizeLine; decide), fun L hL => ?_⟩
    generalize hHc : upd Hb L (.lst [V.ref p0, V.ref p1]) = Hc
    have sc : Same Hb Hc := fun b o q => by rw [← hHc, upd_ne (ne_of_none q hL)]; exact q
    have hLc : Hc L = some (.lst [V.ref p0, V.ref p1]) := by rw [← hHc]; exact upd_same
    have t3 := t2.app [L] (fun b hb => by rw [List.mem_singleton.mp hb]; exact hL) (by simp) sc (fun b hb => by rw [List.mem_singleton.mp hb]; exact ⟨_, hLc⟩)
    -- _law_mine
    intro m0 hm0
    refine ⟨(by show 0 ≤ sizeLine; decide), fun g0 hg0 e0' he0 => ⟨(by show 0 ≤ sizeLine; decide), fun t0 ht0 => ?_⟩⟩
    obtain ⟨M0, sd, mid0, nd0, dd0, nt0, td0⟩ := mine_made hm0 hg0 he0 ht0
    refine ⟨mid0, mineD g0 e0' t0, rfl, (by show 3 ≤ 15; decide), ?_⟩
    revert M0 sd td0
    generalize upd (upd (upd (upd (upd Hc m0 (.dK [])) g0 (.lst [])) e0' (.dK [])) t0 (.lst [])) m0 (.dK (mergeK [] (mineD g0 e0' t0))) = Hd
    intro M0 sd td0
    have t4 := t3.app _ nd0 dd0 sd td0
    intro m1 hm1
    refine ⟨(by show 0 ≤ sizeLine; decide), fun g1 hg1 e1' he1 => ⟨(by show 0 ≤ sizeLine; decide), fun t1' ht1 => ?_⟩⟩
    obtain ⟨M1, se, mid1, nd1, dd1, nt1, td1⟩ := mine_made hm1 hg1 he1 ht1
    refine ⟨mid1, mineD g1 e1' t1', rfl, (by show 3 ≤ 15; decide), ?_⟩
    revert M1 se td1
    generalize upd (upd (upd (upd (upd Hd m1 (.dK [])) g1 (.lst [])) e1' (.dK [])) t1' (.lst [])) m1 (.dK (mergeK [] (mineD g1 e1' t1'))) = He
    intro M1 se td1
    have t5 := t4.app _ nd1 dd1 se td1
    refine ⟨(by show 2 ≤ sizeLine; decide), fun Mn hMn => ?_⟩
    generalize hHf : upd He Mn (.lst [V.ref m0, V.ref m1]) = Hf
    have sf : Same He Hf := fun b o q => by rw [← hHf, upd_ne (ne_of_none q hMn)]; exact q
    have hMf : Hf Mn = some (.lst [V.ref m0, V.ref m1]) := by rw [← hHf]; exact upd_same
    have t6 := t5.app [Mn] (fun b hb => by rw [List.mem_singleton.mp hb]; exact hMn) (by simp) sf (fun b hb => by rw [List.mem_singleton.mp hb]; exact ⟨_, hMf⟩)
    have nd := nodup_pick t6.nd (is := [11, 12, 13, 4, 5, 6, 8, 9, 10, 1, 2, 3, 7, 0]) (by decide) (fun i hi => by
      have z : ∀ i ∈ [11, 12, 13, 4, 5, 6, 8, 9, 10, 1, 2, 3, 7, 0], i < 14 := by decide
      exact z i hi)
    have W0 : Wld C H L Mn 0 0 Hf := by
      refine ⟨⟨p0, dt0, de0, m0, g0, e0', t0⟩, ⟨p1, dt1, de1, m1, g1, e1', t1'⟩, [], [], [], [], [], [], ⟨_, _, sf _ _ (se _ _ (sd _ _ hLc)), hMf, rfl, rfl, rfl, rfl⟩,
        ⟨(((La.same sb).same sc).same (sd.trans se)).same sf, (M0.same se).same sf, ((Lb.same sc).same (sd.trans se)).same sf, M1.same sf, nd, ?_, ?_, t6.old, fun b hb => t6.fr b ?_⟩, .start, .start, ⟨Nat.zero_le _, Nat.zero_le _, Nat.zero_le _⟩, ⟨Nat.zero_le _, Nat.zero_le _, Nat.zero_le _⟩⟩
      · exact ne_of_none M0.to (nd1 g1 (by simp))
      · exact (ne_of_none M0.gi nt1).symm
      · simp only [List.mem_cons, List.mem_append, List.not_mem_nil, or_false] at hb ⊢
        rcases hb with rfl | rfl | rfl | rfl | rfl | rfl | rfl | rfl | rfl | rfl | rfl | rfl | rfl | rfl <;> simp only [true_or, or_true]
    -- the leases ahead
    have seq : ∀ {n wh H'}, Wld C H L Mn n wh H' → SqL K H' a (ns.map V.int) := fun {n wh H'} h => by
      obtain ⟨_, _, _, _, _, _, _, _, _, W, _⟩ := h
      exact W.old.seq hs
    have mono : ∀ {n n' wh H'}, Wld C H L Mn n wh H' → n ≤ n' → Wld C H L Mn n' wh H' := fun {n n' wh H'} h l => by
      obtain ⟨x, y, G, T, E, Gy, Ty, Ey, h1, h2, h3, h4, h5, h6⟩ := h
      exact ⟨x, y, G, T, E, Gy, Ty, Ey, h1, h2, h3, h4, h5.mono l, h6.mono l⟩
    refine ⟨fun σ H' => (∃ y4 y5, σ = [some (.ref a), some (.ref L), some (.ref Mn), some (.int 0), y4, y5, none, none, none, none, none, none, none, none]) ∧ Wld C H L Mn 40 0 H', ?_, ?_⟩
    · refine ⟨_, rfl, a, ns, 0, rfl, seq W0, fun t => ⟨_, _, rfl, rfl, ⟨by decide, by decide⟩, _, _, rfl, rfl, (by show (0 : Int) < 3; decide), rfl, _, rfl, ?_⟩⟩
      refine ite2 (fun _ => ?_) fun _ => ⟨⟨none, none, rfl⟩, mono W0 (by decide)⟩
      refine ⟨40, rfl, by decide, by decide, for_range (n := 40) (fun i σ H' => (∃ y4 y5, σ = [some (.ref a), some (.ref L), some (.ref Mn), some (.int 0), y4, y5, none, none, none, none, none, none, none, none]) ∧ Wld C H L Mn i 0 H') ⟨⟨none, none, rfl⟩, W0⟩ ?_ fun σ H' h => h⟩
      rintro i σ H1 hi ⟨⟨y4, y5, rfl⟩, W⟩
      refine ⟨_, rfl, a, ns, 1, rfl, seq W, fun t => ⟨_, rfl, _, _, rfl, rfl, .inl ⟨by decide, by decide⟩, _, _, rfl, rfl, _, _, rfl, rfl, (by show (0 : Int) < 50; decide), _, _, rfl, rfl, ?_⟩⟩
      have hw : ((0 : Int) + i) % 2 = 0 ∨ ((0 : Int) + i) % 2 = 1 := by omega
      obtain ⟨x, y, G, T1, E1, Gy, Ty, Ey, ⟨ls, ms, q1, q2, q3, q4, q5, q6⟩, W2, j1, j2, b1, b2⟩ := W.pick hw
      obtain ⟨dz, hob⟩ := W2.lx.ob
      have hb1 := b1.1
      have hb2 := b1.2.1
      have hb3 := b1.2.2
      have v1 : 1 ≤ (1 + (t + 7 * (0 + (i : Int))) % 50) := by omega
      have v2 : (1 + (t + 7 * (0 + (i : Int))) % 50) ≤ 1000000 := by omega
      refine ⟨_, rfl, _, rfl, _, _, rfl, rfl, (by show (0 : Int) < 2; decide), L, _, _, _, rfl, rfl, SqL.of q1, q3, x.p, dz, _, rfl, hob, flds_no _ _ _ nGr.1 nGr.2.1 nGr.2.2, _, rfl, _, rfl,
        x.p, x.dt, x.de, _, 0, (1 + (t + 7 * (0 + (i : Int))) % 50), T1, E1, rfl, W2.lx, by omega, by omega, fun z => by omega, fun _ _ H2 L2' B2 => ?_⟩
      have e1 : res .grant 0 (1 + (t + 7 * (0 + (i : Int))) % 50) G E1 = (.int ((G.length : Int) + 1), G ++ [(1 + (t + 7 * (0 + (i : Int))) % 50)], aput E1 ((G.length : Int) + 1) (0 + (1 + (t + 7 * (0 + (i : Int))) % 50))) := if_neg (by omega)
      have el : (((G ++ [(1 + (t + 7 * (0 + (i : Int))) % 50)]).length : Nat) : Int) = (G.length : Int) + 1 := by rw [List.length_append]; simp
      have L3 : LotAt C H2 x.p x.dt x.de (((G ++ [(1 + (t + 7 * (0 + (i : Int))) % 50)]).length : Nat) : Int) (aput T1 ((G.length : Int) + 1) (1 + (t + 7 * (0 + (i : Int))) % 50)) (aput E1 ((G.length : Int) + 1) (0 + (1 + (t + 7 * (0 + (i : Int))) % 50))) := by rw [el]; exact L2'
      obtain ⟨W3, kL, kM⟩ := W2.toldD B2 L3
      have q2' := kM _ q2
      refine ⟨_, rfl, _, rfl, _, _, rfl, rfl, (by show (0 : Int) < 2; decide), Mn, _, _, _, rfl, rfl, SqL.of q2', q5, _, rfl, _, rfl,
        x.m, x.g, x.e, x.t, .grant, 0, (1 + (t + 7 * (0 + (i : Int))) % 50), G, T1, E1, rfl, W3.mx, j1, by omega, by omega, fun H3 M3 B3 => ?_⟩
      rw [e1] at M3
      rw [e1]
      obtain ⟨W4, _, kL2, kM2⟩ := W3.dueD B3 M3
      refine ⟨rfl, _, rfl, iteNS rfl ⟨⟨_, _, rfl⟩, ?_⟩⟩
      have W5 : Wld C H L Mn (i + 1) (((0 : Int) + i) % 2) H3 := by
        refine ⟨x, y, _, _, _, Gy, Ty, Ey, ⟨ls, ms, kL2 _ (kL _ q1), kM2 _ q2', q3, q4, q5, q6⟩, W4, j1.grant (1 + (t + 7 * (0 + (i : Int))) % 50) _, j2, ⟨?_, ?_, ?_⟩, b2.mono (Nat.le_succ _)⟩
        · rw [List.length_append]; simp only [List.length_cons, List.length_nil]; omega
        · exact Nat.le_trans (len_put _ _ _) (by omega)
        · exact Nat.le_trans (len_put _ _ _) (by omega)
      exact W5.back hw
    · rintro σ H1 ⟨⟨y4, y5, rfl⟩, W1⟩
      have wsame : ∀ {n wh H' H''}, Wld C H L Mn n wh H' → Same H' H'' → Wld C H L Mn n wh H'' := fun {n wh H' H''} h l => by
        obtain ⟨x, y, G, T, E, Gy, Ty, Ey, h1, h2, h3, h4, h5, h6⟩ := h
        exact ⟨x, y, G, T, E, Gy, Ty, Ey, h1.on (fun _ e => l _ _ e) (fun _ e => l _ _ e), h2.same l, h3, h4, h5, h6⟩
      have nDu : ¬ (("due" : Str) = "_given") ∧ ¬ (("due" : Str) = "_ticks") ∧ ¬ (("due" : Str) = "_ends") := by decide +kernel
      have new : ∀ {H' : Hp} {l : Addr} {o : HO}, H' l = none → Same H' (upd H' l o) := fun {H' l o} h b u e => by rw [upd_ne (ne_of_none e h)]; exact e
      have hlm : (ns.map V.int).length ≤ 63 := by rw [List.length_map]; exact hlen
      refine ⟨_, rfl, a, _, rfl, .inl (seq W1), _, _, rfl, rfl, 0, _, 2, (ns.map V.int).length / 2, rfl, rg_of hlm,
        for_rangeC (n := (ns.map V.int).length / 2) (fun i σ H' => (∃ now y4 y5 y6 y7 y8 y9 y10 y11 y12 y13, σ = [some (.ref a), some (.ref L), some (.ref Mn), some (.int now), y4, y5, y6, y7, y8, y9, y10, y11, y12, y13]) ∧ Wld C H L Mn (40 + i) 0 H')
          ⟨⟨0, y4, y5, none, none, none, none, none, none, none, none, rfl⟩, W1⟩ ?_ ?_⟩
      · rintro i σ H2 hi ⟨⟨now, z4, z5, z6, z7, z8, z9, z10, z11, z12, z13, rfl⟩, W2⟩
        rw [List.length_map] at hi
        obtain ⟨kind, _, a1⟩ := at_ints (ns := ns) (z := 0 + (i : Int) * 2) (by omega) (by omega)
        obtain ⟨cell, _, a2⟩ := at_ints (ns := ns) (z := 0 + (i : Int) * 2 + 1) (by omega) (by omega)
        refine ⟨_, rfl, _, rfl, a, _, _, _, rfl, rfl, seq W2, a1, ?_⟩
        refine ⟨_, rfl, _, rfl, _, _, rfl, rfl, a, _, _, _, rfl, rfl, seq W2, a2, ?_⟩
        refine ⟨_, rfl, _, rfl, _, _, rfl, rfl, ⟨by decide, by decide⟩, _, _, rfl, rfl, (by show (0 : Int) < 5; decide), _, rfl, _, _, rfl, rfl, ⟨by decide, by decide, by decide⟩, _, _, rfl, rfl, (by show (0 : Int) < 10 ^ (12 : Int).toNat; decide), (by show 2 ≤ sizeLine; decide), fun l1 hl1 => ?_⟩
        obtain ⟨st, _, a3⟩ := at_ints (ns := [kind / 6 % 5, cell % 10 ^ 12]) (z := kind / 30 % 9 / 8) (by omega) (by show kind / 30 % 9 / 8 < 2; omega)
        refine ⟨_, rfl, _, _, rfl, rfl, ⟨by decide, by decide⟩, _, _, rfl, rfl, (by show (0 : Int) < 9; decide), _, _, rfl, rfl, ⟨by decide, by decide⟩, l1, _, _, _, rfl, rfl, SqL.of upd_same, a3, _, _, rfl, rfl, ?_⟩
        have W3 := wsame W2 (new (o := .lst [V.int (kind / 6 % 5), V.int (cell % 10 ^ (12 : Int).toNat)]) hl1)
        -- which, the word
        refine ⟨_, rfl, _, _, rfl, rfl, (by show (0 : Int) < 2; decide), ?_⟩
        refine ⟨(by show 5 ≤ sizeLine; decide), fun l2 hl2 => ?_⟩
        obtain ⟨wz, wm, a4⟩ := at_strs (ns := ["grant", "renew", "grant", "drop", "renew"]) (z := kind / 2 % 5) (by omega) (by show kind / 2 % 5 < 5; omega)
        obtain ⟨wd, rfl⟩ := wd_of wm
        refine ⟨_, rfl, _, _, rfl, rfl, ⟨by decide, by decide⟩, _, _, rfl, rfl, (by show (0 : Int) < 5; decide), l2, _, _, _, rfl, rfl, SqL.of upd_same, a4, ?_⟩
        have W4 := wsame W3 (new (o := .lst [V.str "grant", V.str "renew", V.str "grant", V.str "drop", V.str "renew"]) hl2)
        have hw : kind % 2 = 0 ∨ kind % 2 = 1 := by omega
        -- the number
        obtain ⟨x, y, G, T1, E1, Gy, Ty, Ey, ⟨ls, ms, q1, q2, q3, q4, q5, q6⟩, W5, j1, j2, b1, b2⟩ := W4.pick hw
        refine ⟨_, rfl, _, rfl, _, rfl, Mn, _, _, _, rfl, rfl, SqL.of q2, q5, x.m, _, rfl, W5.mx.gG, x.g, _, rfl, .inl (SqL.of W5.mx.gi), _, _, rfl, rfl, _, _, rfl, rfl, ?_, ?_⟩
        · show (0 : Int) < ((G.map V.int).length : Int) + 2
          omega
        revert q1 q2 W5 W4
        generalize upd (upd H2 l1 (.lst [V.int (kind / 6 % 5), V.int (cell % 10 ^ (12 : Int).toNat)])) l2 (.lst [V.str "grant", V.str "renew", V.str "grant", V.str "drop", V.str "renew"]) = H3
        intro W4 q1 q2 W5
        have bn : 40 + i ≤ 71 := by omega
        have g1 := b1.1
        have g2 := b1.2.1
        have g3 := b1.2.2
        have g4 := b2.1
        have g5 := b2.2.1
        have g6 := b2.2.2
        refine ⟨fun σ H' => (∃ (num : Int) (y4 y5 y11 y12 y13 : Option V), σ = [some (.ref a), some (.ref L), some (.ref Mn), some (.int (now + st)), y4, y5, some (.int kind), some (.int cell), some (.int (kind % 2)), some (.str wd.s), some (.int num), y11, y12, y13]) ∧ Same H3 H', ?_, ?_⟩
        · refine ⟨_, rfl, _, _, rfl, rfl, ⟨by decide, by decide⟩, _, _, rfl, rfl, (by show (0 : Int) < 11; decide), rfl, _, rfl, ?_⟩
          refine ite2 (fun _ => ?_) fun _ => ⟨⟨_, _, _, _, _, _, rfl⟩, Same.refl _⟩
          refine ⟨_, rfl, _, rfl, _, _, rfl, rfl, ⟨by decide, by decide, by decide⟩, (by show 3 ≤ sizeLine; decide), fun l3 hl3 => ?_⟩
          obtain ⟨nn, _, a5⟩ := at_ints (ns := [-1, -2, 10 ^ 12]) (z := cell % 3) (by omega) (by show cell % 3 < 3; omega)
          exact ⟨_, rfl, _, _, rfl, rfl, (by show (0 : Int) < 3; decide), l3, _, _, _, rfl, rfl, SqL.of upd_same, a5, ⟨_, _, _, _, _, _, rfl⟩, new hl3⟩
        rintro σ H4 ⟨⟨num0, u4, u5, u11, u12, u13, rfl⟩, s4⟩
        refine ⟨fun σ H' => (∃ (num : Int) (y4 y5 y11 y12 y13 : Option V), σ = [some (.ref a), some (.ref L), some (.ref Mn), some (.int (now + st)), y4, y5, some (.int kind), some (.int cell), some (.int (kind % 2)), some (.str wd.s), some (.int num), y11, y12, y13]) ∧ Same H3 H', ?_, ?_⟩
        · refine ⟨_, rfl, rfl, _, rfl, ?_⟩
          refine ite2 (fun _ => ?_) fun _ => ⟨⟨_, _, _, _, _, _, rfl⟩, s4⟩
          exact ⟨_, rfl, _, rfl, _, _, rfl, rfl, ⟨by decide, by decide⟩, cell, _, rfl, fun t H' hs => ⟨⟨_, _, _, _, _, _, rfl⟩, s4.trans hs⟩⟩
        rintro σ H5 ⟨⟨num, v4, v5, v11, v12, v13, rfl⟩, s5⟩
        have W6 := W5.same s5
        have p1 := s5 _ _ q1
        have p2 := s5 _ _ q2
        -- the deed, and what is due of it
        refine ⟨_, rfl, _, rfl, L, _, _, _, rfl, rfl, SqL.of p1, q3, _, rfl, _, rfl, _, rfl, x.p, x.dt, x.de, wd, now + st, num, G, T1, E1, rfl, W6.lx, j1, by omega, by omega, fun H6 T6 L6 J6 lt6 B6 => ?_⟩
        obtain ⟨W7, kL7, kM7⟩ := W6.toldD B6 L6
        refine ⟨_, rfl, _, rfl, Mn, _, _, _, rfl, rfl, SqL.of (kM7 _ p2), q5, _, rfl, _, rfl, _, rfl, x.m, x.g, x.e, x.t, wd, now + st, num, G, T1, E1, rfl, W7.mx, j1, by omega, by omega, fun H7 M7 B7 => ?_⟩
        obtain ⟨W8, _, kL8, kM8⟩ := W7.dueD B7 M7
        have r1 := kL8 _ (kL7 _ p1)
        have r2 := kM8 _ (kM7 _ p2)
        obtain ⟨dd, bb, dp, dsh, deq, dpl⟩ := res_val wd (now + st) num G E1 K
        have rb := res_bd (w := wd) (now := now + st) (num := num) b1
        refine ⟨_, rfl, _, rfl, dd, dd, dp _, dp _, dsh, dsh, _, rfl, ?_⟩
        rw [deq]
        refine iteF ?_
        refine ⟨_, rfl, _, bb, rfl, dpl, _, rfl, _, bb, rfl, dpl, rfl, _, rfl, iteNS rfl ?_⟩
        -- up to when
        refine ⟨_, rfl, _, rfl, _, _, rfl, rfl, (by show (0 : Int) < 8; decide), _, rfl, _, _, rfl, rfl, (by show (0 : Int) < 1000001; decide), _, _, rfl, rfl, ⟨by decide, by decide, by decide⟩, (by show 3 ≤ sizeLine; decide), fun l4 hl4 => ?_⟩
        obtain ⟨du, _, a6⟩ := at_ints (ns := [cell % 8, cell % 1000001, 10 ^ 13]) (z := cell % 3) (by omega) (by show cell % 3 < 3; omega)
        refine ⟨_, rfl, _, _, rfl, rfl, (by show (0 : Int) < 3; decide), l4, _, _, _, rfl, rfl, SqL.of upd_same, a6, _, _, rfl, rfl, ?_⟩
        have s8 := new (H' := H7) (l := l4) (o := .lst [V.int (cell % 8), V.int (cell % 1000001), V.int (10 ^ (13 : Int).toNat)]) hl4
        revert s8
        generalize upd H7 l4 (.lst [V.int (cell % 8), V.int (cell % 1000001), V.int (10 ^ (13 : Int).toNat)]) = H8
        intro s8
        have W9 := W8.same s8
        have t1 := s8 _ _ r1
        have t2 := s8 _ _ r2
        -- the ones that end, of the lot
        obtain ⟨dz, hob⟩ := W9.lx.ob
        refine ⟨_, rfl, _, rfl, L, _, _, _, rfl, rfl, SqL.of t1, q3, x.p, dz, _, rfl, hob, flds_no _ _ _ nDu.1 nDu.2.1 nDu.2.2, _, rfl,
          x.p, x.dt, x.de, _, now + st + du, _, _, rfl, W9.lx, by omega, fun f1 ts1 ps1 H9 hf1 hl1 mt1 as1 pm1 sm1 => ?_⟩
        have W10 := W9.same sm1
        refine ⟨_, rfl, _, rfl, Mn, _, _, _, rfl, rfl, SqL.of (sm1 _ _ t2), q5, _, rfl,
          f1, x.m, x.g, x.e, x.t, _, _, _, ts1, ps1, rfl, W10.mx, J6.ndE, by omega, hl1, mt1, as1, pm1, (ne_of_none W9.mx.gi hf1).symm, fun H10 M10 B10 => ⟨true, rfl, iteF ?_⟩⟩
        obtain ⟨W11, kL11, kM11⟩ := W9.endD sm1 hf1 B10 M10
        have w1 := kL11 _ t1
        have w2 := kM11 _ t2
        -- .. of the other one
        have W12 := W11.swap
        obtain ⟨dz2, hob2⟩ := W12.lx.ob
        refine ⟨_, rfl, _, rfl, _, _, rfl, rfl, L, _, _, _, rfl, rfl, SqL.of w1, q4, y.p, dz2, _, rfl, hob2, flds_no _ _ _ nDu.1 nDu.2.1 nDu.2.2, _, rfl,
          y.p, y.dt, y.de, _, now + st, _, _, rfl, W12.lx, by omega, fun f2 ts2 ps2 H11 hf2 hl2 mt2 as2 pm2 sm2 => ?_⟩
        have W13 := W12.same sm2
        refine ⟨_, rfl, _, rfl, _, _, rfl, rfl, Mn, _, _, _, rfl, rfl, SqL.of (sm2 _ _ w2), q6, _, rfl,
          f2, y.m, y.g, y.e, y.t, _, _, _, ts2, ps2, rfl, W13.mx, j2.ndE, by omega, hl2, mt2, as2, pm2, (ne_of_none W12.mx.gi hf2).symm, fun H12 M12 B12 => ⟨true, rfl, iteF ?_⟩⟩
        obtain ⟨W14, kL14, kM14⟩ := W12.endD sm2 hf2 B12 M12
        refine ⟨⟨_, _, _, _, _, _, _, _, _, _, _, rfl⟩, ?_⟩
        have W15 : Wld C H L Mn (40 + (i + 1)) (kind % 2) H12 := by
          refine ⟨{ x with t := f1 }, { y with t := f2 }, _, _, _, _, _, _, ⟨ls, ms, kL14 _ w1, kM14 _ w2, q3, q4, q5, q6⟩, W14.swap, J6, j2, ⟨?_, ?_, ?_⟩, b2.mono (by omega)⟩
          · exact rb.1
          · omega
          · exact rb.2
        exact W15.back hw
      · rintro σ H2 ⟨⟨now, z4, z5, z6, z7, z8, z9, z10, z11, z12, z13, rfl⟩, W2⟩
        refine ⟨_, true, rfl, .inl ⟨⟨_, rfl⟩, rfl⟩, true, rfl, iteT ?_⟩
        exact ⟨rfl, k _⟩
end
end K1

namespace K1
open PySem
/-- isinstance(e, X) by what the written part says of the class X -/
theorem kit_own {K : PySem.W.Frag} {D B : Addr} {b : Bool} (hd : PySem.W.hasDictIn K B = true) (ht : PySem.W.typeIn K (.ref B) = some (.type "type")) (self : PySem.W.subIn K (.ref D) (.ref D) = some true) (h : PySem.W.subIn K (.ref D) (.ref B) = some b) :
    PySem.W.kitOne K (.ref D) (.ref B) = some b := by
  by_cases e : D = B
  · subst e
    rw [self] at h
    rw [← h]
    exact if_pos (beq_self_eq_true _)
  · obtain ⟨cd, hc, _⟩ := PySem.W.any_some hd
    have n : ¬ ((Value.ref D == Value.ref B) = true) := fun z => e (Value.ref.inj (beq_iff_eq.mp z))
    have y : ((PySem.W.clsIn K B).isSome && PySem.W.typeIn K (.ref B) == some (.type "type")) = true := by rw [hc, ht]; rfl
    unfold PySem.W.kitOne PySem.W.kitCls
    rw [if_neg n]
    dsimp only
    rw [if_pos y]
    exact h
theorem kit_type {K : PySem.W.Frag} {D : Addr} {T : String} {b : Bool} (m : PySem.W.kitMeta T = true) (h : PySem.W.subIn K (.ref D) (.type T) = some b) : PySem.W.kitOne K (.ref D) (.type T) = some b := by
  have n : ¬ ((Value.ref D == Value.type T) = true) := fun z => by cases beq_iff_eq.mp z
  unfold PySem.W.kitOne PySem.W.kitCls
  rw [if_neg n]
  dsimp only
  rw [if_pos m]
  exact h
end K1

namespace K1
open PySem L2 L2H LX
theorem all_mk {l : PySem.W.OpenLaw} {w : World} {K : PySem.W.Frag} {h : Heap} {mg : Str → Option Value} {fa C LE BT NL NK HE NS NW f1 f2 f3 f4 f5 f6 f7 f8 f9 f10 f11 f12 f13 f14 : Addr} {tm : Tok} (X : K.In h) (G : h.Ns mainGlobals mg) (hfa : mg "law" = some (.ref fa))
    {od1 an1 od2 an2 od3 an3 od4 an4 od5 an5 od6 an6 od7 an7 od8 an8 od9 an9 od10 an10 od11 an11 od12 an12 od13 an13 od14 an14 : Option Addr} {sl1 sl2 sl3 sl4 sl5 sl6 sl7 sl8 sl9 sl10 sl11 sl12 sl13 sl14 : Array (Option Value)} {oc1 kV1 dc1 pm1 cd1 ct1 oc2 kV2 dc2 pm2 cd2 ct2 oc3 kV3 dc3 pm3 cd3 ct3 oc4 kV4 dc4 pm4 cd4 ct4 oc5 kV5 dc5 pm5 cd5 ct5 oc6 kV6 dc6 pm6 cd6 ct6 oc7 kV7 dc7 pm7 cd7 ct7 oc8 kV8 dc8 pm8 cd8 ct8 oc9 kV9 dc9 pm9 cd9 ct9 oc10 kV10 dc10 pm10 cd10 ct10 oc11 kV11 dc11 pm11 cd11 ct11 oc12 kV12 dc12 pm12 cd12 ct12 oc13 kV13 dc13 pm13 cd13 ct13 oc14 kV14 dc14 pm14 cd14 ct14 : Value}
    (aC : PySem.W.nsIn K mainGlobals "Leases" = some (some (.ref C)))
    (a1 : PySem.W.findIn K (.ref C) "__init__" = some (some (.ref f1)))
    (i1 : PySem.W.isFn K (.ref f1) = true)
    (l1 : K.lookup f1 = some ⟨oc1, od1, .func (PySem.W.fnOf "__init__" "Leases.__init__" (defArgs sInit) (defBody sInit) (defScope sInit) .none kV1 dc1 pm1 an1 cd1 ct1), sl1⟩)
    (c1 : PySem.W.codeIn K cd1 "Leases.__init__" = true)
    (k1 : PySem.W.keepIn K (.ref f1) = true)
    (a2 : PySem.W.findIn K (.ref C) "grant" = some (some (.ref f2)))
    (i2 : PySem.W.isFn K (.ref f2) = true)
    (l2 : K.lookup f2 = some ⟨oc2, od2, .func (PySem.W.fnOf "grant" "Leases.grant" (defArgs sGrant) (defBody sGrant) (defScope sGrant) .none kV2 dc2 pm2 an2 cd2 ct2), sl2⟩)
    (c2 : PySem.W.codeIn K cd2 "Leases.grant" = true)
    (k2 : PySem.W.keepIn K (.ref f2) = true)
    (a3 : PySem.W.findIn K (.ref C) "renew" = some (some (.ref f3)))
    (i3 : PySem.W.isFn K (.ref f3) = true)
    (l3 : K.lookup f3 = some ⟨oc3, od3, .func (PySem.W.fnOf "renew" "Leases.renew" (defArgs sRenew) (defBody sRenew) (defScope sRenew) .none kV3 dc3 pm3 an3 cd3 ct3), sl3⟩)
    (c3 : PySem.W.codeIn K cd3 "Leases.renew" = true)
    (k3 : PySem.W.keepIn K (.ref f3) = true)
    (a4 : PySem.W.findIn K (.ref C) "drop" = some (some (.ref f4)))
    (i4 : PySem.W.isFn K (.ref f4) = true)
    (l4 : K.lookup f4 = some ⟨oc4, od4, .func (PySem.W.fnOf "drop" "Leases.drop" (defArgs sDrop) (defBody sDrop) (defScope sDrop) .none kV4 dc4 pm4 an4 cd4 ct4), sl4⟩)
    (c4 : PySem.W.codeIn K cd4 "Leases.drop" = true)
    (k4 : PySem.W.keepIn K (.ref f4) = true)
    (a5 : PySem.W.findIn K (.ref C) "due" = some (some (.ref f5)))
    (i5 : PySem.W.isFn K (.ref f5) = true)
    (l5 : K.lookup f5 = some ⟨oc5, od5, .func (PySem.W.fnOf "due" "Leases.due" (defArgs sDue) (defBody sDue) (defScope sDue) .none kV5 dc5 pm5 an5 cd5 ct5), sl5⟩)
    (c5 : PySem.W.codeIn K cd5 "Leases.due" = true)
    (k5 : PySem.W.keepIn K (.ref f5) = true)
    (a6 : PySem.W.findIn K (.ref C) "refuse_unknown" = some (some (.ref f6)))
    (i6 : PySem.W.isFn K (.ref f6) = true)
    (l6 : K.lookup f6 = some ⟨oc6, od6, .func (PySem.W.fnOf "refuse_unknown" "Leases.refuse_unknown" (defArgs sRefuse) (defBody sRefuse) (defScope sRefuse) .none kV6 dc6 pm6 an6 cd6 ct6), sl6⟩)
    (c6 : PySem.W.codeIn K cd6 "Leases.refuse_unknown" = true)
    (k6 : PySem.W.keepIn K (.ref f6) = true)
    (a7 : PySem.W.nsIn K mainGlobals "_law_whole" = some (some (.ref f7)))
    (l7 : K.lookup f7 = some ⟨oc7, od7, .func (PySem.W.fnOf "_law_whole" "_law_whole" (defArgs sWhole) (defBody sWhole) (defScope sWhole) .none kV7 dc7 pm7 an7 cd7 ct7), sl7⟩)
    (c7 : PySem.W.codeIn K cd7 "_law_whole" = true)
    (k7 : PySem.W.keepIn K (.ref f7) = true)
    (a8 : PySem.W.nsIn K mainGlobals "_law_cell_at" = some (some (.ref f8)))
    (l8 : K.lookup f8 = some ⟨oc8, od8, .func (PySem.W.fnOf "_law_cell_at" "_law_cell_at" (defArgs sCell) (defBody sCell) (defScope sCell) .none kV8 dc8 pm8 an8 cd8 ct8), sl8⟩)
    (c8 : PySem.W.codeIn K cd8 "_law_cell_at" = true)
    (k8 : PySem.W.keepIn K (.ref f8) = true)
    (a9 : PySem.W.nsIn K mainGlobals "_law_ticks" = some (some (.ref f9)))
    (l9 : K.lookup f9 = some ⟨oc9, od9, .func (PySem.W.fnOf "_law_ticks" "_law_ticks" (defArgs sTicks) (defBody sTicks) (defScope sTicks) .none kV9 dc9 pm9 an9 cd9 ct9), sl9⟩)
    (c9 : PySem.W.codeIn K cd9 "_law_ticks" = true)
    (k9 : PySem.W.keepIn K (.ref f9) = true)
    (a10 : PySem.W.nsIn K mainGlobals "_law_only" = some (some (.ref f10)))
    (l10 : K.lookup f10 = some ⟨oc10, od10, .func (PySem.W.fnOf "_law_only" "_law_only" (defArgs sOnly) (defBody sOnly) (defScope sOnly) .none kV10 dc10 pm10 an10 cd10 ct10), sl10⟩)
    (c10 : PySem.W.codeIn K cd10 "_law_only" = true)
    (k10 : PySem.W.keepIn K (.ref f10) = true)
    (a11 : PySem.W.nsIn K mainGlobals "_law_told" = some (some (.ref f11)))
    (l11 : K.lookup f11 = some ⟨oc11, od11, .func (PySem.W.fnOf "_law_told" "_law_told" (defArgs sTold) (defBody sTold) (defScope sTold) .none kV11 dc11 pm11 an11 cd11 ct11), sl11⟩)
    (c11 : PySem.W.codeIn K cd11 "_law_told" = true)
    (k11 : PySem.W.keepIn K (.ref f11) = true)
    (a12 : PySem.W.nsIn K mainGlobals "_law_due" = some (some (.ref f12)))
    (l12 : K.lookup f12 = some ⟨oc12, od12, .func (PySem.W.fnOf "_law_due" "_law_due" (defArgs sLdue) (defBody sLdue) (defScope sLdue) .none kV12 dc12 pm12 an12 cd12 ct12), sl12⟩)
    (c12 : PySem.W.codeIn K cd12 "_law_due" = true)
    (k12 : PySem.W.keepIn K (.ref f12) = true)
    (a13 : PySem.W.nsIn K mainGlobals "_law_ending" = some (some (.ref f13)))
    (l13 : K.lookup f13 = some ⟨oc13, od13, .func (PySem.W.fnOf "_law_ending" "_law_ending" (defArgs sEnding) (defBody sEnding) (defScope sEnding) .none kV13 dc13 pm13 an13 cd13 ct13), sl13⟩)
    (c13 : PySem.W.codeIn K cd13 "_law_ending" = true)
    (k13 : PySem.W.keepIn K (.ref f13) = true)
    (a14 : PySem.W.nsIn K mainGlobals "law" = some (some (.ref f14)))
    (l14 : K.lookup f14 = some ⟨oc14, od14, .func (PySem.W.fnOf "law" "law" (defArgs sLaw) (defBody sLaw) (defScope sLaw) .none kV14 dc14 pm14 an14 cd14 ct14), sl14⟩)
    (c14 : PySem.W.codeIn K cd14 "law" = true)
    (k14 : PySem.W.keepIn K (.ref f14) = true)
    (pg : PySem.W.plainGet K C Str.empty = true)
    (hd : PySem.W.hasDictIn K C = true)
    (po : PySem.W.plainOver K C = true)
    (sa : PySem.W.findIn K (.ref C) "__setattr__" = some (some (.builtin "object.__setattr__")))
    (mk : PySem.W.makesIn K C = true)
    (kc : PySem.W.keepIn K (.ref C) = true)
    (nG : PySem.W.findIn K (.ref C) "_given" = some none)
    (nT : PySem.W.findIn K (.ref C) "_ticks" = some none)
    (nE : PySem.W.findIn K (.ref C) "_ends" = some none)
    (mM : PySem.W.nsIn K mainGlobals "MOST_TICKS" = some (some (.int 1000000 tm)))
    (eLE : PySem.W.nsIn K mainGlobals "LeaseError" = some (some (.ref LE)))
    (eBT : PySem.W.nsIn K mainGlobals "BadTicks" = some (some (.ref BT)))
    (eNL : PySem.W.nsIn K mainGlobals "NoLease" = some (some (.ref NL)))
    (eNK : PySem.W.nsIn K mainGlobals "NoKey" = some (some (.ref NK)))
    (eHE : PySem.W.nsIn K mainGlobals "Held" = some (some (.ref HE)))
    (eNS : PySem.W.nsIn K mainGlobals "NoStart" = some (some (.ref NS)))
    (eNW : PySem.W.nsIn K mainGlobals "NoWatch" = some (some (.ref NW)))
    (hdLE : PySem.W.hasDictIn K LE = true)
    (tLE : PySem.W.typeIn K (.ref LE) = some (.type "type"))
    (hdBT : PySem.W.hasDictIn K BT = true)
    (tBT : PySem.W.typeIn K (.ref BT) = some (.type "type"))
    (hdNL : PySem.W.hasDictIn K NL = true)
    (tNL : PySem.W.typeIn K (.ref NL) = some (.type "type"))
    (hdNK : PySem.W.hasDictIn K NK = true)
    (tNK : PySem.W.typeIn K (.ref NK) = some (.type "type"))
    (hdHE : PySem.W.hasDictIn K HE = true)
    (tHE : PySem.W.typeIn K (.ref HE) = some (.type "type"))
    (hdNS : PySem.W.hasDictIn K NS = true)
    (tNS : PySem.W.typeIn K (.ref NS) = some (.type "type"))
    (hdNW : PySem.W.hasDictIn K NW = true)
    (tNW : PySem.W.typeIn K (.ref NW) = some (.type "type"))
    (bLE : PySem.W.subIn K (.ref LE) (.type "BaseException") = some true)
    (xBT : PySem.W.excIn K BT [.type "ValueError", .type "Exception", .type "BaseException", .type "object"] "ValueError.__new__" = true)
    (kpBT : PySem.W.keepIn K (.ref BT) = true)
    (bBT : PySem.W.subIn K (.ref BT) (.type "BaseException") = some true)
    (gaBT : PySem.W.findIn K (.ref BT) "__getattribute__" = some (some (.builtin "BaseException.__getattribute__")))
    (gtBT : PySem.W.findIn K (.ref BT) "__getattr__" = some none)
    (clBT : PySem.W.findIn K (.ref BT) "__class__" = some (some (.builtin "object.__class__")))
    (mrBT : PySem.W.mroIn K BT (.type "object") = some true)
    (oBTBT : PySem.W.subIn K (.ref BT) (.ref BT) = some true)
    (oBTNL : PySem.W.subIn K (.ref BT) (.ref NL) = some false)
    (oBTNK : PySem.W.subIn K (.ref BT) (.ref NK) = some false)
    (oBTHE : PySem.W.subIn K (.ref BT) (.ref HE) = some false)
    (oBTNS : PySem.W.subIn K (.ref BT) (.ref NS) = some false)
    (oBTNW : PySem.W.subIn K (.ref BT) (.ref NW) = some false)
    (ovBT : PySem.W.subIn K (.ref BT) (.type "ValueError") = some true)
    (qBT : PySem.W.subIn K (.ref BT) (.ref LE) = some true)
    (xNL : PySem.W.excIn K NL [.type "ValueError", .type "Exception", .type "BaseException", .type "object"] "ValueError.__new__" = true)
    (kpNL : PySem.W.keepIn K (.ref NL) = true)
    (bNL : PySem.W.subIn K (.ref NL) (.type "BaseException") = some true)
    (gaNL : PySem.W.findIn K (.ref NL) "__getattribute__" = some (some (.builtin "BaseException.__getattribute__")))
    (gtNL : PySem.W.findIn K (.ref NL) "__getattr__" = some none)
    (clNL : PySem.W.findIn K (.ref NL) "__class__" = some (some (.builtin "object.__class__")))
    (mrNL : PySem.W.mroIn K NL (.type "object") = some true)
    (oNLBT : PySem.W.subIn K (.ref NL) (.ref BT) = some false)
    (oNLNL : PySem.W.subIn K (.ref NL) (.ref NL) = some true)
    (oNLNK : PySem.W.subIn K (.ref NL) (.ref NK) = some false)
    (oNLHE : PySem.W.subIn K (.ref NL) (.ref HE) = some false)
    (oNLNS : PySem.W.subIn K (.ref NL) (.ref NS) = some false)
    (oNLNW : PySem.W.subIn K (.ref NL) (.ref NW) = some false)
    (ovNL : PySem.W.subIn K (.ref NL) (.type "ValueError") = some true)
    (qNL : PySem.W.subIn K (.ref NL) (.ref LE) = some true)
    (sp : PySem.W.specialIn K (.builtin "object.__class__") "__get__" = some (some (.builtin "getset_descriptor.__get__")))
    (tk : PySem.W.takesIn K (.builtin "object.__class__") = some true)
    (z1 : PySem.W.nsIn K mainGlobals "isinstance" = some none)
    (z2 : PySem.W.nsIn K mainGlobals "int" = some none)
    (z3 : PySem.W.nsIn K mainGlobals "bool" = some none)
    (z4 : PySem.W.nsIn K mainGlobals "len" = some none)
    (z5 : PySem.W.nsIn K mainGlobals "sorted" = some none)
    (z6 : PySem.W.nsIn K mainGlobals "list" = some none)
    (z7 : PySem.W.nsIn K mainGlobals "tuple" = some none)
    (z8 : PySem.W.nsIn K mainGlobals "range" = some none)
    (z9 : PySem.W.nsIn K mainGlobals "ValueError" = some none)
    : ∃ fd : FuncData, (∀ (s : Shared) (v : Value), BindsTo s fd ⟨[v], []⟩ [("_law_script", v)]) ∧ ∀ base : Heap, K.In base → base.Ns mainGlobals mg → FnOk l.prog w K mg base CX0 5 fa fd ["_law_script"] (spLaw K) := by
  have e := hfa.symm.trans (PySem.W.mg_of X G a14)
  cases e
  have T : Txt K mg C := ⟨⟨pg, hd, po, sa⟩, nG, nT, nE, PySem.W.mg_of X G aC⟩
  have LT : LTxt mg := ⟨PySem.W.mg_none_of X G z1, PySem.W.mg_none_of X G z2, PySem.W.mg_none_of X G z3, PySem.W.mg_none_of X G z4, PySem.W.mg_none_of X G z5, PySem.W.mg_none_of X G z6, PySem.W.mg_none_of X G z7, PySem.W.mg_none_of X G z8, PySem.W.mg_none_of X G z9⟩
  have NBT : ErrT K mg "BadTicks" BT := ⟨PySem.W.mg_of X G eBT, xBT, kpBT, bBT, tBT⟩
  have OBT : OnlyT K BT BT NL NK HE NS NW true false := ⟨⟨gaBT, gtBT, bBT, hdBT, clBT, sp, tk, mrBT⟩, kit_own hdBT tBT oBTBT oBTBT, kit_own hdNL tNL oBTBT oBTNL, kit_own hdNK tNK oBTBT oBTNK, kit_own hdHE tHE oBTBT oBTHE, kit_own hdNS tNS oBTBT oBTNS, kit_own hdNW tNW oBTBT oBTNW, kit_type (by decide +kernel) ovBT⟩
  have NNL : ErrT K mg "NoLease" NL := ⟨PySem.W.mg_of X G eNL, xNL, kpNL, bNL, tNL⟩
  have ONL : OnlyT K NL BT NL NK HE NS NW false true := ⟨⟨gaNL, gtNL, bNL, hdNL, clNL, sp, tk, mrNL⟩, kit_own hdBT tBT oNLNL oNLBT, kit_own hdNL tNL oNLNL oNLNL, kit_own hdNK tNK oNLNL oNLNK, kit_own hdHE tHE oNLNL oNLHE, kit_own hdNS tNS oNLNL oNLNS, kit_own hdNW tNW oNLNL oNLNW, kit_type (by decide +kernel) ovNL⟩
  have ER : Errs K mg LE BT NL NK HE NS NW := ⟨PySem.W.mg_of X G eLE, PySem.W.mg_of X G eBT, PySem.W.mg_of X G eNL, PySem.W.mg_of X G eNK, PySem.W.mg_of X G eHE, PySem.W.mg_of X G eNS, PySem.W.mg_of X G eNW, OBT, ONL, PySem.W.exm_ref bLE hdLE tLE qBT, PySem.W.exm_ref bLE hdLE tLE qNL⟩
  have F1 := fun_mk (st := sInit) l1 c1 k1
  have F2 := fun_mk (st := sGrant) l2 c2 k2
  have F3 := fun_mk (st := sRenew) l3 c3 k3
  have F4 := fun_mk (st := sDrop) l4 c4 k4
  have F5 := fun_mk (st := sDue) l5 c5 k5
  have F6 := fun_mk (st := sRefuse) l6 c6 k6
  have F7 := fun_mk (st := sWhole) l7 c7 k7
  have F8 := fun_mk (st := sCell) l8 c8 k8
  have F9 := fun_mk (st := sTicks) l9 c9 k9
  have F10 := fun_mk (st := sOnly) l10 c10 k10
  have F11 := fun_mk (st := sTold) l11 c11 k11
  have F12 := fun_mk (st := sLdue) l12 c12 k12
  have F13 := fun_mk (st := sEnding) l13 c13 k13
  have F14 := fun_mk (st := sLaw) l14 c14 k14
  have b1 := F1.binds (ps := ["self"]) fun _ _ _ _ _ _ us hl => match us, hl with | [_], _ => rfl
  have b2 := F2.binds (ps := ["self", "now", "ticks"]) fun _ _ _ _ _ _ us hl => match us, hl with | [_, _, _], _ => rfl
  have b3 := F3.binds (ps := ["self", "now", "lease"]) fun _ _ _ _ _ _ us hl => match us, hl with | [_, _, _], _ => rfl
  have b4 := F4.binds (ps := ["self", "lease"]) fun _ _ _ _ _ _ us hl => match us, hl with | [_, _], _ => rfl
  have b5 := F5.binds (ps := ["self", "until"]) fun _ _ _ _ _ _ us hl => match us, hl with | [_, _], _ => rfl
  have b6 := F6.binds (ps := ["self", "lease"]) fun _ _ _ _ _ _ us hl => match us, hl with | [_, _], _ => rfl
  have b7 := F7.binds (ps := ["_law_found"]) fun _ _ _ _ _ _ us hl => match us, hl with | [_], _ => rfl
  have b8 := F8.binds (ps := ["_law_script", "_law_k"]) fun _ _ _ _ _ _ us hl => match us, hl with | [_, _], _ => rfl
  have b9 := F9.binds (ps := ["_law_cell", "_law_more"]) fun _ _ _ _ _ _ us hl => match us, hl with | [_, _], _ => rfl
  have b10 := F10.binds (ps := ["_law_error", "_law_word"]) fun _ _ _ _ _ _ us hl => match us, hl with | [_, _], _ => rfl
  have b11 := F11.binds (ps := ["_law_lot", "_law_word", "_law_now", "_law_number"]) fun _ _ _ _ _ _ us hl => match us, hl with | [_, _, _, _], _ => rfl
  have b12 := F12.binds (ps := ["_law_lot", "_law_word", "_law_now", "_law_number"]) fun _ _ _ _ _ _ us hl => match us, hl with | [_, _, _, _], _ => rfl
  have b13 := F13.binds (ps := ["_law_found", "_law_lot", "_law_until"]) fun _ _ _ _ _ _ us hl => match us, hl with | [_, _, _], _ => rfl
  have b14 := F14.binds (ps := ["_law_script"]) fun _ _ _ _ _ _ us hl => match us, hl with | [_], _ => rfl
  have mR : Meth K C "refuse_unknown" f6 := ⟨a6, i6, k6⟩
  refine ⟨PySem.W.fnOf "law" "law" (defArgs sLaw) (defBody sLaw) (defScope sLaw) .none kV14 dc14 pm14 an14 cd14 ct14, fun s v => .of_eq rfl, fun base _ _ => ?_⟩
  have MM : Meths l.prog w K mg base C BT NL := ⟨⟨_, _, ⟨a2, i2, k2⟩, b2, ok_grant F2 T NBT (PySem.W.mg_of X G mM)⟩, ⟨_, _, ⟨a3, i3, k3⟩, b3, ok_renew F3 T NNL F6 b6 mR⟩, ⟨_, _, ⟨a4, i4, k4⟩, b4, ok_drop F4 T NNL F6 b6 mR⟩, ⟨_, _, ⟨a5, i5, k5⟩, b5, ok_due F5 T LT.sorted⟩⟩
  have GW : FnOk l.prog w K mg base CX0 1 f7 _ ["_law_found"] spWhole := ok_whole F7 LT
  have HH : Helps l.prog w K mg base C := ⟨⟨_, _, PySem.W.mg_of X G a7, k7, b7, GW⟩, ⟨_, _, PySem.W.mg_of X G a8, k8, b8, ok_cell F8 LT⟩, ⟨_, _, PySem.W.mg_of X G a9, k9, b9, ok_ticks F9⟩,
    ⟨_, _, PySem.W.mg_of X G a11, k11, b11, ok_told F11 T ER MM (ok_only F10 LT ER) (PySem.W.mg_of X G a10) k10 b10⟩, ⟨_, _, PySem.W.mg_of X G a12, k12, b12, ok_ldue F12 LT⟩, ⟨_, _, PySem.W.mg_of X G a13, k13, b13, ok_ending F13 LT GW (PySem.W.mg_of X G a7) k7 b7⟩⟩
  exact ok_law F14 T LT (PySem.W.mg_of X G mM) ⟨mk, a1, i1, kc⟩ (ok_init F1 T) b1 MM HH
theorem walk {l : PySem.W.OpenLaw} {q : Program} {loose : List Str} {XP : (Str → Option Value) → Heap → Prop} {YP : World → Heap → Prop} {d : DefRec} {K : Params → PySem.W.Frag} (hn : l.most = some 63) (hdf : d.params.defaults = [])
    (hY : ∀ (w : World) (h : Heap), YP w h → (K w.params).In h)
    (F : ∀ (w : World) (mg : Str → Option Value) (fa : Addr) (h : Heap), (K w.params).In h → h.Ns mainGlobals mg → mg d.name = some (.ref fa) →
      ∃ fd : FuncData, (∀ (s : Shared) (u : Value), BindsTo s fd ⟨[u], []⟩ [("_law_script", u)]) ∧ ∀ base : Heap, (K w.params).In base → base.Ns mainGlobals mg → FnOk l.prog w (K w.params) mg base CX0 5 fa fd ["_law_script"] (spLaw (K w.params))) :
    PySem.W.WalkO q loose XP YP l.row.toRowW d [] (fun f vs => PySem.call f vs) :=
  L2.walk_of (n := 63) (k := 5) (x := "_law_script") (CX := fun _ => CX0) (sp := fun w => spLaw (K w.params)) hn (by decide) hdf ⟨rfl, by decide, by decide⟩ hY F (fun _ _ a ns hl _ hS => ⟨a, ns, rfl, hS, hl, fun _ => rfl⟩) fun _ _ _ _ _ z => z
end K1

open PySem PySem.W PyProof.Rows
set_option maxRecDepth 100000 in
set_option maxHeartbeats 0 in
theorem PySem.Challenge.cw_leasewatch_k01_leases_by_themselves_holds : PySem.Challenge.rw_leasewatch_k01_leases_by_themselves.Holds := by
  w_on; o_law; k_head; (case hw => w_witness2)
  k_fill
  refine K1.walk (l := PySem.Challenge.rw_leasewatch_k01_leases_by_themselves) rfl rfl (fun w h Y => PySem.W.kIn_of Y) ?F
  case F =>
    intro w mg fa h KX G hmg
    refine' K1.all_mk KX G hmg ?aC ?a1 ?i1 ?l1 ?c1 ?k1 ?a2 ?i2 ?l2 ?c2 ?k2 ?a3 ?i3 ?l3 ?c3 ?k3 ?a4 ?i4 ?l4 ?c4 ?k4 ?a5 ?i5 ?l5 ?c5 ?k5 ?a6 ?i6 ?l6 ?c6 ?k6 ?a7 ?l7 ?c7 ?k7 ?a8 ?l8 ?c8 ?k8 ?a9 ?l9 ?c9 ?k9 ?a10 ?l10 ?c10 ?k10 ?a11 ?l11 ?c11 ?k11 ?a12 ?l12 ?c12 ?k12 ?a13 ?l13 ?c13 ?k13 ?a14 ?l14 ?c14 ?k14 ?pg ?hd ?po ?sa ?mk ?kc ?nG ?nT ?nE ?mM ?eLE ?eBT ?eNL ?eNK ?eHE ?eNS ?eNW ?hdLE ?tLE ?hdBT ?tBT ?hdNL ?tNL ?hdNK ?tNK ?hdHE ?tHE ?hdNS ?tNS ?hdNW ?tNW ?bLE ?xBT ?kpBT ?bBT ?gaBT ?gtBT ?clBT ?mrBT ?oBTBT ?oBTNL ?oBTNK ?oBTHE ?oBTNS ?oBTNW ?ovBT ?qBT ?xNL ?kpNL ?bNL ?gaNL ?gtNL ?clNL ?mrNL ?oNLBT ?oNLNL ?oNLNK ?oNLHE ?oNLNS ?oNLNW ?ovNL ?qNL ?sp ?tk ?z1 ?z2 ?z3 ?z4 ?z5 ?z6 ?z7 ?z8 ?z9
    (case aC => k_is)
    (case a1 => k_is)
    (case i1 => k_is)
    (case l1 => k_is)
    (case c1 => k_is)
    (case k1 => k_is)
    (case a2 => k_is)
    (case i2 => k_is)
    (case l2 => k_is)
    (case c2 => k_is)
    (case k2 => k_is)
    (case a3 => k_is)
    (case i3 => k_is)
    (case l3 => k_is)
    (case c3 => k_is)
    (case k3 => k_is)
    (case a4 => k_is)
    (case i4 => k_is)
    (case l4 => k_is)
    (case c4 => k_is)
    (case k4 => k_is)
    (case a5 => k_is)
    (case i5 => k_is)
    (case l5 => k_is)
    (case c5 => k_is)
    (case k5 => k_is)
    (case a6 => k_is)
    (case i6 => k_is)
    (case l6 => k_is)
    (case c6 => k_is)
    (case k6 => k_is)
    (case a7 => k_is)
    (case l7 => k_is)
    (case c7 => k_is)
    (case k7 => k_is)
    (case a8 => k_is)
    (case l8 => k_is)
    (case c8 => k_is)
    (case k8 => k_is)
    (case a9 => k_is)
    (case l9 => k_is)
    (case c9 => k_is)
    (case k9 => k_is)
    (case a10 => k_is)
    (case l10 => k_is)
    (case c10 => k_is)
    (case k10 => k_is)
    (case a11 => k_is)
    (case l11 => k_is)
    (case c11 => k_is)
    (case k11 => k_is)
    (case a12 => k_is)
    (case l12 => k_is)
    (case c12 => k_is)
    (case k12 => k_is)
    (case a13 => k_is)
    (case l13 => k_is)
    (case c13 => k_is)
    (case k13 => k_is)
    (case a14 => k_is)
    (case l14 => k_is)
    (case c14 => k_is)
    (case k14 => k_is)
    (case pg => k_is)
    (case hd => k_is)
    (case po => k_is)
    (case sa => k_is)
    (case mk => k_is)
    (case kc => k_is)
    (case nG => k_is)
    (case nT => k_is)
    (case nE => k_is)
    (case mM => k_is)
    (case eLE => k_is)
    (case eBT => k_is)
    (case eNL => k_is)
    (case eNK => k_is)
    (case eHE => k_is)
    (case eNS => k_is)
    (case eNW => k_is)
    (case hdLE => k_is)
    (case tLE => k_is)
    (case hdBT => k_is)
    (case tBT => k_is)
    (case hdNL => k_is)
    (case tNL => k_is)
    (case hdNK => k_is)
    (case tNK => k_is)
    (case hdHE => k_is)
    (case tHE => k_is)
    (case hdNS => k_is)
    (case tNS => k_is)
    (case hdNW => k_is)
    (case tNW => k_is)
    (case bLE => k_is)
    (case xBT => k_exc)
    (case kpBT => k_is)
    (case bBT => k_is)
    (case gaBT => k_is)
    (case gtBT => k_is)
    (case clBT => k_is)
    (case mrBT => k_is)
    (case oBTBT => k_is)
    (case oBTNL => k_is)
    (case oBTNK => k_is)
    (case oBTHE => k_is)
    (case oBTNS => k_is)
    (case oBTNW => k_is)
    (case ovBT => k_is)
    (case qBT => k_is)
    (case xNL => k_exc)
    (case kpNL => k_is)
    (case bNL => k_is)
    (case gaNL => k_is)
    (case gtNL => k_is)
    (case clNL => k_is)
    (case mrNL => k_is)
    (case oNLBT => k_is)
    (case oNLNL => k_is)
    (case oNLNK => k_is)
    (case oNLHE => k_is)
    (case oNLNS => k_is)
    (case oNLNW => k_is)
    (case ovNL => k_is)
    (case qNL => k_is)
    (case sp => k_is)
    (case tk => k_is)
    (case z1 => k_is)
    (case z2 => k_is)
    (case z3 => k_is)
    (case z4 => k_is)
    (case z5 => k_is)
    (case z6 => k_is)
    (case z7 => k_is)
    (case z8 => k_is)
    (case z9 => k_is)
