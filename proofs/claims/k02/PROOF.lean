import PyProof.Rows.All
import Wide.All
import OpenK.AllK
import Wide.FinOn
import HandS.ForMost
import HandS.ForExc
import HandS.CallSlots
import HandS.ExcCtx
import HandS.IsInst
import HandS.Defaults
import HandS.TupAny
import HandS.TupMul
import HandS.Wide
import HandS.Conv
import HandS.Flow
import HandS.Codes
import HandS.Zip
import KE.KeyNested
import PyProof.DictMoreH
import HandS.SetKeys
import HandS.TupLen
import HandS.Iter
import HandS.DictComp
import HandS.Style
import PySem.Challenge.RW_stillends_k02_whole_books_of_pairs
import HandS.Deep
set_option Elab.async false
set_option linter.all false
set_option maxRecDepth 100000
set_option maxHeartbeats 2000000
namespace PySem
namespace NUsX
open PySem.W PySem.Calls PyProof.Rows PySem.HandSPX
def iA (p1 p2 : Pos) : Arguments := { posonlyargs := [], args := [{ arg := "self", annotation := none, pos := p1 }, { arg := "word", annotation := none, pos := p2 }], vararg := none, kwonlyargs := [], kw_defaults := [], kwarg := none, defaults := [] }
def iB (q1 q2 q3 q4 : Pos) : List Stmt := [.Assign [.Attribute (.Name "self" q1) "word" q2] (.Name "word" q3) q4]
def iS : Scope := { kind := .function, names := [(PySem.Str.ofString "self", .local), (PySem.Str.ofString "word", .local)], isGenerator := false, isCoroutine := false, more := [] }
structure NUsTxt (K : Frag) (mg : Str → Option Value) (C fI : Addr) : Prop where
  gC : mg "NotUsable" = some (.ref C)
  cls : ∃ nm q N bs bm sn sub ab col dd k0 k1 k2 k3 k5, K.lookup C = some (excClassObj nm q C N bs bm true sn sub ab col dd k0 k1 k2 k3 k5 "ValueError.__new__") ∧ refsVE bm = true
  sa : findIn K (.ref C) "__setattr__" = some (some (.builtin "object.__setattr__"))
  ga : findIn K (.ref C) "__getattribute__" = some (some (.builtin "BaseException.__getattribute__"))
  gg : findIn K (.ref C) "__getattr__" = some none
  noN : findIn K (.ref C) "word" = some none
  iC : findIn K (.ref C) "__init__" = some (some (.ref fI))
  tC : typeIn K (.ref fI) = some (.type "function")
  kC : keepIn K (.ref C) = true
  exC : subIn K (.ref C) (.type "BaseException") = some true
  tyC : typeIn K (.ref C) = some (.type "type")
  hdC : hasDictIn K C = true
  te : exmOne K (.ref C) (.ref C) = some true
  fn : ∃ (oc : Value) (od : Option Addr) (doc pm : Value) (an : Option Addr) (cdv ct : Value) (osl : Array (Option Value)) (p1 p2 q1 q2 q3 q4 : Pos),
    K.lookup fI = some ⟨oc, od, .func (fnOf "__init__" "NotUsable.__init__" (iA p1 p2) (iB q1 q2 q3 q4) iS .none .none doc pm an cdv ct), osl⟩ ∧ codeIn K cdv "NotUsable.__init__" = true
theorem one_size (v : Value) : [v].length ≤ sizeLine := by
  rw [sizeLine_eq]
  exact (by decide : 1 ≤ 16777216)
theorem kept_but {K : Frag} {h h' : Heap} {x : Addr} (X : K.In h) (hx : K.lookup x = none) (k : ∀ b o, b ≠ x → h.get? b = some o → h'.get? b = some o) : K.In h' := fun a o e =>
  k a o (fun z => by rw [z, hx] at e; cases e) (X a o e)
theorem ldC {M : Model} {s : Shared} {name : Str} {scope : Scope} {L a : Addr} {cd : Value} {m : Str → Option Value} {x : Str} {pos : Pos} {v : Value} {Q : Value → Shared → Prop} {A : Around} {E : Value → Shared → Prop} (hn : s.heap.Ns L m) (hv : m x = some v) (h : Q v s)
    (hk : scope.kind = .function := by rfl) (hl : (envOfC name scope L a cd).kindOf x = some .local := by rfl) (hd : (x == ("__debug__" : Str)) = false := by decide) :
    wpAny M A (eval (.Name x pos) (envOfC name scope L a cd)) Q E s := wpAny_Name (wpAny_loadName_local hk hl hn hv h) hd
structure InitEnd (h h' : Heap) (x C dx t1 : Addr) (v : Value) : Prop where
  keep : ∀ b o, b ≠ x → h.get? b = some o → h'.get? b = some o
  obj : h'.get? x = some { cls := .ref C, dict := some dx, data := .fields #[.ref t1, .none, .none, .none, .bool false, .none] }
  dbig : h.objs.size ≤ dx
  dne : dx ≠ x
  ns : h'.Ns1 dx (fun y => if y = "word" then some v else none)
structure OwnMade (h h' : Heap) (e C d : Addr) (v : Value) : Prop where
  keep : ∀ b o, h.get? b = some o → h'.get? b = some o
  new : h.objs.size ≤ e
  obj : ∃ oe vs, h'.get? e = some oe ∧ oe.cls = .ref C ∧ oe.dict = some d ∧ oe.data = .fields vs ∧ vs[1]? = some .none ∧ vs[2]? = some .none
  dbig : h.objs.size ≤ d
  dne : d ≠ e
  ns : h'.Ns1 d (fun y => if y = "word" then some v else none)
section
variable {prog : Program} {w : World} {A : Around} {E : Value → Shared → Prop} {R : Result → Shared → Prop} {s : Shared} {K : Frag} {mg : Str → Option Value} {C fI : Addr}
theorem nus_init (T : NUsTxt K mg C fI) {x t0 : Addr} {v : Value} (X : K.In s.heap) (hlim : s.heap.NoLimit) (hx : s.heap.get? x = some (excO C t0)) (hnx : K.lookup x = none) (hroom : A.depth < recursionLimit)
    (hq : ∀ h' tk dx, InitEnd s.heap h' x C dx t0 v → R (.ok (.ret .none)) { s with heap := h', toks := tk }) :
    codeAny (model prog w) A (.call (.ref fI) ⟨[.ref x, v], []⟩) R s := by
  obtain ⟨oc, od, doc, pm, an, cdv, ct, osl, p1, p2, q1, q2, q3, q4, ho, hcd⟩ := T.fn
  obtain ⟨nm, q, N, bs, bm, sn, sub, ab, col, dd, k0, k1, k2, k3, k5, hC, hbm⟩ := T.cls
  have hcl : clsIn K C = some { name := nm, bases := bs, mro := .ref C :: bm, ns := N, qualname := q, hasDict := true, slotNames := sn, subclasses := sub, abstract := ab, collection := col, hasDel := false } := by unfold clsIn; rw [hC] <;> rfl
  refine Att.call_fn (binds := [("self", .ref x), ("word", v)]) X hlim ho hcd hroom (BindsTo.of_eq (by first | rfl | with_unfolding_all rfl)) (by first | rfl | decide | with_unfolding_all rfl) (fun s₁ IC => ?_) rfl rfl rfl
  obtain ⟨h₁, tk₁, rfl⟩ := IC.toInCall.same
  have k : ∀ b o, s.heap.get? b = some o → h₁.get? b = some o := IC.toInCall.keep
  have hn := IC.toInCall.ns
  have hxL : s.heap.objs.size ≠ x := Nat.ne_of_gt (Heap.lt_size hx)
  have X₁ : K.In h₁ := X.keeps k
  have hx₁ := k _ _ hx
  show wpAny _ _ (execs _ _) _ _ _
  refine wpAny_execs_cons (plainObj_wpAny_Assign_Attribute ?_)
  refine ldC (v := v) hn (by first | rfl | with_unfolding_all rfl | kernel_rfl) (ldC (v := .ref x) hn (by first | rfl | with_unfolding_all rfl | kernel_rfl) ?_)
  refine set_plain X₁ (ox := excO C t0) (od := none) ⟨hx₁, rfl, rfl, trivial⟩ T.sa ?_
  refine exc_osa X₁ hx₁ hcl (show refsVE (.ref C :: bm) = true from hbm) rfl T.noN (fun h₃ tk₃ dx k₃ dn dne hx₃ hn₃ => ?_)
  show wpAny _ _ (execs _ _) _ _ _
  have z : s.heap.objs.size < h₁.objs.size := hn.lt
  exact wpAny_execs_nil (hq h₃ tk₃ dx ⟨fun b o hb e => k₃ b o hb (k b o e), hx₃, Nat.le_of_lt (Nat.lt_of_lt_of_le z dn), dne, hn₃⟩)
theorem nus_made (T : NUsTxt K mg C fI) {v : Value} (X : K.In s.heap) (hlim : s.heap.NoLimit) (hroom : A.depth + 1 < recursionLimit)
    (hq : ∀ h' tk e d, OwnMade s.heap h' e C d v → R (.ok (.ret (.ref e))) { s with heap := h', toks := tk }) :
    codeAny (model prog w) A (.call (.ref C) ⟨[v], []⟩) R s := by
  obtain ⟨nm, q, N, bs, bm, sn, sub, ab, col, dd, k0, k1, k2, k3, k5, hC, hbm⟩ := T.cls
  obtain ⟨hp, g, dr, tk, os⟩ := s
  have k : ∀ b o, hp.get? b = some o → ((hp.push (kdv_tup [v])).push (excO C hp.objs.size)).get? b = some o := fun b o e => Heap.get?_push_of_some _ (Heap.get?_push_of_some _ e)
  have hget : ((hp.push (kdv_tup [v])).push (excO C hp.objs.size)).get? (hp.objs.size + 1) = some (excO C hp.objs.size) := by heap_get
  have hnx : K.lookup (hp.objs.size + 1) = none := by
    cases e : K.lookup (hp.objs.size + 1) with
    | none => rfl
    | some o =>
      have z : hp.get? (hp.objs.size + 1) = some o := X _ _ e
      exact absurd (Nat.lt_of_succ_lt (Heap.lt_size z)) (Nat.lt_irrefl _)
  refine call_own F.excBase_ValueError (fun X => refsVE_contains X bm hbm) (X _ _ hC) (looks_findIn X T.iC) (fun self => bind_fn X self T.tC) (one_size v) ?_
  refine nus_init (s := ⟨(hp.push (kdv_tup [v])).push (excO C hp.objs.size), g, dr, tk, os⟩) T (X.keeps k) (hlim.keeps k) hget hnx ?_ fun h' tk' dx ⟨k', hx, dn, dne, hns⟩ => ?_
  · show A.depth + 1 < recursionLimit
    exact hroom
  · have old : ∀ b o, hp.get? b = some o → h'.get? b = some o := fun b o e => k' b o (Nat.ne_of_lt (Nat.lt_succ_of_lt (Heap.lt_size e))) (k b o e)
    have z : hp.objs.size + 1 + 1 ≤ dx := by
      first
        | (simpa only [Heap.size_push] using dn)
        | exact dn
        | (have q := dn; rw [Heap.size_push, Heap.size_push] at q; exact q)
    exact ⟨rfl, hq h' tk' (hp.objs.size + 1) dx ⟨old, Nat.le_succ _, ⟨_, _, hx, rfl, rfl, rfl, rfl, rfl⟩, Nat.le_trans (Nat.le_trans (Nat.le_succ _) (Nat.le_succ _)) z, dne, hns⟩⟩
end
end NUsX
end PySem
namespace L2
open PySem PySem.Spec PyProof.Rows
theorem relO_nus {v : V} {v' : Value} (r : RelV v v') (f : Str) : RelO (List.lookup f [(("word" : Str), v)]) (if f = "word" then some v' else none) := by
  by_cases hw : f = "word"
  · subst hw
    rw [if_pos rfl]
    have q : List.lookup ("word" : Str) [(("word" : Str), v)] = some v := by simp [List.lookup]
    rw [q]
    exact r
  · rw [if_neg hw]
    have qw : (f == ("word" : Str)) = false := by simpa using hw
    have q2 : List.lookup f [(("word" : Str), v)] = none := by simp [List.lookup, qw]
    rw [q2]
    trivial
section
variable {X : Cx} {C fI : Addr}
def tMkNus (C : Addr) (ta : TA) : St → Hp → XK → Prop := fun σ H Q => ta σ H fun vs H1 => ∃ v, vs = [v] ∧ ∀ d, H1 d = none → Q (.ref C) (some d) (upd H1 d (.xd [(("word" : Str), v)]))
theorem pmk_nus {a : Expr} {ta : TA} {p pos : Pos} {k : Nat} (T : PySem.NUsX.NUsTxt X.K X.mg C fI) (hr : Room k X.A) (ha : PA X [a] ta) (hg : Gl X "NotUsable" := by rfl)
    (he : starEach (a :: []) X.env = (false, eval a X.env) :: starEach [] X.env := by rfl) (hpl : (backTo pos (starEach [] X.env)).any (·.1) = false := by rfl) :
    PMk X (.Call (.Name "NotUsable" p) [a] [] pos) (tMkNus C ta) := by
  intro pins s σ H Q I h
  refine wpAny_Call_Name_kw (ld_glob I hg T.gC ?_)
  refine PySem.W.callWith_K (h₀ := X.base) I.ok.mod.kin T.kC (thn (ha.run pos pins s σ H _ I h) fun us s1 hh => ?_) he hpl
  obtain ⟨vs, H1, I1, r1, v, ev, q1⟩ := hh
  subst ev
  refine ⟨I1.kIn, ?_⟩
  cases r1 with
  | cons rv rn =>
    rename_i v' us'
    cases rn
    show wpAny _ _ (call (.ref C) [v']) _ _ _
    have hlim := I1.nolimit
    obtain ⟨hp, g, dr, tk, os⟩ := s1
    refine wpAny_call (PySem.NUsX.nus_made T I1.kIn hlim (by have := hr.dp; omega) fun h' tk' e d M => ?_)
    show MkP X pins σ Q (.ref e) ⟨h', g, dr, tk', os⟩
    obtain ⟨oe, fv, hoe, hc, hd, hdat, h1, h2⟩ := M.obj
    have hns := M.ns
    obtain ⟨G', g1, g2⟩ := restrict h' fun b => decide (b ≠ e)
    have gk : ∀ b, b ≠ e → G'.get? b = h'.get? b := fun b hb => g1 b (decide_eq_true hb)
    have ge : G'.get? e = none := g2 e (by simp)
    have old : ∀ b o, hp.get? b = some o → G'.get? b = some o := fun b o q => (gk b (Nat.ne_of_lt (Nat.lt_of_lt_of_le (Heap.lt_size q) M.new))).trans (M.keep b o q)
    have ob : ObjOk X.prog X.w (upd H1 d (.xd [(("word" : Str), v)])) G' d (.xd [(("word" : Str), v)]) :=
      ⟨_, hns.at (fun o q => (gk d M.dne).trans q), fun f => relO_nus rv f⟩
    have J : Inv X pins σ (upd H1 d (.xd [(("word" : Str), v)])) ⟨G', g, dr, tk', os⟩ := I1.laid (t' := tk') old M.dbig ob
    refine ⟨e, oe, fv, ⟨G', g, dr, tk', os⟩, _, .ref C, some d, rfl, J, fun b o q => ?_, ge, hoe, ⟨hc, hd⟩, hdat, h1, ?_, rfl, I1.bare, raises_own T.exC T.tyC, q1 d (I1.hok.fresh M.dbig)⟩
    · by_cases hb : b = e
      · have q' : G'.get? b = some o := q
        rw [hb, ge] at q'; cases q'
      · exact (gk b hb).symm.trans q
    · rw [upd_ne (Ne.symm M.dne)]
      exact I1.hok.fresh M.new
def tRaiseNus (C : Addr) (W : WX) (ta : TA) : TS := fun _ σ H => tMkNus C ta σ H fun cls d H' => W cls d σ H'
theorem ps_raiseNus {a : Expr} {ta : TA} {W : WX} {p pos pos2 : Pos} {k : Nat} (hc : X.calm = true) (T : PySem.NUsX.NUsTxt X.K X.mg C fI) (hr : Room k X.A) (tk : Takes X W) (ha : PA X [a] ta) (hg : Gl X "NotUsable" := by rfl)
    (he : starEach (a :: []) X.env = (false, eval a X.env) :: starEach [] X.env := by rfl) (hpl : (backTo pos (starEach [] X.env)).any (·.1) = false := by rfl) :
    PS X (.Raise (some (.Call (.Name "NotUsable" p) [a] [] pos)) none pos2) (tRaiseNus C W ta) := ps_raise hc tk (pmk_nus T hr ha hg he hpl)
theorem pmkN_nus {a : Expr} {ta : TA} {p pos : Pos} {k : Nat} (T : PySem.NUsX.NUsTxt X.K X.mg C fI) (hr : Room k X.A) (ha : PA X [a] ta) (hg : Gl X "NotUsable" := by rfl)
    (he : starEach (a :: []) X.env = (false, eval a X.env) :: starEach [] X.env := by rfl) (hpl : (backTo pos (starEach [] X.env)).any (·.1) = false := by rfl) :
    L2N.PMk X (.Call (.Name "NotUsable" p) [a] [] pos) (tMkNus C ta) := by
  intro pins s σ H Q I h
  refine wpAny_Call_Name_kw (ld_glob I hg T.gC ?_)
  refine PySem.W.callWith_K (h₀ := X.base) I.ok.mod.kin T.kC (thn (ha.run pos pins s σ H _ I h) fun us s1 hh => ?_) he hpl
  obtain ⟨vs, H1, I1, r1, v, ev, q1⟩ := hh
  subst ev
  refine ⟨I1.kIn, ?_⟩
  cases r1 with
  | cons rv rn =>
    rename_i v' us'
    cases rn
    show wpAny _ _ (call (.ref C) [v']) _ _ _
    have hlim := I1.nolimit
    obtain ⟨hp, g, dr, tk, os⟩ := s1
    refine wpAny_call (PySem.NUsX.nus_made T I1.kIn hlim (by have := hr.dp; omega) fun h' tk' e d M => ?_)
    show L2N.MkP X pins σ Q (.ref e) ⟨h', g, dr, tk', os⟩
    obtain ⟨oe, fv, hoe, hc, hd, hdat, h1, h2⟩ := M.obj
    have hns := M.ns
    obtain ⟨G', g1, g2⟩ := restrict h' fun b => decide (b ≠ e)
    have gk : ∀ b, b ≠ e → G'.get? b = h'.get? b := fun b hb => g1 b (decide_eq_true hb)
    have ge : G'.get? e = none := g2 e (by simp)
    have old : ∀ b o, hp.get? b = some o → G'.get? b = some o := fun b o q => (gk b (Nat.ne_of_lt (Nat.lt_of_lt_of_le (Heap.lt_size q) M.new))).trans (M.keep b o q)
    have ob : ObjOk X.prog X.w (upd H1 d (.xd [(("word" : Str), v)])) G' d (.xd [(("word" : Str), v)]) :=
      ⟨_, hns.at (fun o q => (gk d M.dne).trans q), fun f => relO_nus rv f⟩
    have J : Inv X pins σ (upd H1 d (.xd [(("word" : Str), v)])) ⟨G', g, dr, tk', os⟩ := I1.laid (t' := tk') old M.dbig ob
    refine ⟨e, oe, fv, ⟨G', g, dr, tk', os⟩, _, .ref C, some d, rfl, J, fun b o q => ?_, ge, hoe, ⟨hc, hd, fun vs e => by rw [hdat] at e; cases e; exact h2⟩, hdat, h1, ?_, rfl, I1.bare, raises_own T.exC T.tyC, q1 d (I1.hok.fresh M.dbig)⟩
    · by_cases hb : b = e
      · have q' : G'.get? b = some o := q
        rw [hb, ge] at q'; cases q'
      · exact (gk b hb).symm.trans q
    · rw [upd_ne (Ne.symm M.dne)]
      exact I1.hok.fresh M.new
theorem psN_raiseNus {a : Expr} {ta : TA} {W : WX} {p pos pos2 : Pos} {k : Nat} (hc : X.calm = true) (T : PySem.NUsX.NUsTxt X.K X.mg C fI) (hr : Room k X.A) (tk : L2N.Takes X W) (ha : PA X [a] ta) (hg : Gl X "NotUsable" := by rfl)
    (he : starEach (a :: []) X.env = (false, eval a X.env) :: starEach [] X.env := by rfl) (hpl : (backTo pos (starEach [] X.env)).any (·.1) = false := by rfl) :
    PS X (.Raise (some (.Call (.Name "NotUsable" p) [a] [] pos)) none pos2) (tRaiseNus C W ta) := L2N.ps_raise hc tk (pmkN_nus T hr ha hg he hpl)
def tByNus (C : Addr) (a : Addr) (cls : Value) (d : Option Addr) (te : TE) : TE := fun σ H Q => te σ H fun x H1 => x = .ref a ∧ cls = .ref C ∧ ∃ (dd : Addr) (v : V), d = some dd ∧ H1 dd = some (.xd [(("word" : Str), v)]) ∧ Q v H1
theorem pe_byNus {a : Addr} {oe : Obj} {cls : Value} {d : Option Addr} {pn : List (Addr × Obj)} {e : Expr} {te : TE} {pos : Pos} (T : PySem.NUsX.NUsTxt X.K X.mg C fI) (hz : Zc cls d oe) (hf : ∃ vs, oe.data = .fields vs) (he : PE (X.suite a ((a, oe) :: pn)) e te)
    (hb : attributeBase e "word" X.env (eval e X.env) = eval e X.env := by rfl) :
    PE (X.suite a ((a, oe) :: pn)) (.Attribute e "word" pos) (tByNus C a cls d te) := by
  refine ⟨fun pins s σ H Q I h => ?_⟩
  refine attr_of hb (thn (he.run pins s σ H _ I h) fun u s1 hh => ?_)
  obtain ⟨x, H1, I1, rx, ex, ec, dd, v, ed, ea, q⟩ := hh
  subst ex
  obtain rfl : u = Value.ref a := rx
  subst ec
  subst ed
  obtain ⟨ha, _⟩ := I1.pin (a, oe) (List.mem_append_left _ List.mem_cons_self)
  obtain ⟨vs, hd⟩ := hf
  have hx : ObjOk X.prog X.w H1 s1.heap dd (.xd [(("word" : Str), v)]) := I1.hok dd _ ea
  obtain ⟨mA, hns, hr⟩ := hx
  obtain ⟨od, ho, hl⟩ := lookIn_ns hns
  have l : List.lookup ("word" : Str) [(("word" : Str), v)] = some v := by simp [List.lookup]
  obtain ⟨u, hu, ru⟩ := RelO.some_of (v := v) (o := mA "word") (by rw [← l]; exact hr "word")
  have J : PySem.W.InstAt s1.heap a oe C (some od) := ⟨ha, hz.1, by unfold PySem.W.notCls; rw [hd] <;> rfl, by rw [hz.2]; exact ho⟩
  exact HandSPX.exc_get I1.kIn J T.ga T.gg T.exC (PySem.W.findObj_own T.hdC T.noN rfl (by rw [hl, hu])) (handed_of ru) ⟨v, H1, I1.tok _, ru, q⟩
end
end L2
set_option Elab.async false
set_option linter.all false
set_option maxRecDepth 100000
set_option maxHeartbeats 2000000
namespace PySem
namespace TMuX
open PySem.W PySem.Calls PyProof.Rows PySem.HandSPX
def iA (p1 p2 : Pos) : Arguments := { posonlyargs := [], args := [{ arg := "self", annotation := none, pos := p1 }, { arg := "what", annotation := none, pos := p2 }], vararg := none, kwonlyargs := [], kw_defaults := [], kwarg := none, defaults := [] }
def iB (q1 q2 q3 q4 : Pos) : List Stmt := [.Assign [.Attribute (.Name "self" q1) "what" q2] (.Name "what" q3) q4]
def iS : Scope := { kind := .function, names := [(PySem.Str.ofString "self", .local), (PySem.Str.ofString "what", .local)], isGenerator := false, isCoroutine := false, more := [] }
structure TMuTxt (K : Frag) (mg : Str → Option Value) (C fI : Addr) : Prop where
  gC : mg "TooMuch" = some (.ref C)
  cls : ∃ nm q N bs bm sn sub ab col dd k0 k1 k2 k3 k5, K.lookup C = some (excClassObj nm q C N bs bm true sn sub ab col dd k0 k1 k2 k3 k5 "ValueError.__new__") ∧ refsVE bm = true
  sa : findIn K (.ref C) "__setattr__" = some (some (.builtin "object.__setattr__"))
  ga : findIn K (.ref C) "__getattribute__" = some (some (.builtin "BaseException.__getattribute__"))
  gg : findIn K (.ref C) "__getattr__" = some none
  noN : findIn K (.ref C) "what" = some none
  iC : findIn K (.ref C) "__init__" = some (some (.ref fI))
  tC : typeIn K (.ref fI) = some (.type "function")
  kC : keepIn K (.ref C) = true
  exC : subIn K (.ref C) (.type "BaseException") = some true
  tyC : typeIn K (.ref C) = some (.type "type")
  hdC : hasDictIn K C = true
  te : exmOne K (.ref C) (.ref C) = some true
  fn : ∃ (oc : Value) (od : Option Addr) (doc pm : Value) (an : Option Addr) (cdv ct : Value) (osl : Array (Option Value)) (p1 p2 q1 q2 q3 q4 : Pos),
    K.lookup fI = some ⟨oc, od, .func (fnOf "__init__" "TooMuch.__init__" (iA p1 p2) (iB q1 q2 q3 q4) iS .none .none doc pm an cdv ct), osl⟩ ∧ codeIn K cdv "TooMuch.__init__" = true
theorem one_size (v : Value) : [v].length ≤ sizeLine := by
  rw [sizeLine_eq]
  exact (by decide : 1 ≤ 16777216)
theorem kept_but {K : Frag} {h h' : Heap} {x : Addr} (X : K.In h) (hx : K.lookup x = none) (k : ∀ b o, b ≠ x → h.get? b = some o → h'.get? b = some o) : K.In h' := fun a o e =>
  k a o (fun z => by rw [z, hx] at e; cases e) (X a o e)
theorem ldC {M : Model} {s : Shared} {name : Str} {scope : Scope} {L a : Addr} {cd : Value} {m : Str → Option Value} {x : Str} {pos : Pos} {v : Value} {Q : Value → Shared → Prop} {A : Around} {E : Value → Shared → Prop} (hn : s.heap.Ns L m) (hv : m x = some v) (h : Q v s)
    (hk : scope.kind = .function := by rfl) (hl : (envOfC name scope L a cd).kindOf x = some .local := by rfl) (hd : (x == ("__debug__" : Str)) = false := by decide) :
    wpAny M A (eval (.Name x pos) (envOfC name scope L a cd)) Q E s := wpAny_Name (wpAny_loadName_local hk hl hn hv h) hd
structure InitEnd (h h' : Heap) (x C dx t1 : Addr) (v : Value) : Prop where
  keep : ∀ b o, b ≠ x → h.get? b = some o → h'.get? b = some o
  obj : h'.get? x = some { cls := .ref C, dict := some dx, data := .fields #[.ref t1, .none, .none, .none, .bool false, .none] }
  dbig : h.objs.size ≤ dx
  dne : dx ≠ x
  ns : h'.Ns1 dx (fun y => if y = "what" then some v else none)
structure OwnMade (h h' : Heap) (e C d : Addr) (v : Value) : Prop where
  keep : ∀ b o, h.get? b = some o → h'.get? b = some o
  new : h.objs.size ≤ e
  obj : ∃ oe vs, h'.get? e = some oe ∧ oe.cls = .ref C ∧ oe.dict = some d ∧ oe.data = .fields vs ∧ vs[1]? = some .none ∧ vs[2]? = some .none
  dbig : h.objs.size ≤ d
  dne : d ≠ e
  ns : h'.Ns1 d (fun y => if y = "what" then some v else none)
section
variable {prog : Program} {w : World} {A : Around} {E : Value → Shared → Prop} {R : Result → Shared → Prop} {s : Shared} {K : Frag} {mg : Str → Option Value} {C fI : Addr}
theorem tmu_init (T : TMuTxt K mg C fI) {x t0 : Addr} {v : Value} (X : K.In s.heap) (hlim : s.heap.NoLimit) (hx : s.heap.get? x = some (excO C t0)) (hnx : K.lookup x = none) (hroom : A.depth < recursionLimit)
    (hq : ∀ h' tk dx, InitEnd s.heap h' x C dx t0 v → R (.ok (.ret .none)) { s with heap := h', toks := tk }) :
    codeAny (model prog w) A (.call (.ref fI) ⟨[.ref x, v], []⟩) R s := by
  obtain ⟨oc, od, doc, pm, an, cdv, ct, osl, p1, p2, q1, q2, q3, q4, ho, hcd⟩ := T.fn
  obtain ⟨nm, q, N, bs, bm, sn, sub, ab, col, dd, k0, k1, k2, k3, k5, hC, hbm⟩ := T.cls
  have hcl : clsIn K C = some { name := nm, bases := bs, mro := .ref C :: bm, ns := N, qualname := q, hasDict := true, slotNames := sn, subclasses := sub, abstract := ab, collection := col, hasDel := false } := by unfold clsIn; rw [hC] <;> rfl
  refine Att.call_fn (binds := [("self", .ref x), ("what", v)]) X hlim ho hcd hroom (BindsTo.of_eq (by first | rfl | with_unfolding_all rfl)) (by first | rfl | decide | with_unfolding_all rfl) (fun s₁ IC => ?_) rfl rfl rfl
  obtain ⟨h₁, tk₁, rfl⟩ := IC.toInCall.same
  have k : ∀ b o, s.heap.get? b = some o → h₁.get? b = some o := IC.toInCall.keep
  have hn := IC.toInCall.ns
  have hxL : s.heap.objs.size ≠ x := Nat.ne_of_gt (Heap.lt_size hx)
  have X₁ : K.In h₁ := X.keeps k
  have hx₁ := k _ _ hx
  show wpAny _ _ (execs _ _) _ _ _
  refine wpAny_execs_cons (plainObj_wpAny_Assign_Attribute ?_)
  refine ldC (v := v) hn (by first | rfl | with_unfolding_all rfl | kernel_rfl) (ldC (v := .ref x) hn (by first | rfl | with_unfolding_all rfl | kernel_rfl) ?_)
  refine set_plain X₁ (ox := excO C t0) (od := none) ⟨hx₁, rfl, rfl, trivial⟩ T.sa ?_
  refine exc_osa X₁ hx₁ hcl (show refsVE (.ref C :: bm) = true from hbm) rfl T.noN (fun h₃ tk₃ dx k₃ dn dne hx₃ hn₃ => ?_)
  show wpAny _ _ (execs _ _) _ _ _
  have z : s.heap.objs.size < h₁.objs.size := hn.lt
  exact wpAny_execs_nil (hq h₃ tk₃ dx ⟨fun b o hb e => k₃ b o hb (k b o e), hx₃, Nat.le_of_lt (Nat.lt_of_lt_of_le z dn), dne, hn₃⟩)
theorem tmu_made (T : TMuTxt K mg C fI) {v : Value} (X : K.In s.heap) (hlim : s.heap.NoLimit) (hroom : A.depth + 1 < recursionLimit)
    (hq : ∀ h' tk e d, OwnMade s.heap h' e C d v → R (.ok (.ret (.ref e))) { s with heap := h', toks := tk }) :
    codeAny (model prog w) A (.call (.ref C) ⟨[v], []⟩) R s := by
  obtain ⟨nm, q, N, bs, bm, sn, sub, ab, col, dd, k0, k1, k2, k3, k5, hC, hbm⟩ := T.cls
  obtain ⟨hp, g, dr, tk, os⟩ := s
  have k : ∀ b o, hp.get? b = some o → ((hp.push (kdv_tup [v])).push (excO C hp.objs.size)).get? b = some o := fun b o e => Heap.get?_push_of_some _ (Heap.get?_push_of_some _ e)
  have hget : ((hp.push (kdv_tup [v])).push (excO C hp.objs.size)).get? (hp.objs.size + 1) = some (excO C hp.objs.size) := by heap_get
  have hnx : K.lookup (hp.objs.size + 1) = none := by
    cases e : K.lookup (hp.objs.size + 1) with
    | none => rfl
    | some o =>
      have z : hp.get? (hp.objs.size + 1) = some o := X _ _ e
      exact absurd (Nat.lt_of_succ_lt (Heap.lt_size z)) (Nat.lt_irrefl _)
  refine call_own F.excBase_ValueError (fun X => refsVE_contains X bm hbm) (X _ _ hC) (looks_findIn X T.iC) (fun self => bind_fn X self T.tC) (one_size v) ?_
  refine tmu_init (s := ⟨(hp.push (kdv_tup [v])).push (excO C hp.objs.size), g, dr, tk, os⟩) T (X.keeps k) (hlim.keeps k) hget hnx ?_ fun h' tk' dx ⟨k', hx, dn, dne, hns⟩ => ?_
  · show A.depth + 1 < recursionLimit
    exact hroom
  · have old : ∀ b o, hp.get? b = some o → h'.get? b = some o := fun b o e => k' b o (Nat.ne_of_lt (Nat.lt_succ_of_lt (Heap.lt_size e))) (k b o e)
    have z : hp.objs.size + 1 + 1 ≤ dx := by
      first
        | (simpa only [Heap.size_push] using dn)
        | exact dn
        | (have q := dn; rw [Heap.size_push, Heap.size_push] at q; exact q)
    exact ⟨rfl, hq h' tk' (hp.objs.size + 1) dx ⟨old, Nat.le_succ _, ⟨_, _, hx, rfl, rfl, rfl, rfl, rfl⟩, Nat.le_trans (Nat.le_trans (Nat.le_succ _) (Nat.le_succ _)) z, dne, hns⟩⟩
end
end TMuX
end PySem
namespace L2
open PySem PySem.Spec PyProof.Rows
theorem relO_tmu {v : V} {v' : Value} (r : RelV v v') (f : Str) : RelO (List.lookup f [(("what" : Str), v)]) (if f = "what" then some v' else none) := by
  by_cases hw : f = "what"
  · subst hw
    rw [if_pos rfl]
    have q : List.lookup ("what" : Str) [(("what" : Str), v)] = some v := by simp [List.lookup]
    rw [q]
    exact r
  · rw [if_neg hw]
    have qw : (f == ("what" : Str)) = false := by simpa using hw
    have q2 : List.lookup f [(("what" : Str), v)] = none := by simp [List.lookup, qw]
    rw [q2]
    trivial
section
variable {X : Cx} {C fI : Addr}
def tMkTmu (C : Addr) (ta : TA) : St → Hp → XK → Prop := fun σ H Q => ta σ H fun vs H1 => ∃ v, vs = [v] ∧ ∀ d, H1 d = none → Q (.ref C) (some d) (upd H1 d (.xd [(("what" : Str), v)]))
theorem pmk_tmu {a : Expr} {ta : TA} {p pos : Pos} {k : Nat} (T : PySem.TMuX.TMuTxt X.K X.mg C fI) (hr : Room k X.A) (ha : PA X [a] ta) (hg : Gl X "TooMuch" := by rfl)
    (he : starEach (a :: []) X.env = (false, eval a X.env) :: starEach [] X.env := by rfl) (hpl : (backTo pos (starEach [] X.env)).any (·.1) = false := by rfl) :
    PMk X (.Call (.Name "TooMuch" p) [a] [] pos) (tMkTmu C ta) := by
  intro pins s σ H Q I h
  refine wpAny_Call_Name_kw (ld_glob I hg T.gC ?_)
  refine PySem.W.callWith_K (h₀ := X.base) I.ok.mod.kin T.kC (thn (ha.run pos pins s σ H _ I h) fun us s1 hh => ?_) he hpl
  obtain ⟨vs, H1, I1, r1, v, ev, q1⟩ := hh
  subst ev
  refine ⟨I1.kIn, ?_⟩
  cases r1 with
  | cons rv rn =>
    rename_i v' us'
    cases rn
    show wpAny _ _ (call (.ref C) [v']) _ _ _
    have hlim := I1.nolimit
    obtain ⟨hp, g, dr, tk, os⟩ := s1
    refine wpAny_call (PySem.TMuX.tmu_made T I1.kIn hlim (by have := hr.dp; omega) fun h' tk' e d M => ?_)
    show MkP X pins σ Q (.ref e) ⟨h', g, dr, tk', os⟩
    obtain ⟨oe, fv, hoe, hc, hd, hdat, h1, h2⟩ := M.obj
    have hns := M.ns
    obtain ⟨G', g1, g2⟩ := restrict h' fun b => decide (b ≠ e)
    have gk : ∀ b, b ≠ e → G'.get? b = h'.get? b := fun b hb => g1 b (decide_eq_true hb)
    have ge : G'.get? e = none := g2 e (by simp)
    have old : ∀ b o, hp.get? b = some o → G'.get? b = some o := fun b o q => (gk b (Nat.ne_of_lt (Nat.lt_of_lt_of_le (Heap.lt_size q) M.new))).trans (M.keep b o q)
    have ob : ObjOk X.prog X.w (upd H1 d (.xd [(("what" : Str), v)])) G' d (.xd [(("what" : Str), v)]) :=
      ⟨_, hns.at (fun o q => (gk d M.dne).trans q), fun f => relO_tmu rv f⟩
    have J : Inv X pins σ (upd H1 d (.xd [(("what" : Str), v)])) ⟨G', g, dr, tk', os⟩ := I1.laid (t' := tk') old M.dbig ob
    refine ⟨e, oe, fv, ⟨G', g, dr, tk', os⟩, _, .ref C, some d, rfl, J, fun b o q => ?_, ge, hoe, ⟨hc, hd⟩, hdat, h1, ?_, rfl, I1.bare, raises_own T.exC T.tyC, q1 d (I1.hok.fresh M.dbig)⟩
    · by_cases hb : b = e
      · have q' : G'.get? b = some o := q
        rw [hb, ge] at q'; cases q'
      · exact (gk b hb).symm.trans q
    · rw [upd_ne (Ne.symm M.dne)]
      exact I1.hok.fresh M.new
def tRaiseTmu (C : Addr) (W : WX) (ta : TA) : TS := fun _ σ H => tMkTmu C ta σ H fun cls d H' => W cls d σ H'
theorem ps_raiseTmu {a : Expr} {ta : TA} {W : WX} {p pos pos2 : Pos} {k : Nat} (hc : X.calm = true) (T : PySem.TMuX.TMuTxt X.K X.mg C fI) (hr : Room k X.A) (tk : Takes X W) (ha : PA X [a] ta) (hg : Gl X "TooMuch" := by rfl)
    (he : starEach (a :: []) X.env = (false, eval a X.env) :: starEach [] X.env := by rfl) (hpl : (backTo pos (starEach [] X.env)).any (·.1) = false := by rfl) :
    PS X (.Raise (some (.Call (.Name "TooMuch" p) [a] [] pos)) none pos2) (tRaiseTmu C W ta) := ps_raise hc tk (pmk_tmu T hr ha hg he hpl)
theorem pmkN_tmu {a : Expr} {ta : TA} {p pos : Pos} {k : Nat} (T : PySem.TMuX.TMuTxt X.K X.mg C fI) (hr : Room k X.A) (ha : PA X [a] ta) (hg : Gl X "TooMuch" := by rfl)
    (he : starEach (a :: []) X.env = (false, eval a X.env) :: starEach [] X.env := by rfl) (hpl : (backTo pos (starEach [] X.env)).any (·.1) = false := by rfl) :
    L2N.PMk X (.Call (.Name "TooMuch" p) [a] [] pos) (tMkTmu C ta) := by
  intro pins s σ H Q I h
  refine wpAny_Call_Name_kw (ld_glob I hg T.gC ?_)
  refine PySem.W.callWith_K (h₀ := X.base) I.ok.mod.kin T.kC (thn (ha.run pos pins s σ H _ I h) fun us s1 hh => ?_) he hpl
  obtain ⟨vs, H1, I1, r1, v, ev, q1⟩ := hh
  subst ev
  refine ⟨I1.kIn, ?_⟩
  cases r1 with
  | cons rv rn =>
    rename_i v' us'
    cases rn
    show wpAny _ _ (call (.ref C) [v']) _ _ _
    have hlim := I1.nolimit
    obtain ⟨hp, g, dr, tk, os⟩ := s1
    refine wpAny_call (PySem.TMuX.tmu_made T I1.kIn hlim (by have := hr.dp; omega) fun h' tk' e d M => ?_)
    show L2N.MkP X pins σ Q (.ref e) ⟨h', g, dr, tk', os⟩
    obtain ⟨oe, fv, hoe, hc, hd, hdat, h1, h2⟩ := M.obj
    have hns := M.ns
    obtain ⟨G', g1, g2⟩ := restrict h' fun b => decide (b ≠ e)
    have gk : ∀ b, b ≠ e → G'.get? b = h'.get? b := fun b hb => g1 b (decide_eq_true hb)
    have ge : G'.get? e = none := g2 e (by simp)
    have old : ∀ b o, hp.get? b = some o → G'.get? b = some o := fun b o q => (gk b (Nat.ne_of_lt (Nat.lt_of_lt_of_le (Heap.lt_size q) M.new))).trans (M.keep b o q)
    have ob : ObjOk X.prog X.w (upd H1 d (.xd [(("what" : Str), v)])) G' d (.xd [(("what" : Str), v)]) :=
      ⟨_, hns.at (fun o q => (gk d M.dne).trans q), fun f => relO_tmu rv f⟩
    have J : Inv X pins σ (upd H1 d (.xd [(("what" : Str), v)])) ⟨G', g, dr, tk', os⟩ := I1.laid (t' := tk') old M.dbig ob
    refine ⟨e, oe, fv, ⟨G', g, dr, tk', os⟩, _, .ref C, some d, rfl, J, fun b o q => ?_, ge, hoe, ⟨hc, hd, fun vs e => by rw [hdat] at e; cases e; exact h2⟩, hdat, h1, ?_, rfl, I1.bare, raises_own T.exC T.tyC, q1 d (I1.hok.fresh M.dbig)⟩
    · by_cases hb : b = e
      · have q' : G'.get? b = some o := q
        rw [hb, ge] at q'; cases q'
      · exact (gk b hb).symm.trans q
    · rw [upd_ne (Ne.symm M.dne)]
      exact I1.hok.fresh M.new
theorem psN_raiseTmu {a : Expr} {ta : TA} {W : WX} {p pos pos2 : Pos} {k : Nat} (hc : X.calm = true) (T : PySem.TMuX.TMuTxt X.K X.mg C fI) (hr : Room k X.A) (tk : L2N.Takes X W) (ha : PA X [a] ta) (hg : Gl X "TooMuch" := by rfl)
    (he : starEach (a :: []) X.env = (false, eval a X.env) :: starEach [] X.env := by rfl) (hpl : (backTo pos (starEach [] X.env)).any (·.1) = false := by rfl) :
    PS X (.Raise (some (.Call (.Name "TooMuch" p) [a] [] pos)) none pos2) (tRaiseTmu C W ta) := L2N.ps_raise hc tk (pmkN_tmu T hr ha hg he hpl)
def tByTmu (C : Addr) (a : Addr) (cls : Value) (d : Option Addr) (te : TE) : TE := fun σ H Q => te σ H fun x H1 => x = .ref a ∧ cls = .ref C ∧ ∃ (dd : Addr) (v : V), d = some dd ∧ H1 dd = some (.xd [(("what" : Str), v)]) ∧ Q v H1
theorem pe_byTmu {a : Addr} {oe : Obj} {cls : Value} {d : Option Addr} {pn : List (Addr × Obj)} {e : Expr} {te : TE} {pos : Pos} (T : PySem.TMuX.TMuTxt X.K X.mg C fI) (hz : Zc cls d oe) (hf : ∃ vs, oe.data = .fields vs) (he : PE (X.suite a ((a, oe) :: pn)) e te)
    (hb : attributeBase e "what" X.env (eval e X.env) = eval e X.env := by rfl) :
    PE (X.suite a ((a, oe) :: pn)) (.Attribute e "what" pos) (tByTmu C a cls d te) := by
  refine ⟨fun pins s σ H Q I h => ?_⟩
  refine attr_of hb (thn (he.run pins s σ H _ I h) fun u s1 hh => ?_)
  obtain ⟨x, H1, I1, rx, ex, ec, dd, v, ed, ea, q⟩ := hh
  subst ex
  obtain rfl : u = Value.ref a := rx
  subst ec
  subst ed
  obtain ⟨ha, _⟩ := I1.pin (a, oe) (List.mem_append_left _ List.mem_cons_self)
  obtain ⟨vs, hd⟩ := hf
  have hx : ObjOk X.prog X.w H1 s1.heap dd (.xd [(("what" : Str), v)]) := I1.hok dd _ ea
  obtain ⟨mA, hns, hr⟩ := hx
  obtain ⟨od, ho, hl⟩ := lookIn_ns hns
  have l : List.lookup ("what" : Str) [(("what" : Str), v)] = some v := by simp [List.lookup]
  obtain ⟨u, hu, ru⟩ := RelO.some_of (v := v) (o := mA "what") (by rw [← l]; exact hr "what")
  have J : PySem.W.InstAt s1.heap a oe C (some od) := ⟨ha, hz.1, by unfold PySem.W.notCls; rw [hd] <;> rfl, by rw [hz.2]; exact ho⟩
  exact HandSPX.exc_get I1.kIn J T.ga T.gg T.exC (PySem.W.findObj_own T.hdC T.noN rfl (by rw [hl, hu])) (handed_of ru) ⟨v, H1, I1.tok _, ru, q⟩
end
end L2
set_option Elab.async false
set_option linter.all false
set_option maxRecDepth 100000
set_option maxHeartbeats 2000000
namespace Ver
open PySem PySem.Spec PyProof.Rows L2

def kindOfD : PyData → String
  | .none => "NoneType"
  | .bool _ => "bool"
  | .int _ => "int"
  | .str _ => "str"
  | .list _ => "list"
  | .tuple _ => "tuple"
  | .dict _ => "dict"
theorem tyx_of {K : PySem.W.Frag} {H : Hp} {x : V} {d : PyData} (h : Dp K H x d) : TyX K H x (.type (kindOfD d)) := by
  cases h with
  | non => exact .base .non
  | bl b => exact .base (.bl b)
  | int i => exact .base (.int i)
  | str s => exact .base (.str s)
  | lst hs _ =>
    rcases hs with (hs | ⟨o, hs⟩) | ⟨o, its, n, hk, hc, _⟩
    · exact .base (.lst hs)
    · exact .base (.frz hs)
    · exact .kList hk hc
  | tup hs _ =>
    rcases hs with (hs | ⟨o, hs⟩) | ⟨o, its, n, hk, hc, _⟩
    · exact .base (.tup hs)
    · exact .fTuple hs
    · exact .kTuple hk hc
def isaK (n k : String) : Bool := k == n || (n == "int" && k == "bool")
abbrev isaD (n : String) (d : PyData) : Bool := isaK n (kindOfD d)
def kinds7 : List String := ["NoneType", "bool", "int", "str", "list", "tuple", "dict"]
def asked5 : List String := ["int", "bool", "str", "tuple", "list"]
theorem kind_in (d : PyData) : kindOfD d ∈ kinds7 := by cases d <;> simp [kindOfD, kinds7]
theorem kit_all : kinds7.all (fun k => asked5.all fun n => kitB k n == some (isaK n k)) = true := by decide +kernel
theorem kit_asked {K : PySem.W.Frag} {n : String} (h : n ∈ asked5) (d : PyData) : PySem.W.kitOne K (.type (kindOfD d)) (.type n) = some (isaD n d) := by
  have h1 := List.all_eq_true.mp kit_all _ (kind_in d)
  exact kit_ty (eq_of_beq (List.all_eq_true.mp h1 _ h))
def rIsiD (K : PySem.W.Frag) (n : String) : List V → Hp → VK → Prop := fun vs H Q => ∃ x d, vs = [x, .ty n] ∧ Dp K H x d ∧ Q (.bl (isaD n d)) H
section
variable {X : Cx}
theorem cr_isiD {n : String} (hn : n ∈ asked5) : CallR X (.builtin "isinstance") (rIsiD X.K n) := by
  intro pins s σ H xs us Q I r h
  obtain ⟨x, d, rfl, hd, q⟩ := h
  exact call_isi pins s σ H _ us Q I r ⟨x, .ty n, _, _, _, rfl, .ty n, tyx_of hd, kit_asked hn d, q⟩

def tCallKw (sp : Sp) (n : Nat) (gV : List V → List V) (E : L2.St → XK) (tk : TA) : TE := fun σ H Q => tk σ H fun zs H1 => zs.length = n ∧ sp (gV zs) H1 Q (E σ)
variable {CX : CXT} {k : Nat} {f : Addr} {fd : FuncData} {ps ks : List Str} {sp : Sp} {E : L2.St → XK} {x : Str} {p pos : Pos} {kws : List Keyword} {tk : TA} {g : List Value → List Value} {gV : List V → List V}
theorem pe_callKw (F : FnOk X.prog X.w X.K X.mg X.base CX k f fd ps sp) (hr : Room k X.A) (hg : Gl X x) (hm : X.mg x = some (.ref f)) (hk : PySem.W.keepIn X.K (.ref f) = true)
    (hb : KBn X.K fd ps 0 ks (fun _ ws => g ws) (fun _ zs => gV zs)) (hx : ∀ σ, PassesAt CX X σ (E σ)) (hkw : PK X kws tk)
    (hall : (backToKw pos (keywordEach kws X.env)).all (·.1.isSome) = true := by rfl) (hks : (backToKw pos (keywordEach kws X.env)).filterMap (·.1) = ks := by rfl) (hdb : (x == ("__debug__" : Str)) = false := by decide)
    (hpl : ((backTo pos (starEach [] X.env)).any (·.1) || (backToKw pos (keywordEach kws X.env)).any (·.1.isNone)) = false := by rfl) :
    PE X (.Call (.Name x p) [] kws pos) (tCallKw sp ks.length gV E tk) := by
  refine ⟨fun pins s σ H Q I h => ?_⟩
  refine wpAny_Call_Name_kw (ld_glob I hg hm ?_ hdb)
  refine PySem.W.callWith_KW0 (h₀ := X.base) I.ok.mod.kin hk hall ?_ hpl
  refine thn (hkw.run pos pins s σ H _ I h) fun ws s2 ⟨zs, H2, I2, rz, hl, q⟩ => ⟨I2.kIn, ?_⟩
  rw [hks]
  have r2 : Vals (gV zs) (g ws) := hb.rel (vs := []) (us := []) .nil rz
  have hto : BindsTo s2 fd ⟨[], ks.zip ws⟩ (ps.zip (g ws)) := hb.to s2 [] ws I2.kIn rfl (rz.length.symm.trans hl)
  show wpAny _ _ (call (.ref f) [] (ks.zip ws)) _ _ _
  refine wpAny_call (codeAny_mono (F.run X.A X.stack s2 H2 ⟨[], ks.zip ws⟩ (g ws) (gV zs) Q (E σ) hr I2.env0 hto r2 q) fun r s' hq => ?_)
  cases r with
  | error e => exact hx σ pins H2 s2 e s' I2 hq
  | ok fl =>
    cases fl with
    | ret u => exact I2.after hq
    | next => exact False.elim hq
    | brk => exact False.elim hq
    | cont => exact False.elim hq

theorem tuple_mul1 (l : Addr) (items : Array Value) (n : Nat) (dd : Option Addr) (sl : Array (Option Value)) (u : Tok) :
    Meets (Builtin.«tuple.__mul__» ⟨[.ref l, .int 1 u], []⟩) (fun _ R s => s.heap.get? l = some { cls := .type "tuple", dict := dd, data := .seq items n, slots := sl } ∧ R (.ok (.ret (Value.ref l))) s) :=
  .of_wp fun prog w A R s h => by
    obtain ⟨hp, g, d, tk, os⟩ := s
    obtain ⟨hl, h⟩ := h
    have f1 := AutoSeq1.idx_int
    wp_walk using wpAny_loadPart' hl
    exact ⟨_, rfl, h⟩
def rRepA (K : PySem.W.Frag) : R2 := fun x y H Q => ∃ l k xs, x = .ref l ∧ y = .int k ∧ SqT K H l xs ∧ xs ≠ [] ∧ 1 ≤ k ∧ k ≤ 1000 ∧ xs.length ≤ 1000 ∧
  (k = 1 → Q (.ref l) H) ∧ (k ≠ 1 → ∀ p, H p = none → Q (.ref p) (upd H p (.tup (List.replicate k.toNat xs).flatten)))
theorem op_repA : OpR X (binaryOp .Mult) (rRepA X.K) := by
  intro pins s σ H x y v u Q I rx ry h
  obtain ⟨l, k, xs, rfl, rfl, hT, hne, h1, h2, hz, q1, q2⟩ := h
  by_cases h3 : k = 1
  · subst h3
    cases rx
    obtain ⟨t, rfl⟩ := ry
    obtain ⟨its, r, ⟨⟨cls, dd, data, sl⟩, ho, hc, n, hd⟩, hs⟩ := I.tuple hT
    simp only at hc hd
    subst hc hd
    exact wpAny_binaryOp_repeat_ref (T := "tuple") (U := "int") (by decide) ⟨_, ho, rfl⟩ (fun s' => typeIs_int s' 1 t) noFill_tuple_mul F.fills_int_mul F.slot_int_rmul repeat_tuple F.slot_int_index.lookup
      (call_meets F.slot_int_rmul (typeIs_int s 1 t) F.entry_int_rmul (F.args_int_rmul_2 _ _) (int_rmul_tuple 1 t l its.toArray n dd sl)
        ⟨ho, rfl, ⟨_, ho, rfl⟩, call_meets F.slot_tuple_mul ⟨_, ho, rfl⟩ F.entry_tuple_mul (F.args_tuple_mul_2 _ _) (tuple_mul1 l its.toArray n dd sl t) ⟨ho, .ref l, H, I, rfl, q1 rfl⟩⟩)
  · exact op_repT pins s σ H _ _ v u Q I rx ry ⟨l, k, xs, rfl, rfl, hT, hne, by omega, h2, hz, q2 h3⟩
end

theorem seqT_grow {K : PySem.W.Frag} {H H' : Hp} {a : Addr} {xs : List V} (e : Same H H') (h : SqT K H a xs) : SqT K H' a xs := by
  rcases h with (h | ⟨o, h⟩) | h
  · exact .inl (.inl (e _ _ h))
  · exact .inl (.inr ⟨o, e _ _ h⟩)
  · exact .inr h
mutual
theorem dp_grow {K : PySem.W.Frag} {H H' : Hp} (e : Same H H') : ∀ {d : PyData} {v : V}, Dp K H v d → Dp K H' v d
  | .none, _, h => by cases h; exact .non
  | .bool b, _, h => by cases h; exact .bl b
  | .int i, _, h => by cases h; exact .int i
  | .str x, _, h => by cases h; exact .str x
  | .list ds, _, h => by
    cases h with
    | lst hs ha => exact .lst (e.seq hs) (dpAll_grow e ha)
  | .tuple ds, _, h => by
    cases h with
    | tup hs ha => exact .tup (seqT_grow e hs) (dpAll_grow e ha)
  | .dict _, _, h => by cases h
theorem dpAll_grow {K : PySem.W.Frag} {H H' : Hp} (e : Same H H') : ∀ {ds : List PyData} {vs : List V}, DpAll K H vs ds → DpAll K H' vs ds
  | [], _, h => by cases h; exact .nil
  | d :: ds, _, h => by
    cases h with
    | cons h1 h2 => exact .cons (dp_grow e h1) (dpAll_grow e h2)
end
theorem same_new {H : Hp} {p : Addr} {o : HO} (h : H p = none) : Same H (upd H p o) := fun b x e => by
  rw [upd_ne (ne_of_none e h)]
  exact e
end Ver
set_option Elab.async false
set_option linter.all false
set_option maxRecDepth 100000
set_option maxHeartbeats 2000000
namespace Ver
open PySem PySem.Spec PyProof.Rows L2
theorem wipe_one (σ : L2.St) (i : Nat) (v : Option V) : wipe ((wipe σ [i]).set i v) [i] = wipe σ [i] := by
  show (((σ.set i none).set i v).set i none) = σ.set i none
  rw [List.set_set, List.set_set]
def Turned (D : Addr) (S : List V → Hp → Prop) (n : Nat) : VK := fun y H4 => ∃ acc, H4 D = some (.lst acc) ∧ acc.length < sizeLine ∧ ∃ acc2, acc2.length = n + 1 ∧ S acc2 (upd H4 D (.lst (acc ++ [y]))) ∧ (upd H4 D (.lst (acc ++ [y]))) D = some (.lst acc2)
theorem turned {D : Addr} {S : List V → Hp → Prop} {acc : List V} {y : V} {H4 : Hp} (hD : H4 D = some (.lst acc)) (hz : acc.length < sizeLine) (s : S (acc ++ [y]) (upd H4 D (.lst (acc ++ [y])))) : Turned D S acc.length y H4 :=
  ⟨acc, hD, hz, acc ++ [y], by rw [List.length_append]; rfl, s, upd_same⟩
section
variable {K : PySem.W.Frag} {a : Addr} {xs : List V} {i : Nat} {te : TE} {σ : L2.St} {H1 : Hp} {D : Addr} {Qd : Hp → Prop}
theorem comp_tup (S : List V → Hp → Prop) (h0 : S [] (upd H1 D (.lst []))) (hl : ∀ acc H, S acc H → SqT K H a xs)
    (hs : ∀ acc x H, xs[acc.length]? = some x → S acc H → H D = some (.lst acc) → te ((wipe σ [i]).set i (some x)) H (Turned D S acc.length))
    (hd : ∀ acc H, acc.length = xs.length → S acc H → H D = some (.lst acc) → Qd H) :
    ∃ W : Nat → Nat → Hp → Prop, (∃ m, W 0 m (upd H1 D (.lst []))) ∧ ∀ j m H, W j m H →
      ((Itt K a).stop j H ∧ Qd H) ∨ ((Itt K a).go j H ∧ ∃ Nx : Hp → Prop, (∀ H', Nx H' → ∃ m', m' < m ∧ W (j + 1) m' H') ∧ ∀ x H', (Itt K a).yld j H x H' → gName i x (wipe σ [i]) H' fun σ2 H2 => wipe σ2 [i] = wipe σ [i] ∧ tYes σ2 H2 fun b H3 =>
        if b = true then te σ2 H3 fun y H4 => ∃ acc, H4 D = some (.lst acc) ∧ acc.length < sizeLine ∧ Nx (upd H4 D (.lst (acc ++ [y]))) else Nx H3) := by
  refine lc_tup (K := K) (a := a) (xs := xs) (fun n H => ∃ acc, acc.length = n ∧ S acc H ∧ H D = some (.lst acc)) ⟨[], rfl, h0, upd_same⟩ (fun n H _ ⟨acc, _, h, _⟩ => hl acc H h) (fun n x H e ⟨acc, hn, h, hD⟩ => ?_) (fun H ⟨acc, hn, h, hD⟩ => hd acc H hn h hD)
  subst hn
  refine ⟨wipe_one σ i _, ?_⟩
  unfold tYes
  dsimp only
  rw [if_pos rfl]
  exact hs acc x H e h hD
theorem comp_list (S : List V → Hp → Prop) (h0 : S [] (upd H1 D (.lst []))) (hl : ∀ acc H, S acc H → SqL K H a xs)
    (hs : ∀ acc x H, xs[acc.length]? = some x → S acc H → H D = some (.lst acc) → te ((wipe σ [i]).set i (some x)) H (Turned D S acc.length))
    (hd : ∀ acc H, acc.length = xs.length → S acc H → H D = some (.lst acc) → Qd H) :
    ∃ W : Nat → Nat → Hp → Prop, (∃ m, W 0 m (upd H1 D (.lst []))) ∧ ∀ j m H, W j m H →
      ((Itl K a).stop j H ∧ Qd H) ∨ ((Itl K a).go j H ∧ ∃ Nx : Hp → Prop, (∀ H', Nx H' → ∃ m', m' < m ∧ W (j + 1) m' H') ∧ ∀ x H', (Itl K a).yld j H x H' → gName i x (wipe σ [i]) H' fun σ2 H2 => wipe σ2 [i] = wipe σ [i] ∧ tYes σ2 H2 fun b H3 =>
        if b = true then te σ2 H3 fun y H4 => ∃ acc, H4 D = some (.lst acc) ∧ acc.length < sizeLine ∧ Nx (upd H4 D (.lst (acc ++ [y]))) else Nx H3) := by
  refine lc_list (K := K) (a := a) (xs := xs) (fun n H => ∃ acc, acc.length = n ∧ S acc H ∧ H D = some (.lst acc)) ⟨[], rfl, h0, upd_same⟩ (fun n H _ ⟨acc, _, h, _⟩ => hl acc H h) (fun n x H e ⟨acc, hn, h, hD⟩ => ?_) (fun H ⟨acc, hn, h, hD⟩ => hd acc H hn h hD)
  subst hn
  refine ⟨wipe_one σ i _, ?_⟩
  unfold tYes
  dsimp only
  rw [if_pos rfl]
  exact hs acc x H e h hD
theorem comp_range {n : Nat} (S : List V → Hp → Prop) (h0 : S [] (upd H1 D (.lst [])))
    (hs : ∀ acc H, acc.length < n → S acc H → H D = some (.lst acc) → te ((wipe σ [i]).set i (some (.int (acc.length : Int)))) H (Turned D S acc.length))
    (hd : ∀ acc H, acc.length = n → S acc H → H D = some (.lst acc) → Qd H) :
    ∃ W : Nat → Nat → Hp → Prop, (∃ m, W 0 m (upd H1 D (.lst []))) ∧ ∀ j m H, W j m H →
      ((Itr 0 n).stop j H ∧ Qd H) ∨ ((Itr 0 n).go j H ∧ ∃ Nx : Hp → Prop, (∀ H', Nx H' → ∃ m', m' < m ∧ W (j + 1) m' H') ∧ ∀ x H', (Itr 0 n).yld j H x H' → gName i x (wipe σ [i]) H' fun σ2 H2 => wipe σ2 [i] = wipe σ [i] ∧ tYes σ2 H2 fun b H3 =>
        if b = true then te σ2 H3 fun y H4 => ∃ acc, H4 D = some (.lst acc) ∧ acc.length < sizeLine ∧ Nx (upd H4 D (.lst (acc ++ [y]))) else Nx H3) := by
  refine lc_range (lo := 0) (n := n) (fun k H => ∃ acc, acc.length = k ∧ S acc H ∧ H D = some (.lst acc)) ⟨[], rfl, h0, upd_same⟩ (fun k H lt ⟨acc, hn, h, hD⟩ => ?_) (fun H ⟨acc, hn, h, hD⟩ => hd acc H hn h hD)
  subst hn
  rw [Int.zero_add]
  refine ⟨wipe_one σ i _, ?_⟩
  unfold tYes
  dsimp only
  rw [if_pos rfl]
  exact hs acc H lt h hD
end
theorem for_range0 {n : Nat} {g : TG} {tb : TS} {D : Ends} {σ : L2.St} {H : Hp} (Pv : Nat → L2.St → Hp → Prop) (h0 : Pv 0 σ H)
    (hs : ∀ i σ H, i < n → Pv i σ H → g (.int (i : Int)) σ H fun σ2 H2 => tb { D with nx := Pv (i + 1), ct := Pv (i + 1), bk := D.nx } σ2 H2) (hd : ∀ σ H, Pv n σ H → D.nx σ H) :
    ∃ W : Nat → Nat → L2.St → Hp → Prop, (∃ m, W 0 m σ H) ∧ ∀ i m σ H, W i m σ H →
      ((Itr 0 n).stop i H ∧ D.nx σ H) ∨ ((Itr 0 n).go i H ∧ ∃ N : L2.St → Hp → Prop, (∀ σ' H', N σ' H' → ∃ m', m' < m ∧ W (i + 1) m' σ' H') ∧ ∀ x H', (Itr 0 n).yld i H x H' → g x σ H' fun σ2 H2 => tb { D with nx := N, ct := N, bk := D.nx } σ2 H2) :=
  for_range (lo := 0) (n := n) Pv h0 (fun i σ H lt h => by rw [Int.zero_add]; exact hs i σ H lt h) hd
section
variable {X : Cx} {K : PySem.W.Frag}
def rLenQ (K : PySem.W.Frag) : List V → Hp → VK → Prop := fun xs H Q => ∃ p ys, xs = [.ref p] ∧ (SqL K H p ys ∨ SqT K H p ys) ∧ Q (.int ys.length) H
theorem cr_lenK (h : X.K = K) : CallR X (.builtin "len") (rLenQ K) := by
  subst h
  exact call_len_seq
theorem ix_tupK (h : X.K = K) : IxR X (rIxT K) := by
  subst h
  exact ix_tup
theorem ix_listK (h : X.K = K) : IxR X (rIxL K) := by
  subst h
  exact ix_list
end
section
variable {X : Cx} {K : PySem.W.Frag} {tg l : Expr} {tl : TE}
theorem pi_tupK (h : X.K = K) (hl : PE X l tl) : PI X tg l (iTup K tl) := by
  subst h
  exact pi_tup hl
theorem pi_listK (h : X.K = K) (hl : PE X l tl) : PI X tg l (iList K tl) := by
  subst h
  exact pi_list hl
theorem cr_minK (h : X.K = K) (hc : X.calm = true) : CallR X (.builtin "min") (rMin K) := by
  subst h
  exact cr_min hc
end
def lcScope : Expr → Scope
  | .ListComp _ _ sc _ => sc
  | _ => { kind := .function, names := [], isGenerator := false, isCoroutine := false }
def asgVal : Stmt → Expr
  | .Assign _ e _ => e
  | _ => .Constant .none 0 ⟨0, 0, 0, 0⟩
def SameBut1 (p : Addr) (H H' : Hp) : Prop := ∀ b o, b ≠ p → H b = some o → H' b = some o
theorem small {n : Nat} (h : n ≤ 100000) : n < sizeLine := Nat.lt_of_le_of_lt h (by decide)
theorem small' {n : Nat} (h : n ≤ 100000) : n ≤ sizeLine := Nat.le_of_lt (small h)
theorem dpAll_len {K : PySem.W.Frag} {H : Hp} : ∀ {vs : List V} {ds : List PyData}, DpAll K H vs ds → vs.length = ds.length
  | _, [], h => by cases h; rfl
  | _, d :: ds, h => by
    cases h with
    | cons _ t => rw [List.length_cons, List.length_cons, dpAll_len t]
theorem dpAll_get {K : PySem.W.Frag} {H : Hp} : ∀ {vs : List V} {ds : List PyData} {i : Nat} {v : V}, DpAll K H vs ds → vs[i]? = some v → ∃ d, ds[i]? = some d ∧ Dp K H v d
  | _, [], i, v, h, e => by cases h; simp at e
  | _, d :: ds, 0, v, h, e => by
    cases h with
    | cons h1 _ =>
      have e' := Option.some.inj e
      subst e'
      exact ⟨d, rfl, h1⟩
  | _, d :: ds, i + 1, v, h, e => by
    cases h with
    | cons _ t => exact dpAll_get (i := i) t e
theorem dpAll_get' {K : PySem.W.Frag} {H : Hp} : ∀ {vs : List V} {ds : List PyData} {i : Nat} {d : PyData}, DpAll K H vs ds → ds[i]? = some d → ∃ v, vs[i]? = some v ∧ Dp K H v d
  | _, [], i, d, h, e => by cases h; simp at e
  | _, d :: ds, 0, d', h, e => by
    cases h with
    | cons h1 _ =>
      have e' := Option.some.inj e
      subst e'
      exact ⟨_, rfl, h1⟩
  | _, d :: ds, i + 1, d', h, e => by
    cases h with
    | cons _ t => exact dpAll_get' (i := i) t e
theorem dpAll_ints {K : PySem.W.Frag} {H : Hp} : ∀ (ns : List Int), DpAll K H (ns.map V.int) (ns.map PyData.int)
  | [] => .nil
  | n :: ns => .cons (.int n) (dpAll_ints ns)
theorem isa_int (d : PyData) : isaD "int" d = match d with | .int _ => true | .bool _ => true | _ => false := by cases d <;> rfl
theorem isa_bool (d : PyData) : isaD "bool" d = match d with | .bool _ => true | _ => false := by cases d <;> rfl
theorem isa_str (d : PyData) : isaD "str" d = match d with | .str _ => true | _ => false := by cases d <;> rfl
theorem isa_tuple (d : PyData) : isaD "tuple" d = match d with | .tuple _ => true | _ => false := by cases d <;> rfl
theorem isa_list (d : PyData) : isaD "list" d = match d with | .list _ => true | _ => false := by cases d <;> rfl
end Ver
set_option Elab.async false
set_option linter.all false
set_option maxRecDepth 100000
set_option maxHeartbeats 2000000
namespace Ver
open PySem PySem.Spec PyProof.Rows L2
abbrev Clause := Value × Nat × (Addr → Value → Option Addr → TS)
def wCls (K : PySem.W.Frag) (Wout : WX) (D : Ends) : List Clause → WX
  | [] => Wout
  | cl :: l => wAs K cl.1 cl.2.1 cl.2.2 (wCls K Wout D l) D
inductive ClsOk (X : Cx) : List ExceptHandler → List Clause → Prop
  | nil : ClsOk X [] []
  | cons {x n : Str} {c : Value} {i : Nat} {ts : Addr → Value → Option Addr → TS} {b1 : Stmt} {bs : List Stmt} {p1 p2 : Pos} {hds : List ExceptHandler} {l : List Clause} :
      X.N[i]? = some n → X.env.kindOf n = some .local → Names X x c →
      (∀ (a : Addr) (oe : Obj) (cls : Value) (d : Option Addr) (pn : List (Addr × Obj)), Zc cls d oe → (∃ vs, oe.data = .fields vs) → PSs (X.suite a ((a, oe) :: pn)) (b1 :: bs) (ts a cls d)) →
      ClsOk X hds l → ClsOk X (.ExceptHandler (some (.Name x p1)) (some n) (b1 :: bs) p2 :: hds) ((c, i, ts) :: l)
structure Came (X : Cx) (pins : List (Addr × Obj)) (a : Addr) (cls : Value) (d : Option Addr) (B : Heap) (sI : Shared) (σ : L2.St) (H : Hp) (s : Shared) : Prop where
  inv : Inv X pins σ H sI
  old : ∀ b o, sI.heap.get? b = some o → b ∉ frs X.stack → B.get? b = some o
  up : sI.heap.UpToSlots s.heap
  fly : HandSPX.FlyingZ B (X.env :: X.outer) a (Zc cls d) s.heap
  free : H a = none
  os : s.os = sI.os
  bare : AllBare s.gens
section
variable {X : Cx} {pins : List (Addr × Obj)} {a : Addr} {cls : Value} {d : Option Addr} {B : Heap} {sI s : Shared} {σ : L2.St} {H : Hp} {Wout : WX} {D : Ends}
theorem Came.here (c : Came X pins a cls d B sI σ H s) : Inv X pins σ H s := c.inv.landed c.old c.fly.1 c.up c.os c.bare
theorem Came.nofr (c : Came X pins a cls d B sI σ H s) (hf : X.env.frame = some X.env.locals) : a ≠ X.env.locals ∧ a ∉ X.fs := by
  obtain ⟨oe, vs, g1, _, g2⟩ := c.fly.there
  have out : a ∉ frs (X.env :: X.outer) := fun hm => by
    obtain ⟨_, o2, g3, g4⟩ := c.fly.2.2.1.mem hm
    rw [g1] at g3
    cases g3
    exact g4 _ g2
  refine ⟨fun z => out (List.mem_filterMap.mpr ⟨_, List.mem_cons_self, by rw [hf, z]⟩), fun hm => ?_⟩
  obtain ⟨e, he, q⟩ := List.mem_filterMap.mp hm
  exact out (List.mem_filterMap.mpr ⟨e, List.mem_cons_of_mem _ he, q⟩)
theorem cls_run (hst : X.stack = X.env :: X.outer) (hf : X.env.frame = some X.env.locals) (hN : X.N.Nodup) (tk : Takes X Wout) {hds : List ExceptHandler} {l : List Clause} (ok : ClsOk X hds l) :
    ∀ (s : Shared), Came X pins a cls d B sI σ H s → wCls X.K Wout D l cls d σ H → wpAny (model X.prog X.w) X.A (handleBy (.ref a) X.env hds) (SP X pins D) X.xe s := by
  induction ok with
  | nil =>
    intro s c hw
    refine wpAny_handleBy_nil ?_
    have fl := c.fly
    obtain ⟨_, _, _, oe, vs, T0, oT, t0, g1, _, g2, g3, _⟩ := c.fly
    unfold PySem.passOn
    refine wpAny_bind (wpAny_field g1 g2 g3 ?_)
    rw [if_neg (by simp : ¬ ((Value.ref T0 == Value.none) = true))]
    have up1 := c.up
    have rest : wpAny (model X.prog X.w) X.A (setFlight (.ref a) X.env.frame) (fun _ s4 => wpAny (model X.prog X.w) X.A (throw (.ref a) : Sem Flow) (SP X pins D) X.xe s4) X.xe s := by
      rw [hf]
      exact HandSPX.setFlight_upZ fl fun h2 held up2 => wpAny_throw (tk _ _ ⟨a, B, sI, pins, σ, H, cls, d, rfl, c.inv, c.old, up1.trans up2, .inr (.inr (by rw [hst]; exact held)), c.free, c.os, c.bare, hw⟩)
    first
      | exact wpAny_bind (wpAny_pure (wpAny_bind rest))
      | exact wpAny_bind rest
  | @cons x n cv i ts b1 bs p1 p2 hds l hi hk hc hsu _ ih =>
    intro s c hw
    obtain ⟨b, hb, yes, no⟩ := hw
    obtain ⟨oe, vs, g1, z1, g2⟩ := c.fly.there
    obtain ⟨nL, nF⟩ := c.nofr hf
    have S1 := c.here.suite g1 g2 c.free nL nF
    refine wpAny_handleBy_cons (codeAny_handlers_test ?_) (fun q => by cases q)
    have ty : PySem.W.Looks (model X.prog X.w) s.heap (typeOf (.ref a)) cls := fun _ _ _ _ k q => wpAny_typeOf_ref (k _ _ g1) (by rw [z1.1]; exact q)
    have mt := PySem.W.exm_one (M := model X.prog X.w) c.here.kIn ty hb
    have look : ∀ {Q : Value → Shared → Prop} {E : Value → Shared → Prop}, Q cv s → wpAny (model X.prog X.w) (X.A.mark (some (.ref a))) (eval (.Name x p1) X.env) Q E s := fun {Q E} q => by
      obtain ⟨w1, w2, w3 | ⟨w3, w4, w5⟩⟩ := hc
      · exact ld_glob (X := X.suite a ((a, oe) :: (X.pn ++ pins))) S1 w1 w3 q w2
      · exact ld_blt (X := X.suite a ((a, oe) :: (X.pn ++ pins))) S1 w1 w3 w4 q w5 w2
    refine look (mt.here ?_)
    cases b with
    | false => exact ih s c (no rfl)
    | true =>
      refine codeAny_handlers_suite_as (HandSPX.lands_againZ c.fly fun h2 fl2 up2 => ?_)
      have c2 : Came X pins a cls d B sI σ H { s with heap := h2 } := ⟨c.inv, c.old, c.up.trans up2, fl2, c.free, c.os, c.bare⟩
      obtain ⟨oe2, vs2, g3, z3, g4⟩ := fl2.there
      have S2 := c2.here.suite g3 g4 c.free nL nF
      refine store_ok (X := X.suite a ((a, oe2) :: (X.pn ++ pins))) (v := .ref a) S2 hN hi (.inl hk) rfl (fun s5 S5 => ?_) (.inr hk)
      refine wpAny_mono ((hsu a oe2 cls d (X.pn ++ pins) z3 ⟨_, g4⟩).run [] s5 _ H _ S5 (yes rfl a c.free)) (fun f s6 r => ?_) (fun _ _ z => False.elim z)
      have done : ∀ {σ6 : L2.St} {H6 : Hp} {Q : Shared → Prop}, Inv (X.suite a ((a, oe2) :: (X.pn ++ pins))) [] σ6 H6 s6 → (∀ s7, Inv X pins (σ6.set i none) H6 s7 → Q s7) →
          wpAny (model X.prog X.w) X.A (do bindName X.env n .none; unbindBehindTheSuite X.env n p2) (fun _ s7 => Q s7) X.xe s6 := fun S6 q => gone_ok (S6.unsuite c.inv.ok) hN hi hk q
      cases f with
      | ret u =>
        obtain ⟨v, _, _, S6, rv, q⟩ := r
        exact done S6 fun s7 J => ⟨v, _, _, J, rv, q⟩
      | _ =>
        obtain ⟨_, _, S6, q⟩ := r
        exact done S6 fun s7 J => ⟨_, _, J, q⟩
theorem ps_tryCls {body : List Stmt} {h1 : ExceptHandler} {hds : List ExceptHandler} {l : List Clause} {tb : WX → TS} {pos : Pos} (hst : X.stack = X.env :: X.outer) (hf : X.env.frame = some X.env.locals) (hN : X.N.Nodup) (tk : Takes X Wout)
    (hb : ∀ (W : WX) (pn : List (Addr × Obj)) (xe : Value → Shared → Prop), Takes (X.tr pn xe) W → PassesOwn (model X.prog X.w) X.A X.env xe → PSs (X.tr pn xe) body (tb W)) (ok : ClsOk X (h1 :: hds) l) :
    PS X (.Try body (h1 :: hds) [] [] pos) (fun D σ H => tb (wCls X.K Wout D l) D σ H) := by
  refine ⟨fun pins s σ H D I h => ?_⟩
  have xok := I.ok
  refine wpAny_Try_except (wpAny_mono ((hb (wCls X.K Wout D l) (X.pn ++ pins) (fun e t1 => wpAny (model X.prog X.w) X.A (noteFrame e X.env) (fun _ t2 => wpAny (model X.prog X.w) X.A (setFlight e none) (fun _ t3 =>
    wpAny (model X.prog X.w) X.A (handleBy e X.env (h1 :: hds)) (SP X pins D) X.xe t3) X.xe t2) X.xe t1) (fun u s' xx => ?_) PassesOwn.looking).run [] s σ H D (I.toTry _) h) (fun f t1 r => ?_) (fun e t1 he => he))
  · obtain ⟨a, B, sI, pins2, σ2, H2, cls, d, rfl, J, nb, up, sky, na, os, ag, hw⟩ := xx
    rw [show (X.tr (X.pn ++ pins) _).stack = X.env :: X.outer from hst] at sky
    refine Sky.land Zc.steady (by rw [xok.frames, hst]) hf sky fun h3 fl up3 => ?_
    exact cls_run hst hf hN tk ok _ ⟨J.ofTry xok, nb, up.trans up3, fl, na, os, ag⟩ hw
  · cases f with
    | ret u =>
      obtain ⟨v, _, _, J, rv, q⟩ := r
      exact ⟨v, _, _, J.ofTry xok, rv, q⟩
    | next =>
      obtain ⟨_, _, J, q⟩ := r
      exact wpAny_execs_nil ⟨_, _, J.ofTry xok, q⟩
    | _ =>
      obtain ⟨_, _, J, q⟩ := r
      exact ⟨_, _, J.ofTry xok, q⟩
end
end Ver
set_option Elab.async false
set_option linter.all false
set_option maxRecDepth 100000
set_option maxHeartbeats 2000000
namespace Ver
open PySem PySem.Spec PyProof.Rows L2
abbrev NK := List (NestedKey × Addr × V)
def NRel (ks : NK) (xs : List (NestedKey × Addr × Value)) : Prop := Paired (fun p q => p.1 = q.1 ∧ p.2.1 = q.2.1 ∧ RelV p.2.2 q.2.2) ks xs
def NumP (P : Program) (w : World) (a : Addr) (ks : NK) (h : Heap) : Prop := (a == sysModules) = false ∧ ks.length ≤ sizeLine ∧ ∃ xs, NRel ks xs ∧
  ∃ o es ep, h.get? a = some o ∧ o.ExactDict ∧ o.data = .dict es ep ∧ es.toList = xs.map (entryOfKey (nestedKind P w)) ∧ (xs.map (·.1)).Nodup
def NumD (P : Program) (w : World) (a : Addr) (ks : NK) : HO := .ext (NumP P w a ks)
theorem numD_ok {P : Program} {w : World} {H : Hp} {h : Heap} {a : Addr} {ks : NK} (x : NumP P w a ks h) : ObjOk P w H h a (NumD P w a ks) := by
  have ⟨_, _, _, _, o, _, _, ho, _⟩ := x
  refine ⟨x, ⟨o, ho⟩, fun h1 h2 p k => ?_⟩
  obtain ⟨hd, hz, xs, r, o, es, ep, ho, rest⟩ := p
  exact ⟨hd, hz, xs, r, o, es, ep, k o ho, rest⟩
mutual
inductive NV (H : Hp) : NestedKey → V → Prop
  | num (i : Int) : NV H (.num i) (.int i)
  | text (x : Str) : NV H (.text x) (.str x)
  | tup {a : Addr} {xs : List V} {ks : List NestedKey} : H a = some (.tup xs) → NVs H ks xs → NV H (.tup ks) (.ref a)
inductive NVs (H : Hp) : List NestedKey → List V → Prop
  | nil : NVs H [] []
  | cons {k : NestedKey} {v : V} {ks : List NestedKey} {vs : List V} : NV H k v → NVs H ks vs → NVs H (k :: ks) (v :: vs)
end
theorem nvs_ints {H : Hp} : ∀ ns : List Int, NVs H (ns.map .num) (ns.map V.int)
  | [] => .nil
  | n :: ns => .cons (.num n) (nvs_ints ns)
mutual
theorem nv_grow {H H' : Hp} (e : Same H H') : ∀ (k : NestedKey) (v : V), NV H k v → NV H' k v
  | .none, _, x => by cases x
  | .num i, _, x => by cases x; exact .num _
  | .text y, _, x => by cases x; exact .text _
  | .tup ks, _, x => by
    cases x with
    | tup h hk => exact .tup (e _ _ h) (nvs_grow e ks _ hk)
theorem nvs_grow {H H' : Hp} (e : Same H H') : ∀ (ks : List NestedKey) (vs : List V), NVs H ks vs → NVs H' ks vs
  | [], _, x => by cases x; exact .nil
  | k :: ks, _, x => by
    cases x with
    | cons h hk => exact .cons (nv_grow e k _ h) (nvs_grow e ks _ hk)
end
mutual
theorem nv_keep {H H' : Hp} (e : ∀ b xs, H b = some (.tup xs) → H' b = some (.tup xs)) : ∀ (k : NestedKey) (v : V), NV H k v → NV H' k v
  | .none, _, x => by cases x
  | .num i, _, x => by cases x; exact .num _
  | .text y, _, x => by cases x; exact .text _
  | .tup ks, _, x => by
    cases x with
    | tup h hk => exact .tup (e _ _ h) (nvs_keep e ks _ hk)
theorem nvs_keep {H H' : Hp} (e : ∀ b xs, H b = some (.tup xs) → H' b = some (.tup xs)) : ∀ (ks : List NestedKey) (vs : List V), NVs H ks vs → NVs H' ks vs
  | [], _, x => by cases x; exact .nil
  | k :: ks, _, x => by
    cases x with
    | cons h hk => exact .cons (nv_keep e k _ h) (nvs_keep e ks _ hk)
end
section
variable {P : Program} {w : World} {H : Hp} {h : Heap}
mutual
theorem nv_is (ok : HOk P w H h) : ∀ (k : NestedKey) (v : V) (u : Value), NV H k v → RelV v u → NestedIs h k u
  | .none, _, _, x, _ => by cases x
  | .num i, _, _, x, r => by
    cases x
    obtain ⟨t, rfl⟩ := r
    exact .int _ _
  | .text y, _, _, x, r => by
    cases x
    obtain ⟨t, rfl⟩ := r
    exact .text _ _
  | .tup ks, _, _, x, r => by
    cases x with
    | tup e hk =>
      cases r
      obtain ⟨_, its, rv, o, ho, hc, n, hd⟩ := ok _ _ e
      exact .tup ho hc hd (nv_all ok ks _ _ hk rv)
theorem nv_all (ok : HOk P w H h) : ∀ (ks : List NestedKey) (xs : List V) (us : List Value), NVs H ks xs → Vals xs us → NestedAll h ks us
  | [], _, _, x, r => by
    cases x
    cases r
    exact .nil
  | k :: ks, _, _, x, r => by
    cases x with
    | cons h1 h2 =>
      cases r with
      | cons r1 r2 => exact .cons (nv_is ok k _ _ h1 r1) (nv_all ok ks _ _ h2 r2)
end
def NKey (H : Hp) (k : NestedKey) (b : Addr) : Prop := NV H k (.ref b) ∧ k.depth ≤ 8
theorem NKey.grow {H' : Hp} {k : NestedKey} {b : Addr} (e : Same H H') (x : NKey H k b) : NKey H' k b := ⟨nv_grow e _ _ x.1, x.2⟩
theorem NKey.keep {H' : Hp} {k : NestedKey} {b : Addr} (e : ∀ b xs, H b = some (.tup xs) → H' b = some (.tup xs)) (x : NKey H k b) : NKey H' k b := ⟨nv_keep e _ _ x.1, x.2⟩
theorem nkey_is (ok : HOk P w H h) {k : NestedKey} {b : Addr} (x : NKey H k b) : (nestedKind P w).is h k b := ⟨nv_is ok _ _ _ x.1 rfl, x.2⟩
theorem nrel_is (ok : HOk P w H h) {ks : NK} {xs : List (NestedKey × Addr × Value)} (r : NRel ks xs) : (∀ p ∈ ks, NKey H p.1 p.2.1) → ∀ x ∈ xs, (nestedKind P w).is h x.1 x.2.1 := by
  unfold NRel at r
  induction r with
  | nil => exact fun _ x hx => absurd hx List.not_mem_nil
  | @cons a b l1 l2 hab hr ih =>
    intro hk x hx
    rcases List.mem_cons.mp hx with rfl | hx
    · obtain ⟨e1, e2, _⟩ := hab
      rw [← e1, ← e2]
      exact nkey_is ok (hk a List.mem_cons_self)
    · exact ih (fun p hp => hk p (List.mem_cons_of_mem _ hp)) x hx
def valN (ks : NK) (k : NestedKey) : Option V := (ks.find? fun p => decide (p.1 = k)).map (·.2.2)
theorem nrel_val {ks : NK} {xs : List (NestedKey × Addr × Value)} (r : NRel ks xs) (k : NestedKey) : RelO (valN ks k) ((atKey xs k).map (·.2)) := by
  unfold NRel at r
  induction r with
  | nil => exact trivial
  | @cons a b l1 l2 hab hr ih =>
    obtain ⟨e1, e2, e3⟩ := hab
    unfold valN atKey at ih ⊢
    rw [List.find?_cons, List.find?_cons, ← e1]
    by_cases c : a.1 = k
    · rw [decide_eq_true c]
      exact e3
    · rw [decide_eq_false c]
      exact ih
theorem dn_of (ok : HOk P w H h) {a : Addr} {ks : NK} (e : H a = some (NumD P w a ks)) (hk : ∀ p ∈ ks, NKey H p.1 p.2.1) :
    (a == sysModules) = false ∧ ks.length ≤ sizeLine ∧ ∃ xs, NRel ks xs ∧ h.DictOfH (nestedKind P w) a xs := by
  obtain ⟨⟨hd, hz, xs, r, o, es, ep, ho, hx, hdt, he, hn⟩, _⟩ := ok _ _ e
  exact ⟨hd, hz, xs, r, o, es, ep, ho, hx, hdt, he, nrel_is ok r hk, hn⟩
end
section
variable {X : Cx}
def tDNewN (P : Program) (w : World) : TE := fun _ H Q => ∀ p, H p = none → Q (.ref p) (upd H p (NumD P w p []))
theorem pe_dnewN {pos : Pos} : PE X (.Dict [] [] pos) (tDNewN X.prog X.w) := ⟨fun pins s σ H Q I h =>
  wpAny_Dict_empty ⟨.ref s.heap.objs.size, _, I.laid (a := s.heap.objs.size) (o := NumD X.prog X.w s.heap.objs.size []) (t' := s.toks) (fun _ _ q => Heap.get?_push_of_some _ q) (Nat.le_refl _)
    (numD_ok ⟨beq_eq_false_iff_ne.mpr (Ne.symm (Nat.ne_of_lt I.big)), Nat.zero_le _, [], .nil, _, #[], 0, Heap.get?_push_size _ rfl, ⟨rfl, rfl, rfl⟩, rfl, rfl, List.nodup_nil⟩), rfl, h _ (I.hok.fresh (Nat.le_refl _))⟩⟩
def rLenN (P : Program) (w : World) : List V → Hp → VK → Prop := fun xs H Q => ∃ (p : Addr) (ks : NK), xs = [.ref p] ∧ H p = some (NumD P w p ks) ∧ (∀ x ∈ ks, NKey H x.1 x.2.1) ∧ Q (.int ((ks.length : Nat) : Int)) H
theorem call_lenN : CallR X (.builtin "len") (rLenN X.prog X.w) := by
  intro pins s σ H xs us Q I r h
  obtain ⟨p, ks, rfl, hp, hk, q⟩ := h
  obtain ⟨u, rfl, rx⟩ := vals1 r
  obtain rfl : u = .ref p := rx
  obtain ⟨hd, z, ys, rel, dd⟩ := dn_of I.hok hp hk
  have hl : ks.length = ys.length := Paired.length rel
  refine call_len_dictH hd dd (by rw [← hl]; rw [sizeLine_eq] at z; omega) ?_
  rw [← hl]
  exact ⟨.int ((ks.length : Nat) : Int), H, I.tok _, ⟨_, rfl⟩, q⟩
def tDSetdN (P : Program) (w : World) (td ty tx : TE) : TE := fun σ H Q => td σ H fun x H1 => ∃ a, x = .ref a ∧ (∃ ks, H1 a = some (NumD P w a ks)) ∧ ty σ H1 fun y H2 => tx σ H2 fun z H3 =>
  ∃ (ks : NK) (k : NestedKey) (b : Addr), H3 a = some (NumD P w a ks) ∧ y = .ref b ∧ NKey H3 k b ∧ (∀ p ∈ ks, NKey H3 p.1 p.2.1) ∧ ks.length < sizeLine ∧
  (∀ v, valN ks k = some v → Q v H3) ∧ (valN ks k = none → Q z (upd H3 a (NumD P w a (ks ++ [(k, b, z)]))))
variable {o e f : Expr} {td ty tx : TE} {apos cpos : Pos} {n : Nat}
theorem pe_dsetdN (hr : Room n X.A) (ho : PE X o td) (he : PE X e ty) (hf : PE X f tx) (m : M2 X o "setdefault" apos e f cpos) : PE X (.Call (.Attribute o "setdefault" apos) [e, f] [] cpos) (tDSetdN X.prog X.w td ty tx) := by
  refine ⟨fun pins s σ H Q I h => ?_⟩
  refine wpAny_Call_method m.base m.few m.line PySem.F.plainAttrs_dict PySem.F.slot_dict_setdefault PySem.F.type_dict_setdefault (thn (ho.run pins s σ H _ I h) fun u s1 ⟨x, H1, I1, rx, a, ex, d, q1⟩ => ?_)
  subst ex
  obtain rfl : u = Value.ref a := rx
  obtain ⟨ks0, d⟩ := d
  obtain ⟨⟨_, _, _, _, o0, _, _, ho0, hx0, _⟩, _⟩ := I1.hok _ _ d
  refine ⟨⟨o0, ho0, hx0.1⟩, fun b q => ?_, ?_⟩
  · cases q
    exact ⟨o0, ho0, hx0.2.1⟩
  rw [m.trees]
  refine Calls.callWith_builtin rfl (Calls.evalArgs_plain (Calls.spliced_cons (thn (he.run pins s1 σ H1 _ I1 q1) fun iv s2 ⟨y, H2, I2, ry, q2⟩ =>
    Calls.spliced_cons (thn (hf.run pins s2 σ H2 _ I2 q2) fun fv s3 ⟨z, H3, I3, rz, ks, k, b, ea, ey, hkb, hks, hl, q3, q4⟩ => Calls.spliced_nil ?_))))
  subst ey
  obtain rfl : iv = Value.ref b := ry
  obtain ⟨hd, hz, xs, rel, dd⟩ := dn_of I3.hok ea hks
  have hlen : ks.length = xs.length := Paired.length rel
  have hrel := nrel_val rel k
  refine call_setdefault_heap (knd := nestedKind X.prog X.w) (k := k) (xs := xs) ?_ (nkey_is I3.hok hkb) hd dd (fun p hp => ?_) (fun hn h' dd' hs => ?_) (by rw [← hlen]; omega)
  · have := hr.un
    show X.A.in1.units + 8 < cLine
    show X.A.units + 1 + 8 < cLine
    omega
  · rw [hp] at hrel
    cases e0 : valN ks k with
    | none => rw [e0] at hrel; exact (show False from hrel).elim
    | some v => rw [e0] at hrel; exact ⟨v, _, I3.tok _, hrel, q3 v e0⟩
  · rw [hn] at hrel
    cases e0 : valN ks k with
    | some v => rw [e0] at hrel; exact (show False from hrel).elim
    | none =>
      rw [storedH_new hn] at dd'
      obtain ⟨o, es, ep, ho', hx', hdt', he', _, hn'⟩ := dd'
      refine ⟨z, _, d_write (ob := NumD X.prog X.w a (ks ++ [(k, b, z)])) I3 (by rw [ea]; exact True.intro) hs ⟨o, ho'⟩ (numD_ok ⟨hd, by rw [List.length_append]; exact hl, xs ++ [(k, b, fv)], ?_, o, es, ep, ho', hx', hdt', he', hn'⟩), rz, q4 e0⟩
      exact Paired.snoc rel ⟨rfl, rfl, rz⟩
end
end Ver
set_option Elab.async false
set_option linter.all false
set_option maxRecDepth 100000
set_option maxHeartbeats 2000000
namespace Ver
open PySem PySem.Spec PyProof.Rows L2
theorem for_enum {K : PySem.W.Frag} {a : Addr} {xs : List V} {g : TG} {tb : TS} {D : Ends} {σ : L2.St} {H : Hp} (Pv : Nat → L2.St → Hp → Prop) (h0 : Pv 0 σ H) (hl : ∀ i σ H, i ≤ xs.length → Pv i σ H → SqL K H a xs)
    (hs : ∀ i x σ H T, xs[i]? = some x → Pv i σ H → H T = none → g (.ref T) σ (upd H T (.tup [.int (i : Nat), x])) fun σ2 H2 => tb { D with nx := Pv (i + 1), ct := Pv (i + 1), bk := D.nx } σ2 H2) (hd : ∀ σ H, Pv xs.length σ H → D.nx σ H) :
    ∃ W : Nat → Nat → L2.St → Hp → Prop, (∃ m, W 0 m σ H) ∧ ∀ i m σ H, W i m σ H →
      ((Ite K a).stop i H ∧ D.nx σ H) ∨ ((Ite K a).go i H ∧ ∃ N : L2.St → Hp → Prop, (∀ σ' H', N σ' H' → ∃ m', m' < m ∧ W (i + 1) m' σ' H') ∧ ∀ x H', (Ite K a).yld i H x H' → g x σ H' fun σ2 H2 => tb { D with nx := N, ct := N, bk := D.nx } σ2 H2) := by
  refine ⟨fun i m σ H => Pv i σ H ∧ m = xs.length - i ∧ i ≤ xs.length, ⟨_, h0, rfl, Nat.zero_le _⟩, fun i m σ H ⟨p, em, le⟩ => ?_⟩
  have sl := hl i σ H le p
  by_cases lt : i < xs.length
  · have e : xs[i]? = some xs[i] := List.getElem?_eq_getElem lt
    refine .inr ⟨⟨xs, _, sl, e⟩, fun σ' H' => Pv (i + 1) σ' H', fun σ' H' q => ⟨m - 1, by omega, q, by omega, by omega⟩, fun v H' y => ?_⟩
    obtain ⟨T, x, rfl, nT, rfl, f⟩ := y
    exact hs i x σ H T (f xs sl) p nT
  · have : i = xs.length := by omega
    subst this
    exact .inl ⟨⟨xs, sl, Nat.le_refl _⟩, hd σ H p⟩
end Ver
set_option Elab.async false
set_option linter.all false
set_option maxRecDepth 100000
set_option maxHeartbeats 2000000
namespace Ver
open PySem PySem.Spec PyProof.Rows L2
def PutT (H : Hp) (D : Addr) (y z : V) (Nx : Hp → Prop) : Prop :=
  ∃ (kvs : List (List L2.Key × V)) (k : List L2.Key) (b : Addr), y = .ref b ∧ H b = some (.tup (k.map kV)) ∧ H D = some (.dT kvs) ∧ kvs.length < sizeLine ∧ Nx (upd H D (.dT (putK kvs k z)))
section
variable {X : Cx} {pins : List (Addr × Obj)} {σ : L2.St} {H : Hp} {s : Shared}
theorem putT_set {D : Addr} {y z : V} {u r : Value} {Q : Unit → Shared → Prop} {E : Value → Shared → Prop} {Nx : Hp → Prop} (hu : X.A.units < cLine) (I : Inv X pins σ H s) (g : PutT H D y z Nx) (ry : RelV y u) (rz : RelV z r)
    (h : ∀ H' s', Inv X pins σ H' s' → Nx H' → Q () s') : wpAny (model X.prog X.w) X.A (dictSet D u r) Q E s := by
  obtain ⟨kvs, k, b, rfl, hb, hD, hl, nx⟩ := g
  obtain rfl : u = Value.ref b := ry
  obtain ⟨z0, hd, xs, rel, dd⟩ := dt_of I.hok hD
  have lx : kvs.length = xs.length := Paired.length rel
  have lp := length_putK kvs k z
  refine wpAny_dictSet_heap (knd := tupleKind (mixKind X.prog X.w)) (hsz := by omega) hu (key_of I.hok hb) dd fun h' d2 same => h _ _ ?_ nx
  obtain ⟨o, es, ep, ho, hx, hdt, he, _, hn⟩ := d2
  refine d_write I (by rw [hD]; exact True.intro) same ⟨o, ho⟩ ⟨by omega, hd, _, (rel.put k hb rz).keeps fun c ys ec => ?_, o, es, ep, ho, hx, hdt, he, hn⟩
  rw [upd_ne (ne_of ec hD fun q => nomatch q)]
  exact ec
def tDcT (wi : TI) (g : TG) (tk tv : TE) (vs : List Nat) : TE := fun σ H Q => wi σ H fun J H1 => ∀ D, H1 D = none →
  ∃ W : Nat → Nat → Hp → Prop, (∃ m, W 0 m (upd H1 D (.dT []))) ∧ ∀ i m H, W i m H →
    (J.stop i H ∧ Q (.ref D) H) ∨
    (J.go i H ∧ ∃ Nx : Hp → Prop, (∀ H', Nx H' → ∃ m', m' < m ∧ W (i + 1) m' H') ∧
      ∀ x H', J.yld i H x H' → g x (wipe σ vs) H' fun σ2 H2 => wipe σ2 vs = wipe σ vs ∧ tk σ2 H2 fun y H3 => tv σ2 H3 fun z H4 => PutT H4 D y z Nx)
end
section
variable {X : Cx} {kx vx tg iter : Expr} {scope : Scope} {own : List (Str × Nat)} {pos : Pos} {wi : TI} {g : TG} {tk tv : TE}
abbrev blkEnv (X : Cx) (scope : Scope) (cl : List (Str × Addr)) (C : Addr) : Env := compEnvC scope cl C X.env
theorem pe_dcT (hu : X.A.units < cLine) (hc : X.calm = true) (hN : X.N.Nodup) (hi : PI X tg iter wi) (ok : BlkOk X.N X.env.scope scope own)
    (hg : ∀ (s : Shared) (H : Hp) (C : Addr) (cl : List (Str × Addr)) (fp : List Addr), PG (X.blk s H scope (blkEnv X scope cl C) fp) tg g)
    (hk : ∀ (s : Shared) (H : Hp) (C : Addr) (cl : List (Str × Addr)) (fp : List Addr), PE (X.blk s H scope (blkEnv X scope cl C) fp) kx tk)
    (he : ∀ (s : Shared) (H : Hp) (C : Addr) (cl : List (Str × Addr)) (fp : List Addr), PE (X.blk s H scope (blkEnv X scope cl C) fp) vx tv)
    (hs : ∀ x, foldedSetIterable iter X.env x = pure x := by intro _; rfl) :
    PE X (.DictComp kx vx [⟨tg, iter, [], 0⟩] scope pos) (tDcT wi g tk tv (own.map (·.2))) := by
  refine ⟨fun pins s σ H Q I h => ?_⟩
  rw [arm_eval_DictComp]
  have hfree : ∀ y ∈ scope.names, y.2 = .free → ∃ c, X.env.cells.lookup y.1 = some c := fun y hy e =>
    (ok.free y hy e).elim (fun k => I.ok.has _ (.inl k)) fun k => I.ok.has _ (.inr k)
  refine wpAny_comprehension_free (use := none) rfl hs (closure_ok hfree) ok.kind (fun y hy e => by rw [ok.uniq y hy, e]) (thn (hi.run pins s σ H _ I h) fun xv s1 hx => thn hx fun itv s2 got => ?_)
  obtain ⟨it, fp, tn, J, H2, rfl, I2, T, at0, nofp, q⟩ := got
  refine wpAny_newObj_type (newEnv_comp ?_)
  generalize hD : s2.heap.objs.size = D
  have Dn : H2 D = none := I2.hok.fresh (Nat.le_of_eq hD)
  obtain ⟨W, ⟨m0, w0⟩, turn⟩ := q D Dn
  generalize e3 : ({ s2 with heap := s2.heap.push { cls := .type "dict", data := .dict #[] } } : Shared) = s3
  have heap3 : s3.heap = s2.heap.push { cls := .type "dict", data := .dict #[] } := by rw [← e3]
  have I3 : Inv X pins σ (upd H2 D (.dT [])) s3 := by
    subst e3 hD
    exact I2.laid (t' := s2.toks) (fun b o e => Heap.get?_push_of_some _ e) (Nat.le_refl _) (dt_empty s2.heap I2.big)
  have nof3 : ∀ b ∈ fp, FpOk X pins (upd H2 D (.dT [])) b ∧ b < s3.heap.objs.size := fun b hb => by
    obtain ⟨o, e, _⟩ := T.obj _ _ at0 b hb
    have lt := Heap.lt_size e
    have ne : b ≠ D := by rw [← hD]; exact Nat.ne_of_lt lt
    exact ⟨⟨by rw [upd_ne ne]; exact (nofp b hb).1, (nofp b hb).2⟩, by rw [heap3, Heap.size_push]; exact Nat.lt_succ_of_lt lt⟩
  have at3 : tn 0 s3.heap := T.keep _ _ _ at0 fun b _ o e => by rw [heap3]; exact Heap.get?_push_of_some _ e
  have I4 := block_start I3 ok hN nof3
  show codeAny _ _ (.compStart (.DictComp kx vx [⟨tg, iter, [], 0⟩] scope pos) 0 (.ref it) (.ref D) (compEnvC scope (cellsFrom (s3.heap.objs.size + 1) scope.names (cloFrom X.env.cells scope.names [])) s3.heap.objs.size X.env)) (compPost (model X.prog X.w) X.A X.xe none (EP X pins σ Q) (.ref D) s3.heap.objs.size) { s3 with heap := pushCells (s3.heap.push { cls := .type "dict", data := .dict #[] }) scope.names }
  generalize hcl : cellsFrom (s3.heap.objs.size + 1) scope.names (cloFrom X.env.cells scope.names []) = cl at I4 ⊢
  have rg := hg s3 (upd H2 D (.dT [])) s3.heap.objs.size cl fp
  have rk := hk s3 (upd H2 D (.dT [])) s3.heap.objs.size cl fp
  have re := he s3 (upd H2 D (.dT [])) s3.heap.objs.size cl fp
  generalize hC : s3.heap.objs.size = C at I4 rg rk re ⊢
  have nf0 : ∀ b ∈ fp, (upd H2 D (.dT [])) b = none := fun b hb => (nof3 b hb).1.1
  generalize hce : blkEnv X scope cl C = ce at rg rk re
  have ece : compEnvC scope cl C X.env = ce := hce
  rw [ece] at I4 ⊢
  have cL : ce.locals = C := by rw [← hce]; rfl
  generalize hH3 : upd H2 D (.dT []) = H3 at I3 I4 rg rk re w0 nf0 nof3
  generalize hs4 : ({ s3 with heap := pushCells (s3.heap.push { cls := .type "dict", data := .dict #[] }) scope.names } : Shared) = s4 at I4 ⊢
  have at4 : tn 0 s4.heap := T.keep _ _ _ at3 fun b _ o e => by rw [← hs4]; exact pushCells_keeps _ _ _ _ (Heap.get?_push_of_some _ e)
  have fpok : ∀ {σ' : L2.St} {H' : Hp} {s' : Shared}, Inv (X.blk s3 H3 scope ce fp) [] σ' H' s' → (∀ b ∈ fp, H' b = none) → ∀ b ∈ fp, FpOk (X.blk s3 H3 scope ce fp) [] H' b := fun {σ' H' s'} I' hn b hb =>
    ⟨hn b hb, (I'.ok.exf b hb).1, I'.ok.exfs b hb, .inl hb, fun x c e => (I'.ok.exf b hb).2 x c e, fun p hp => absurd (show p ∈ ([] : List (Addr × Obj)) ++ [] from hp) (by simp)⟩
  have main : codeAny (model X.prog X.w) X.A (.compLoop (.DictComp kx vx [⟨tg, iter, [], 0⟩] scope pos) 0 (.ref it) (.ref D) ce) (compPost (model X.prog X.w) X.A X.xe none (EP X pins σ Q) (.ref D) C) s4 := by
    refine compLoop_anyD (fun n s' => ∃ i H', Inv (X.blk s3 H3 scope ce fp) [] (wipe σ (own.map (·.2))) H' s' ∧ tn i s'.heap ∧ (∀ b ∈ fp, H' b = none) ∧ W i n H') ?_ m0 ⟨0, H3, I4, at4, nf0, w0⟩
    rintro n s5 ⟨i, H5, I5, at5, nf5, w5⟩
    rcases turn i n H5 w5 with ⟨stop, fin⟩ | ⟨go, Nx, less, step⟩
    · refine thnF (T.done (X.blk s3 H3 scope ce fp) rfl rfl rfl hc i [] s5 _ H5 (fun _ _ => False) I5 (fpok I5 nf5) at5 stop) fun r s6 got => ?_
      obtain ⟨rfl, I6⟩ := got
      have I7 : Inv X pins σ H5 s6 := I3.call' (ch := fp) I6.os I6.base I6.hok I6.bare fun b hb => ⟨(nof3 b hb).1.2.2.2.1, (nof3 b hb).1.2.1, (nof3 b hb).1.2.2.2.2.1, (nof3 b hb).1.2.2.2.2.2⟩
      have nC : H5 C = none := by rw [← cL]; exact I6.free
      obtain ⟨m, hn, _⟩ := I6.loc
      replace hn : s6.heap.Ns C m := by rw [← cL]; exact hn
      obtain ⟨f0, f1, f2, f3, f4, f5⟩ := I3.fpOk (Nat.le_of_eq hC) nC
      exact ⟨m, hn, fun h'' sb => ⟨.ref D, H5, I7.turned (t' := s6.toks) (fun b o hb e => (sb.2 b hb).trans e) f0 f1 f3 f4 f5, rfl, fin⟩⟩
    · refine thnF (T.item (X.blk s3 H3 scope ce fp) rfl rfl rfl hc i [] s5 _ H5 (fun _ _ => False) I5 (fpok I5 nf5) at5 go) fun r s6 got => ?_
      obtain ⟨u, rfl, h6⟩ := got
      refine thnF h6 fun _ s7 got => ?_
      obtain ⟨x, H7, I7, r7, y7, at7, nf7⟩ := got
      refine thnF (rg.run _ s7 _ H7 x u _ (I7.pinned (fpok I7 nf7) (T.obj _ _ at7)) r7 (step x H7 y7)) fun _ s8 got => ?_
      obtain ⟨σ8, H8, I8, ew, q8⟩ := got
      refine wpAny_tests_nil ?_
      show wpAny (model X.prog X.w) X.A (eval kx ce) _ _ s8
      refine thnF (rk.run _ s8 σ8 H8 _ I8 q8) fun kv s9 got => ?_
      obtain ⟨y, H9, I9, r9, q9⟩ := got
      refine thnF (re.run _ s9 σ8 H9 _ I9 q9) fun vv s10 got => ?_
      obtain ⟨z, H10, I10, r10, put⟩ := got
      refine putT_set (X := X.blk s3 H3 scope ce fp) hu I10 put r9 r10 fun H11 s11 I11 nx => ?_
      obtain ⟨m', lt, w'⟩ := less H11 nx
      have kept : ∀ b ∈ fp, ∀ o, s7.heap.get? b = some o → s11.heap.get? b = some o ∧ H11 b = none := fun b hb o e => by
        have z := I11.pin (b, o) (List.mem_append_right _ (List.mem_append_right _ (mem_pinsAt hb e)))
        exact ⟨z.1, z.2.1⟩
      refine ⟨m', lt, i + 1, H11, (I11.unpinned (pins := [])).weak (by rw [← ew, wipe_length]) (fun j v e => ?_), T.keep _ _ _ at7 fun b hb o e => (kept b hb o e).1, fun b hb => ?_, w'⟩
      · rw [← ew] at e
        exact (wipe_some e).1
      · obtain ⟨o, e, _⟩ := T.obj _ _ at7 b hb
        exact (kept b hb o e).2
  exact codeAny_compStart_dict main (T.self X.A 0 _ _ _ at4 main)
theorem dcT_tup {K : PySem.W.Frag} {a : Addr} {xs : List V} {g : TG} {tk tv : TE} {vs : List Nat} {σ : L2.St} {H1 : Hp} {D : Addr} {Qd : Hp → Prop} (S : Nat → Hp → Prop) (h0 : S 0 (upd H1 D (.dT []))) (hl : ∀ i H, S i H → SqT K H a xs)
    (hs : ∀ i x H, xs[i]? = some x → S i H → g x (wipe σ vs) H fun σ2 H2 => wipe σ2 vs = wipe σ vs ∧ tk σ2 H2 fun y H3 => tv σ2 H3 fun z H4 => PutT H4 D y z (S (i + 1))) (hd : ∀ H, S xs.length H → Qd H) :
    ∃ W : Nat → Nat → Hp → Prop, (∃ m, W 0 m (upd H1 D (.dT []))) ∧ ∀ i m H, W i m H →
      ((Itt K a).stop i H ∧ Qd H) ∨
      ((Itt K a).go i H ∧ ∃ Nx : Hp → Prop, (∀ H', Nx H' → ∃ m', m' < m ∧ W (i + 1) m' H') ∧
        ∀ x H', (Itt K a).yld i H x H' → g x (wipe σ vs) H' fun σ2 H2 => wipe σ2 vs = wipe σ vs ∧ tk σ2 H2 fun y H3 => tv σ2 H3 fun z H4 => PutT H4 D y z Nx) := by
  refine ⟨fun i m H => i + m = xs.length ∧ S i H, ⟨xs.length, Nat.zero_add _, h0⟩, fun i m H ⟨e, p⟩ => ?_⟩
  have st := hl i H p
  cases m with
  | zero =>
    have e' : i = xs.length := e
    subst e'
    exact .inl ⟨⟨xs, st, Nat.le_refl _⟩, hd H p⟩
  | succ m =>
    have lt : i < xs.length := by omega
    refine .inr ⟨⟨xs, xs[i], st, by simp [lt]⟩, S (i + 1), fun H' p' => ⟨m, by omega, by omega, p'⟩, fun x H' y => ?_⟩
    obtain ⟨rfl, y⟩ := y
    exact hs i x _ (y xs st) p
end
end Ver
set_option Elab.async false
set_option linter.all false
set_option maxRecDepth 100000
set_option maxHeartbeats 2000000
namespace Ver
open PySem PySem.Spec PyProof.Rows L2 HT
theorem places_back (n : Nat) : Builtin.Slice.slicePlaces ((n : Int) - 1) (-1) (-1) = n := by
  unfold Builtin.Slice.slicePlaces
  rw [if_neg (by decide : ¬ ((-1 : Int) > 0))]
  by_cases h : (n : Int) - 1 > -1
  · rw [if_pos h, show (-(-1) : Int) = 1 by decide, Int.ediv_one]
    omega
  · rw [if_neg h]
    omega
theorem pick_back (xs : Array Value) : ((List.range xs.size).filterMap fun (k : Nat) => xs[(((xs.size : Int) - 1) + (k : Int) * (-1)).toNat]?).toArray = xs.toList.reverse.toArray := by
  congr 1
  have e : (List.range xs.size).filterMap (fun (k : Nat) => xs[(((xs.size : Int) - 1) + (k : Int) * (-1)).toNat]?) = ((List.range xs.size).map fun k => xs.size - 1 - k).filterMap (xs[·]?) := by
    rw [List.filterMap_map]
    refine congrArg (fun f => (List.range xs.size).filterMap f) (funext fun k => ?_)
    show xs[(((xs.size : Int) - 1) + (k : Int) * (-1)).toNat]? = xs[xs.size - 1 - k]?
    congr 1
    omega
  rw [e, PySem.W.krv_range, List.filterMap_reverse, PySem.W.krv_all]
section
variable {prog : Program} {w : World} {A : Around} {E : Value → Shared → Prop} {s : Shared}
theorem tup_back {t sl : Addr} {items : Array Value} {vs : Value} {Q : Value → Shared → Prop} (ht : IsTup s.heap t items) (hs : s.heap.IsSliceOf sl .none .none vs) (ps : IsPart vs (some (-1))) (hz : items.size ≤ sizeLine)
    (h : Q (.ref s.heap.objs.size) { s with heap := s.heap.push { cls := .type "tuple", data := .seq items.toList.reverse.toArray } }) : wpAny (model prog w) A (getItem (.ref t) (.ref sl)) Q E s := by
  obtain ⟨os, hos, hcs, hds⟩ := id hs
  have tys : s.TypeIs (.ref sl) "slice" := ⟨os, hos, hcs⟩
  have fit : sizeOk (.seq items.toList.reverse.toArray) := by
    show items.toList.reverse.toArray.size ≤ sizeLine
    simpa using hz
  unfold getItem
  try with_reducible refine wpAny_holding ?_
  refine wpAny_bind (wpAny_sequenceKey ht.typeIs (by decide) ?_)
  refine wpAny_bind (wpAny_callSpecial?_slot (name := Str.ofString "__getitem__") ht.typeIs PyProof.Rows.slot_tuple_getitem (wpAny_call_entry PyProof.Rows.slot_tuple_getitem ht.typeIs entry_tuple_getitem ?_ (args_tuple_getitem _ _)))
  show wpAny _ _ (Builtin.Tuple.tupleItemsOf (.ref t) >>= _) _ _ s
  refine wpAny_bind (tupleItemsOf_ ht (wpAny_bind (wpAny_typeOf tys ?_)))
  rw [if_pos (by decide)]
  refine wpAny_bind ?_
  unfold Builtin.Slice.sliceApplied Builtin.Slice.sliceFields
  refine wpAny_bind (wpAny_bind (wpAny_field hos hds (x := .none) rfl (wpAny_bind (wpAny_field hos hds (x := .none) rfl (wpAny_bind (wpAny_field hos hds (x := vs) rfl (wpAny_pure ?_)))))))
  refine wpAny_bind (slicePart_ ps ?_)
  show wpAny _ _ (if ((-1 : Int) == 0) = true then _ else _) _ _ s
  rw [if_neg (by decide)]
  refine wpAny_bind (slicePart_none (wpAny_bind (slicePart_none (wpAny_bind (wpAny_pure ?_)))))
  show wpAny _ _ (pure ((items.size : Int) - 1, (-1 : Int), Builtin.Slice.slicePlaces ((items.size : Int) - 1) (-1) (-1))) _ _ s
  rw [places_back]
  refine wpAny_pure ?_
  have no : ¬ ((((items.size : Int) - 1) == 0 && (-1 : Int) == 1 && items.size == items.size) = true) := by
    rw [show ((-1 : Int) == 1) = false by decide, Bool.and_false]
    exact Bool.false_ne_true
  show wpAny _ _ (if (((items.size : Int) - 1) == 0 && (-1 : Int) == 1 && items.size == items.size) = true then _ else _) _ _ s
  rw [if_neg no, pick_back]
  first
    | exact wpAny_bind (m := Builtin.Tuple.tupleExact _) (wpAny_newObj_type (wpAny_pure ⟨_, rfl, wpAny_pure h⟩) fit)
    | exact wpAny_bind (wpAny_bind (m := Builtin.Tuple.tupleExact _) (wpAny_newObj_type (wpAny_pure ⟨_, rfl, wpAny_pure h⟩) fit))
    | exact wpAny_bind (m := Builtin.Tuple.tupleExact _) (wpAny_newObj_type (wpAny_bind (wpAny_pure (wpAny_pure ⟨_, rfl, wpAny_pure h⟩))) fit)
end
section
variable {X : Cx}
def tRevT (K : PySem.W.Frag) (te : TE) : TE := fun σ H Q => te σ H fun x H1 => ∃ a xs, x = .ref a ∧ SqT K H1 a xs ∧ ∀ p, H1 p = none → Q (.ref p) (upd H1 p (.tup xs.reverse))
theorem pe_revT {e : Expr} {te : TE} {k : Nat} {p1 p2 p3 pos : Pos} (he : PE X e te) : PE X (.Subscript e (.Slice none none (some (.UnaryOp .USub (.Constant (.int 1) k p1) p2)) p3) pos) (tRevT X.K te) := by
  refine ⟨fun pins s σ H Q I h => Subscript_ (thn (he.run pins s σ H _ I h) fun v s1 got => ?_)⟩
  obtain ⟨x, H1, I1, rx, a, xs, rfl, hx, q⟩ := got
  cases rx
  have step : PO X (some (.UnaryOp .USub (.Constant (.int 1) k p1) p2)) (tPart (tUn (rU fun i => .int (-i)) (tC (.int 1)))) := po_some (pe_un un_neg pe_int)
  refine wpAny_Slice (thn (po_none.run pins s1 σ H1 (fun o H2 => o = none ∧ H2 = H1) I1 ⟨rfl, rfl⟩) fun vl s2 got => ?_)
  obtain ⟨_, _, I2, pl, rfl, rfl⟩ := got
  refine thn (po_none.run pins s2 σ _ (fun o H3 => o = none ∧ H3 = _) I2 ⟨rfl, rfl⟩) fun vu s3 got => ?_
  obtain ⟨_, _, I3, pu, rfl, rfl⟩ := got
  refine thn (step.run pins s3 σ _ (fun o H4 => o = some (-1) ∧ H4 = _) I3 ⟨1, rfl, -1, rfl, rfl, rfl⟩) fun vs s4 got => ?_
  obtain ⟨_, _, I4, ps, rfl, rfl⟩ := got
  cases pl
  cases pu
  rename_i H4
  have I5 : Inv X pins σ H4 { s4 with heap := s4.heap.push { cls := .type "slice", data := .fields #[.none, .none, vs] } } := I4.kept (t' := s4.toks) fun b ob q => Heap.get?_push_of_some _ q
  obtain ⟨its, r, ht, hz⟩ := I5.tuple hx
  have hlen := r.length
  show wpAny (model X.prog X.w) X.A (subscriptTail e (.Slice none none (some (.UnaryOp .USub (.Constant (.int 1) k p1) p2)) p3) (.ref a) (.ref s4.heap.objs.size)) (EP X pins σ Q) X.xe _
  refine tail_any (ops := [.ref a, .ref s4.heap.objs.size]) ht.typeIs PyProof.Rows.slot_tuple_getitem.lookup ?_ (by with_unfolding_all rfl)
  refine tup_back ht (Heap.IsSliceOf.new _ .none .none vs) ps (by rw [List.size_toArray]; omega) ?_
  refine ⟨.ref _, _, I5.laid (t' := s4.toks) (o := .tup xs.reverse) (fun b ob q => Heap.get?_push_of_some _ q) (Nat.le_refl _) ?_, rfl, q _ (I5.hok.fresh (Nat.le_refl _))⟩
  exact ⟨by rw [List.length_reverse]; omega, _, r.reverse, _, Heap.get?_push_size _ rfl, rfl, 0, rfl⟩
end
end Ver
set_option Elab.async false
set_option linter.all false
set_option maxRecDepth 100000
set_option maxHeartbeats 2000000
namespace K2
open PySem PySem.Spec PyProof.Rows L2 Ver
def topS (i : Nat) : Stmt := PySem.Challenge.pw_stillends_k02_whole_books_of_pairs.main.body.getD i (.Pass ⟨0, 0, 0, 0⟩)
abbrev s_is_int : Stmt := topS 6
theorem sc_is_int : FnScope ["thing"] ["thing"] (defScope s_is_int) := ⟨rfl, rfl, rfl, by decide +kernel, rfl, by decide +kernel, by decide +kernel⟩
abbrev s_is_number : Stmt := topS 7
theorem sc_is_number : FnScope ["thing"] ["thing"] (defScope s_is_number) := ⟨rfl, rfl, rfl, by decide +kernel, rfl, by decide +kernel, by decide +kernel⟩
abbrev s_is_below : Stmt := topS 11
theorem sc_is_below : FnScope ["thing", "bound"] ["thing", "bound"] (defScope s_is_below) := ⟨rfl, rfl, rfl, by decide +kernel, rfl, by decide +kernel, by decide +kernel⟩
abbrev s_are_below : Stmt := topS 12
theorem sc_are_below : FnScope ["thing", "bound", "part"] ["thing", "bound"] (defScope s_are_below) := ⟨rfl, rfl, rfl, by decide +kernel, rfl, by decide +kernel, by decide +kernel⟩
abbrev s_ask_row : Stmt := topS 13
theorem sc_ask_row : FnScope ["tokens", "row"] ["tokens", "row"] (defScope s_ask_row) := ⟨rfl, rfl, rfl, by decide +kernel, rfl, by decide +kernel, by decide +kernel⟩
abbrev s_least_book : Stmt := topS 15
theorem sc_least_book : FnScope ["table", "classes", "met", "numbers", "rows", "k", "state", "lead"] ["table"] (defScope s_least_book) := ⟨rfl, rfl, rfl, by decide +kernel, rfl, by decide +kernel, by decide +kernel⟩
abbrev s__classes_of : Stmt := topS 16
theorem sc__classes_of : FnScope ["table", "classes", "many", "before"] ["table"] (defScope s__classes_of) := ⟨rfl, rfl, rfl, by decide +kernel, rfl, by decide +kernel, by decide +kernel⟩
abbrev s__parted : Stmt := topS 17
theorem sc__parted : FnScope ["table", "classes", "numbers", "parted", "state", "row", "mark", "lead"] ["table", "classes"] (defScope s__parted) := ⟨rfl, rfl, rfl, by decide +kernel, rfl, by decide +kernel, by decide +kernel⟩
abbrev s__first_met : Stmt := topS 18
theorem sc__first_met : FnScope ["table", "classes", "met", "known", "at", "row", "lead"] ["table", "classes"] (defScope s__first_met) := ⟨rfl, rfl, rfl, by decide +kernel, rfl, by decide +kernel, by decide +kernel⟩
abbrev s_pairs_book : Stmt := topS 20
theorem sc_pairs_book : FnScope ["tokens", "pairs", "barred", "token", "table", "pair", "other"] ["tokens", "pairs"] (defScope s_pairs_book) := ⟨rfl, rfl, rfl, by decide +kernel, rfl, by decide +kernel, by decide +kernel⟩
abbrev s__are_pairs : Stmt := topS 21
theorem sc__are_pairs : FnScope ["thing", "many", "pair"] ["thing", "many"] (defScope s__are_pairs) := ⟨rfl, rfl, rfl, by decide +kernel, rfl, by decide +kernel, by decide +kernel⟩
abbrev s_runs : Stmt := topS 23
theorem sc_runs : FnScope ["tokens", "book", "row"] ["tokens", "book", "row"] (defScope s_runs) := ⟨rfl, rfl, rfl, by decide +kernel, rfl, by decide +kernel, by decide +kernel⟩
abbrev s_state_after : Stmt := topS 24
theorem sc_state_after : FnScope ["book", "row", "table", "state", "token"] ["book", "row"] (defScope s_state_after) := ⟨rfl, rfl, rfl, by decide +kernel, rfl, by decide +kernel, by decide +kernel⟩
abbrev s_takes : Stmt := topS 25
theorem sc_takes : FnScope ["tokens", "book", "row"] ["tokens", "book", "row"] (defScope s_takes) := ⟨rfl, rfl, rfl, by decide +kernel, rfl, by decide +kernel, by decide +kernel⟩
abbrev s_free_book : Stmt := topS 26
theorem sc_free_book : FnScope ["tokens"] ["tokens"] (defScope s_free_book) := ⟨rfl, rfl, rfl, by decide +kernel, rfl, by decide +kernel, by decide +kernel⟩
abbrev s__law_pool : Stmt := topS 28
theorem sc__law_pool : FnScope ["script", "room", "pool", "cell", "number", "turned"] ["script"] (defScope s__law_pool) := ⟨rfl, rfl, rfl, by decide +kernel, rfl, by decide +kernel, by decide +kernel⟩
abbrev s__law_pick : Stmt := topS 29
theorem sc__law_pick : FnScope ["pool", "many", "number"] ["pool", "many"] (defScope s__law_pick) := ⟨rfl, rfl, rfl, by decide +kernel, rfl, by decide +kernel, by decide +kernel⟩
abbrev s__law_same : Stmt := topS 30
theorem sc__law_same : FnScope ["told", "due", "one", "two"] ["told", "due"] (defScope s__law_same) := ⟨rfl, rfl, rfl, by decide +kernel, rfl, by decide +kernel, by decide +kernel⟩
abbrev s__law_word : Stmt := topS 31
theorem sc__law_word : FnScope ["pool", "signs", "most", "text", "k"] ["pool", "signs", "most"] (defScope s__law_word) := ⟨rfl, rfl, rfl, by decide +kernel, rfl, by decide +kernel, by decide +kernel⟩
abbrev s__law_tokens : Stmt := topS 32
theorem sc__law_tokens : FnScope ["pool", "many", "signs", "most", "row", "k", "word", "turn"] ["pool", "many", "signs", "most"] (defScope s__law_tokens) := ⟨rfl, rfl, rfl, by decide +kernel, rfl, by decide +kernel, by decide +kernel⟩
abbrev s__law_rows : Stmt := topS 33
theorem sc__law_rows : FnScope ["m", "most", "rows", "last", "n", "longer", "row", "t"] ["m", "most"] (defScope s__law_rows) := ⟨rfl, rfl, rfl, by decide +kernel, rfl, by decide +kernel, by decide +kernel⟩
abbrev s__law_run : Stmt := topS 34
theorem sc__law_run : FnScope ["table", "row", "state", "t"] ["table", "row"] (defScope s__law_run) := ⟨rfl, rfl, rfl, by decide +kernel, rfl, by decide +kernel, by decide +kernel⟩
abbrev s__law_told : Stmt := topS 35
theorem sc__law_told : FnScope ["which", "tokens", "book", "thing", "e"] ["which", "tokens", "book", "thing"] (defScope s__law_told) := ⟨rfl, rfl, rfl, by decide +kernel, rfl, by decide +kernel, by decide +kernel⟩
abbrev s__law_drawn_book : Stmt := topS 36
theorem sc__law_drawn_book : FnScope ["pool", "m", "count", "s", "finals", "table", "t"] ["pool", "m"] (defScope s__law_drawn_book) := ⟨rfl, rfl, rfl, by decide +kernel, rfl, by decide +kernel, by decide +kernel⟩
abbrev s__law_books_right : Stmt := topS 37
theorem sc__law_books_right : FnScope ["pool", "tokens", "rows", "m", "free", "book", "row", "named", "state", "t"] ["pool", "tokens", "rows"] (defScope s__law_books_right) := ⟨rfl, rfl, rfl, by decide +kernel, rfl, by decide +kernel, by decide +kernel⟩
abbrev s__law_refused_rows : Stmt := topS 38
theorem sc__law_refused_rows : FnScope ["pool", "tokens", "row", "m", "book", "odd", "which", "thing"] ["pool", "tokens", "row"] (defScope s__law_refused_rows) := ⟨rfl, rfl, rfl, by decide +kernel, rfl, by decide +kernel, by decide +kernel⟩
abbrev s__law_refused_pairs : Stmt := topS 39
theorem sc__law_refused_pairs : FnScope ["pool", "tokens", "pairs", "m", "odd", "turn", "thing"] ["pool", "tokens", "pairs"] (defScope s__law_refused_pairs) := ⟨rfl, rfl, rfl, by decide +kernel, rfl, by decide +kernel, by decide +kernel⟩
abbrev s__law_drawn_pairs : Stmt := topS 40
theorem sc__law_drawn_pairs : FnScope ["pool", "m", "pairs", "k", "t", "u"] ["pool", "m"] (defScope s__law_drawn_pairs) := ⟨rfl, rfl, rfl, by decide +kernel, rfl, by decide +kernel, by decide +kernel⟩
abbrev s__law_barred : Stmt := topS 41
theorem sc__law_barred : FnScope ["m", "pairs", "barred", "t", "u", "row"] ["m", "pairs"] (defScope s__law_barred) := ⟨rfl, rfl, rfl, by decide +kernel, rfl, by decide +kernel, by decide +kernel⟩
abbrev s__law_many : Stmt := topS 42
theorem sc__law_many : FnScope ["m", "barred", "unlike", "row", "u"] ["m", "barred"] (defScope s__law_many) := ⟨rfl, rfl, rfl, by decide +kernel, rfl, by decide +kernel, by decide +kernel⟩
abbrev s__law_shape_right : Stmt := topS 43
theorem sc__law_shape_right : FnScope ["told", "m", "count", "row", "state"] ["told", "m", "count"] (defScope s__law_shape_right) := ⟨rfl, rfl, rfl, by decide +kernel, rfl, by decide +kernel, by decide +kernel⟩
abbrev s__law_first_met : Stmt := topS 44
theorem sc__law_first_met : FnScope ["table", "count", "known", "row", "state"] ["table", "count"] (defScope s__law_first_met) := ⟨rfl, rfl, rfl, by decide +kernel, rfl, by decide +kernel, by decide +kernel⟩
abbrev s__law_pairs_right : Stmt := topS 45
theorem sc__law_pairs_right : FnScope ["told", "m", "barred", "count", "table", "t", "home", "s", "u"] ["told", "m", "barred"] (defScope s__law_pairs_right) := ⟨rfl, rfl, rfl, by decide +kernel, rfl, by decide +kernel, by decide +kernel⟩
abbrev s__law_let : Stmt := topS 46
theorem sc__law_let : FnScope ["row", "barred", "k"] ["row", "barred"] (defScope s__law_let) := ⟨rfl, rfl, rfl, by decide +kernel, rfl, by decide +kernel, by decide +kernel⟩
abbrev s__law_great : Stmt := topS 47
theorem sc__law_great : FnScope ["pool", "letters", "less", "m", "tokens", "shift", "pairs", "told", "row", "k", "t"] ["pool"] (defScope s__law_great) := ⟨rfl, rfl, rfl, by decide +kernel, rfl, by decide +kernel, by decide +kernel⟩
abbrev s_law : Stmt := topS 48
theorem sc_law : FnScope ["script", "pool", "tokens", "m", "row", "rows", "pairs", "barred", "told", "some", "k"] ["script"] (defScope s_law) := ⟨rfl, rfl, rfl, by decide +kernel, rfl, by decide +kernel, by decide +kernel⟩
def kw_pairs_book {α : Type} : List α → List α | [a, b] => [b, a] | _ => []
theorem kwr_pairs_book {zs : List V} {ws : List Value} (r : Vals zs ws) : Vals (kw_pairs_book zs) (kw_pairs_book ws) := by
  rcases r with _ | ⟨h0, _ | ⟨h1, _ | ⟨hx, hy⟩⟩⟩
  all_goals first | exact .nil | exact .cons h1 (.cons h0 (.nil))
def kw_runs {α : Type} : List α → List α | [a, b, c] => [c, b, a] | _ => []
theorem kwr_runs {zs : List V} {ws : List Value} (r : Vals zs ws) : Vals (kw_runs zs) (kw_runs ws) := by
  rcases r with _ | ⟨h0, _ | ⟨h1, _ | ⟨h2, _ | ⟨hx, hy⟩⟩⟩⟩
  all_goals first | exact .nil | exact .cons h2 (.cons h1 (.cons h0 (.nil)))
def kw_takes {α : Type} : List α → List α | [a, b, c] => [c, b, a] | _ => []
theorem kwr_takes {zs : List V} {ws : List Value} (r : Vals zs ws) : Vals (kw_takes zs) (kw_takes ws) := by
  rcases r with _ | ⟨h0, _ | ⟨h1, _ | ⟨h2, _ | ⟨hx, hy⟩⟩⟩⟩
  all_goals first | exact .nil | exact .cons h2 (.cons h1 (.cons h0 (.nil)))
def kw_free_book {α : Type} : List α → List α | [a] => [a] | _ => []
theorem kwr_free_book {zs : List V} {ws : List Value} (r : Vals zs ws) : Vals (kw_free_book zs) (kw_free_book ws) := by
  rcases r with _ | ⟨h0, _ | ⟨hx, hy⟩⟩
  all_goals first | exact .nil | exact .cons h0 (.nil)
structure Tx (K : PySem.W.Frag) (mg : Str → Option Value) where
  f_is_int : Addr
  d_is_int : FuncData
  F_is_int : Fun K "is_int" "is_int" s_is_int f_is_int d_is_int
  g_is_int : mg "is_int" = some (.ref f_is_int)
  b_is_int : Binds K d_is_int ["thing"] []
  f_is_number : Addr
  d_is_number : FuncData
  F_is_number : Fun K "is_number" "is_number" s_is_number f_is_number d_is_number
  g_is_number : mg "is_number" = some (.ref f_is_number)
  b_is_number : Binds K d_is_number ["thing"] []
  f_is_below : Addr
  d_is_below : FuncData
  F_is_below : Fun K "is_below" "is_below" s_is_below f_is_below d_is_below
  g_is_below : mg "is_below" = some (.ref f_is_below)
  b_is_below : Binds K d_is_below ["thing", "bound"] []
  f_are_below : Addr
  d_are_below : FuncData
  F_are_below : Fun K "are_below" "are_below" s_are_below f_are_below d_are_below
  g_are_below : mg "are_below" = some (.ref f_are_below)
  b_are_below : Binds K d_are_below ["thing", "bound"] []
  f_ask_row : Addr
  d_ask_row : FuncData
  F_ask_row : Fun K "ask_row" "ask_row" s_ask_row f_ask_row d_ask_row
  g_ask_row : mg "ask_row" = some (.ref f_ask_row)
  b_ask_row : Binds K d_ask_row ["tokens", "row"] []
  f_least_book : Addr
  d_least_book : FuncData
  F_least_book : Fun K "least_book" "least_book" s_least_book f_least_book d_least_book
  g_least_book : mg "least_book" = some (.ref f_least_book)
  b_least_book : Binds K d_least_book ["table"] []
  f__classes_of : Addr
  d__classes_of : FuncData
  F__classes_of : Fun K "_classes_of" "_classes_of" s__classes_of f__classes_of d__classes_of
  g__classes_of : mg "_classes_of" = some (.ref f__classes_of)
  b__classes_of : Binds K d__classes_of ["table"] []
  f__parted : Addr
  d__parted : FuncData
  F__parted : Fun K "_parted" "_parted" s__parted f__parted d__parted
  g__parted : mg "_parted" = some (.ref f__parted)
  b__parted : Binds K d__parted ["table", "classes"] []
  f__first_met : Addr
  d__first_met : FuncData
  F__first_met : Fun K "_first_met" "_first_met" s__first_met f__first_met d__first_met
  g__first_met : mg "_first_met" = some (.ref f__first_met)
  b__first_met : Binds K d__first_met ["table", "classes"] []
  f_pairs_book : Addr
  d_pairs_book : FuncData
  F_pairs_book : Fun K "pairs_book" "pairs_book" s_pairs_book f_pairs_book d_pairs_book
  g_pairs_book : mg "pairs_book" = some (.ref f_pairs_book)
  b_pairs_book : Binds K d_pairs_book ["tokens", "pairs"] []
  f__are_pairs : Addr
  d__are_pairs : FuncData
  F__are_pairs : Fun K "_are_pairs" "_are_pairs" s__are_pairs f__are_pairs d__are_pairs
  g__are_pairs : mg "_are_pairs" = some (.ref f__are_pairs)
  b__are_pairs : Binds K d__are_pairs ["thing", "many"] []
  f_runs : Addr
  d_runs : FuncData
  F_runs : Fun K "runs" "runs" s_runs f_runs d_runs
  g_runs : mg "runs" = some (.ref f_runs)
  b_runs : Binds K d_runs ["tokens", "book", "row"] []
  f_state_after : Addr
  d_state_after : FuncData
  F_state_after : Fun K "state_after" "state_after" s_state_after f_state_after d_state_after
  g_state_after : mg "state_after" = some (.ref f_state_after)
  b_state_after : Binds K d_state_after ["book", "row"] []
  f_takes : Addr
  d_takes : FuncData
  F_takes : Fun K "takes" "takes" s_takes f_takes d_takes
  g_takes : mg "takes" = some (.ref f_takes)
  b_takes : Binds K d_takes ["tokens", "book", "row"] []
  f_free_book : Addr
  d_free_book : FuncData
  F_free_book : Fun K "free_book" "free_book" s_free_book f_free_book d_free_book
  g_free_book : mg "free_book" = some (.ref f_free_book)
  b_free_book : Binds K d_free_book ["tokens"] []
  f__law_pool : Addr
  d__law_pool : FuncData
  F__law_pool : Fun K "_law_pool" "_law_pool" s__law_pool f__law_pool d__law_pool
  g__law_pool : mg "_law_pool" = some (.ref f__law_pool)
  b__law_pool : Binds K d__law_pool ["script"] []
  f__law_pick : Addr
  d__law_pick : FuncData
  F__law_pick : Fun K "_law_pick" "_law_pick" s__law_pick f__law_pick d__law_pick
  g__law_pick : mg "_law_pick" = some (.ref f__law_pick)
  b__law_pick : Binds K d__law_pick ["pool", "many"] []
  f__law_same : Addr
  d__law_same : FuncData
  F__law_same : Fun K "_law_same" "_law_same" s__law_same f__law_same d__law_same
  g__law_same : mg "_law_same" = some (.ref f__law_same)
  b__law_same : Binds K d__law_same ["told", "due"] []
  f__law_word : Addr
  d__law_word : FuncData
  F__law_word : Fun K "_law_word" "_law_word" s__law_word f__law_word d__law_word
  g__law_word : mg "_law_word" = some (.ref f__law_word)
  b__law_word : Binds K d__law_word ["pool", "signs", "most"] []
  f__law_tokens : Addr
  d__law_tokens : FuncData
  F__law_tokens : Fun K "_law_tokens" "_law_tokens" s__law_tokens f__law_tokens d__law_tokens
  g__law_tokens : mg "_law_tokens" = some (.ref f__law_tokens)
  b__law_tokens : Binds K d__law_tokens ["pool", "many", "signs", "most"] []
  f__law_rows : Addr
  d__law_rows : FuncData
  F__law_rows : Fun K "_law_rows" "_law_rows" s__law_rows f__law_rows d__law_rows
  g__law_rows : mg "_law_rows" = some (.ref f__law_rows)
  b__law_rows : Binds K d__law_rows ["m", "most"] []
  f__law_run : Addr
  d__law_run : FuncData
  F__law_run : Fun K "_law_run" "_law_run" s__law_run f__law_run d__law_run
  g__law_run : mg "_law_run" = some (.ref f__law_run)
  b__law_run : Binds K d__law_run ["table", "row"] []
  f__law_told : Addr
  d__law_told : FuncData
  F__law_told : Fun K "_law_told" "_law_told" s__law_told f__law_told d__law_told
  g__law_told : mg "_law_told" = some (.ref f__law_told)
  b__law_told : Binds K d__law_told ["which", "tokens", "book", "thing"] []
  f__law_drawn_book : Addr
  d__law_drawn_book : FuncData
  F__law_drawn_book : Fun K "_law_drawn_book" "_law_drawn_book" s__law_drawn_book f__law_drawn_book d__law_drawn_book
  g__law_drawn_book : mg "_law_drawn_book" = some (.ref f__law_drawn_book)
  b__law_drawn_book : Binds K d__law_drawn_book ["pool", "m"] []
  f__law_books_right : Addr
  d__law_books_right : FuncData
  F__law_books_right : Fun K "_law_books_right" "_law_books_right" s__law_books_right f__law_books_right d__law_books_right
  g__law_books_right : mg "_law_books_right" = some (.ref f__law_books_right)
  b__law_books_right : Binds K d__law_books_right ["pool", "tokens", "rows"] []
  f__law_refused_rows : Addr
  d__law_refused_rows : FuncData
  F__law_refused_rows : Fun K "_law_refused_rows" "_law_refused_rows" s__law_refused_rows f__law_refused_rows d__law_refused_rows
  g__law_refused_rows : mg "_law_refused_rows" = some (.ref f__law_refused_rows)
  b__law_refused_rows : Binds K d__law_refused_rows ["pool", "tokens", "row"] []
  f__law_refused_pairs : Addr
  d__law_refused_pairs : FuncData
  F__law_refused_pairs : Fun K "_law_refused_pairs" "_law_refused_pairs" s__law_refused_pairs f__law_refused_pairs d__law_refused_pairs
  g__law_refused_pairs : mg "_law_refused_pairs" = some (.ref f__law_refused_pairs)
  b__law_refused_pairs : Binds K d__law_refused_pairs ["pool", "tokens", "pairs"] []
  f__law_drawn_pairs : Addr
  d__law_drawn_pairs : FuncData
  F__law_drawn_pairs : Fun K "_law_drawn_pairs" "_law_drawn_pairs" s__law_drawn_pairs f__law_drawn_pairs d__law_drawn_pairs
  g__law_drawn_pairs : mg "_law_drawn_pairs" = some (.ref f__law_drawn_pairs)
  b__law_drawn_pairs : Binds K d__law_drawn_pairs ["pool", "m"] []
  f__law_barred : Addr
  d__law_barred : FuncData
  F__law_barred : Fun K "_law_barred" "_law_barred" s__law_barred f__law_barred d__law_barred
  g__law_barred : mg "_law_barred" = some (.ref f__law_barred)
  b__law_barred : Binds K d__law_barred ["m", "pairs"] []
  f__law_many : Addr
  d__law_many : FuncData
  F__law_many : Fun K "_law_many" "_law_many" s__law_many f__law_many d__law_many
  g__law_many : mg "_law_many" = some (.ref f__law_many)
  b__law_many : Binds K d__law_many ["m", "barred"] []
  f__law_shape_right : Addr
  d__law_shape_right : FuncData
  F__law_shape_right : Fun K "_law_shape_right" "_law_shape_right" s__law_shape_right f__law_shape_right d__law_shape_right
  g__law_shape_right : mg "_law_shape_right" = some (.ref f__law_shape_right)
  b__law_shape_right : Binds K d__law_shape_right ["told", "m", "count"] []
  f__law_first_met : Addr
  d__law_first_met : FuncData
  F__law_first_met : Fun K "_law_first_met" "_law_first_met" s__law_first_met f__law_first_met d__law_first_met
  g__law_first_met : mg "_law_first_met" = some (.ref f__law_first_met)
  b__law_first_met : Binds K d__law_first_met ["table", "count"] []
  f__law_pairs_right : Addr
  d__law_pairs_right : FuncData
  F__law_pairs_right : Fun K "_law_pairs_right" "_law_pairs_right" s__law_pairs_right f__law_pairs_right d__law_pairs_right
  g__law_pairs_right : mg "_law_pairs_right" = some (.ref f__law_pairs_right)
  b__law_pairs_right : Binds K d__law_pairs_right ["told", "m", "barred"] []
  f__law_let : Addr
  d__law_let : FuncData
  F__law_let : Fun K "_law_let" "_law_let" s__law_let f__law_let d__law_let
  g__law_let : mg "_law_let" = some (.ref f__law_let)
  b__law_let : Binds K d__law_let ["row", "barred"] []
  f__law_great : Addr
  d__law_great : FuncData
  F__law_great : Fun K "_law_great" "_law_great" s__law_great f__law_great d__law_great
  g__law_great : mg "_law_great" = some (.ref f__law_great)
  b__law_great : Binds K d__law_great ["pool"] []
  f_law : Addr
  d_law : FuncData
  F_law : Fun K "law" "law" s_law f_law d_law
  g_law : mg "law" = some (.ref f_law)
  b_law : Binds K d_law ["script"] []
  k_pairs_book : KBn K d_pairs_book ["tokens", "pairs"] 0 ["pairs", "tokens"] (fun _ ws => kw_pairs_book ws) (fun _ zs => kw_pairs_book zs)
  k_runs : KBn K d_runs ["tokens", "book", "row"] 0 ["row", "book", "tokens"] (fun _ ws => kw_runs ws) (fun _ zs => kw_runs zs)
  k_takes : KBn K d_takes ["tokens", "book", "row"] 0 ["row", "book", "tokens"] (fun _ ws => kw_takes ws) (fun _ zs => kw_takes zs)
  k_free_book : KBn K d_free_book ["tokens"] 0 ["tokens"] (fun _ ws => kw_free_book ws) (fun _ zs => kw_free_book zs)
  c_ROW_LIMIT : ∃ t, mg "ROW_LIMIT" = some (.int (60) t)
  c_BOOK_LIMIT : ∃ t, mg "BOOK_LIMIT" = some (.int (60) t)
  n_all : mg "all" = none
  n_bool : mg "bool" = none
  n_enumerate : mg "enumerate" = none
  n_int : mg "int" = none
  n_isinstance : mg "isinstance" = none
  n_len : mg "len" = none
  n_list : mg "list" = none
  n_max : mg "max" = none
  n_min : mg "min" = none
  n_range : mg "range" = none
  n_str : mg "str" = none
  n_tuple : mg "tuple" = none
  n_zip : mg "zip" = none
  C_NotUsable : Addr
  I_NotUsable : Addr
  nus : PySem.NUsX.NUsTxt K mg C_NotUsable I_NotUsable
  C_TooMuch : Addr
  I_TooMuch : Addr
  tmu : PySem.TMuX.TMuTxt K mg C_TooMuch I_TooMuch
  xTN : PySem.W.exmOne K (.ref C_TooMuch) (.ref C_NotUsable) = some false
end K2
set_option Elab.async false
set_option linter.all false
set_option maxRecDepth 100000
set_option maxHeartbeats 2000000
namespace K2
open PySem PySem.Spec PyProof.Rows L2 Ver
section
variable {P : Program} {w : World} {K : PySem.W.Frag} {mg : Str → Option Value} {base : Heap}
def isIntD : PyData → Bool | .int _ => true | _ => false
def numD : PyData → Bool | .int i => decide (0 ≤ i) | _ => false
def belowD (b : Int) : PyData → Bool | .int i => decide (0 ≤ i) && decide (i < b) | _ => false
def allBelow (b : Int) : PyData → Bool | .tuple ds => ds.all (belowD b) | _ => false
def rowD (n : Nat) : PyData → Bool | .tuple ds => ds.all (belowD n) && decide (ds.length ≤ 60) | _ => false
def lenD : PyData → Nat | .tuple ds => ds.length | .list ds => ds.length | _ => 0
def shortD : PyData → Bool | .int i => decide (0 ≤ i) && decide (i ≤ 60) | _ => false
def Refuses (C : Addr) (E : XK) (H : Hp) (z : Str) : Prop := ∀ H' dd, Same H H' → H' dd = none → E (.ref C) (some dd) (upd H' dd (.xd [("word", .str z)]))

def sp_is_int (K : PySem.W.Frag) : Sp := fun vs H Q _ => ∃ x d, vs = [x] ∧ Dp K H x d ∧ Q (.bl (isIntD d)) H
theorem ok_is_int (T : Tx K mg) : FnOk P w K mg base CX0 1 T.f_is_int T.d_is_int ["thing"] (sp_is_int K) := by
  refine T.F_is_int.ok sc_is_int (fun vs H Q E h => ?_) (fun cdv A outer s H vs Q E hr h => ?_)
  · obtain ⟨x, d, rfl, _⟩ := h; rfl
  · obtain ⟨x, d, rfl, hd, q⟩ := h
    refine ⟨_, (pss_one (ps_ret (pe_and (pe_callB (cr_isiD (n := "int") (by decide)) (by rfl) T.n_isinstance (by decide +kernel) (pa_cons (pv 0) (pa_cons (pe_bltn (v := .ty "int") (by rfl) T.n_int (by decide +kernel) rfl) pa_nil))) (pe_one (pe_not (pe_callB (cr_isiD (n := "bool") (by decide)) (by rfl) T.n_isinstance (by decide +kernel) (pa_cons (pv 0) (pa_cons (pe_bltn (v := .ty "bool") (by rfl) T.n_bool (by decide +kernel) rfl) pa_nil)))))))), ?_⟩
    refine ⟨x, rfl, x, d, rfl, hd, _, rfl, ?_⟩
    rw [isa_int]
    cases d
    case int i => exact ⟨x, rfl, x, .int i, rfl, hd, _, rfl, q⟩
    case bool b => exact ⟨x, rfl, x, .bool b, rfl, hd, _, rfl, q⟩
    all_goals exact q

def sp_is_number (K : PySem.W.Frag) : Sp := fun vs H Q _ => ∃ x d, vs = [x] ∧ Dp K H x d ∧ Q (.bl (numD d)) H
theorem ok_is_number (T : Tx K mg) : FnOk P w K mg base CX0 2 T.f_is_number T.d_is_number ["thing"] (sp_is_number K) := by
  refine T.F_is_number.ok sc_is_number (fun vs H Q E h => ?_) (fun cdv A outer s H vs Q E hr h => ?_)
  · obtain ⟨x, d, rfl, _⟩ := h; rfl
  · obtain ⟨x, d, rfl, hd, q⟩ := h
    refine ⟨_, (pss_one (ps_ret (pe_and (pe_call (ok_is_int T) hr rfl T.g_is_int T.F_is_int.kp T.b_is_int .nil pass0 (pa_cons (pv 0) pa_nil)) (pe_one (pe_cmpR op_ge (pv 0) pe_int (nomark _)))))), ?_⟩
    refine ⟨x, rfl, x, d, rfl, hd, _, rfl, ?_⟩
    cases d
    case int i =>
      cases hd
      exact ⟨.int i, rfl, i, 0, rfl, rfl, q⟩
    all_goals exact q

def sp_is_below (K : PySem.W.Frag) : Sp := fun vs H Q _ => ∃ x d b, vs = [x, .int b] ∧ Dp K H x d ∧ Q (.bl (belowD b d)) H
theorem ok_is_below (T : Tx K mg) : FnOk P w K mg base CX0 3 T.f_is_below T.d_is_below ["thing", "bound"] (sp_is_below K) := by
  refine T.F_is_below.ok sc_is_below (fun vs H Q E h => ?_) (fun cdv A outer s H vs Q E hr h => ?_)
  · obtain ⟨x, d, b, rfl, _⟩ := h; rfl
  · obtain ⟨x, d, b, rfl, hd, q⟩ := h
    refine ⟨_, (pss_one (ps_ret (pe_and (pe_call (ok_is_number T) hr rfl T.g_is_number T.F_is_number.kp T.b_is_number .nil pass0 (pa_cons (pv 0) pa_nil)) (pe_one (pe_cmpR op_lt (pv 0) (pv 1) (nomark _)))))), ?_⟩
    refine ⟨x, rfl, x, d, rfl, hd, _, rfl, ?_⟩
    cases d
    case int i =>
      cases hd
      show if decide (0 ≤ i) = true then _ else _
      refine ite2 (fun e => ⟨.int i, rfl, .int b, rfl, i, b, rfl, rfl, ?_⟩) (fun e => ?_)
      · have q' : Q (.bl (decide (0 ≤ i) && decide (i < b))) H := q
        rw [e, Bool.true_and] at q'
        exact q'
      · have q' : Q (.bl (decide (0 ≤ i) && decide (i < b))) H := q
        rw [Bool.eq_false_iff.mpr e, Bool.false_and] at q'
        exact q'
    all_goals exact q

def sp_are_below (K : PySem.W.Frag) : Sp := fun vs H Q _ => ∃ x d b, vs = [x, .int b] ∧ Dp K H x d ∧ lenD d ≤ 1000 ∧ ∀ H', Same H H' → Q (.bl (allBelow b d)) H'
theorem ok_are_below (T : Tx K mg) : FnOk P w K mg base CX0 4 T.f_are_below T.d_are_below ["thing", "bound"] (sp_are_below K) := by
  refine T.F_are_below.ok sc_are_below (fun vs H Q E h => ?_) (fun cdv A outer s H vs Q E hr h => ?_)
  · obtain ⟨x, d, b, rfl, _⟩ := h; rfl
  · obtain ⟨x, d, b, rfl, hd, hz, q⟩ := h
    refine ⟨_, (pss_one (ps_ret (pe_and (pe_callB (cr_isiD (n := "tuple") (by decide)) (by rfl) T.n_isinstance (by decide +kernel) (pa_cons (pv 0) (pa_cons (pe_bltn (v := .ty "tuple") (by rfl) T.n_tuple (by decide +kernel) rfl) pa_nil))) (pe_one (pe_callB (cr_all rfl) (by rfl) T.n_all (by decide +kernel) (pa_cons (pe_lc (own := [("part", 2)]) (g := gName 2) (tt := tYes) (by rfl) sc_are_below.nd (pi_tup (pv 0)) (blkOk_by (N := ["thing", "bound", "part"]) (sc := defScope s_are_below) (by decide +kernel)) (fun _ _ _ _ _ => (pg_name (i := 2) sc_are_below.nd rfl (Or.inl rfl))) (fun _ _ _ _ _ => pts_nil) (fun _ _ _ _ _ => (pe_call (ok_is_below T) hr rfl T.g_is_below T.F_is_below.kp T.b_is_below .nil pass0 (pa_cons (pv 2) (pa_cons (pv 1) pa_nil))))) pa_nil)))))), ?_⟩
    refine ⟨x, rfl, x, d, rfl, hd, _, rfl, ?_⟩
    rw [isa_tuple]
    cases d
    case tuple ds =>
      obtain ⟨a, xs, rfl, hs, ha⟩ : ∃ a xs, x = .ref a ∧ SqT K H a xs ∧ DpAll K H xs ds := by
        cases hd with
        | tup hs ha => exact ⟨_, _, rfl, hs, ha⟩
      refine ⟨.ref a, rfl, a, rfl, ⟨_, hs⟩, fun D nD => ?_⟩
      have sm : Same H (upd H D (.lst [])) := same_new nD
      refine comp_tup (K := K) (a := a) (xs := xs) (i := 2) (fun acc H' => Same H H' ∧ acc = ((ds.take acc.length).map fun d => V.bl (belowD b d))) ⟨sm, rfl⟩ (fun acc H' h => seqT_grow h.1 hs) (fun acc y H' e h hD => ?_) (fun acc H' e h hD => ?_)
      · obtain ⟨d', e', hd'⟩ := dpAll_get ha e
        refine ⟨y, rfl, .int b, rfl, y, d', b, rfl, dp_grow h.1 hd', ?_⟩
        have lt : acc.length < xs.length := (List.getElem?_eq_some_iff.mp e).1
        refine turned hD (small (by have h1 := dpAll_len ha; have h2 : ds.length ≤ 1000 := hz; omega)) ⟨fun c o ec => ?_, ?_⟩
        · rw [upd_ne (ne_of_none ec nD)]
          exact h.1 c o ec
        · rw [List.length_append, List.length_singleton, List.take_add_one, e', List.map_append, ← h.2]
          rfl
      · refine ⟨D, (ds.map (belowD b)), rfl, .inl (.inl ?_), ?_⟩
        · rw [hD, h.2, e, dpAll_len ha, List.take_length, List.map_map]
          rfl
        · have e2 : (ds.map (belowD b)).all id = ds.all (belowD b) := by rw [List.all_map]; rfl
          rw [e2]
          exact q H' h.1
    all_goals exact q H (Same.refl H)

def sp_ask_row (K : PySem.W.Frag) (C : Addr) : Sp := fun vs H Q E => ∃ t ts x d, vs = [.ref t, x] ∧ SqT K H t ts ∧ Dp K H x d ∧ lenD d ≤ 1000 ∧ (rowD ts.length d = true → ∀ H', Same H H' → Q .non H') ∧ (rowD ts.length d = false → Refuses C E H "row")
theorem ok_ask_row (T : Tx K mg) : FnOk P w K mg base (L2.CX P w) 5 T.f_ask_row T.d_ask_row ["tokens", "row"] (sp_ask_row K T.C_NotUsable) := by
  refine T.F_ask_row.okX sc_ask_row (fun vs H Q E h => ?_) (fun cdv A outer s H vs Q E hr h => ?_)
  · obtain ⟨t, ts, x, d, rfl, _⟩ := h; rfl
  · obtain ⟨t, ts, x, d, rfl, hT, hd, hz, q1, q2⟩ := h
    refine ⟨_, (pss_one (ps_if (PW.pt (pw_or (pt_not (pt_val (pe_call (ok_are_below T) hr rfl T.g_are_below T.F_are_below.kp T.b_are_below .nil pass0 (pa_cons (pv 1) (pa_cons (pe_callB call_len_seq (by rfl) T.n_len (by decide +kernel) (pa_cons (pv 0) pa_nil)) pa_nil))))) (pw_or1 (pt_cmpR op_gt (pe_callB call_len_seq (by rfl) T.n_len (by decide +kernel) (pa_cons (pv 1) pa_nil)) (pe_glob (v := .int (60)) rfl T.c_ROW_LIMIT.choose_spec ⟨_, rfl⟩) (nomark _))))) (pss_one (ps_raiseNus rfl T.nus hr (takes_of rfl rfl rfl rfl) (pa_cons pe_str pa_nil))) pss_nil)), ?_⟩
    refine ⟨x, rfl, .ref t, rfl, t, ts, rfl, .inr hT, x, d, _, rfl, hd, hz, fun H' sm => ?_⟩
    refine ⟨_, rfl, ?_⟩
    have no : rowD ts.length d = false → ∀ H2, Same H H2 → ∀ dd, H2 dd = none → E (.ref T.C_NotUsable) (some dd) (upd H2 dd (.xd [("word", .str "row")])) := fun e H2 s2 dd n => q2 e H2 dd s2 n
    cases d
    case tuple ds =>
      obtain ⟨a, xs, rfl, hs, ha⟩ : ∃ a xs, x = .ref a ∧ SqT K H a xs ∧ DpAll K H xs ds := by
        cases hd with
        | tup hs ha => exact ⟨_, _, rfl, hs, ha⟩
      have el := dpAll_len ha
      show if (!(ds.all (belowD ts.length))) = true then _ else _
      cases e : ds.all (belowD ts.length) with
      | false =>
        have er : rowD ts.length (.tuple ds) = false := by show (ds.all (belowD ts.length) && _) = false; rw [e]; rfl
        exact ⟨_, rfl, fun dd n => no er H' sm dd n⟩
      | true =>
        refine ⟨.ref a, rfl, a, xs, rfl, .inr (seqT_grow sm hs), xs.length, 60, rfl, rfl, _, rfl, ?_⟩
        by_cases h60 : xs.length ≤ 60
        · have er : rowD ts.length (.tuple ds) = true := by show (ds.all (belowD ts.length) && decide (ds.length ≤ 60)) = true; rw [e, ← el, decide_eq_true h60]; rfl
          rw [decide_eq_false (by omega)]
          exact q1 er H' sm
        · have er : rowD ts.length (.tuple ds) = false := by show (ds.all (belowD ts.length) && decide (ds.length ≤ 60)) = false; rw [e, ← el, decide_eq_false h60]; rfl
          rw [decide_eq_true (by omega)]
          exact ⟨_, rfl, fun dd n => no er H' sm dd n⟩
    all_goals exact ⟨_, rfl, fun dd n => no rfl H' sm dd n⟩
end
end K2
set_option Elab.async false
set_option linter.all false
set_option maxRecDepth 100000
set_option maxHeartbeats 2000000
namespace K2
open PySem PySem.Spec PyProof.Rows L2 Ver
def okD : Nat → PyData → Prop
  | n + 1, .tuple ds => ds.length ≤ 100000 ∧ ∀ e ∈ ds, okD n e
  | n + 1, .list ds => ds.length ≤ 100000 ∧ ∀ e ∈ ds, okD n e
  | _, .none => True
  | _, .bool _ => True
  | _, .int _ => True
  | _, .str _ => True
  | _, _ => False
section
variable {P : Program} {w : World} {K : PySem.W.Frag} {mg : Str → Option Value} {base : Heap}
def sp__law_same (n : Nat) (K : PySem.W.Frag) : Sp := fun vs H Q _ => ∃ x y d, vs = [x, y] ∧ Dp K H x d ∧ Dp K H y d ∧ okD n d ∧ ∀ H', Same H H' → Q (.bl true) H'
theorem ok__law_same (T : Tx K mg) : ∀ n, FnOk P w K mg base CX0 (n + 1) T.f__law_same T.d__law_same ["told", "due"] (sp__law_same n K)
  | 0 => by
    refine T.F__law_same.ok sc__law_same (fun vs H Q E h => ?_) (fun cdv A outer s H vs Q E hr h => ?_)
    · obtain ⟨x, y, d, rfl, _⟩ := h; rfl
    obtain ⟨x, y, d, rfl, hx, hy, ho, q⟩ := h
    refine ⟨_, (pss_cons (ps_if (pt_cmpR op_isN (pv 1) pe_non (nomark _)) (pss_one (ps_ret (pe_cmpR op_isN (pv 0) pe_non (nomark _)))) pss_nil)
    (pss_cons (ps_if (pt_val (pe_callB (cr_isiD (n := "bool") (by decide)) (by rfl) T.n_isinstance (by decide +kernel) (pa_cons (pv 1) (pa_cons (pe_bltn (v := .ty "bool") (by rfl) T.n_bool (by decide +kernel) rfl) pa_nil)))) (pss_one (ps_ret (pe_and (pe_callB (cr_isiD (n := "bool") (by decide)) (by rfl) T.n_isinstance (by decide +kernel) (pa_cons (pv 0) (pa_cons (pe_bltn (v := .ty "bool") (by rfl) T.n_bool (by decide +kernel) rfl) pa_nil))) (pe_one (pe_cmpR op_eq (pv 0) (pv 1) (nomark _)))))) pss_nil)
    (pss_cons (ps_if (pt_val (pe_callB (cr_isiD (n := "int") (by decide)) (by rfl) T.n_isinstance (by decide +kernel) (pa_cons (pv 1) (pa_cons (pe_bltn (v := .ty "int") (by rfl) T.n_int (by decide +kernel) rfl) pa_nil)))) (pss_one (ps_ret (pe_and (pe_callB (cr_isiD (n := "int") (by decide)) (by rfl) T.n_isinstance (by decide +kernel) (pa_cons (pv 0) (pa_cons (pe_bltn (v := .ty "int") (by rfl) T.n_int (by decide +kernel) rfl) pa_nil))) (pe_and (pe_not (pe_callB (cr_isiD (n := "bool") (by decide)) (by rfl) T.n_isinstance (by decide +kernel) (pa_cons (pv 0) (pa_cons (pe_bltn (v := .ty "bool") (by rfl) T.n_bool (by decide +kernel) rfl) pa_nil)))) (pe_one (pe_cmpR op_eq (pv 0) (pv 1) (nomark _))))))) pss_nil)
    (pss_cons (ps_if (pt_val (pe_callB (cr_isiD (n := "str") (by decide)) (by rfl) T.n_isinstance (by decide +kernel) (pa_cons (pv 1) (pa_cons (pe_bltn (v := .ty "str") (by rfl) T.n_str (by decide +kernel) rfl) pa_nil)))) (pss_one (ps_ret (pe_and (pe_callB (cr_isiD (n := "str") (by decide)) (by rfl) T.n_isinstance (by decide +kernel) (pa_cons (pv 0) (pa_cons (pe_bltn (v := .ty "str") (by rfl) T.n_str (by decide +kernel) rfl) pa_nil))) (pe_one (pe_cmpR op_eq (pv 0) (pv 1) (nomark _)))))) pss_nil)
    (pss_cons (ps_if (pt_val (pe_callB (cr_isiD (n := "tuple") (by decide)) (by rfl) T.n_isinstance (by decide +kernel) (pa_cons (pv 1) (pa_cons (pe_bltn (v := .ty "tuple") (by rfl) T.n_tuple (by decide +kernel) rfl) pa_nil)))) (pss_one (ps_if (PW.pt (pw_or (pt_not (pt_val (pe_callB (cr_isiD (n := "tuple") (by decide)) (by rfl) T.n_isinstance (by decide +kernel) (pa_cons (pv 0) (pa_cons (pe_bltn (v := .ty "tuple") (by rfl) T.n_tuple (by decide +kernel) rfl) pa_nil))))) (pw_or1 (pt_cmpR op_ne (pe_callB call_len_seq (by rfl) T.n_len (by decide +kernel) (pa_cons (pv 0) pa_nil)) (pe_callB call_len_seq (by rfl) T.n_len (by decide +kernel) (pa_cons (pv 1) pa_nil)) (nomark _))))) (pss_one (ps_ret pe_bl)) pss_nil)) (pss_one (ps_if (PW.pt (pw_or (pt_not (pt_val (pe_callB (cr_isiD (n := "list") (by decide)) (by rfl) T.n_isinstance (by decide +kernel) (pa_cons (pv 0) (pa_cons (pe_bltn (v := .ty "list") (by rfl) T.n_list (by decide +kernel) rfl) pa_nil))))) (pw_or1 (pt_cmpR op_ne (pe_callB call_len_seq (by rfl) T.n_len (by decide +kernel) (pa_cons (pv 0) pa_nil)) (pe_callB call_len_seq (by rfl) T.n_len (by decide +kernel) (pa_cons (pv 1) pa_nil)) (nomark _))))) (pss_one (ps_ret pe_bl)) pss_nil)))
    (pss_cons ps_never
    (pss_one (ps_ret pe_bl)))))))), ?_⟩
    have q := q H (Same.refl H)
    refine ⟨y, rfl, rfl, _, rfl, ?_⟩
    cases d
    case none =>
      cases hx
      cases hy
      exact ⟨.non, rfl, rfl, q⟩
    case bool b =>
      cases hx
      cases hy
      refine ⟨.bl b, rfl, .bl b, .bool b, rfl, .bl b, _, rfl, ?_⟩
      refine ⟨.bl b, rfl, .bl b, .bool b, rfl, .bl b, _, rfl, ?_⟩
      refine ⟨.bl b, rfl, .bl b, rfl, rfl, ?_⟩
      rw [decide_eq_true rfl]
      exact q
    case int i =>
      cases hx
      cases hy
      refine ⟨.int i, rfl, .int i, .int i, rfl, .int i, _, rfl, ?_⟩
      refine ⟨.int i, rfl, .int i, .int i, rfl, .int i, _, rfl, ?_⟩
      refine ⟨.int i, rfl, .int i, .int i, rfl, .int i, _, rfl, ?_⟩
      refine ⟨.int i, rfl, .int i, .int i, rfl, .int i, _, rfl, _, rfl, ?_⟩
      refine ⟨.int i, rfl, .int i, rfl, rfl, ?_⟩
      rw [decide_eq_true rfl]
      exact q
    case str z =>
      cases hx
      cases hy
      refine ⟨.str z, rfl, .str z, .str z, rfl, .str z, _, rfl, ?_⟩
      refine ⟨.str z, rfl, .str z, .str z, rfl, .str z, _, rfl, ?_⟩
      refine ⟨.str z, rfl, .str z, .str z, rfl, .str z, _, rfl, ?_⟩
      refine ⟨.str z, rfl, .str z, .str z, rfl, .str z, _, rfl, ?_⟩
      refine ⟨.str z, rfl, .str z, rfl, rfl, ?_⟩
      rw [decide_eq_true rfl]
      exact q
    all_goals exact ho.elim
  | n + 1 => by
    have IH := ok__law_same T n
    refine T.F__law_same.ok sc__law_same (fun vs H Q E h => ?_) (fun cdv A outer s H vs Q E hr h => ?_)
    · obtain ⟨x, y, d, rfl, _⟩ := h; rfl
    obtain ⟨x, y, d, rfl, hx, hy, ho, q⟩ := h
    refine ⟨_, (pss_cons (ps_if (pt_cmpR op_isN (pv 1) pe_non (nomark _)) (pss_one (ps_ret (pe_cmpR op_isN (pv 0) pe_non (nomark _)))) pss_nil)
    (pss_cons (ps_if (pt_val (pe_callB (cr_isiD (n := "bool") (by decide)) (by rfl) T.n_isinstance (by decide +kernel) (pa_cons (pv 1) (pa_cons (pe_bltn (v := .ty "bool") (by rfl) T.n_bool (by decide +kernel) rfl) pa_nil)))) (pss_one (ps_ret (pe_and (pe_callB (cr_isiD (n := "bool") (by decide)) (by rfl) T.n_isinstance (by decide +kernel) (pa_cons (pv 0) (pa_cons (pe_bltn (v := .ty "bool") (by rfl) T.n_bool (by decide +kernel) rfl) pa_nil))) (pe_one (pe_cmpR op_eq (pv 0) (pv 1) (nomark _)))))) pss_nil)
    (pss_cons (ps_if (pt_val (pe_callB (cr_isiD (n := "int") (by decide)) (by rfl) T.n_isinstance (by decide +kernel) (pa_cons (pv 1) (pa_cons (pe_bltn (v := .ty "int") (by rfl) T.n_int (by decide +kernel) rfl) pa_nil)))) (pss_one (ps_ret (pe_and (pe_callB (cr_isiD (n := "int") (by decide)) (by rfl) T.n_isinstance (by decide +kernel) (pa_cons (pv 0) (pa_cons (pe_bltn (v := .ty "int") (by rfl) T.n_int (by decide +kernel) rfl) pa_nil))) (pe_and (pe_not (pe_callB (cr_isiD (n := "bool") (by decide)) (by rfl) T.n_isinstance (by decide +kernel) (pa_cons (pv 0) (pa_cons (pe_bltn (v := .ty "bool") (by rfl) T.n_bool (by decide +kernel) rfl) pa_nil)))) (pe_one (pe_cmpR op_eq (pv 0) (pv 1) (nomark _))))))) pss_nil)
    (pss_cons (ps_if (pt_val (pe_callB (cr_isiD (n := "str") (by decide)) (by rfl) T.n_isinstance (by decide +kernel) (pa_cons (pv 1) (pa_cons (pe_bltn (v := .ty "str") (by rfl) T.n_str (by decide +kernel) rfl) pa_nil)))) (pss_one (ps_ret (pe_and (pe_callB (cr_isiD (n := "str") (by decide)) (by rfl) T.n_isinstance (by decide +kernel) (pa_cons (pv 0) (pa_cons (pe_bltn (v := .ty "str") (by rfl) T.n_str (by decide +kernel) rfl) pa_nil))) (pe_one (pe_cmpR op_eq (pv 0) (pv 1) (nomark _)))))) pss_nil)
    (pss_cons (ps_if (pt_val (pe_callB (cr_isiD (n := "tuple") (by decide)) (by rfl) T.n_isinstance (by decide +kernel) (pa_cons (pv 1) (pa_cons (pe_bltn (v := .ty "tuple") (by rfl) T.n_tuple (by decide +kernel) rfl) pa_nil)))) (pss_one (ps_if (PW.pt (pw_or (pt_not (pt_val (pe_callB (cr_isiD (n := "tuple") (by decide)) (by rfl) T.n_isinstance (by decide +kernel) (pa_cons (pv 0) (pa_cons (pe_bltn (v := .ty "tuple") (by rfl) T.n_tuple (by decide +kernel) rfl) pa_nil))))) (pw_or1 (pt_cmpR op_ne (pe_callB call_len_seq (by rfl) T.n_len (by decide +kernel) (pa_cons (pv 0) pa_nil)) (pe_callB call_len_seq (by rfl) T.n_len (by decide +kernel) (pa_cons (pv 1) pa_nil)) (nomark _))))) (pss_one (ps_ret pe_bl)) pss_nil)) (pss_one (ps_if (PW.pt (pw_or (pt_not (pt_val (pe_callB (cr_isiD (n := "list") (by decide)) (by rfl) T.n_isinstance (by decide +kernel) (pa_cons (pv 0) (pa_cons (pe_bltn (v := .ty "list") (by rfl) T.n_list (by decide +kernel) rfl) pa_nil))))) (pw_or1 (pt_cmpR op_ne (pe_callB call_len_seq (by rfl) T.n_len (by decide +kernel) (pa_cons (pv 0) pa_nil)) (pe_callB call_len_seq (by rfl) T.n_len (by decide +kernel) (pa_cons (pv 1) pa_nil)) (nomark _))))) (pss_one (ps_ret pe_bl)) pss_nil)))
    (pss_cons (ps_for PassesOwn.never rfl (RZ.pi_zipA (by rfl) T.n_zip (pa_cons (pv 0) (pa_cons (pv 1) pa_nil))) (pg_tup (by rfl) (pgs_cons (pg_name (i := 2) sc__law_same.nd rfl (Or.inl rfl)) (pgs_cons (pg_name (i := 3) sc__law_same.nd rfl (Or.inl rfl)) pgs_nil)))
    (pss_one (ps_if (pt_not (pt_val (pe_call IH hr rfl T.g__law_same T.F__law_same.kp T.b__law_same .nil pass0 (pa_cons (pv 2) (pa_cons (pv 3) pa_nil))))) (pss_one (ps_ret pe_bl)) pss_nil)))
    (pss_one (ps_ret pe_bl)))))))), ?_⟩
    have q0 := q H (Same.refl H)
    refine ⟨y, rfl, rfl, _, rfl, ?_⟩
    cases d
    case none =>
      cases hx
      cases hy
      exact ⟨.non, rfl, rfl, q0⟩
    case bool b =>
      cases hx
      cases hy
      refine ⟨.bl b, rfl, .bl b, .bool b, rfl, .bl b, _, rfl, ?_⟩
      refine ⟨.bl b, rfl, .bl b, .bool b, rfl, .bl b, _, rfl, ?_⟩
      refine ⟨.bl b, rfl, .bl b, rfl, rfl, ?_⟩
      rw [decide_eq_true rfl]
      exact q0
    case int i =>
      cases hx
      cases hy
      refine ⟨.int i, rfl, .int i, .int i, rfl, .int i, _, rfl, ?_⟩
      refine ⟨.int i, rfl, .int i, .int i, rfl, .int i, _, rfl, ?_⟩
      refine ⟨.int i, rfl, .int i, .int i, rfl, .int i, _, rfl, ?_⟩
      refine ⟨.int i, rfl, .int i, .int i, rfl, .int i, _, rfl, _, rfl, ?_⟩
      refine ⟨.int i, rfl, .int i, rfl, rfl, ?_⟩
      rw [decide_eq_true rfl]
      exact q0
    case str z =>
      cases hx
      cases hy
      refine ⟨.str z, rfl, .str z, .str z, rfl, .str z, _, rfl, ?_⟩
      refine ⟨.str z, rfl, .str z, .str z, rfl, .str z, _, rfl, ?_⟩
      refine ⟨.str z, rfl, .str z, .str z, rfl, .str z, _, rfl, ?_⟩
      refine ⟨.str z, rfl, .str z, .str z, rfl, .str z, _, rfl, ?_⟩
      refine ⟨.str z, rfl, .str z, rfl, rfl, ?_⟩
      rw [decide_eq_true rfl]
      exact q0
    case tuple ds =>
      obtain ⟨a, xs, rfl, hs, ha⟩ : ∃ a xs, x = .ref a ∧ SqT K H a xs ∧ DpAll K H xs ds := by
        cases hx with
        | tup hs ha => exact ⟨_, _, rfl, hs, ha⟩
      obtain ⟨b, ys, rfl, hs2, ha2⟩ : ∃ b ys, y = .ref b ∧ SqT K H b ys ∧ DpAll K H ys ds := by
        cases hy with
        | tup hs ha => exact ⟨_, _, rfl, hs, ha⟩
      obtain ⟨hl, hds⟩ := ho
      have el : xs.length = ys.length := (dpAll_len ha).trans (dpAll_len ha2).symm
      have hx' : Dp K H (.ref a) (.tuple ds) := .tup hs ha
      have hy' : Dp K H (.ref b) (.tuple ds) := .tup hs2 ha2
      refine ⟨.ref b, rfl, .ref b, _, rfl, hy', _, rfl, ?_⟩
      refine ⟨.ref b, rfl, .ref b, _, rfl, hy', _, rfl, ?_⟩
      refine ⟨.ref b, rfl, .ref b, _, rfl, hy', _, rfl, ?_⟩
      refine ⟨.ref b, rfl, .ref b, _, rfl, hy', _, rfl, ?_⟩
      refine ⟨.ref a, rfl, .ref a, _, rfl, hx', _, rfl, ?_⟩
      refine ⟨.ref a, rfl, a, xs, rfl, .inr hs, .ref b, rfl, b, ys, rfl, .inr hs2, rfl, _, rfl, ?_⟩
      rw [decide_eq_true (show V.int (xs.length : Int) = V.int (ys.length : Int) by rw [el])]
      refine ⟨.ref a, rfl, .ref b, rfl, a, b, xs, ys, rfl, .inr ⟨hs, hs2, ?_⟩⟩
      refine RZ.for_zipT (K := K) (a := a) (b := b) (xs := xs) (ys := ys) el (fun i σ H' => Same H H' ∧ ∃ y2 y3, σ = [some (.ref a), some (.ref b), y2, y3]) ⟨Same.refl H, none, none, rfl⟩ (fun i σ H' h => ⟨seqT_grow h.1 hs, seqT_grow h.1 hs2⟩)
        (fun i u v Tp σ H' eu ev h nT => ?_) (fun σ H' h => q H' h.1)
      obtain ⟨sm, y2, y3, rfl⟩ := h
      refine ⟨Tp, [u, v], rfl, .inl (.inl upd_same), rfl, u, [v], rfl, v, [], rfl, rfl, ?_⟩
      have sT := same_new (o := .tup [u, v]) nT
      obtain ⟨e, ee, hu⟩ := dpAll_get ha eu
      obtain ⟨e', ee', hv⟩ := dpAll_get ha2 ev
      have eq : e = e' := Option.some.inj (ee.symm.trans ee')
      subst eq
      refine ⟨u, rfl, v, rfl, u, v, e, rfl, dp_grow (sm.trans sT) hu, dp_grow (sm.trans sT) hv, hds e (List.mem_of_getElem? ee), fun H2 s2 => ?_⟩
      exact ⟨_, rfl, (sm.trans sT).trans s2, some u, some v, rfl⟩
    case list ds =>
      obtain ⟨a, xs, rfl, hs, ha⟩ : ∃ a xs, x = .ref a ∧ SqL K H a xs ∧ DpAll K H xs ds := by
        cases hx with
        | lst hs ha => exact ⟨_, _, rfl, hs, ha⟩
      obtain ⟨b, ys, rfl, hs2, ha2⟩ : ∃ b ys, y = .ref b ∧ SqL K H b ys ∧ DpAll K H ys ds := by
        cases hy with
        | lst hs ha => exact ⟨_, _, rfl, hs, ha⟩
      obtain ⟨hl, hds⟩ := ho
      have el : xs.length = ys.length := (dpAll_len ha).trans (dpAll_len ha2).symm
      have hx' : Dp K H (.ref a) (.list ds) := .lst hs ha
      have hy' : Dp K H (.ref b) (.list ds) := .lst hs2 ha2
      refine ⟨.ref b, rfl, .ref b, _, rfl, hy', _, rfl, ?_⟩
      refine ⟨.ref b, rfl, .ref b, _, rfl, hy', _, rfl, ?_⟩
      refine ⟨.ref b, rfl, .ref b, _, rfl, hy', _, rfl, ?_⟩
      refine ⟨.ref b, rfl, .ref b, _, rfl, hy', _, rfl, ?_⟩
      refine ⟨.ref a, rfl, .ref a, _, rfl, hx', _, rfl, ?_⟩
      refine ⟨.ref a, rfl, a, xs, rfl, .inl hs, .ref b, rfl, b, ys, rfl, .inl hs2, rfl, _, rfl, ?_⟩
      rw [decide_eq_true (show V.int (xs.length : Int) = V.int (ys.length : Int) by rw [el])]
      refine ⟨.ref a, rfl, .ref b, rfl, a, b, xs, ys, rfl, .inl ⟨hs, hs2, ?_⟩⟩
      refine RZ.for_zipL (K := K) (a := a) (b := b) (xs := xs) (ys := ys) el (fun i σ H' => Same H H' ∧ ∃ y2 y3, σ = [some (.ref a), some (.ref b), y2, y3]) ⟨Same.refl H, none, none, rfl⟩ (fun i σ H' h => ⟨Same.seq h.1 hs, Same.seq h.1 hs2⟩)
        (fun i u v Tp σ H' eu ev h nT => ?_) (fun σ H' h => q H' h.1)
      obtain ⟨sm, y2, y3, rfl⟩ := h
      refine ⟨Tp, [u, v], rfl, .inl (.inl upd_same), rfl, u, [v], rfl, v, [], rfl, rfl, ?_⟩
      have sT := same_new (o := .tup [u, v]) nT
      obtain ⟨e, ee, hu⟩ := dpAll_get ha eu
      obtain ⟨e', ee', hv⟩ := dpAll_get ha2 ev
      have eq : e = e' := Option.some.inj (ee.symm.trans ee')
      subst eq
      refine ⟨u, rfl, v, rfl, u, v, e, rfl, dp_grow (sm.trans sT) hu, dp_grow (sm.trans sT) hv, hds e (List.mem_of_getElem? ee), fun H2 s2 => ?_⟩
      exact ⟨_, rfl, (sm.trans sT).trans s2, some u, some v, rfl⟩
    all_goals exact ho.elim
end
end K2
set_option Elab.async false
set_option linter.all false
set_option maxRecDepth 100000
set_option maxHeartbeats 2000000
namespace K2
open PySem PySem.Spec PyProof.Rows L2 Ver
section
variable {P : Program} {w : World} {K : PySem.W.Frag} {mg : Str → Option Value} {base : Heap}
def Pool (H : Hp) (p : Addr) : Prop := ∃ ns : List Int, ns ≠ [] ∧ ns.length ≤ 1000 ∧ H p = some (.lst (ns.map V.int))
def Drawn (p : Addr) (H H' : Hp) : Prop := (∀ b o, b ≠ p → H b = some o → H' b = some o) ∧ Pool H' p
theorem Drawn.refl {p : Addr} {H : Hp} (h : Pool H p) : Drawn p H H := ⟨fun _ _ _ e => e, h⟩
theorem Drawn.trans {p : Addr} {H H1 H2 : Hp} (a : Drawn p H H1) (b : Drawn p H1 H2) : Drawn p H H2 := ⟨fun c o h e => b.1 c o h (a.1 c o h e), b.2⟩
theorem Drawn.same {p : Addr} {H H1 H2 : Hp} (a : Drawn p H H1) (b : Same H1 H2) : Drawn p H H2 := ⟨fun c o h e => b c o (a.1 c o h e), by
  obtain ⟨ns, h1, h2, h3⟩ := a.2
  exact ⟨ns, h1, h2, b _ _ h3⟩⟩
theorem Drawn.at {p L : Addr} {H H1 : Hp} {o : HO} (a : Drawn p H H1) (nL : H L = none) (pL : p ≠ L) : Drawn p H (upd H1 L o) := ⟨fun b x h e => by
  rw [upd_ne (ne_of_none e nL)]
  exact a.1 b x h e, by
  obtain ⟨ns, h1, h2, h3⟩ := a.2
  exact ⟨ns, h1, h2, by rw [upd_ne pL]; exact h3⟩⟩
theorem Pool.same {p : Addr} {H H1 : Hp} (a : Pool H p) (b : Same H H1) : Pool H1 p := ((Drawn.refl a).same b).2
theorem set_ne {α : Type} {l : List α} {i : Nat} {x : α} (h : l ≠ []) : l.set i x ≠ [] := fun z => by
  have := congrArg List.length z
  rw [List.length_set] at this
  exact h (List.eq_nil_of_length_eq_zero this)
theorem atI_zero {xs : List V} {x : V} (h : xs[0]? = some x) : atI xs 0 = some x := atI_nat (j := 0) h
def sp__law_pick (K : PySem.W.Frag) : Sp := fun vs H Q _ => ∃ p m, vs = [.ref p, .int m] ∧ Pool H p ∧ 1 ≤ m ∧ m ≤ 1000000000 ∧ ∀ r H', 0 ≤ r → r < m → Drawn p H H' → (∀ b, H b = none → H' b = none) → Q (.int r) H'
theorem ok__law_pick (T : Tx K mg) : FnOk P w K mg base CX0 1 T.f__law_pick T.d__law_pick ["pool", "many"] (sp__law_pick K) := by
  refine T.F__law_pick.ok sc__law_pick (fun vs H Q E h => ?_) (fun cdv A outer s H vs Q E hr h => ?_)
  · obtain ⟨p, m, rfl, _⟩ := h; rfl
  · obtain ⟨p, m, rfl, ⟨ns, ne, hl, hp⟩, m0, m1, q⟩ := h
    refine ⟨_, (C8.pss_cut (ps_if (PW.pt (pw_and (pt_cmpR op_gt (pe_callB call_len_seq (by rfl) T.n_len (by decide +kernel) (pa_cons (pv 0) pa_nil)) pe_int (nomark _)) (pw_and1 (pt_cmpR op_eq (pe_ix ix_list (pv 0) (pe_un un_neg pe_int) (fun _ _ => rfl)) pe_int (nomark _))))) (pss_one (ps_expr (pe_bm0 PySem.F.plainAttrs_list PySem.F.slot_list_pop PySem.F.type_list_pop mt_pop (pv 0)))) pss_nil)
    (pss_cons (ps_if (pt_cmpR op_gt (pe_callB call_len_seq (by rfl) T.n_len (by decide +kernel) (pa_cons (pv 0) pa_nil)) pe_int (nomark _)) (pss_cons (ps_set (i := 2) sc__law_pick.nd rfl (Or.inl rfl) (pe_callTy call_int1 (by rfl) T.n_int (by decide +kernel) (pa_cons (pe_ix ix_list (pv 0) (pe_un un_neg pe_int) (fun _ _ => rfl)) pa_nil)))
    (pss_cons (ps_asg (pe_op op_fdivN (pv 2) (pv 1)) (pg_sub (pv 0) (pe_un un_neg pe_int) set_list))
    (pss_one (ps_ret (pe_op op_modN (pv 2) (pv 1)))))) pss_nil)
    (pss_cons (ps_asg (pe_op op_modN (pe_callTy call_int1 (by rfl) T.n_int (by decide +kernel) (pa_cons (pe_op op_mul (pe_ix ix_list (pv 0) pe_int (fun _ _ => rfl)) pe_int) pa_nil)) pe_int) (pg_sub (pv 0) pe_int set_list))
    (pss_one (ps_ret (pe_op op_modN (pe_callTy call_int1 (by rfl) T.n_int (by decide +kernel) (pa_cons (pe_op op_fdivN (pe_ix ix_list (pv 0) pe_int (fun _ _ => rfl)) pe_int) pa_nil)) (pv 1))))))), ?_⟩
    have fm : ∀ i : Int, 0 ≤ i.fmod m ∧ i.fmod m < m := fun i => ⟨Int.fmod_nonneg_of_pos _ (by omega), Int.fmod_lt_of_pos _ (by omega)⟩
    refine ⟨fun σ' H' => σ' = [some (.ref p), some (.int m), none] ∧ (∀ b, H b = none → H' b = none) ∧ (∀ b o, b ≠ p → H b = some o → H' b = some o) ∧ Pool H' p, ?_, fun σ' H1 h => ?_⟩
    · have stay : ([some (.ref p), some (.int m), none] : L2.St) = [some (.ref p), some (.int m), none] ∧ (∀ b, H b = none → H b = none) ∧ (∀ b o, b ≠ p → H b = some o → H b = some o) ∧ Pool H p := ⟨rfl, fun _ e => e, fun _ _ _ e => e, ⟨ns, ne, hl, hp⟩⟩
      refine ⟨.ref p, rfl, p, _, rfl, .inl (.inl (.inl hp)), _, _, rfl, rfl, _, rfl, ite2 (fun z => ?_) (fun z => stay)⟩
      have z1 := of_decide_eq_true z
      rw [List.length_map] at z1
      have e3 : ns = ns.dropLast ++ [ns.getLast ne] := (List.dropLast_concat_getLast ne).symm
      have el : atI (ns.map V.int) (-1) = some (.int (ns.getLast ne)) := by
        rw [show ns.map V.int = ns.dropLast.map V.int ++ [.int (ns.getLast ne)] by rw [← List.map_singleton, ← List.map_append, ← e3]]
        exact atI_last _ _
      refine ⟨.ref p, rfl, _, rfl, p, _, -1, _, rfl, rfl, .inl (.inl hp), el, rfl, _, rfl, ite2 (fun z2 => ?_) (fun z2 => stay)⟩
      refine ⟨.ref p, rfl, .inl ⟨rfl, _, .inl (.inl hp)⟩, p, _, .int (ns.getLast ne), rfl, rfl, hp, ?_, ?_⟩
      · rw [List.length_map, List.getElem?_map, ← List.getLast?_eq_getElem?, List.getLast?_eq_getLast ne]
        rfl
      · refine ⟨rfl, fun b e => ?_, fun b o hb e => ?_, ns.dropLast, ?_, ?_, ?_⟩
        · by_cases hb : b = p
          · rw [hb, hp] at e; cases e
          · rw [upd_ne hb]; exact e
        · rw [upd_ne hb]; exact e
        · intro z3
          have := congrArg List.length z3
          rw [List.length_dropLast, List.length_nil] at this
          omega
        · rw [List.length_dropLast]; omega
        · rw [upd_same, List.map_dropLast]
    · obtain ⟨rfl, hf, hk, ns, ne, hl, hp⟩ := h
      have back : ∀ {H2 : Hp} {ns2 : List Int}, ns2 ≠ [] → ns2.length ≤ 1000 → H2 = upd H1 p (.lst (ns2.map V.int)) → Drawn p H H2 ∧ ∀ b, H b = none → H2 b = none := fun {H2 ns2} n2 l2 e2 => by
        subst e2
        refine ⟨⟨fun b o hb e => ?_, ns2, n2, l2, upd_same⟩, fun b e => ?_⟩
        · rw [upd_ne hb]; exact hk b o hb e
        · have e1 := hf b e
          by_cases hb : b = p
          · rw [hb, hp] at e1; cases e1
          · rw [upd_ne hb]; exact e1
      refine ⟨.ref p, rfl, p, _, rfl, .inl (.inl (.inl hp)), _, _, rfl, rfl, _, rfl, ite2 (fun z => ?_) (fun z => ?_)⟩
      · have z1 := of_decide_eq_true z
        rw [List.length_map] at z1
        have e3 : ns = ns.dropLast ++ [ns.getLast ne] := (List.dropLast_concat_getLast ne).symm
        have el : atI (ns.map V.int) (-1) = some (.int (ns.getLast ne)) := by
          rw [show ns.map V.int = ns.dropLast.map V.int ++ [.int (ns.getLast ne)] by rw [← List.map_singleton, ← List.map_append, ← e3]]
          exact atI_last _ _
        have ix : ixN (ns.map V.int).length (-1) = some (ns.length - 1) := by
          unfold ixN
          rw [if_neg (by omega), if_pos (by rw [List.length_map]; omega), List.length_map]
          congr 1
          omega
        refine ⟨.ref p, rfl, _, rfl, p, _, -1, _, rfl, rfl, .inl (.inl hp), el, .inl ⟨_, rfl, ?_⟩⟩
        refine ⟨.int (ns.getLast ne), rfl, .int m, rfl, _, m, rfl, rfl, ⟨by omega, by omega⟩, ?_⟩
        refine ⟨.ref p, rfl, 1, rfl, p, _, -1, _, rfl, rfl, hp, ix, ?_⟩
        refine ⟨.int (ns.getLast ne), rfl, .int m, rfl, _, m, rfl, rfl, by omega, ?_⟩
        obtain ⟨f1, f2⟩ := fm (ns.getLast ne)
        obtain ⟨b1, b2⟩ := back (H2 := upd H1 p (.lst ((ns.map V.int).set (ns.length - 1) (.int ((ns.getLast ne).fdiv m))))) (ns2 := ns.set (ns.length - 1) ((ns.getLast ne).fdiv m)) (set_ne ne) (by rw [List.length_set]; exact hl) (by rw [List.map_set])
        exact q _ _ f1 f2 b1 b2
      · have e0 : ∃ x, ns[0]? = some x := by
          cases ns with
          | nil => exact absurd rfl ne
          | cons x r => exact ⟨x, rfl⟩
        obtain ⟨x0, ex0⟩ := e0
        have ex1 : (ns.map V.int)[0]? = some (.int x0) := by rw [List.getElem?_map, ex0]; rfl
        have pos : 0 < (ns.map V.int).length := by
          rw [List.length_map]
          cases ns with
          | nil => exact absurd rfl ne
          | cons x r => simp
        have ix : ixN (ns.map V.int).length 0 = some 0 := by
          unfold ixN
          rw [if_pos (by omega), if_pos (by omega)]
          rfl
        refine ⟨.ref p, rfl, p, _, 0, _, rfl, rfl, .inl (.inl hp), atI_zero ex1, _, _, rfl, rfl, .inr ⟨by omega, by omega⟩, .inl ⟨_, rfl, _, _, rfl, rfl, by omega, ?_⟩⟩
        have es : (ns.map V.int).set 0 (.int ((x0 * 16807).fmod 2305843009213693951)) = (ns.set 0 ((x0 * 16807).fmod 2305843009213693951)).map V.int := (List.map_set ..).symm
        have ex2 : ((ns.map V.int).set 0 (.int ((x0 * 16807).fmod 2305843009213693951)))[0]? = some (.int ((x0 * 16807).fmod 2305843009213693951)) := List.getElem?_set_self pos
        refine ⟨.ref p, rfl, p, _, 0, 0, rfl, rfl, hp, ix, ?_⟩
        refine ⟨.ref p, rfl, p, _, 0, _, rfl, rfl, .inl (.inl upd_same), atI_zero ex2, _, _, rfl, rfl, ⟨by omega, by omega⟩, .inl ⟨_, rfl, .int m, rfl, _, m, rfl, rfl, by omega, ?_⟩⟩
        obtain ⟨b1, b2⟩ := back (H2 := upd H1 p (.lst ((ns.map V.int).set 0 (.int ((x0 * 16807).fmod 2305843009213693951))))) (ns2 := ns.set 0 ((x0 * 16807).fmod 2305843009213693951)) (set_ne ne) (by rw [List.length_set]; exact hl) (by rw [es])
        obtain ⟨f1, f2⟩ := fm (((x0 * 16807).fmod 2305843009213693951).fdiv 131101)
        exact q _ _ f1 f2 b1 b2
end
end K2
set_option Elab.async false
set_option linter.all false
set_option maxRecDepth 100000
set_option maxHeartbeats 2000000
namespace K2
open PySem PySem.Spec PyProof.Rows L2 Ver
theorem seqT_drawn {K : PySem.W.Frag} {H H' : Hp} {p b : Addr} {xs : List V} (hp : Pool H p) (d : Drawn p H H') (h : SqT K H b xs) : SqT K H' b xs := by
  obtain ⟨ns, _, _, e⟩ := hp
  rcases h with (h | ⟨o, h⟩) | h
  · exact .inl (.inl (d.1 b _ (ne_of h e (by intro z; cases z)) h))
  · exact .inl (.inr ⟨o, d.1 b _ (ne_of h e (by intro z; cases z)) h⟩)
  · exact .inr h
theorem lst_drawn {H H' : Hp} {p b : Addr} {xs : List V} (d : Drawn p H H') (hb : b ≠ p) (h : H b = some (.lst xs)) : H' b = some (.lst xs) := d.1 b _ hb h
theorem Pool.ne_none {H : Hp} {p b : Addr} (hp : Pool H p) (h : H b = none) : p ≠ b := by
  obtain ⟨ns, _, _, e⟩ := hp
  exact ne_of_none e h
section
variable {P : Program} {w : World} {K : PySem.W.Frag} {mg : Str → Option Value} {base : Heap}
def sp__law_pool (K : PySem.W.Frag) : Sp := fun vs H Q _ => ∃ (a : Addr) (ns : List Int), vs = [.ref a] ∧ SqL K H a (ns.map V.int) ∧ ns.length ≤ 63 ∧ ∀ p H', Same H H' → Pool H' p → Q (.ref p) H'
theorem ok__law_pool (T : Tx K mg) : FnOk P w K mg base CX0 1 T.f__law_pool T.d__law_pool ["script"] (sp__law_pool K) := by
  refine T.F__law_pool.ok sc__law_pool (fun vs H Q E h => ?_) (fun cdv A outer s H vs Q E hr h => ?_)
  · obtain ⟨a, ns, rfl, _⟩ := h; rfl
  · obtain ⟨a, ns, rfl, hs, hz, q⟩ := h
    refine ⟨_, (pss_cons (ps_set (i := 1) sc__law_pool.nd rfl (Or.inl rfl) (pe_op op_mulW (pe_op op_mulW (pe_op op_mulW (pe_op op_pow pe_int pe_int) (pe_op op_pow pe_int pe_int)) (pe_op op_pow pe_int pe_int)) (pe_op op_pow pe_int pe_int)))
    (pss_cons (ps_set (i := 2) sc__law_pool.nd rfl (Or.inl rfl) (pe_lst (pa_cons pe_int pa_nil)))
    (pss_cons (ps_for PassesOwn.never rfl (pi_list (pv 0)) (pg_name (i := 3) sc__law_pool.nd rfl (Or.inl rfl))
    (pss_cons (ps_set (i := 4) sc__law_pool.nd rfl (Or.inl rfl) (pe_callTy call_int1 (by rfl) T.n_int (by decide +kernel) (pa_cons (pv 3) pa_nil)))
    (C8.pss_cut (ps_set (i := 5) sc__law_pool.nd rfl (Or.inl rfl) (pe_ifExp (pt_cmpR op_ge (pv 4) pe_int (nomark _)) (pv 4) (pe_op op_sub pe_int (pe_op op_mul pe_int (pv 4)))))
    (pss_cons (ps_asg (pe_op op_modN (pe_callTy call_int1 (by rfl) T.n_int (by decide +kernel) (pa_cons (pe_op op_add (pe_op op_add (pe_op op_mul (pe_ix ix_list (pv 2) pe_int (fun _ _ => rfl)) pe_int) (pe_op op_mul (pv 5) pe_int)) pe_int) pa_nil)) pe_int) (pg_sub (pv 2) pe_int set_list))
    (pss_one (ps_if (pt_cmpR op_ge (pv 5) (pe_op op_pow pe_int pe_int) (nomark _)) (pss_one (ps_expr (pe_bm PySem.F.plainAttrs_list PySem.F.slot_list_append PySem.F.type_list_append mt_append (pv 2) (pa_cons (pe_op op_modN (pe_callTy call_int1 (by rfl) T.n_int (by decide +kernel) (pa_cons (pv 5) pa_nil)) (pv 1)) pa_nil)))) pss_nil))))))
    (pss_one (ps_ret (pv 2)))))), ?_⟩
    refine ⟨_, _, rfl, rfl, ⟨by decide, by decide, by decide⟩, _, _, rfl, rfl, ⟨by decide, by decide, by decide⟩, _, _, rfl, rfl, by unfold CMulW; decide +kernel, ?_⟩
    refine ⟨_, _, rfl, rfl, ⟨by decide, by decide, by decide⟩, _, _, rfl, rfl, by unfold CMulW; decide +kernel, ?_⟩
    refine ⟨_, _, rfl, rfl, ⟨by decide, by decide, by decide⟩, _, _, rfl, rfl, by unfold CMulW; decide +kernel, ?_⟩
    refine ⟨small' (by simp), fun p np => ?_⟩
    refine ⟨.ref a, rfl, a, rfl, ⟨_, (same_new np).seq hs⟩, ?_⟩
    refine for_list (K := K) (a := a) (xs := ns.map V.int) (fun i σ H' => ∃ room y3 y4 y5 ms, σ = [some (.ref a), some (.int room), some (.ref p), y3, y4, y5] ∧ room ≠ 0 ∧ (∀ b o, H b = some o → H' b = some o) ∧ ms ≠ [] ∧ ms.length ≤ 1 + i ∧ H' p = some (.lst (List.map V.int ms)))
      ⟨_, none, none, none, [0], rfl, by decide +kernel, same_new np, by simp, by simp, upd_same⟩ (fun i σ H' _ h => ?_) (fun i x σ H' ex h => ?_) (fun σ H' h => ?_)
    · obtain ⟨_, _, _, _, _, _, _, sm, _⟩ := h
      exact Same.seq sm hs
    · obtain ⟨room, y3, y4, y5, ms, rfl, r0, sm, mn, ml, hp⟩ := h
      have lt : i < ns.length := by
        have := (List.getElem?_eq_some_iff.mp ex).1
        rw [List.length_map] at this
        exact this
      rw [List.getElem?_map] at ex
      obtain ⟨c, rfl⟩ : ∃ c, x = V.int c := by
        cases e : ns[i]? with
        | none => rw [e] at ex; cases ex
        | some c => rw [e] at ex; exact ⟨c, (Option.some.inj ex).symm⟩
      refine ⟨.int c, rfl, .inl ⟨c, rfl, ?_⟩⟩
      refine ⟨fun σ2 H2 => H2 = H' ∧ ∃ tn, σ2 = [some (.ref a), some (.int room), some (.ref p), some (.int c), some (.int c), some (.int tn)], ?_, fun σ2 H2 h2 => ?_⟩
      · refine ⟨.int c, rfl, c, 0, rfl, rfl, _, rfl, ite2 (fun z => ?_) (fun z => ?_)⟩
        · exact ⟨.int c, rfl, rfl, c, rfl⟩
        · exact ⟨.int c, rfl, _, _, rfl, rfl, .inl ⟨by omega, by omega⟩, _, _, rfl, rfl, rfl, _, rfl⟩
      obtain ⟨rfl, tn, rfl⟩ := h2
      obtain ⟨x0, ex0⟩ : ∃ x, ms[0]? = some x := by
        cases ms with
        | nil => exact absurd rfl mn
        | cons x r => exact ⟨x, rfl⟩
      have ex1 : (ms.map V.int)[0]? = some (.int x0) := by rw [List.getElem?_map, ex0]; rfl
      have pos : 0 < (ms.map V.int).length := by
        rw [List.length_map]
        cases ms with
        | nil => exact absurd rfl mn
        | cons x r => simp
      have ix : ixN (ms.map V.int).length 0 = some 0 := by
        unfold ixN
        rw [if_pos (by omega), if_pos (by omega)]
        rfl
      have npH : H p = none := np
      refine ⟨.ref p, rfl, p, _, 0, _, rfl, rfl, .inl (.inl hp), atI_zero ex1, _, _, rfl, rfl, .inr ⟨by omega, by omega⟩, .int tn, rfl, _, _, rfl, rfl, .inr ⟨by omega, by omega⟩, _, _, rfl, rfl, _, _, rfl, rfl, .inl ⟨_, rfl, _, _, rfl, rfl, by omega, ?_⟩⟩
      refine ⟨.ref p, rfl, p, _, 0, 0, rfl, rfl, hp, ix, ?_⟩
      refine ⟨.int tn, rfl, _, _, rfl, rfl, ⟨by decide, by decide, by decide⟩, tn, _, rfl, rfl, _, rfl, ite2 (fun z => ?_) (fun z => ?_)⟩
      · refine ⟨.ref p, rfl, .inl ⟨rfl, _, .inl (.inl upd_same)⟩, .int tn, rfl, .inl ⟨tn, rfl, .int room, rfl, tn, room, rfl, rfl, r0, ?_⟩⟩
        refine ⟨p, _, _, rfl, rfl, upd_same, small (by rw [List.length_set, List.length_map]; omega), ?_⟩
        refine ⟨room, some (.int c), some (.int c), some (.int tn), ms.set 0 ((x0 * 9576891 + tn * 64969 + 7717).fmod 2305843009213693951) ++ [tn.fmod room], rfl, r0, fun b o e => ?_, by simp, ?_, ?_⟩
        · have hb : b ≠ p := ne_of_none e npH
          rw [upd_ne hb, upd_ne hb]
          exact sm b o e
        · rw [List.length_append, List.length_set, List.length_singleton]; omega
        · rw [upd_same, List.map_append, List.map_set]
          rfl
      · refine ⟨room, some (.int c), some (.int c), some (.int tn), ms.set 0 ((x0 * 9576891 + tn * 64969 + 7717).fmod 2305843009213693951), rfl, r0, fun b o e => ?_, set_ne mn, ?_, ?_⟩
        · rw [upd_ne (ne_of_none e npH)]
          exact sm b o e
        · rw [List.length_set]; omega
        · rw [upd_same, List.map_set]
    · obtain ⟨room, y3, y4, y5, ms, rfl, r0, sm, mn, ml, hp⟩ := h
      rw [List.length_map] at ml
      exact ⟨.ref p, rfl, q p H' sm ⟨ms, mn, by omega, hp⟩⟩
end
end K2
set_option Elab.async false
set_option linter.all false
set_option maxRecDepth 100000
set_option maxHeartbeats 2000000
namespace K2
open PySem PySem.Spec PyProof.Rows L2 Ver
theorem Drawn.pool {p : Addr} {H H' : Hp} (d : Drawn p H H') : Pool H' p := d.2
theorem sign_at {sg : Str} {i : Int} (h0 : 0 ≤ i) (h1 : i < sg.length) : ∃ c, atI sg.cps.toList i = some c := by
  have lt : i.toNat < sg.cps.toList.length := by
    have e : sg.cps.toList.length = sg.length := by rw [Array.length_toList]; rfl
    omega
  have e0 : i = ((i.toNat : Nat) : Int) := by omega
  rw [e0]
  exact ⟨sg.cps.toList[i.toNat], atI_nat (j := i.toNat) (List.getElem?_eq_getElem lt)⟩
theorem flat_strs : ∀ ws : List Str, (ws.map V.str).all flatV = true
  | [] => rfl
  | _ :: ws => by rw [List.map_cons, List.all_cons, flat_strs ws]; rfl
section
variable {P : Program} {w : World} {K : PySem.W.Frag} {mg : Str → Option Value} {base : Heap}
def sp__law_word (K : PySem.W.Frag) : Sp := fun vs H Q _ => ∃ (p : Addr) (sg : Str) (m : Int), vs = [.ref p, .str sg, .int m] ∧ Pool H p ∧ 1 ≤ sg.length ∧ sg.length ≤ 100 ∧ 1 ≤ m ∧ m ≤ 100 ∧
  ∀ (z : Str) H', 1 ≤ z.length → z.length ≤ m → Drawn p H H' → (∀ b, H b = none → H' b = none) → Q (.str z) H'
theorem ok__law_word (T : Tx K mg) : FnOk P w K mg base CX0 2 T.f__law_word T.d__law_word ["pool", "signs", "most"] (sp__law_word K) := by
  refine T.F__law_word.ok sc__law_word (fun vs H Q E h => ?_) (fun cdv A outer s H vs Q E hr h => ?_)
  · obtain ⟨p, sg, m, rfl, _⟩ := h; rfl
  · obtain ⟨p, sg, m, rfl, hP, g0, g1, m0, m1, q⟩ := h
    refine ⟨_, (pss_cons (ps_set (i := 3) sc__law_word.nd rfl (Or.inl rfl) pe_str)
    (pss_cons (ps_for PassesOwn.never rfl (pi_range1 rfl T.n_range (pa_cons (pe_op op_add pe_int (pe_call (ok__law_pick T) hr rfl T.g__law_pick T.F__law_pick.kp T.b__law_pick .nil pass0 (pa_cons (pv 0) (pa_cons (pv 2) pa_nil)))) pa_nil)) (pg_name (i := 4) sc__law_word.nd rfl (Or.inl rfl))
    (pss_one (ps_set (i := 3) sc__law_word.nd rfl (Or.inl rfl) (pe_op op_add_str (pv 3) (pe_ix ix_str (pv 1) (pe_call (ok__law_pick T) hr rfl T.g__law_pick T.F__law_pick.kp T.b__law_pick .nil pass0 (pa_cons (pv 0) (pa_cons (pe_callB call_len (by rfl) T.n_len (by decide +kernel) (pa_cons (pv 1) pa_nil)) pa_nil))) (fun _ _ => rfl))))))
    (pss_one (ps_ret (pv 3))))), ?_⟩
    refine ⟨.ref p, rfl, .int m, rfl, p, m, rfl, hP, m0, by omega, fun r H1 r0 r1 d1 f1 => ⟨1, r, rfl, rfl, _, rfl, by omega, by omega, ?_⟩⟩
    refine for_range0 (n := (1 + r).toNat) (fun i σ H' => ∃ z y, σ = [some (.ref p), some (.str sg), some (.int m), some (.str z), y] ∧ z.length = i ∧ Drawn p H H' ∧ (∀ b, H b = none → H' b = none))
      ⟨_, none, rfl, rfl, d1, f1⟩ (fun i σ H' lt h => ?_) (fun σ H' h => ?_)
    · obtain ⟨z, y, rfl, el, d, f⟩ := h
      refine ⟨.str z, rfl, .str sg, rfl, .ref p, rfl, .str sg, rfl, .str sg, sg.length, rfl, ⟨small' (by omega), rfl⟩, p, sg.length, rfl, d.2, by omega, by omega, fun j H2 j0 j1 d2 f2 => ?_⟩
      obtain ⟨c, ec⟩ := sign_at j0 j1
      refine ⟨sg, j, c, rfl, rfl, small' (by omega), ec, z, _, rfl, rfl, small' (by show z.length + 1 ≤ 100000; omega), ?_⟩
      refine ⟨z ++ ⟨#[c]⟩, some (.int (i : Int)), rfl, ?_, d.trans d2, fun b e => f2 b (f b e)⟩
      rw [Str.length_append, el]
      rfl
    · obtain ⟨z, y, rfl, el, d, f⟩ := h
      exact ⟨.str z, rfl, q z H' (by omega) (by omega) d f⟩

def sp__law_tokens (K : PySem.W.Frag) : Sp := fun vs H Q _ => ∃ (p : Addr) (n : Int) (sg : Str) (m : Int), vs = [.ref p, .int n, .str sg, .int m] ∧ Pool H p ∧ 1 ≤ sg.length ∧ sg.length ≤ 100 ∧ 1 ≤ m ∧ m ≤ 100 ∧ 0 ≤ n ∧ n ≤ 100 ∧
  ∀ (t : Addr) (ts : List V) H', (ts.length : Int) = n → Drawn p H H' → H' t = some (.tup ts) → Q (.ref t) H'
theorem ok__law_tokens (T : Tx K mg) : FnOk P w K mg base CX0 3 T.f__law_tokens T.d__law_tokens ["pool", "many", "signs", "most"] (sp__law_tokens K) := by
  refine T.F__law_tokens.ok sc__law_tokens (fun vs H Q E h => ?_) (fun cdv A outer s H vs Q E hr h => ?_)
  · obtain ⟨p, n, sg, m, rfl, _⟩ := h; rfl
  · obtain ⟨p, n, sg, m, rfl, hP, g0, g1, m0, m1, n0, n1, q⟩ := h
    refine ⟨_, (pss_cons (ps_set (i := 4) sc__law_tokens.nd rfl (Or.inl rfl) (pe_lst pa_nil))
    (pss_cons (ps_for PassesOwn.never rfl (pi_range1 rfl T.n_range (pa_cons (pv 1) pa_nil)) (pg_name (i := 5) sc__law_tokens.nd rfl (Or.inl rfl))
    (pss_cons (ps_set (i := 6) sc__law_tokens.nd rfl (Or.inl rfl) (pe_call (ok__law_word T) hr rfl T.g__law_word T.F__law_word.kp T.b__law_word .nil pass0 (pa_cons (pv 0) (pa_cons (pv 2) (pa_cons (pv 3) pa_nil)))))
    (pss_cons (ps_for PassesOwn.never rfl (pi_range1 rfl T.n_range (pa_cons (pv 1) pa_nil)) (pg_name (i := 7) sc__law_tokens.nd rfl (Or.inl rfl))
    (pss_one (ps_if (pt_cmpR op_in_seq (pv 6) (pv 4) (by rfl)) (pss_one (ps_set (i := 6) sc__law_tokens.nd rfl (Or.inl rfl) (pe_op op_add_str (pv 6) (pe_ix ix_str (pv 2) (pe_op op_sub (pv 7) (pe_op op_mul (pe_op op_fdivN (pv 7) (pe_callB call_len (by rfl) T.n_len (by decide +kernel) (pa_cons (pv 2) pa_nil))) (pe_callB call_len (by rfl) T.n_len (by decide +kernel) (pa_cons (pv 2) pa_nil)))) (fun _ _ => rfl))))) pss_nil)))
    (pss_one (ps_expr (pe_bm PySem.F.plainAttrs_list PySem.F.slot_list_append PySem.F.type_list_append mt_append (pv 4) (pa_cons (pv 6) pa_nil)))))))
    (pss_one (ps_ret (pe_callTy call_tuple_of (by rfl) T.n_tuple (by decide +kernel) (pa_cons (pv 4) pa_nil)))))), ?_⟩
    refine ⟨Nat.zero_le _, fun L nL => ?_⟩
    have pL : p ≠ L := hP.ne_none nL
    have s0 := same_new (o := .lst []) nL
    refine ⟨.int n, rfl, n, rfl, by omega, by omega, ?_⟩
    refine for_range0 (n := n.toNat) (fun i σ H' => ∃ ws y5 y6 y7, σ = [some (.ref p), some (.int n), some (.str sg), some (.int m), some (.ref L), y5, y6, y7] ∧ List.length ws = i ∧ Drawn p H H' ∧ H' L = some (.lst (List.map V.str ws)))
      ⟨[], none, none, none, rfl, rfl, (Drawn.refl hP).same s0, upd_same⟩ (fun i σ H' lt h => ?_) (fun σ H' h => ?_)
    · obtain ⟨ws, y5, y6, y7, rfl, el, d, hL⟩ := h
      refine ⟨.ref p, rfl, .str sg, rfl, .int m, rfl, p, sg, m, rfl, d.2, g0, g1, m0, m1, fun z H1 z0 z1 d1 f1 => ?_⟩
      have hL1 : H1 L = some (.lst (ws.map V.str)) := d1.1 L _ pL.symm hL
      refine ⟨.int n, rfl, n, rfl, by omega, by omega, ?_⟩
      refine for_range0 (n := n.toNat) (fun j σ H2 => H2 = H1 ∧ ∃ z y7, σ = [some (.ref p), some (.int n), some (.str sg), some (.int m), some (.ref L), some (.int (i : Int)), some (.str z), y7] ∧ z.length ≤ 100 + j) ⟨rfl, z, y7, rfl, by omega⟩ (fun j σ H2 lt2 h => ?_) (fun σ H2 h => ?_)
      · obtain ⟨rfl, z, y7, rfl, zl⟩ := h
        refine ⟨.str z, rfl, .ref L, rfl, L, _, rfl, .inl (.inl (.inl hL1)), rfl, flat_strs ws, _, rfl, ?_⟩
        cases eb : inV (.str z) (ws.map V.str) with
        | false => exact ⟨rfl, z, some (.int (j : Int)), rfl, by omega⟩
        | true =>
          have sg0 : ((sg.length : Nat) : Int) ≠ 0 := by omega
          have em := Int.fmod_def (j : Int) ((sg.length : Nat) : Int)
          have em2 : ((j : Int).fdiv ((sg.length : Nat) : Int)) * ((sg.length : Nat) : Int) = ((sg.length : Nat) : Int) * ((j : Int).fdiv ((sg.length : Nat) : Int)) := Int.mul_comm _ _
          have em0 := Int.fmod_nonneg_of_pos (j : Int) (b := ((sg.length : Nat) : Int)) (by omega)
          have em1 := Int.fmod_lt_of_pos (j : Int) (b := ((sg.length : Nat) : Int)) (by omega)
          obtain ⟨c, ec⟩ := sign_at (sg := sg) (i := (j : Int) - ((j : Int).fdiv ((sg.length : Nat) : Int)) * ((sg.length : Nat) : Int)) (by omega) (by omega)
          refine ⟨.str z, rfl, .str sg, rfl, .int (j : Int), rfl, .int (j : Int), rfl, .str sg, rfl, .str sg, sg.length, rfl, ⟨small' (by omega), rfl⟩, _, _, rfl, rfl, ⟨sg0, by omega⟩, ?_⟩
          refine ⟨.str sg, rfl, .str sg, sg.length, rfl, ⟨small' (by omega), rfl⟩, _, _, rfl, rfl, .inr ⟨by omega, by omega⟩, _, _, rfl, rfl, sg, _, c, rfl, rfl, small' (by omega), ec, z, _, rfl, rfl, small' (by show z.length + 1 ≤ 100000; omega), ?_⟩
          refine ⟨rfl, z ++ ⟨#[c]⟩, some (.int (j : Int)), rfl, ?_⟩
          rw [Str.length_append]
          show z.length + 1 ≤ 100 + (j + 1)
          omega
      · obtain ⟨rfl, z, y7, rfl, zl⟩ := h
        refine ⟨.ref L, rfl, .inl ⟨rfl, _, .inl (.inl hL1)⟩, .str z, rfl, L, _, _, rfl, rfl, hL1, small (by rw [List.length_map]; omega), ?_⟩
        refine ⟨ws ++ [z], some (.int (i : Int)), some (.str z), y7, rfl, ?_, ?_, ?_⟩
        · rw [List.length_append, el]; rfl
        · exact (d.trans d1).at nL pL
        · rw [upd_same, List.map_append]; rfl
    · obtain ⟨ws, y5, y6, y7, rfl, el, d, hL⟩ := h
      refine ⟨.ref L, rfl, L, _, rfl, .inl ⟨.inl (.inl hL), fun t nt => ?_⟩⟩
      exact q t _ _ (by rw [List.length_map]; omega) (d.same (same_new nt)) upd_same
end
end K2
set_option Elab.async false
set_option linter.all false
set_option maxRecDepth 100000
set_option maxHeartbeats 2000000
namespace K2
open PySem PySem.Spec PyProof.Rows L2 Ver
theorem rowD_ints {n : Nat} {d : PyData} (h : rowD n d = true) : ∃ r : List Int, d = .tuple (r.map PyData.int) ∧ ∀ t ∈ r, 0 ≤ t ∧ t < n := by
  cases d
  case tuple ds =>
    have h' : (ds.all (belowD n) && decide (ds.length ≤ 60)) = true := h
    rw [Bool.and_eq_true] at h'
    have key : ∀ ds : List PyData, ds.all (belowD n) = true → ∃ r : List Int, ds = r.map PyData.int ∧ ∀ t ∈ r, 0 ≤ t ∧ t < n := by
      intro ds
      induction ds with
      | nil => intro _; exact ⟨[], rfl, fun t ht => by simp at ht⟩
      | cons d ds ih =>
        intro e
        rw [List.all_cons, Bool.and_eq_true] at e
        obtain ⟨r, rfl, hr⟩ := ih e.2
        cases d
        case int i =>
          have e1 : (decide (0 ≤ i) && decide (i < (n : Int))) = true := e.1
          rw [Bool.and_eq_true, decide_eq_true_eq, decide_eq_true_eq] at e1
          refine ⟨i :: r, rfl, fun t ht => ?_⟩
          rcases List.mem_cons.mp ht with rfl | ht
          · exact e1
          · exact hr t ht
        all_goals exact absurd e.1 Bool.false_ne_true
    obtain ⟨r, e, hr⟩ := key ds h'.1
    exact ⟨r, by rw [e], hr⟩
  all_goals exact absurd h Bool.false_ne_true
theorem ints_of_dp {K : PySem.W.Frag} {H : Hp} : ∀ {r : List Int} {xs : List V}, DpAll K H xs (r.map PyData.int) → xs = r.map V.int
  | [], _, h => by cases h; rfl
  | t :: r, _, h => by
    cases h with
    | cons h1 h2 =>
      cases h1
      rw [ints_of_dp h2]
      rfl
def IsRow (_ : PySem.W.Frag) (H : Hp) (v : V) (r : List Int) : Prop := ∃ p, v = .ref p ∧ H p = some (.tup (r.map V.int))
abbrev Rows (K : PySem.W.Frag) (H : Hp) (vs : List V) (rs : List (List Int)) : Prop := Paired (IsRow K H) vs rs
theorem Rows.grow {K : PySem.W.Frag} {H H' : Hp} (e : Same H H') : ∀ {vs : List V} {rs : List (List Int)}, Rows K H vs rs → Rows K H' vs rs
  | _, _, .nil => .nil
  | _, _, .cons ⟨p, h1, h2⟩ t => .cons ⟨p, h1, e _ _ h2⟩ (Rows.grow e t)
theorem Rows.getT {K : PySem.W.Frag} {H : Hp} : ∀ {vs : List V} {rs : List (List Int)} {i : Nat} {r : List Int}, Rows K H vs rs → rs[i]? = some r → ∃ p, vs[i]? = some (.ref p) ∧ H p = some (.tup (r.map V.int))
  | _, _, i, r, .nil, e => by simp at e
  | _, _, 0, r, .cons ⟨p, h1, h2⟩ t, e => by
    have e' := Option.some.inj e
    subst e' h1
    exact ⟨p, rfl, h2⟩
  | _, _, i + 1, r, .cons _ t, e => Rows.getT (i := i) t e
theorem Rows.get {K : PySem.W.Frag} {H : Hp} {vs : List V} {rs : List (List Int)} {i : Nat} {r : List Int} (h : Rows K H vs rs) (e : rs[i]? = some r) : ∃ p, vs[i]? = some (.ref p) ∧ SqT K H p (r.map V.int) := by
  obtain ⟨p, h1, h2⟩ := h.getT e
  exact ⟨p, h1, .inl (.inl h2)⟩
theorem at_map {r : List Int} {i x : Int} (h0 : 0 ≤ i) (e : r[i.toNat]? = some x) : atI (r.map V.int) i = some (.int x) := by
  have e0 : i = ((i.toNat : Nat) : Int) := by omega
  rw [e0]
  exact atI_nat (j := i.toNat) (by rw [List.getElem?_map, e]; rfl)
theorem at_ref {xs : List V} {i : Int} {p : Addr} (h0 : 0 ≤ i) (e : xs[i.toNat]? = some (.ref p)) : atI xs i = some (.ref p) := by
  have e0 : i = ((i.toNat : Nat) : Int) := by omega
  rw [e0]
  exact atI_nat (j := i.toNat) e
end K2
set_option Elab.async false
set_option linter.all false
set_option maxRecDepth 100000
set_option maxHeartbeats 2000000
namespace K2
open PySem PySem.Spec PyProof.Rows L2 Ver
theorem seqT_upd {K : PySem.W.Frag} {H : Hp} {L p : Addr} {ys xs : List V} {o : HO} (hL : H L = some (.lst ys)) (h : SqT K H p xs) : SqT K (upd H L o) p xs := by
  rcases h with (h | ⟨u, h⟩) | h
  · refine .inl (.inl ?_)
    rw [upd_ne (ne_of h hL (by intro z; cases z))]
    exact h
  · refine .inl (.inr ⟨u, ?_⟩)
    rw [upd_ne (ne_of h hL (by intro z; cases z))]
    exact h
  · exact .inr h
theorem tup_upd {H : Hp} {L p : Addr} {ys xs : List V} {o : HO} (hL : H L = some (.lst ys)) (h : H p = some (.tup xs)) : upd H L o p = some (.tup xs) := by
  rw [upd_ne (ne_of h hL (by intro z; cases z))]
  exact h
theorem Rows.upd {K : PySem.W.Frag} {H : Hp} {L : Addr} {ys : List V} {o : HO} (hL : H L = some (.lst ys)) : ∀ {vs : List V} {rs : List (List Int)}, Rows K H vs rs → Rows K (upd H L o) vs rs
  | _, _, .nil => .nil
  | _, _, .cons ⟨p, h1, h2⟩ t => .cons ⟨p, h1, tup_upd hL h2⟩ (Rows.upd hL t)
theorem Rows.app {K : PySem.W.Frag} {H : Hp} : ∀ {vs us : List V} {rs qs : List (List Int)}, Rows K H vs rs → Rows K H us qs → Rows K H (vs ++ us) (rs ++ qs)
  | _, _, _, _, .nil, h => h
  | _, _, _, _, .cons h1 t, h => .cons h1 (Rows.app t h)
theorem same_upd2 {H H1 : Hp} {L : Addr} {o : HO} (s : Same H H1) (n : H L = none) : Same H (upd H1 L o) := fun b x e => by
  rw [upd_ne (ne_of_none e n)]
  exact s b x e
def extG (m : Nat) (r : List Int) : List (List Int) := (List.range m).map fun t => r ++ [((t : Nat) : Int)]
def layG (m : Nat) : Nat → List (List Int)
  | 0 => [[]]
  | n + 1 => (layG m n).flatMap (extG m)
def rowsG (m n : Nat) : List (List Int) := (List.range (n + 1)).flatMap (layG m)
theorem rowsG_succ (m n : Nat) : rowsG m (n + 1) = rowsG m n ++ layG m (n + 1) := by
  unfold rowsG
  rw [List.range_succ, List.flatMap_append, List.flatMap_singleton]
theorem layG_len (m : Nat) : ∀ n, (layG m n).length = m ^ n
  | 0 => rfl
  | n + 1 => by
    show ((layG m n).flatMap (extG m)).length = m ^ (n + 1)
    rw [List.length_flatMap, Nat.pow_succ, ← layG_len m n]
    generalize layG m n = l
    induction l with
    | nil => simp
    | cons a l ih =>
      rw [List.map_cons, List.sum_cons, ih, List.length_cons]
      have : (extG m a).length = m := by unfold extG; rw [List.length_map, List.length_range]
      rw [this, Nat.succ_mul, Nat.add_comm]
theorem layG_mem {m : Nat} : ∀ {n : Nat} {r : List Int}, r ∈ layG m n → r.length = n ∧ ∀ t ∈ r, 0 ≤ t ∧ t < (m : Int)
  | 0, r, h => by
    rw [List.mem_singleton.mp h]
    exact ⟨rfl, fun t ht => by simp at ht⟩
  | n + 1, r, h => by
    obtain ⟨a, ha, hr⟩ := List.mem_flatMap.mp (show r ∈ (layG m n).flatMap (extG m) from h)
    obtain ⟨t, ht, rfl⟩ := List.mem_map.mp (show r ∈ (List.range m).map fun t => a ++ [((t : Nat) : Int)] from hr)
    obtain ⟨l, al⟩ := layG_mem ha
    refine ⟨by rw [List.length_append, l]; rfl, fun u hu => ?_⟩
    rcases List.mem_append.mp hu with hu | hu
    · exact al u hu
    · rw [List.mem_singleton.mp hu]
      have := List.mem_range.mp ht
      omega
theorem pow_le {m n : Nat} (hm : m ≤ 4) (hn : n ≤ 6) : m ^ n ≤ 4096 := by
  have h1 : m ^ n ≤ 4 ^ n := Nat.pow_le_pow_left hm n
  have h2 : 4 ^ n ≤ 4 ^ 6 := Nat.pow_le_pow_right (by decide) hn
  have h3 : 4 ^ 6 = 4096 := by decide
  omega
theorem rowsG_len {m : Nat} (hm : m ≤ 4) : ∀ n, n ≤ 6 → (rowsG m n).length ≤ 4096 * (n + 1)
  | 0, _ => by
    have : (rowsG m 0).length = 1 := rfl
    omega
  | n + 1, h => by
    rw [rowsG_succ, List.length_append, layG_len]
    have h1 := rowsG_len hm n (by omega)
    have h2 := pow_le hm h
    omega
section
variable {P : Program} {w : World} {K : PySem.W.Frag} {mg : Str → Option Value} {base : Heap}
def sp__law_rows (K : PySem.W.Frag) : Sp := fun vs H Q _ => ∃ m n : Nat, vs = [.int m, .int n] ∧ m ≤ 4 ∧ n ≤ 6 ∧ ∀ p us H', Same H H' → H p = none → H' p = some (.lst us) → Rows K H' us (rowsG m n) → Q (.ref p) H'
theorem ok__law_rows (T : Tx K mg) : FnOk P w K mg base CX0 1 T.f__law_rows T.d__law_rows ["m", "most"] (sp__law_rows K) := by
  refine T.F__law_rows.ok sc__law_rows (fun vs H Q E h => ?_) (fun cdv A outer s H vs Q E hr h => ?_)
  · obtain ⟨m, n, rfl, _⟩ := h; rfl
  · obtain ⟨m, n, rfl, hm, hn, q⟩ := h
    refine ⟨_, (pss_cons (ps_set (i := 2) sc__law_rows.nd rfl (Or.inl rfl) (pe_lst (pa_cons (pe_tup pa_nil) pa_nil)))
    (pss_cons (ps_set (i := 3) sc__law_rows.nd rfl (Or.inl rfl) (pe_lst (pa_cons (pe_tup pa_nil) pa_nil)))
    (pss_cons (ps_for PassesOwn.never rfl (pi_range1 rfl T.n_range (pa_cons (pv 1) pa_nil)) (pg_name (i := 4) sc__law_rows.nd rfl (Or.inl rfl))
    (pss_cons (ps_set (i := 5) sc__law_rows.nd rfl (Or.inl rfl) (pe_lst pa_nil))
    (pss_cons (ps_for PassesOwn.never rfl (pi_list (pv 3)) (pg_name (i := 6) sc__law_rows.nd rfl (Or.inl rfl))
    (pss_one (ps_for PassesOwn.never rfl (pi_range1 rfl T.n_range (pa_cons (pv 0) pa_nil)) (pg_name (i := 7) sc__law_rows.nd rfl (Or.inl rfl))
    (pss_one (ps_expr (pe_bm PySem.F.plainAttrs_list PySem.F.slot_list_append PySem.F.type_list_append mt_append (pv 5) (pa_cons (pe_op op_catA (pv 6) (pe_tup (pa_cons (pv 7) pa_nil))) pa_nil)))))))
    (pss_cons (ps_expr (pe_bm PySem.F.plainAttrs_list PySem.F.slot_list_extend PySem.F.type_list_extend mt_extend (pv 2) (pa_cons (pv 5) pa_nil)))
    (pss_one (ps_set (i := 3) sc__law_rows.nd rfl (Or.inl rfl) (pv 5)))))))
    (pss_one (ps_ret (pv 2)))))), ?_⟩
    refine ⟨Nat.zero_le _, fun e1 ne1 => ⟨small' (by simp), fun R nR => ?_⟩⟩
    refine ⟨Nat.zero_le _, fun e2 ne2 => ⟨small' (by simp), fun L nL => ?_⟩⟩
    have a1 : Same H (upd H e1 (.tup [])) := same_new ne1
    have nRH : H R = none := a1.free nR
    have a2 := same_new (o := .lst [.ref e1]) nR
    have a3 := same_new (o := .tup []) ne2
    have nLH : H L = none := ((a1.trans a2).trans a3).free nL
    have a4 := same_new (o := .lst [.ref e2]) nL
    have RL : R ≠ L := ne_of_none (a3 R _ upd_same) nL
    refine ⟨.int n, rfl, n, rfl, by omega, by omega, ?_⟩
    refine for_range0 (n := ((n : Nat) : Int).toNat) (fun i σ H' => ∃ (L : Addr) (vr vl : List V) (y4 y5 y6 y7 : Option V), σ = [some (.int m), some (.int n), some (.ref R), some (.ref L), y4, y5, y6, y7] ∧ Same H H' ∧ H L = none ∧ R ≠ L ∧ H' R = some (.lst vr) ∧ H' L = some (.lst vl) ∧ Rows K H' vr (rowsG m i) ∧ Rows K H' vl (layG m i))
      ⟨L, [.ref e1], [.ref e2], none, none, none, none, rfl, ((a1.trans a2).trans a3).trans a4, nLH, RL, a4 _ _ (a3 _ _ upd_same), upd_same, ?_, ?_⟩ (fun i σ H' lt h => ?_) (fun σ H' h => ?_)
    · exact .cons ⟨e1, rfl, a4 _ _ (a3 _ _ (a2 _ _ upd_same))⟩ .nil
    · exact .cons ⟨e2, rfl, a4 _ _ upd_same⟩ .nil
    · obtain ⟨L, vr, vl, y4, y5, y6, y7, rfl, sm, nLH, RL, hR, hL, gR, gL⟩ := h
      have ltn : i < n := by omega
      refine ⟨Nat.zero_le _, fun G nG => ?_⟩
      have nGH : H G = none := sm.free nG
      have RG : R ≠ G := ne_of_none hR nG
      have LG : L ≠ G := ne_of_none hL nG
      have b1 := same_new (o := .lst []) nG
      refine ⟨.ref L, rfl, L, rfl, ⟨_, .inl (.inl (b1 _ _ hL))⟩, ?_⟩
      refine for_list (K := K) (a := L) (xs := vl) (fun j σ H2 => ∃ (vg : List V) (y6 y7 : Option V), σ = [some (.int m), some (.int n), some (.ref R), some (.ref L), some (.int (i : Int)), some (.ref G), y6, y7] ∧ Same H H2 ∧ H2 R = some (.lst vr) ∧ H2 L = some (.lst vl) ∧ H2 G = some (.lst vg) ∧ Rows K H2 vr (rowsG m i) ∧ Rows K H2 vl (layG m i) ∧ Rows K H2 vg (((layG m i).take j).flatMap (extG m)))
        ⟨[], y6, y7, rfl, sm.trans b1, b1 _ _ hR, b1 _ _ hL, upd_same, gR.grow b1, gL.grow b1, .nil⟩ (fun j σ H2 _ h => ?_) (fun j x σ H2 ex h => ?_) (fun σ H2 h => ?_)
      · obtain ⟨_, _, _, _, _, _, hL2, _⟩ := h
        exact .inl (.inl hL2)
      · obtain ⟨vg, y6, y7, rfl, sm2, hR2, hL2, hG2, gR2, gL2, gG2⟩ := h
        have ltj : j < vl.length := (List.getElem?_eq_some_iff.mp ex).1
        have el : vl.length = m ^ i := (Paired.length gL).trans (layG_len m i)
        obtain ⟨r, er⟩ : ∃ r, (layG m i)[j]? = some r := ⟨_, List.getElem?_eq_getElem (by rw [← Paired.length gL]; exact ltj)⟩
        obtain ⟨pr, epr, hpr⟩ := gL2.get er
        have ex2 : x = .ref pr := Option.some.inj (ex.symm.trans epr)
        subst ex2
        have lg : vg.length ≤ 4096 * 4 := by
          have h1 := Paired.length gG2
          have h2 : (((layG m i).take j).flatMap (extG m)).length = ((layG m i).take j).length * m := by
            rw [List.length_flatMap]
            generalize (layG m i).take j = l
            induction l with
            | nil => simp
            | cons a l ih =>
              have : (extG m a).length = m := by unfold extG; rw [List.length_map, List.length_range]
              rw [List.map_cons, List.sum_cons, ih, List.length_cons, this, Nat.succ_mul, Nat.add_comm]
          have h3 : ((layG m i).take j).length ≤ 4096 := by
            rw [List.length_take, layG_len]
            have := pow_le hm (show i ≤ 6 by omega)
            omega
          have h4 : ((layG m i).take j).length * m ≤ 4096 * 4 := Nat.mul_le_mul h3 hm
          omega
        refine ⟨.int m, rfl, m, rfl, by omega, by omega, ?_⟩
        refine for_range0 (n := ((m : Nat) : Int).toNat) (fun t σ H3 => ∃ (vt : List V) (y7 : Option V), σ = [some (.int m), some (.int n), some (.ref R), some (.ref L), some (.int (i : Int)), some (.ref G), some (.ref pr), y7] ∧ Same H H3 ∧ H3 R = some (.lst vr) ∧ H3 L = some (.lst vl) ∧ H3 G = some (.lst vt) ∧ Rows K H3 vr (rowsG m i) ∧ Rows K H3 vl (layG m i) ∧ SqT K H3 pr (r.map V.int) ∧
            Rows K H3 vt (((layG m i).take j).flatMap (extG m) ++ (List.range t).map fun k => r ++ [((k : Nat) : Int)]) ∧ vt.length = vg.length + t)
          ⟨vg, y7, rfl, sm2, hR2, hL2, hG2, gR2, gL2, hpr, by rw [List.range_zero, List.map_nil, List.append_nil]; exact gG2, rfl⟩ (fun t σ H3 lt3 h => ?_) (fun σ H3 h => ?_)
        · obtain ⟨vt, y7, rfl, sm3, hR3, hL3, hG3, gR3, gL3, hp3, gt3, lt4⟩ := h
          refine ⟨.ref G, rfl, .inl ⟨rfl, _, .inl (.inl hG3)⟩, .ref pr, rfl, .int (t : Int), rfl, small' (by simp), fun c nc => ?_⟩
          have c1 := same_new (o := .tup [.int (t : Int)]) nc
          have fin : ∀ z H4, Same H3 H4 → H4 z = some (.tup ((r ++ [((t : Nat) : Int)]).map V.int)) → ∃ (vt' : List V) (y7 : Option V), ([some (.int m), some (.int n), some (.ref R), some (.ref L), some (.int (i : Int)), some (.ref G), some (.ref pr), some (.int (t : Int))] : L2.St) = [some (.int m), some (.int n), some (.ref R), some (.ref L), some (.int (i : Int)), some (.ref G), some (.ref pr), y7] ∧
              Same H (upd H4 G (.lst (vt ++ [.ref z]))) ∧ (upd H4 G (.lst (vt ++ [.ref z]))) R = some (.lst vr) ∧ (upd H4 G (.lst (vt ++ [.ref z]))) L = some (.lst vl) ∧ (upd H4 G (.lst (vt ++ [.ref z]))) G = some (.lst vt') ∧ Rows K (upd H4 G (.lst (vt ++ [.ref z]))) vr (rowsG m i) ∧ Rows K (upd H4 G (.lst (vt ++ [.ref z]))) vl (layG m i) ∧
              SqT K (upd H4 G (.lst (vt ++ [.ref z]))) pr (r.map V.int) ∧ Rows K (upd H4 G (.lst (vt ++ [.ref z]))) vt' (((layG m i).take j).flatMap (extG m) ++ (List.range (t + 1)).map fun k => r ++ [((k : Nat) : Int)]) ∧ vt'.length = vg.length + (t + 1) := fun z H4 s4 hz => by
            have hG4 := s4 _ _ hG3
            refine ⟨vt ++ [.ref z], some (.int (t : Int)), rfl, same_upd2 (sm3.trans s4) nGH, ?_, ?_, upd_same, (gR3.grow s4).upd hG4, (gL3.grow s4).upd hG4, seqT_upd hG4 (seqT_grow s4 hp3), ?_, ?_⟩
            · rw [upd_ne RG]; exact s4 _ _ hR3
            · rw [upd_ne LG]; exact s4 _ _ hL3
            · rw [List.range_succ, List.map_append, List.map_singleton, ← List.append_assoc]
              exact ((gt3.grow s4).upd hG4).app (.cons ⟨z, rfl, tup_upd hG4 hz⟩ .nil)
            · rw [List.length_append, lt4]; rfl
          have szt : vt.length < sizeLine := small (by omega)
          refine ⟨pr, c, r.map V.int, [.int (t : Int)], rfl, rfl, seqT_grow c1 hp3, .inl (.inl upd_same), ?_, fun er => ?_, fun _ z => ?_, fun nr _ d nd => ?_⟩
          · have := (layG_mem (List.mem_of_getElem? er)).1
            rw [List.length_map, this]
            exact small' (by show i + 1 ≤ 100000; omega)
          · have hGc := c1 _ _ hG3
            refine ⟨G, vt, .ref c, rfl, rfl, hGc, szt, ?_⟩
            refine fin c _ c1 ?_
            rw [List.map_append, er]
            exact upd_same
          · cases z
          · have d1 := same_new (o := .tup (r.map V.int ++ [.int (t : Int)])) nd
            have hGd := d1 _ _ (c1 _ _ hG3)
            refine ⟨G, vt, .ref d, rfl, rfl, hGd, szt, ?_⟩
            refine fin d _ (c1.trans d1) ?_
            rw [List.map_append]
            exact upd_same
        · obtain ⟨vt, y7, rfl, sm3, hR3, hL3, hG3, gR3, gL3, hp3, gt3, lt4⟩ := h
          refine ⟨vt, some (.ref pr), y7, rfl, sm3, hR3, hL3, hG3, gR3, gL3, ?_⟩
          have e5 : ((layG m i).take (j + 1)).flatMap (extG m) = ((layG m i).take j).flatMap (extG m) ++ (List.range ((m : Nat) : Int).toNat).map fun k => r ++ [((k : Nat) : Int)] := by
            rw [List.take_add_one, er, List.flatMap_append, Int.toNat_natCast]
            show _ = _ ++ extG m r
            simp
          rw [e5]
          exact gt3
      · obtain ⟨vg, y6, y7, rfl, sm2, hR2, hL2, hG2, gR2, gL2, gG2⟩ := h
        have el : vl.length = (layG m i).length := Paired.length gL
        rw [el, List.take_length] at gG2
        have gG3 : Rows K H2 vg (layG m (i + 1)) := gG2
        refine ⟨.ref R, rfl, .inl ⟨rfl, _, .inl (.inl hR2)⟩, .ref G, rfl, R, G, vr, vg, rfl, rfl, hR2, hG2, ?_, ?_⟩
        · have h1 := Paired.length gR
          have h2 := rowsG_len hm i (by omega)
          have h3 := Paired.length gG3
          rw [layG_len] at h3
          have h4 := pow_le hm (show i + 1 ≤ 6 by omega)
          refine small' ?_
          omega
        · refine ⟨.ref G, rfl, ?_⟩
          refine ⟨G, vr ++ vg, vg, some (.int (i : Int)), some (.ref G), y6, y7, rfl, same_upd2 sm2 nRH, nGH, RG, upd_same, ?_, ?_, gG3.upd hR2⟩
          · rw [upd_ne RG.symm]; exact hG2
          · rw [rowsG_succ]
            exact (gR2.upd hR2).app (gG3.upd hR2)
    · obtain ⟨L, vr, vl, y4, y5, y6, y7, rfl, sm, nLH, RL, hR, hL, gR, gL⟩ := h
      rw [Int.toNat_natCast] at gR
      exact ⟨.ref R, rfl, q R vr H' sm nRH hR gR⟩
end
end K2
set_option Elab.async false
set_option linter.all false
set_option maxRecDepth 100000
set_option maxHeartbeats 2000000
namespace K2
open PySem PySem.Spec PyProof.Rows L2 Ver
structure Bk where
  count : Int
  fin : List Int
  tab : List (List Int)
def BkAt (K : PySem.W.Frag) (H : Hp) (a : Addr) (B : Bk) : Prop := ∃ f t tv, SqT K H a [.int B.count, .ref f, .ref t] ∧ SqT K H f (B.fin.map V.int) ∧ SqT K H t tv ∧ Rows K H tv B.tab
theorem BkAt.grow {K : PySem.W.Frag} {H H' : Hp} {a : Addr} {B : Bk} (e : Same H H') (h : BkAt K H a B) : BkAt K H' a B := by
  obtain ⟨f, t, tv, h1, h2, h3, h4⟩ := h
  exact ⟨f, t, tv, seqT_grow e h1, seqT_grow e h2, seqT_grow e h3, h4.grow e⟩
structure Bk.Ok (B : Bk) (m : Nat) : Prop where
  any1 : 1 ≤ B.tab.length
  row : ∀ r ∈ B.tab, r.length = m ∧ ∀ x ∈ r, -1 ≤ x ∧ x < B.tab.length
def rowAt (tab : List (List Int)) (s : Int) : List Int := (tab[s.toNat]?).getD []
def cellG (tab : List (List Int)) (s t : Int) : Int := ((rowAt tab s)[t.toNat]?).getD 0
def runG (tab : List (List Int)) : Int → List Int → Int
  | s, [] => s
  | s, t :: r => if cellG tab s t < 0 then -1 else runG tab (cellG tab s t) r
theorem Bk.Ok.cell {B : Bk} {m : Nat} (o : B.Ok m) {s t : Int} (h0 : 0 ≤ s) (h1 : s < B.tab.length) (t0 : 0 ≤ t) (t1 : t < m) :
    B.tab[s.toNat]? = some (rowAt B.tab s) ∧ (rowAt B.tab s)[t.toNat]? = some (cellG B.tab s t) ∧ -1 ≤ cellG B.tab s t ∧ cellG B.tab s t < B.tab.length := by
  have lt : s.toNat < B.tab.length := by omega
  have e1 : B.tab[s.toNat]? = some B.tab[s.toNat] := List.getElem?_eq_getElem lt
  have er : rowAt B.tab s = B.tab[s.toNat] := by unfold rowAt; rw [e1]; rfl
  obtain ⟨lr, br⟩ := o.row _ (List.getElem_mem lt)
  rw [← er] at lr br
  have lt2 : t.toNat < (rowAt B.tab s).length := by omega
  have e2 : (rowAt B.tab s)[t.toNat]? = some (rowAt B.tab s)[t.toNat] := List.getElem?_eq_getElem lt2
  have ec : cellG B.tab s t = (rowAt B.tab s)[t.toNat] := by unfold cellG; rw [e2]; rfl
  obtain ⟨b1, b2⟩ := br _ (List.getElem_mem lt2)
  rw [← ec] at b1 b2
  exact ⟨by rw [er]; exact e1, by rw [ec]; exact e2, b1, b2⟩
theorem runG_step {tab : List (List Int)} {r : List Int} {i : Nat} {s t : Int} (e : r[i]? = some t) : runG tab s (r.drop i) = if cellG tab s t < 0 then -1 else runG tab (cellG tab s t) (r.drop (i + 1)) := by
  obtain ⟨lt, e'⟩ := List.getElem?_eq_some_iff.mp e
  rw [List.drop_eq_getElem_cons lt, e']
  rfl
section
variable {P : Program} {w : World} {K : PySem.W.Frag} {mg : Str → Option Value} {base : Heap}
def sp_state_after (K : PySem.W.Frag) : Sp := fun vs H Q _ => ∃ a B m p r, vs = [.ref a, .ref p] ∧ BkAt K H a B ∧ B.Ok m ∧ SqT K H p (r.map V.int) ∧ (∀ t : Int, t ∈ r → 0 ≤ t ∧ t < (m : Int)) ∧ Q (.int (runG B.tab 0 r)) H
theorem ok_state_after (T : Tx K mg) : FnOk P w K mg base CX0 1 T.f_state_after T.d_state_after ["book", "row"] (sp_state_after K) := by
  refine T.F_state_after.ok sc_state_after (fun vs H Q E h => ?_) (fun cdv A outer s H vs Q E hr h => ?_)
  · obtain ⟨a, B, m, p, r, rfl, _⟩ := h; rfl
  · obtain ⟨a, B, m, p, r, rfl, hB, hok, hp, hr2, q⟩ := h
    refine ⟨_, (pss_cons (ps_set (i := 2) sc_state_after.nd rfl (Or.inl rfl) (pe_ix ix_tup (pv 0) pe_int (fun _ _ => rfl)))
    (pss_cons (ps_set (i := 3) sc_state_after.nd rfl (Or.inl rfl) pe_int)
    (pss_cons (ps_for PassesOwn.never rfl (pi_tup (pv 1)) (pg_name (i := 4) sc_state_after.nd rfl (Or.inl rfl))
    (pss_cons (ps_set (i := 3) sc_state_after.nd rfl (Or.inl rfl) (pe_ix ix_tup (pe_ix ix_tup (pv 2) (pv 3) (fun _ _ => rfl)) (pv 4) (fun _ _ => rfl)))
    (pss_one (ps_if (pt_cmpR op_lt (pv 3) pe_int (nomark _)) (pss_one (ps_ret (pe_un un_neg pe_int))) pss_nil))))
    (pss_one (ps_ret (pv 3)))))), ?_⟩
    obtain ⟨f, tb, tv, s1, s2, s3, g1⟩ := hB
    refine ⟨.ref a, rfl, a, _, 2, .ref tb, rfl, rfl, s1, rfl, ?_⟩
    refine ⟨.ref p, rfl, p, rfl, ⟨_, hp⟩, ?_⟩
    refine for_tup (K := K) (a := p) (xs := r.map V.int) (fun i σ H' => H' = H ∧ ∃ s y, σ = [some (.ref a), some (.ref p), some (.ref tb), some (.int s), y] ∧ 0 ≤ s ∧ s < B.tab.length ∧ runG B.tab s (r.drop i) = runG B.tab 0 r) ⟨rfl, 0, none, rfl, by omega, by have := hok.any1; omega, rfl⟩ (fun i σ H' _ h => by rw [h.1]; exact hp) (fun i x σ H' ex h => ?_) (fun σ H' h => ?_)
    · obtain ⟨rfl, s, y, rfl, k0, k1, e⟩ := h
      rw [List.getElem?_map] at ex
      cases et : r[i]? with
      | none => rw [et] at ex; cases ex
      | some t =>
        rw [et] at ex
        have ex' : V.int t = x := Option.some.inj ex
        subst ex'
        obtain ⟨t0, t1⟩ := hr2 t (List.mem_of_getElem? et)
        obtain ⟨e1, e2, c0, c1⟩ := hok.cell k0 k1 t0 t1
        obtain ⟨pn, epn, hpn⟩ := g1.get e1
        refine ⟨.ref tb, rfl, .int s, rfl, tb, tv, s, _, rfl, rfl, s3, at_ref k0 epn, .int t, rfl, pn, _, t, _, rfl, rfl, hpn, at_map t0 e2, ?_⟩
        refine ⟨.int (cellG B.tab s t), rfl, _, _, rfl, rfl, _, rfl, ite2 (fun z => ?_) (fun z => ?_)⟩
        · have z1 := of_decide_eq_true z
          rw [runG_step et, if_pos z1] at e
          refine ⟨1, rfl, ?_⟩
          rw [← e] at q
          exact q
        · have z1 : ¬ cellG B.tab s t < 0 := fun z2 => z (decide_eq_true z2)
          rw [runG_step et, if_neg z1] at e
          exact ⟨rfl, _, some (.int t), rfl, by omega, c1, e⟩
    · obtain ⟨rfl, s, y, rfl, k0, k1, e⟩ := h
      rw [List.length_map, List.drop_length] at e
      have e' : s = runG B.tab 0 r := e
      refine ⟨.int s, rfl, ?_⟩
      rw [e']
      exact q

def sp_runs (K : PySem.W.Frag) (C : Addr) : Sp := fun vs H Q E => ∃ t ts a B x d, vs = [.ref t, .ref a, x] ∧ SqT K H t ts ∧ BkAt K H a B ∧ B.Ok ts.length ∧ Dp K H x d ∧ lenD d ≤ 1000 ∧
  (rowD ts.length d = false → Refuses C E H "row") ∧ (∀ r : List Int, d = .tuple (r.map PyData.int) → rowD ts.length d = true → ∀ H', Same H H' → Q (.int (runG B.tab 0 r)) H')
theorem ok_runs (T : Tx K mg) : FnOk P w K mg base (L2.CX P w) 6 T.f_runs T.d_runs ["tokens", "book", "row"] (sp_runs K T.C_NotUsable) := by
  refine T.F_runs.okX sc_runs (fun vs H Q E h => ?_) (fun cdv A outer s H vs Q E hr h => ?_)
  · obtain ⟨t, ts, a, B, x, d, rfl, _⟩ := h; rfl
  · obtain ⟨t, ts, a, B, x, d, rfl, hT, hB, hok, hd, hz, q1, q2⟩ := h
    refine ⟨_, (pss_cons (ps_expr (pe_call (ok_ask_row T) hr rfl T.g_ask_row T.F_ask_row.kp T.b_ask_row .nil (passes_call (takes_of rfl rfl rfl rfl) (fun _ _ _ _ h => h)) (pa_cons (pv 0) (pa_cons (pv 2) pa_nil))))
    (pss_one (ps_ret (pe_call (ok_state_after T) (hr.mono (by decide)) rfl T.g_state_after T.F_state_after.kp T.b_state_after .nil pass0 (pa_cons (pv 1) (pa_cons (pv 2) pa_nil)))))), ?_⟩
    refine ⟨.ref t, rfl, x, rfl, t, ts, x, d, rfl, hT, hd, hz, fun k H' sm => ?_, fun k => ?_⟩
    · obtain ⟨r, rfl, hr2⟩ := rowD_ints k
      obtain ⟨p, xs, rfl, hp, ha⟩ : ∃ p xs, x = .ref p ∧ SqT K H p xs ∧ DpAll K H xs (r.map PyData.int) := by
        cases hd with
        | tup hs ha => exact ⟨_, _, rfl, hs, ha⟩
      have ex := ints_of_dp ha
      subst ex
      exact ⟨.ref a, rfl, .ref p, rfl, a, B, ts.length, p, r, rfl, hB.grow sm, hok, seqT_grow sm hp, hr2, q2 r rfl k H' sm⟩
    · exact fun H' dd sm n => q1 k H' dd sm n

def finG (B : Bk) (s : Int) : Bool := inV (.int s) (B.fin.map V.int)
theorem flat_ints : ∀ r : List Int, (r.map V.int).all flatV = true
  | [] => rfl
  | _ :: r => flat_ints r
def sp_takes (K : PySem.W.Frag) (C : Addr) : Sp := fun vs H Q E => ∃ t ts a B x d, vs = [.ref t, .ref a, x] ∧ SqT K H t ts ∧ BkAt K H a B ∧ B.Ok ts.length ∧ Dp K H x d ∧ lenD d ≤ 1000 ∧
  (rowD ts.length d = false → Refuses C E H "row") ∧ (∀ r : List Int, d = .tuple (r.map PyData.int) → rowD ts.length d = true → ∀ H', Same H H' → Q (.bl (finG B (runG B.tab 0 r))) H')
theorem ok_takes (T : Tx K mg) : FnOk P w K mg base (L2.CX P w) 7 T.f_takes T.d_takes ["tokens", "book", "row"] (sp_takes K T.C_NotUsable) := by
  refine T.F_takes.okX sc_takes (fun vs H Q E h => ?_) (fun cdv A outer s H vs Q E hr h => ?_)
  · obtain ⟨t, ts, a, B, x, d, rfl, _⟩ := h; rfl
  · obtain ⟨t, ts, a, B, x, d, rfl, hT, hB, hok, hd, hz, q1, q2⟩ := h
    refine ⟨_, (pss_one (ps_ret (pe_cmpR op_in_seq (pe_call (ok_runs T) hr rfl T.g_runs T.F_runs.kp T.b_runs .nil (passes_call (takes_of rfl rfl rfl rfl) (fun _ _ _ _ h => h)) (pa_cons (pv 0) (pa_cons (pv 1) (pa_cons (pv 2) pa_nil)))) (pe_ix ix_tup (pv 1) pe_int (fun _ _ => rfl)) (by rfl)))), ?_⟩
    refine ⟨.ref t, rfl, .ref a, rfl, x, rfl, t, ts, a, B, x, d, rfl, hT, hB, hok, hd, hz, fun k H' dd sm n => q1 k H' dd sm n, fun r er k H' sm => ?_⟩
    obtain ⟨f, tb, tv, s1, s2, s3, g1⟩ := hB.grow sm
    refine ⟨.ref a, rfl, a, _, 1, .ref f, rfl, rfl, s1, rfl, f, _, rfl, .inr s2, rfl, flat_ints _, ?_⟩
    exact q2 r er k H' sm
theorem rep_one {α : Type} (n : Nat) (x : α) : (List.replicate n [x]).flatten = List.replicate n x := by
  induction n with
  | zero => rfl
  | succ n ih => rw [List.replicate_succ, List.flatten_cons, ih, List.replicate_succ]; rfl
theorem dp_rep {K : PySem.W.Frag} {H : Hp} (n : Nat) (i : Int) : DpAll K H (List.replicate n (.int i)) (List.replicate n (.int i)) := by
  induction n with
  | zero => exact .nil
  | succ n ih => rw [List.replicate_succ, List.replicate_succ]; exact .cons (.int i) ih
def sp_free_book (K : PySem.W.Frag) : Sp := fun vs H Q _ => ∃ t ts, vs = [.ref t] ∧ SqT K H t ts ∧ 1 ≤ ts.length ∧ ts.length ≤ 100 ∧
  ∀ a H', Same H H' → BkAt K H' a ⟨1, [0], [List.replicate ts.length 0]⟩ → Dp K H' (.ref a) (.tuple [.int 1, .tuple [.int 0], .tuple [.tuple (List.replicate ts.length (.int 0))]]) → Q (.ref a) H'
theorem ok_free_book (T : Tx K mg) : FnOk P w K mg base CX0 1 T.f_free_book T.d_free_book ["tokens"] (sp_free_book K) := by
  refine T.F_free_book.ok sc_free_book (fun vs H Q E h => ?_) (fun cdv A outer s H vs Q E hr h => ?_)
  · obtain ⟨t, ts, rfl, _⟩ := h; rfl
  · obtain ⟨t, ts, rfl, hT, n1, n2, q⟩ := h
    refine ⟨_, (pss_one (ps_ret (pe_tup (pa_cons pe_int (pa_cons (pe_tup (pa_cons pe_int pa_nil)) (pa_cons (pe_tup (pa_cons (pe_op op_repA (pe_tup (pa_cons pe_int pa_nil)) (pe_callB call_len_seq (by rfl) T.n_len (by decide +kernel) (pa_cons (pv 0) pa_nil))) pa_nil)) pa_nil)))))), ?_⟩
    refine ⟨small' (by decide), fun p1 np1 => ?_⟩
    have s1 : Same H (upd H p1 (.tup [.int 0])) := same_new np1
    have t1 : (upd H p1 (.tup [.int 0])) p1 = some (.tup [.int 0]) := upd_same
    generalize upd H p1 (.tup [.int 0]) = H1 at s1 t1 ⊢
    refine ⟨small' (by decide), fun p4 np4 => ?_⟩
    have s4 : Same H1 (upd H1 p4 (.tup [.int 0])) := same_new np4
    have t4 : (upd H1 p4 (.tup [.int 0])) p4 = some (.tup [.int 0]) := upd_same
    generalize upd H1 p4 (.tup [.int 0]) = H4 at s4 t4 ⊢
    have go : ∀ z H5, Same H4 H5 → H5 z = some (.tup (List.replicate ts.length (V.int 0))) → ∀ p6, H5 p6 = none → ∀ p7, (upd H5 p6 (.tup [.ref z])) p7 = none → Q (.ref p7) (upd (upd H5 p6 (.tup [.ref z])) p7 (.tup [.int 1, .ref p1, .ref p6])) := fun z H5 s5 tz p6 np6 p7 np7 => by
      have s6 : Same H5 (upd H5 p6 (.tup [.ref z])) := same_new np6
      have s7 := same_new (o := .tup [.int 1, .ref p1, .ref p6]) np7
      have f1 := s7 _ _ (s6 _ _ (s5 _ _ (s4 _ _ t1)))
      have f6 := s7 _ _ (upd_same (H := H5) (a := p6) (o := .tup [.ref z]))
      have fz := s7 _ _ (s6 _ _ tz)
      refine q _ _ ((((s1.trans s4).trans s5).trans s6).trans s7) ⟨p1, p6, [.ref z], .inl (.inl upd_same), .inl (.inl f1), .inl (.inl f6), .cons ⟨z, rfl, ?_⟩ .nil⟩ ?_
      · rw [fz, List.map_replicate]
      · exact .tup (.inl (.inl upd_same)) (.cons (.int _) (.cons (.tup (.inl (.inl f1)) (.cons (.int _) .nil)) (.cons (.tup (.inl (.inl f6)) (.cons (.tup (.inl (.inl fz)) (dp_rep _ _)) .nil)) .nil)))
    refine ⟨.ref t, rfl, t, ts, rfl, .inr (seqT_grow (s1.trans s4) hT), p4, _, [.int 0], rfl, rfl, .inl (.inl t4), by simp, by omega, by omega, by simp, fun z => ?_, fun z p5 np5 => ?_⟩
    · have z1 : ts.length = 1 := by omega
      refine ⟨small' (by simp), fun p6 np6 => ⟨small' (by simp), fun p7 np7 => ?_⟩⟩
      exact go p4 H4 (Same.refl _) (by rw [t4, z1]; rfl) p6 np6 p7 np7
    · refine ⟨small' (by simp), fun p6 np6 => ⟨small' (by simp), fun p7 np7 => ?_⟩⟩
      exact go p5 _ (same_new np5) (by rw [upd_same, Int.toNat_natCast, rep_one]) p6 np6 p7 np7
end
end K2
set_option Elab.async false
set_option linter.all false
set_option maxRecDepth 100000
set_option maxHeartbeats 2000000
namespace K2
open PySem PySem.Spec PyProof.Rows L2 Ver
def IsBRow (_ : PySem.W.Frag) (H : Hp) (v : V) (r : List Bool) : Prop := ∃ p, v = .ref p ∧ H p = some (.lst (r.map V.bl))
abbrev BRows (K : PySem.W.Frag) (H : Hp) (vs : List V) (rs : List (List Bool)) : Prop := Paired (IsBRow K H) vs rs
theorem BRows.grow {K : PySem.W.Frag} {H H' : Hp} (e : Same H H') : ∀ {vs : List V} {rs : List (List Bool)}, BRows K H vs rs → BRows K H' vs rs
  | _, _, .nil => .nil
  | _, _, .cons ⟨p, h1, h2⟩ t => .cons ⟨p, h1, e _ _ h2⟩ (BRows.grow e t)
theorem BRows.get {K : PySem.W.Frag} {H : Hp} : ∀ {vs : List V} {rs : List (List Bool)} {i : Nat} {r : List Bool}, BRows K H vs rs → rs[i]? = some r → ∃ p, vs[i]? = some (.ref p) ∧ H p = some (.lst (r.map V.bl))
  | _, _, i, r, .nil, e => by simp at e
  | _, _, 0, r, .cons ⟨p, h1, h2⟩ t, e => by
    have e' := Option.some.inj e
    subst e' h1
    exact ⟨p, rfl, h2⟩
  | _, _, i + 1, r, .cons _ t, e => BRows.get (i := i) t e
def BarAt (K : PySem.W.Frag) (H : Hp) (a : Addr) (bar : List (List Bool)) : Prop := ∃ bv, H a = some (.lst bv) ∧ BRows K H bv bar
theorem BarAt.grow {K : PySem.W.Frag} {H H' : Hp} {a : Addr} {bar : List (List Bool)} (e : Same H H') (h : BarAt K H a bar) : BarAt K H' a bar := by
  obtain ⟨bv, h1, h2⟩ := h
  exact ⟨bv, e _ _ h1, h2.grow e⟩
def Sqr (m : Nat) (bar : List (List Bool)) : Prop := bar.length = m ∧ ∀ r ∈ bar, r.length = m
def barG (bar : List (List Bool)) (t u : Int) : Bool := (((bar[t.toNat]?).getD [])[u.toNat]?).getD false
theorem bar_at {m : Nat} {bar : List (List Bool)} (q : Sqr m bar) {t u : Int} (t0 : 0 ≤ t) (t1 : t < m) (u0 : 0 ≤ u) (u1 : u < m) : ∃ r, bar[t.toNat]? = some r ∧ r[u.toNat]? = some (barG bar t u) := by
  obtain ⟨q1, q2⟩ := q
  have lt : t.toNat < bar.length := by omega
  have e1 : bar[t.toNat]? = some bar[t.toNat] := List.getElem?_eq_getElem lt
  have lr := q2 _ (List.getElem_mem lt)
  have lt2 : u.toNat < bar[t.toNat].length := by omega
  refine ⟨_, e1, ?_⟩
  unfold barG
  rw [e1]
  show _ = some ((bar[t.toNat][u.toNat]?).getD false)
  rw [List.getElem?_eq_getElem lt2]
  rfl
theorem at_bl {r : List Bool} {u : Int} {b : Bool} (u0 : 0 ≤ u) (e : r[u.toNat]? = some b) : atI (r.map V.bl) u = some (.bl b) := by
  have e0 : u = ((u.toNat : Nat) : Int) := by omega
  rw [e0]
  exact atI_nat (j := u.toNat) (by rw [List.getElem?_map, e]; rfl)
def letG (bar : List (List Bool)) : List Int → Bool
  | t :: u :: r => !barG bar t u && letG bar (u :: r)
  | _ => true
theorem let_step {bar : List (List Bool)} {r : List Int} {i : Nat} {t u : Int} (e1 : r[i]? = some t) (e2 : r[i + 1]? = some u) : letG bar (r.drop i) = (!barG bar t u && letG bar (r.drop (i + 1))) := by
  obtain ⟨lt, e'⟩ := List.getElem?_eq_some_iff.mp e1
  obtain ⟨lt2, e2'⟩ := List.getElem?_eq_some_iff.mp e2
  rw [List.drop_eq_getElem_cons lt, List.drop_eq_getElem_cons lt2, e', e2']
  rfl
theorem let_end {bar : List (List Bool)} {r : List Int} {i : Nat} (h : r.length ≤ i + 1) : letG bar (r.drop i) = true := by
  cases e : r.drop i with
  | nil => rfl
  | cons x l =>
    have hl := congrArg List.length e
    rw [List.length_drop, List.length_cons] at hl
    have : l = [] := List.eq_nil_of_length_eq_zero (by omega)
    rw [this]
    rfl
section
variable {P : Program} {w : World} {K : PySem.W.Frag} {mg : Str → Option Value} {base : Heap}
def sp__law_run (K : PySem.W.Frag) : Sp := fun vs H Q _ => ∃ a tv B m p r, vs = [.ref a, .ref p] ∧ SqT K H a tv ∧ Rows K H tv B.tab ∧ Bk.Ok B m ∧ SqT K H p (r.map V.int) ∧ (∀ t : Int, t ∈ r → 0 ≤ t ∧ t < (m : Int)) ∧ Q (.int (runG B.tab 0 r)) H
theorem ok__law_run (T : Tx K mg) : FnOk P w K mg base CX0 1 T.f__law_run T.d__law_run ["table", "row"] (sp__law_run K) := by
  refine T.F__law_run.ok sc__law_run (fun vs H Q E h => ?_) (fun cdv A outer s H vs Q E hr h => ?_)
  · obtain ⟨a, tv, B, m, p, r, rfl, _⟩ := h; rfl
  · obtain ⟨a, tv, B, m, p, r, rfl, s3, g1, hok, hp, hr2, q⟩ := h
    refine ⟨_, (pss_cons (ps_set (i := 2) sc__law_run.nd rfl (Or.inl rfl) pe_int)
    (pss_cons (ps_for PassesOwn.never rfl (pi_tup (pv 1)) (pg_name (i := 3) sc__law_run.nd rfl (Or.inl rfl))
    (pss_one (ps_if (pt_cmpR op_ge (pv 2) pe_int (nomark _)) (pss_one (ps_set (i := 2) sc__law_run.nd rfl (Or.inl rfl) (pe_ix ix_tup (pe_ix ix_tup (pv 0) (pv 2) (fun _ _ => rfl)) (pv 3) (fun _ _ => rfl)))) pss_nil)))
    (pss_one (ps_ret (pv 2))))), ?_⟩
    refine ⟨.ref p, rfl, p, rfl, ⟨_, hp⟩, ?_⟩
    refine for_tup (K := K) (a := p) (xs := r.map V.int) (fun i σ H' => H' = H ∧ ∃ s y, σ = [some (.ref a), some (.ref p), some (.int s), y] ∧ ((0 ≤ s ∧ s < B.tab.length ∧ runG B.tab s (r.drop i) = runG B.tab 0 r) ∨ (s = -1 ∧ runG B.tab 0 r = -1))) ⟨rfl, 0, none, rfl, .inl ⟨by omega, by have := hok.any1; omega, rfl⟩⟩ (fun i σ H' _ h => by rw [h.1]; exact hp) (fun i x σ H' ex h => ?_) (fun σ H' h => ?_)
    · obtain ⟨rfl, s, y, rfl, h⟩ := h
      rw [List.getElem?_map] at ex
      cases et : r[i]? with
      | none => rw [et] at ex; cases ex
      | some t =>
        rw [et] at ex
        have ex' : V.int t = x := Option.some.inj ex
        subst ex'
        obtain ⟨t0, t1⟩ := hr2 t (List.mem_of_getElem? et)
        refine ⟨.int s, rfl, _, _, rfl, rfl, _, rfl, ite2 (fun z => ?_) (fun z => ?_)⟩
        · have z1 : s ≥ 0 := of_decide_eq_true z
          rcases h with ⟨k0, k1, e⟩ | ⟨h1, _⟩
          · obtain ⟨e1, e2, c0, c1⟩ := hok.cell k0 k1 t0 t1
            obtain ⟨pn, epn, hpn⟩ := g1.get e1
            refine ⟨.ref a, rfl, .int s, rfl, a, tv, s, _, rfl, rfl, s3, at_ref k0 epn, .int t, rfl, pn, _, t, _, rfl, rfl, hpn, at_map t0 e2, ?_⟩
            refine ⟨rfl, _, some (.int t), rfl, ?_⟩
            rw [runG_step et] at e
            by_cases c : cellG B.tab s t < 0
            · rw [if_pos c] at e
              exact .inr ⟨by omega, e.symm⟩
            · rw [if_neg c] at e
              exact .inl ⟨by omega, c1, e⟩
          · omega
        · have z1 : ¬ s ≥ 0 := fun z2 => z (decide_eq_true z2)
          rcases h with ⟨k0, _, _⟩ | h
          · omega
          · exact ⟨rfl, s, some (.int t), rfl, .inr h⟩
    · obtain ⟨rfl, s, y, rfl, h⟩ := h
      refine ⟨.int s, rfl, ?_⟩
      rcases h with ⟨_, _, e⟩ | ⟨h1, h2⟩
      · rw [List.length_map, List.drop_length] at e
        have e' : s = runG B.tab 0 r := e
        rw [e']
        exact q
      · rw [h1, ← h2]
        exact q
def sp__law_let (K : PySem.W.Frag) : Sp := fun vs H Q _ => ∃ p r a bar m, vs = [.ref p, .ref a] ∧ SqT K H p (r.map V.int) ∧ r.length ≤ 1000 ∧ BarAt K H a bar ∧ Sqr m bar ∧ (∀ t : Int, t ∈ r → 0 ≤ t ∧ t < (m : Int)) ∧ Q (.bl (letG bar r)) H
theorem ok__law_let (T : Tx K mg) : FnOk P w K mg base CX0 1 T.f__law_let T.d__law_let ["row", "barred"] (sp__law_let K) := by
  refine T.F__law_let.ok sc__law_let (fun vs H Q E h => ?_) (fun cdv A outer s H vs Q E hr h => ?_)
  · obtain ⟨p, r, a, bar, m, rfl, _⟩ := h; rfl
  · obtain ⟨p, r, a, bar, m, rfl, hp, hz, ⟨bv, hb, hrows⟩, sq, br, q⟩ := h
    refine ⟨_, (pss_cons (ps_for PassesOwn.never rfl (pi_range1 rfl T.n_range (pa_cons (pe_op op_sub (pe_callB call_len_seq (by rfl) T.n_len (by decide +kernel) (pa_cons (pv 0) pa_nil)) pe_int) pa_nil)) (pg_name (i := 2) sc__law_let.nd rfl (Or.inl rfl))
    (pss_one (ps_if (pt_val (pe_ix ix_list (pe_ix ix_list (pv 1) (pe_ix ix_tup (pv 0) (pv 2) (fun _ _ => rfl)) (fun _ _ => rfl)) (pe_ix ix_tup (pv 0) (pe_op op_add (pv 2) pe_int) (fun _ _ => rfl)) (fun _ _ => rfl))) (pss_one (ps_ret pe_bl)) pss_nil)))
    (pss_one (ps_ret pe_bl))), ?_⟩
    refine ⟨.ref p, rfl, p, _, rfl, .inr hp, _, _, rfl, rfl, _, rfl, by rw [List.length_map]; omega, by rw [List.length_map]; omega, ?_⟩
    refine for_range0 (n := (((r.map V.int).length : Int) - 1).toNat) (fun j σ H2 => H2 = H ∧ ∃ y, σ = [some (.ref p), some (.ref a), y] ∧ letG bar (r.drop j) = letG bar r) ⟨rfl, none, rfl, rfl⟩ (fun j σ H2 lt h => ?_) (fun σ H2 h => ?_)
    · obtain ⟨rfl, y, rfl, e⟩ := h
      rw [List.length_map] at lt
      have l1 : j < r.length := by omega
      have l2 : j + 1 < r.length := by omega
      have e1 : r[j]? = some r[j] := List.getElem?_eq_getElem l1
      have e2 : r[j + 1]? = some r[j + 1] := List.getElem?_eq_getElem l2
      obtain ⟨t0, t1⟩ := br _ (List.getElem_mem l1)
      obtain ⟨u0, u1⟩ := br _ (List.getElem_mem l2)
      generalize r[j] = t at e1 t0 t1
      generalize r[j + 1] = u at e2 u0 u1
      obtain ⟨rw', g1, g2⟩ := bar_at sq t0 t1 u0 u1
      obtain ⟨pn, epn, hpn⟩ := hrows.get g1
      refine ⟨.ref a, rfl, .ref p, rfl, .int (j : Int), rfl, p, _, (j : Int), _, rfl, rfl, hp, atI_nat (j := j) (by rw [List.getElem?_map, e1]; rfl), a, bv, t, _, rfl, rfl, .inl (.inl hb), at_ref t0 epn, ?_⟩
      refine ⟨.ref p, rfl, .int (j : Int), rfl, (j : Int), 1, rfl, rfl, p, _, ((j + 1 : Nat) : Int), _, rfl, rfl, hp, atI_nat (j := j + 1) (by rw [List.getElem?_map, e2]; rfl), pn, _, u, _, rfl, rfl, .inl (.inl hpn), at_bl u0 g2, ?_⟩
      rw [let_step e1 e2] at e
      refine ⟨_, rfl, ite2 (fun z => ?_) (fun z => ?_)⟩
      · rw [z] at e
        have e' : false = letG bar r := e
        show Q (.bl false) H2
        rw [e']
        exact q
      · refine ⟨rfl, some (.int (j : Int)), rfl, ?_⟩
        rw [show barG bar t u = false from Bool.eq_false_iff.mpr z] at e
        exact e
    · obtain ⟨rfl, y, rfl, e⟩ := h
      show Q (.bl true) H2
      rw [let_end (by rw [List.length_map]; omega)] at e
      rw [e]
      exact q
end
end K2
set_option Elab.async false
set_option linter.all false
set_option maxRecDepth 100000
set_option maxHeartbeats 2000000
namespace K2
open PySem PySem.Spec PyProof.Rows L2 Ver
abbrev Lay (H : Hp) (as : List Addr) (bs : List (List Bool)) : Prop := Paired (fun a r => H a = some (.lst (r.map V.bl))) as bs
theorem Lay.same {H H' : Hp} {as : List Addr} {bs : List (List Bool)} (h : Lay H as bs) (e : ∀ a ∈ as, ∀ o, H a = some o → H' a = some o) : Lay H' as bs := by
  induction h with
  | nil => exact .nil
  | cons h1 _ ih => exact .cons (e _ List.mem_cons_self _ h1) (ih fun a ha => e a (List.mem_cons_of_mem _ ha))
theorem Lay.put {H : Hp} {a : Addr} {r : List Bool} : ∀ {as : List Addr} {bs : List (List Bool)} {t : Nat}, as.Nodup → Lay H as bs → as[t]? = some a → Lay (upd H a (.lst (r.map V.bl))) as (bs.set t r)
  | _, _, t, _, .nil, e => by simp at e
  | a0 :: as, b0 :: bs, 0, nd, .cons h1 h2, e => by
    have e' : a0 = a := Option.some.inj e
    subst e'
    have nd' := List.nodup_cons.mp nd
    exact .cons upd_same (Lay.same h2 fun x hx o ho => by rw [upd_ne (fun z => nd'.1 (by rw [← z]; exact hx))]; exact ho)
  | a0 :: as, b0 :: bs, t + 1, nd, .cons h1 h2, e => by
    have nd' := List.nodup_cons.mp nd
    have hm : a ∈ as := List.mem_of_getElem? (i := t) e
    refine .cons ?_ (Lay.put (t := t) nd'.2 h2 e)
    rw [upd_ne (fun z => nd'.1 (by rw [z]; exact hm))]
    exact h1
theorem Lay.brows {K : PySem.W.Frag} {H : Hp} {as : List Addr} {bs : List (List Bool)} (h : Lay H as bs) : BRows K H (as.map V.ref) bs := by
  induction h with
  | nil => exact .nil
  | cons h1 _ ih => exact .cons ⟨_, rfl, h1⟩ ih
theorem Lay.get {H : Hp} : ∀ {as : List Addr} {bs : List (List Bool)} {i : Nat} {r : List Bool}, Lay H as bs → bs[i]? = some r → ∃ p, as[i]? = some p ∧ H p = some (.lst (r.map V.bl))
  | _, _, i, r, .nil, e => by simp at e
  | _, _, 0, r, .cons h _, e => by
    have e' := Option.some.inj e
    subst e'
    exact ⟨_, rfl, h⟩
  | _, _, i + 1, r, .cons _ t, e => Lay.get (i := i) t e
theorem Lay.there {H : Hp} {as : List Addr} {bs : List (List Bool)} (h : Lay H as bs) : ∀ a ∈ as, ∃ o, H a = some o := by
  induction h with
  | nil => exact fun a ha => absurd ha List.not_mem_nil
  | cons h1 _ ih =>
    intro a ha
    rcases List.mem_cons.mp ha with rfl | ha
    · exact ⟨_, h1⟩
    · exact ih a ha
theorem nodup_snoc {as : List Addr} {D : Addr} (nd : as.Nodup) (h : D ∉ as) : (as ++ [D]).Nodup := List.pairwise_append.mpr ⟨nd, List.pairwise_singleton _ _, fun a ha b hb => by
  rw [List.mem_singleton.mp hb]
  exact fun z => h (by rw [← z]; exact ha)⟩
def PairAt (_ : PySem.W.Frag) (H : Hp) (v : V) (q : Int × Int) : Prop := ∃ a, v = .ref a ∧ H a = some (.tup [.int q.1, .int q.2])
abbrev PairsAt (K : PySem.W.Frag) (H : Hp) (vs : List V) (qs : List (Int × Int)) : Prop := Paired (PairAt K H) vs qs
theorem PairsAt.grow {K : PySem.W.Frag} {H H' : Hp} (e : Same H H') {vs : List V} {qs : List (Int × Int)} (h : PairsAt K H vs qs) : PairsAt K H' vs qs := by
  induction h with
  | nil => exact .nil
  | cons h1 _ ih =>
    obtain ⟨a, h1, h2⟩ := h1
    exact .cons ⟨a, h1, e _ _ h2⟩ ih
theorem PairsAt.getT {K : PySem.W.Frag} {H : Hp} : ∀ {vs : List V} {qs : List (Int × Int)} {i : Nat} {v : V}, PairsAt K H vs qs → vs[i]? = some v → ∃ q a, qs[i]? = some q ∧ v = .ref a ∧ H a = some (.tup [.int q.1, .int q.2])
  | _, _, i, v, .nil, e => by simp at e
  | _, _, 0, v, .cons ⟨a, h1, h2⟩ t, e => by
    have e' := Option.some.inj e
    subst e' h1
    exact ⟨_, a, rfl, rfl, h2⟩
  | _, _, i + 1, v, .cons _ t, e => PairsAt.getT (i := i) t e
theorem PairsAt.get {K : PySem.W.Frag} {H : Hp} {vs : List V} {qs : List (Int × Int)} {i : Nat} {v : V} (h : PairsAt K H vs qs) (e : vs[i]? = some v) : ∃ q a, qs[i]? = some q ∧ v = .ref a ∧ SqT K H a [.int q.1, .int q.2] := by
  obtain ⟨q, a, h1, h2, h3⟩ := h.getT e
  exact ⟨q, a, h1, h2, .inl (.inl h3)⟩
def setBar (b : List (List Bool)) (q : Int × Int) : List (List Bool) := b.set q.1.toNat (((b[q.1.toNat]?).getD []).set q.2.toNat true)
def barOf (m : Nat) (qs : List (Int × Int)) : List (List Bool) := qs.foldl setBar (List.replicate m (List.replicate m false))
theorem sqr_rep (m : Nat) : Sqr m (List.replicate m (List.replicate m false)) := ⟨List.length_replicate, fun r hr => by rw [List.eq_of_mem_replicate hr]; exact List.length_replicate⟩
theorem sqr_set {m : Nat} {b : List (List Bool)} {q : Int × Int} (h : Sqr m b) (t0 : 0 ≤ q.1) (t1 : q.1 < m) : Sqr m (setBar b q) := by
  obtain ⟨h1, h2⟩ := h
  have lt : q.1.toNat < b.length := by omega
  have e : b[q.1.toNat]? = some b[q.1.toNat] := List.getElem?_eq_getElem lt
  unfold setBar
  rw [e]
  refine ⟨by rw [List.length_set]; exact h1, fun r hr => ?_⟩
  rcases List.mem_or_eq_of_mem_set hr with hr | hr
  · exact h2 r hr
  · rw [hr]
    show (b[q.1.toNat].set q.2.toNat true).length = m
    rw [List.length_set]
    exact h2 _ (List.getElem_mem lt)
def InM (m : Nat) (q : Int × Int) : Prop := 0 ≤ q.1 ∧ q.1 < m ∧ 0 ≤ q.2 ∧ q.2 < m
theorem sqr_fold {m : Nat} : ∀ (qs : List (Int × Int)) (b : List (List Bool)), Sqr m b → (∀ q ∈ qs, InM m q) → Sqr m (qs.foldl setBar b)
  | [], b, h, _ => h
  | q :: qs, b, h, hq => by
    obtain ⟨t0, t1, _, _⟩ := hq q List.mem_cons_self
    exact sqr_fold qs _ (sqr_set h t0 t1) fun q' h' => hq q' (List.mem_cons_of_mem _ h')
section
variable {P : Program} {w : World} {K : PySem.W.Frag} {mg : Str → Option Value} {base : Heap}
def sp__law_barred (K : PySem.W.Frag) : Sp := fun vs H Q _ => ∃ (m : Nat) (p : Addr) (pl : List V) (qs : List (Int × Int)), vs = [.int m, .ref p] ∧ m ≤ 100 ∧ SqT K H p pl ∧ PairsAt K H pl qs ∧ (∀ q ∈ qs, InM m q) ∧
  ∀ a H', Same H H' → BarAt K H' a (barOf m qs) → Q (.ref a) H'
theorem ok__law_barred (T : Tx K mg) : FnOk P w K mg base CX0 1 T.f__law_barred T.d__law_barred ["m", "pairs"] (sp__law_barred K) := by
  refine T.F__law_barred.ok sc__law_barred (fun vs H Q E h => ?_) (fun cdv A outer s H vs Q E hr h => ?_)
  · obtain ⟨m, p, pl, qs, rfl, _⟩ := h; rfl
  · obtain ⟨m, p, pl, qs, rfl, m1, hp, hq, hin, q⟩ := h
    refine ⟨_, (pss_cons (ps_set (i := 2) sc__law_barred.nd rfl (Or.inl rfl) (pe_lst pa_nil))
    (pss_cons (ps_for PassesOwn.never rfl (pi_range1 rfl T.n_range (pa_cons (pv 0) pa_nil)) (pg_name (i := 3) sc__law_barred.nd rfl (Or.inl rfl))
    (pss_one (ps_expr (pe_bm PySem.F.plainAttrs_list PySem.F.slot_list_append PySem.F.type_list_append mt_append (pv 2) (pa_cons (pe_lc (own := [("u", 4)]) (g := gName 4) (tt := tYes) (by rfl) sc__law_barred.nd (pi_range1 rfl T.n_range (pa_cons (pv 0) pa_nil)) (blkOk_by (N := ["m", "pairs", "barred", "t", "u", "row"]) (sc := defScope s__law_barred) (by decide +kernel)) (fun _ _ _ _ _ => (pg_name (i := 4) sc__law_barred.nd rfl (Or.inl rfl))) (fun _ _ _ _ _ => pts_nil) (fun _ _ _ _ _ => pe_bl)) pa_nil)))))
    (pss_cons (ps_for PassesOwn.never rfl (pi_tup (pv 1)) (pg_tup (by rfl) (pgs_cons (pg_name (i := 3) sc__law_barred.nd rfl (Or.inl rfl)) (pgs_cons (pg_name (i := 4) sc__law_barred.nd rfl (Or.inl rfl)) pgs_nil)))
    (pss_cons (ps_set (i := 5) sc__law_barred.nd rfl (Or.inl rfl) (pe_ix ix_list (pv 2) (pv 3) (fun _ _ => rfl)))
    (pss_one (ps_asg pe_bl (pg_sub (pv 5) (pv 4) set_list)))))
    (pss_one (ps_ret (pv 2)))))), ?_⟩
    refine ⟨small' (by simp), fun L nL => ?_⟩
    refine ⟨.int m, rfl, (m : Int), rfl, by omega, by omega, ?_⟩
    refine for_range0 (n := (m : Int).toNat) (fun i σ H' => ∃ (y3 : Option V) (as : List Addr), σ = [some (.int m), some (.ref p), some (.ref L), y3, none, none] ∧ Same H H' ∧ H' L = some (.lst (as.map V.ref)) ∧ as.length = i ∧ as.Nodup ∧ (∀ a ∈ as, a ≠ L ∧ H a = none) ∧ Lay H' as (List.replicate i (List.replicate m false)))
      ⟨none, [], rfl, same_new nL, upd_same, rfl, List.nodup_nil, by simp, .nil⟩ (fun i σ H' lt h => ?_) (fun σ H' h => ?_)
    · obtain ⟨y3, as, rfl, sm, hL, la, nd, fr, ly⟩ := h
      refine ⟨.ref L, rfl, .inl ⟨rfl, _, .inl (.inl hL)⟩, .int m, rfl, (m : Int), rfl, by omega, by omega, fun D nD => ?_⟩
      refine comp_range (n := (m : Int).toNat) (i := 4) (fun acc H5 => Same H' H5 ∧ acc = List.replicate acc.length (V.bl false)) ⟨same_new nD, rfl⟩ (fun acc H5 la h hD => ?_) (fun acc H3 la2 h hD => ?_)
      · obtain ⟨s5, ea⟩ := h
        exact turned hD (small (by omega)) ⟨same_upd2 s5 nD, by rw [List.length_append, List.length_singleton, List.replicate_succ', ← ea]⟩
      obtain ⟨s3, ea⟩ := h
      rw [la2] at ea
      replace ea : acc = (List.replicate m false).map V.bl := by rw [ea, List.map_replicate]; rfl
      subst ea
      have DL : D ≠ L := fun z => by rw [z, hL] at nD; cases nD
      refine ⟨L, _, _, rfl, rfl, s3 _ _ hL, small (by rw [List.length_map]; omega), ?_⟩
      refine ⟨some (.int (i : Int)), as ++ [D], rfl, same_upd2 (sm.trans s3) nL, by rw [upd_same, List.map_append]; rfl, by rw [List.length_append, la]; rfl, nodup_snoc nd (fun z => ?_), fun a ha => ?_, ?_⟩
      · obtain ⟨o, ho⟩ := ly.there D z
        rw [nD] at ho
        cases ho
      · rcases List.mem_append.mp ha with ha | ha
        · exact fr a ha
        · rw [List.mem_singleton.mp ha]
          exact ⟨DL, sm.free nD⟩
      · rw [List.replicate_succ']
        refine Paired.snoc (Lay.same ly fun a ha o ho => ?_) ?_
        · rw [upd_ne (fr a ha).1]
          exact s3 _ _ ho
        · rw [upd_ne DL]
          exact hD
    · obtain ⟨y3, as, rfl, sm, hL, la, nd, fr, ly⟩ := h
      have em : (m : Int).toNat = m := by omega
      rw [em] at la ly
      refine ⟨.ref p, rfl, p, rfl, ⟨_, seqT_grow sm hp⟩, ?_⟩
      refine for_tup (K := K) (a := p) (xs := pl) (fun i σ H2 => ∃ (y3 y4 y5 : Option V), σ = [some (.int m), some (.ref p), some (.ref L), y3, y4, y5] ∧ Same H H2 ∧ H2 L = some (.lst (as.map V.ref)) ∧ Lay H2 as ((qs.take i).foldl setBar (List.replicate m (List.replicate m false))) ∧ PairsAt K H2 pl qs ∧ SqT K H2 p pl)
        ⟨y3, none, none, rfl, sm, hL, ly, PairsAt.grow sm hq, seqT_grow sm hp⟩ (fun i σ H2 _ h => ?_) (fun i x σ H2 ex h => ?_) (fun σ H2 h => ?_)
      · obtain ⟨_, _, _, _, _, _, _, _, k⟩ := h
        exact k
      · obtain ⟨y3, y4, y5, rfl, sm2, hL2, ly2, hq2, hp2⟩ := h
        obtain ⟨qq, aq, eq, rfl, hs⟩ := PairsAt.get hq2 ex
        obtain ⟨t0, t1, u0, u1⟩ := hin qq (List.mem_of_getElem? eq)
        have sq := sqr_fold (qs.take i) _ (sqr_rep m) fun q' h' => hin q' (List.mem_of_mem_take h')
        have ltb : qq.1.toNat < ((qs.take i).foldl setBar (List.replicate m (List.replicate m false))).length := by rw [sq.1]; omega
        have eb := List.getElem?_eq_getElem ltb
        obtain ⟨pa, epa, hpa⟩ := Lay.get ly2 eb
        have lr := sq.2 _ (List.getElem_mem ltb)
        have epr : (as.map V.ref)[qq.1.toNat]? = some (.ref pa) := by rw [List.getElem?_map, epa]; rfl
        refine ⟨aq, _, rfl, hs, rfl, .int qq.1, _, rfl, .int qq.2, _, rfl, rfl, ?_⟩
        refine ⟨.ref L, rfl, .int qq.1, rfl, L, _, qq.1, _, rfl, rfl, .inl (.inl hL2), at_ref t0 epr, ?_⟩
        have ham : pa ∈ as := List.mem_of_getElem? epa
        obtain ⟨paL, pan⟩ := fr pa ham
        generalize ((qs.take i).foldl setBar (List.replicate m (List.replicate m false)))[qq.1.toNat] = r0 at eb hpa lr
        have ix : ixN (r0.map V.bl).length qq.2 = some qq.2.toNat := by
          unfold ixN
          rw [if_pos u0, if_pos (by rw [List.length_map]; omega)]
        refine ⟨.ref pa, rfl, .int qq.2, rfl, pa, _, qq.2, _, rfl, rfl, hpa, ix, ?_⟩
        rw [show (r0.map V.bl).set qq.2.toNat (.bl true) = (r0.set qq.2.toNat true).map V.bl from (List.map_set ..).symm]
        have sm3 : Same H (upd H2 pa (.lst ((r0.set qq.2.toNat true).map V.bl))) := same_upd2 sm2 pan
        refine ⟨some (.int qq.1), some (.int qq.2), some (.ref pa), rfl, sm3, by rw [upd_ne (Ne.symm paL)]; exact hL2, ?_, PairsAt.grow sm3 hq, seqT_grow sm3 hp⟩
        rw [List.take_add_one, eq]
        show Lay _ as (((qs.take i) ++ [qq]).foldl setBar _)
        rw [List.foldl_append]
        show Lay _ as (setBar ((qs.take i).foldl setBar _) qq)
        unfold setBar
        rw [show (List.foldl (fun b (q : Int × Int) => b.set q.1.toNat (((b[q.1.toNat]?).getD []).set q.2.toNat true)) (List.replicate m (List.replicate m false)) (qs.take i)) = (qs.take i).foldl setBar (List.replicate m (List.replicate m false)) from rfl, eb]
        exact Lay.put nd ly2 epa
      · obtain ⟨y3, y4, y5, rfl, sm2, hL2, ly2, _, _⟩ := h
        have el : pl.length = qs.length := Paired.length hq
        rw [el, List.take_length] at ly2
        exact ⟨.ref L, rfl, q L H2 sm2 ⟨_, hL2, Lay.brows ly2⟩⟩
end
end K2
set_option Elab.async false
set_option linter.all false
set_option maxRecDepth 100000
set_option maxHeartbeats 2000000
namespace K2
open PySem PySem.Spec PyProof.Rows L2 Ver
theorem hu65 {k : Nat} {A : Around} (hr : Room k A) : A.units + 65 < cLine := by have := hr.un; omega
def uniq {α : Type} [DecidableEq α] : List α → List α → List α
  | acc, [] => acc
  | acc, x :: r => uniq (if x ∈ acc then acc else acc ++ [x]) r
theorem uniq_snoc {α : Type} [DecidableEq α] (x : α) : ∀ (l acc : List α), uniq acc (l ++ [x]) = if x ∈ uniq acc l then uniq acc l else uniq acc l ++ [x]
  | [], acc => rfl
  | y :: l, acc => uniq_snoc x l _
theorem uniq_len {α : Type} [DecidableEq α] : ∀ (l acc : List α), (uniq acc l).length ≤ acc.length + l.length
  | [], acc => Nat.le_refl _
  | y :: l, acc => by
    by_cases c : y ∈ acc
    · have := uniq_len l acc
      show (uniq (if y ∈ acc then acc else acc ++ [y]) l).length ≤ acc.length + (l.length + 1)
      rw [if_pos c]
      omega
    · have := uniq_len l (acc ++ [y])
      rw [List.length_append, List.length_singleton] at this
      show (uniq (if y ∈ acc then acc else acc ++ [y]) l).length ≤ acc.length + (l.length + 1)
      rw [if_neg c]
      omega
theorem eqv_bools : ∀ a b : List Bool, PyData.eqvAll (a.map PyData.bool) (b.map PyData.bool) = decide (a = b)
  | [], [] => rfl
  | [], _ :: _ => rfl
  | _ :: _, [] => rfl
  | x :: a, y :: b => by
    show ((x == y) && PyData.eqvAll (a.map PyData.bool) (b.map PyData.bool)) = decide (x :: a = y :: b)
    rw [eqv_bools a b]
    cases x <;> cases y <;> simp
def rowB (r : List Bool) : PyData := .list (r.map PyData.bool)
theorem lay_bools : ∀ r : List Bool, PyData.canLayAll0 (r.map PyData.bool) = true
  | [] => rfl
  | x :: r => by
    show (true && PyData.canLayAll0 (r.map PyData.bool)) = true
    rw [lay_bools r]
    rfl
theorem deep_bools : ∀ r : List Bool, PyData.depthAll (r.map PyData.bool) = 0
  | [] => rfl
  | x :: r => by
    show max 0 (PyData.depthAll (r.map PyData.bool)) = 0
    rw [deep_bools r]
    rfl
theorem shaped_row (r : List Bool) : SeqAt.shaped (rowB r) = true := by
  show (PyData.canLayAll0 (r.map PyData.bool) && decide (PyData.depthAll (r.map PyData.bool) + 1 ≤ 64)) = true
  rw [lay_bools, deep_bools]
  rfl
theorem lay_rows : ∀ rs : List (List Bool), PyData.canLayAll0 (rs.map rowB) = true
  | [] => rfl
  | r :: rs => by
    show (PyData.canLayAll0 (r.map PyData.bool) && PyData.canLayAll0 (rs.map rowB)) = true
    rw [lay_bools, lay_rows rs]
    rfl
theorem deep_rows : ∀ rs : List (List Bool), PyData.depthAll (rs.map rowB) ≤ 1
  | [] => Nat.zero_le _
  | r :: rs => by
    show max (PyData.depthAll (r.map PyData.bool) + 1) (PyData.depthAll (rs.map rowB)) ≤ 1
    have := deep_rows rs
    rw [deep_bools]
    omega
theorem shaped_rows (rs : List (List Bool)) : SeqAt.shaped (.list (rs.map rowB)) = true := by
  show (PyData.canLayAll0 (rs.map rowB) && decide (PyData.depthAll (rs.map rowB) + 1 ≤ 64)) = true
  have := deep_rows rs
  rw [lay_rows, decide_eq_true (by omega)]
  rfl
theorem any_rows (r : List Bool) : ∀ rs : List (List Bool), ((rs.map rowB).any fun z => PyData.eqv z (rowB r)) = decide (r ∈ rs)
  | [] => rfl
  | x :: rs => by
    rw [List.map_cons, List.any_cons, any_rows r rs]
    show (PyData.eqvAll (x.map PyData.bool) (r.map PyData.bool) || decide (r ∈ rs)) = decide (r ∈ x :: rs)
    rw [eqv_bools]
    by_cases c : x = r
    · subst c
      simp
    · rw [decide_eq_false c, Bool.false_or]
      by_cases c2 : r ∈ rs
      · rw [decide_eq_true c2, decide_eq_true (List.mem_cons_of_mem _ c2)]
      · rw [decide_eq_false c2, decide_eq_false (fun z => (List.mem_cons.mp z).elim (fun e => c e.symm) c2)]
theorem dp_bools {K : PySem.W.Frag} {H : Hp} : ∀ r : List Bool, DpAll K H (r.map V.bl) (r.map PyData.bool)
  | [] => .nil
  | x :: r => .cons (.bl x) (dp_bools r)
theorem dp_brows {K : PySem.W.Frag} {H : Hp} {vs : List V} {rs : List (List Bool)} (h : BRows K H vs rs) : DpAll K H vs (rs.map rowB) := by
  induction h with
  | nil => exact .nil
  | cons h1 _ ih =>
    obtain ⟨p, rfl, hp⟩ := h1
    exact .cons (.lst (.inl (.inl hp)) (dp_bools _)) ih
section
variable {P : Program} {w : World} {K : PySem.W.Frag} {mg : Str → Option Value} {base : Heap}
def sp__law_many (K : PySem.W.Frag) : Sp := fun vs H Q _ => ∃ (m : Nat) (a : Addr) (bar : List (List Bool)), vs = [.int m, .ref a] ∧ BarAt K H a bar ∧ Sqr m bar ∧ m ≤ 100 ∧ ∀ H', Same H H' → Q (.int ((uniq [List.replicate m false] bar).length : Nat)) H'
theorem ok__law_many (T : Tx K mg) : FnOk P w K mg base CX0 1 T.f__law_many T.d__law_many ["m", "barred"] (sp__law_many K) := by
  refine T.F__law_many.ok sc__law_many (fun vs H Q E h => ?_) (fun cdv A outer s H vs Q E hr h => ?_)
  · obtain ⟨m, a, bar, rfl, _⟩ := h; rfl
  · obtain ⟨m, a, bar, rfl, ⟨bv, ha, hrows⟩, sq, m1, q⟩ := h
    refine ⟨_, (pss_cons (ps_set (i := 2) sc__law_many.nd rfl (Or.inl rfl) (pe_lst (pa_cons (pe_lc (own := [("u", 4)]) (g := gName 4) (tt := tYes) (by rfl) sc__law_many.nd (pi_range1 rfl T.n_range (pa_cons (pv 0) pa_nil)) (blkOk_by (N := ["m", "barred", "unlike", "row", "u"]) (sc := defScope s__law_many) (by decide +kernel)) (fun _ _ _ _ _ => (pg_name (i := 4) sc__law_many.nd rfl (Or.inl rfl))) (fun _ _ _ _ _ => pts_nil) (fun _ _ _ _ _ => pe_bl)) pa_nil)))
    (pss_cons (ps_for PassesOwn.never rfl (pi_list (pv 1)) (pg_name (i := 3) sc__law_many.nd rfl (Or.inl rfl))
    (pss_one (ps_if (pt_cmpR (op_notInD (hu65 hr)) (pv 3) (pv 2) (by rfl)) (pss_one (ps_expr (pe_bm PySem.F.plainAttrs_list PySem.F.slot_list_append PySem.F.type_list_append mt_append (pv 2) (pa_cons (pv 3) pa_nil)))) pss_nil)))
    (pss_one (ps_ret (pe_callB call_len_seq (by rfl) T.n_len (by decide +kernel) (pa_cons (pv 2) pa_nil)))))), ?_⟩
    refine ⟨.int m, rfl, (m : Int), rfl, by omega, by omega, fun D nD => ?_⟩
    refine comp_range (n := (m : Int).toNat) (i := 4) (fun acc H5 => Same H H5 ∧ acc = List.replicate acc.length (V.bl false)) ⟨same_new nD, rfl⟩ (fun acc H5 la h hD => ?_) (fun acc H0 la h hD => ?_)
    · obtain ⟨s5, ea⟩ := h
      exact turned hD (small (by omega)) ⟨same_upd2 s5 nD, by rw [List.length_append, List.length_singleton, List.replicate_succ', ← ea]⟩
    obtain ⟨s0, ea⟩ := h
    rw [la] at ea
    replace ea : acc = (List.replicate m false).map V.bl := by rw [ea, List.map_replicate]; rfl
    subst ea
    refine ⟨small' (by simp), fun L nL => ?_⟩
    have ha0 := s0 _ _ ha
    have hr0 : BRows K H0 bv bar := hrows.grow s0
    refine ⟨.ref a, rfl, a, rfl, ⟨_, .inl (.inl (same_new nL _ _ ha0))⟩, ?_⟩
    refine for_list (K := K) (a := a) (xs := bv) (fun i σ H' => ∃ (y3 : Option V) (uv : List V), σ = [some (.int m), some (.ref a), some (.ref L), y3, none] ∧ Same H0 H' ∧ H' L = some (.lst uv) ∧ BRows K H0 uv (uniq [List.replicate m false] (bar.take i)))
      ⟨none, [.ref D], rfl, same_new nL, upd_same, .cons ⟨D, rfl, hD⟩ .nil⟩ (fun i σ H' _ h => ?_) (fun i x σ H' ex h => ?_) (fun σ H' h => ?_)
    · obtain ⟨_, _, _, sm, _⟩ := h
      exact .inl (.inl (sm _ _ ha0))
    · obtain ⟨y3, uv, rfl, sm, hL, hu⟩ := h
      have el : bv.length = bar.length := Paired.length hrows
      have lti : i < bv.length := (List.getElem?_eq_some_iff.mp ex).1
      have er : bar[i]? = some bar[i] := List.getElem?_eq_getElem (by omega)
      generalize bar[i] = r at er
      obtain ⟨pr, epr, hpr⟩ := BRows.get hr0 er
      have ex2 : x = .ref pr := Option.some.inj (ex.symm.trans epr)
      subst ex2
      have lu := uniq_len (bar.take i) [List.replicate m false]
      have lu2 : uv.length = (uniq [List.replicate m false] (bar.take i)).length := Paired.length hu
      have lt3 : (bar.take i).length ≤ 100 := by rw [List.length_take]; have := sq.1; omega
      have tk : bar.take (i + 1) = bar.take i ++ [r] := by rw [List.take_add_one, er]; rfl
      refine ⟨.ref pr, rfl, .ref L, rfl, rowB r, (uniq [List.replicate m false] (bar.take i)).map rowB, .lst (.inl (.inl (sm _ _ hpr))) (dp_bools r), .lst (.inl (.inl hL)) (dp_brows (hu.grow sm)), shaped_row r, shaped_rows _, ?_⟩
      rw [any_rows]
      refine ⟨_, rfl, ite2 (fun z => ?_) (fun z => ?_)⟩
      · have z1 : r ∉ uniq [List.replicate m false] (bar.take i) := fun z2 => by rw [decide_eq_true z2] at z; cases z
        refine ⟨.ref L, rfl, .inl ⟨rfl, _, .inl (.inl hL)⟩, .ref pr, rfl, L, _, _, rfl, rfl, hL, small (by rw [List.length_singleton] at lu; omega), ?_⟩
        refine ⟨some (.ref pr), uv ++ [.ref pr], rfl, same_upd2 sm nL, upd_same, ?_⟩
        rw [tk, uniq_snoc, if_neg z1]
        exact Paired.snoc hu ⟨pr, rfl, hpr⟩
      · have z1 : r ∈ uniq [List.replicate m false] (bar.take i) := by
          cases z2 : decide (r ∈ uniq [List.replicate m false] (bar.take i)) with
          | true => exact of_decide_eq_true z2
          | false => rw [z2] at z; exact absurd rfl z
        refine ⟨some (.ref pr), uv, rfl, sm, hL, ?_⟩
        rw [tk, uniq_snoc, if_pos z1]
        exact hu
    · obtain ⟨y3, uv, rfl, sm, hL, hu⟩ := h
      have el : bv.length = bar.length := Paired.length hrows
      rw [el, List.take_length] at hu
      have lu2 : uv.length = (uniq [List.replicate m false] bar).length := Paired.length hu
      refine ⟨.ref L, rfl, L, uv, rfl, .inl (.inl (.inl hL)), ?_⟩
      rw [lu2]
      exact q H' (s0.trans sm)
end
end K2
set_option Elab.async false
set_option linter.all false
set_option maxRecDepth 100000
set_option maxHeartbeats 2000000
namespace K2
open PySem PySem.Spec PyProof.Rows L2 Ver
abbrev Mark := Int × List Int
def markK (x : Mark) : NestedKey := .tup [.num x.1, .tup (x.2.map .num)]
theorem nums_inj : ∀ {a b : List Int}, a.map NestedKey.num = b.map NestedKey.num → a = b
  | [], [], _ => rfl
  | [], _ :: _, h => by cases h
  | _ :: _, [], h => by cases h
  | x :: a, y :: b, h => by
    have h1 : NestedKey.num x = NestedKey.num y := (List.cons.inj h).1
    injection h1 with h3
    rw [h3, nums_inj (List.cons.inj h).2]
theorem markK_inj {x y : Mark} (h : markK x = markK y) : x = y := by
  obtain ⟨a, as⟩ := x
  obtain ⟨b, bs⟩ := y
  injection h with h
  have h1 : NestedKey.num a = NestedKey.num b := (List.cons.inj h).1
  have h2 : NestedKey.tup (as.map .num) = NestedKey.tup (bs.map .num) := (List.cons.inj (List.cons.inj h).2).1
  injection h1 with h1
  injection h2 with h2
  rw [h1, nums_inj h2]
theorem depth_nums : ∀ ns : List Int, NestedKey.depthAll (ns.map NestedKey.num) = 0
  | [] => rfl
  | n :: ns => by
    show max 0 (NestedKey.depthAll (ns.map NestedKey.num)) = 0
    rw [depth_nums ns]
    rfl
theorem markK_deep (x : Mark) : (markK x).depth ≤ 8 := by
  show max 0 (max (NestedKey.depthAll (x.2.map NestedKey.num) + 1) 0) + 1 ≤ 8
  rw [depth_nums]
  decide
def leadG (cs : List Int) (l : Int) : Int := if l ≥ 0 then (cs[l.toNat]?).getD 0 else -1
def marks (tab : List (List Int)) (cs : List Int) : List Mark := List.zipWith (fun c row => (c, row.map (leadG cs))) cs tab
def idxG {α : Type} [DecidableEq α] (x : α) : List α → Nat
  | [] => 0
  | y :: l => if y = x then 0 else idxG x l + 1
theorem idx_app {α : Type} [DecidableEq α] {x : α} (r : List α) : ∀ {l : List α}, x ∈ l → idxG x (l ++ r) = idxG x l
  | [], h => absurd h List.not_mem_nil
  | y :: l, h => by
    show (if y = x then 0 else idxG x (l ++ r) + 1) = if y = x then 0 else idxG x l + 1
    by_cases c : y = x
    · rw [if_pos c, if_pos c]
    · rw [if_neg c, if_neg c, idx_app r ((List.mem_cons.mp h).resolve_left fun e => c e.symm)]
theorem idx_new {α : Type} [DecidableEq α] {x : α} : ∀ {l : List α}, x ∉ l → idxG x (l ++ [x]) = l.length
  | [], _ => by show (if x = x then 0 else _) = 0; rw [if_pos rfl]
  | y :: l, h => by
    show (if y = x then 0 else idxG x (l ++ [x]) + 1) = l.length + 1
    rw [if_neg (fun e => h (by rw [e]; exact List.mem_cons_self)), idx_new fun z => h (List.mem_cons_of_mem _ z)]
def place (us : List Mark) (x : Mark) : Int := ((idxG x us : Nat) : Int)
def idxs (ms : List Mark) : List Int := ms.map (place (uniq [] ms))
def KsOf (us : List Mark) (ks : NK) : Prop := ks.map (·.1) = us.map markK ∧ ∀ j p, ks[j]? = some p → p.2.2 = V.int ((j : Nat) : Int)
theorem val_ks (x : Mark) : ∀ (us : List Mark) (ks : NK) (n : Nat), ks.map (·.1) = us.map markK → (∀ j p, ks[j]? = some p → p.2.2 = V.int ((n + j : Nat) : Int)) → valN ks (markK x) = if x ∈ us then some (V.int ((n + idxG x us : Nat) : Int)) else none
  | [], [], n, _, _ => rfl
  | [], _ :: _, n, h, _ => by cases h
  | _ :: _, [], n, h, _ => by cases h
  | u :: us, k :: ks, n, h, hv => by
    have h1 : k.1 = markK u := (List.cons.inj h).1
    have h2 := (List.cons.inj h).2
    have ih := val_ks x us ks (n + 1) h2 (fun j p e => by
      have := hv (j + 1) p e
      rw [this]
      congr 2
      omega)
    unfold valN at ih ⊢
    rw [List.find?_cons, h1]
    by_cases c : u = x
    · subst c
      rw [decide_eq_true rfl, if_pos List.mem_cons_self, show idxG u (u :: us) = 0 from if_pos rfl]
      show some k.2.2 = _
      rw [hv 0 k rfl]
    · have c1 : ¬ markK u = markK x := fun z => c (markK_inj z)
      rw [decide_eq_false c1]
      show (List.find? _ ks).map _ = _
      rw [ih]
      by_cases m : x ∈ us
      · rw [if_pos m, if_pos (List.mem_cons_of_mem _ m), show idxG x (u :: us) = idxG x us + 1 from if_neg c]
        congr 2
        omega
      · rw [if_neg m, if_neg (fun z => (List.mem_cons.mp z).elim (fun e => c e.symm) m)]
theorem uniq_mem {α : Type} [DecidableEq α] {x : α} : ∀ {l acc : List α}, x ∈ uniq acc l ↔ x ∈ acc ∨ x ∈ l
  | [], acc => by simp [uniq]
  | y :: l, acc => by
    show x ∈ uniq (if y ∈ acc then acc else acc ++ [y]) l ↔ _
    rw [uniq_mem]
    by_cases c : y ∈ acc
    · rw [if_pos c]
      constructor
      · rintro (h | h)
        · exact .inl h
        · exact .inr (List.mem_cons_of_mem _ h)
      · rintro (h | h)
        · exact .inl h
        · rcases List.mem_cons.mp h with rfl | h
          · exact .inl c
          · exact .inr h
    · rw [if_neg c]
      simp only [List.mem_append, List.mem_singleton, List.mem_cons]
      constructor
      · rintro ((h | h) | h)
        · exact .inl h
        · exact .inr (.inl (by simpa using h))
        · exact .inr (.inr h)
      · rintro (h | h | h)
        · exact .inl (.inl h)
        · exact .inl (.inr (by simpa using h))
        · exact .inr h
theorem place_snoc {us : List Mark} {x y : Mark} (h : x ∈ us) : place (us ++ [y]) x = place us x := by
  unfold place
  rw [idx_app _ h]
theorem place_new {us : List Mark} {x : Mark} (h : x ∉ us) : place (us ++ [x]) x = (us.length : Int) := by
  unfold place
  rw [idx_new h]
theorem idxs_snoc (ms : List Mark) (x : Mark) : idxs (ms ++ [x]) = idxs ms ++ [if x ∈ uniq [] ms then place (uniq [] ms) x else ((uniq [] ms).length : Int)] := by
  unfold idxs
  rw [uniq_snoc, List.map_append]
  by_cases c : x ∈ uniq [] ms
  · rw [if_pos c, if_pos c]
    rfl
  · rw [if_neg c, if_neg c]
    congr 1
    · exact List.map_congr_left fun y hy => place_snoc (uniq_mem.mpr (.inr hy))
    · show [place (uniq [] ms ++ [x]) x] = _
      rw [place_new c]
def IsLRow (_ : PySem.W.Frag) (H : Hp) (v : V) (r : List Int) : Prop := ∃ p, v = .ref p ∧ H p = some (.lst (r.map V.int))
abbrev LRows (K : PySem.W.Frag) (H : Hp) (vs : List V) (rs : List (List Int)) : Prop := Paired (IsLRow K H) vs rs
theorem LRows.grow {K : PySem.W.Frag} {H H' : Hp} (e : Same H H') : ∀ {vs : List V} {rs : List (List Int)}, LRows K H vs rs → LRows K H' vs rs
  | _, _, .nil => .nil
  | _, _, .cons ⟨p, h1, h2⟩ t => .cons ⟨p, h1, e _ _ h2⟩ (LRows.grow e t)
theorem LRows.get {K : PySem.W.Frag} {H : Hp} : ∀ {vs : List V} {rs : List (List Int)} {i : Nat} {r : List Int}, LRows K H vs rs → rs[i]? = some r → ∃ p, vs[i]? = some (.ref p) ∧ H p = some (.lst (r.map V.int))
  | _, _, i, r, .nil, e => by simp at e
  | _, _, 0, r, .cons ⟨p, h1, h2⟩ t, e => by
    have e' := Option.some.inj e
    subst e' h1
    exact ⟨p, rfl, h2⟩
  | _, _, i + 1, r, .cons _ t, e => LRows.get (i := i) t e
def TabAt (K : PySem.W.Frag) (H : Hp) (a : Addr) (tab : List (List Int)) : Prop := ∃ tv, H a = some (.lst tv) ∧ LRows K H tv tab
theorem TabAt.grow {K : PySem.W.Frag} {H H' : Hp} {a : Addr} {tab : List (List Int)} (e : Same H H') (h : TabAt K H a tab) : TabAt K H' a tab := by
  obtain ⟨tv, h1, h2⟩ := h
  exact ⟨tv, e _ _ h1, h2.grow e⟩
def TabOk (tab : List (List Int)) : Prop := tab.length ≤ 1000 ∧ ∀ r ∈ tab, r.length ≤ 1000 ∧ ∀ l ∈ r, -1 ≤ l ∧ l < tab.length
section
variable {P : Program} {w : World} {K : PySem.W.Frag} {mg : Str → Option Value} {base : Heap}
def sp__parted (K : PySem.W.Frag) : Sp := fun vs H Q _ => ∃ (t c : Addr) (tab : List (List Int)) (cs : List Int), vs = [.ref t, .ref c] ∧ TabAt K H t tab ∧ TabOk tab ∧ H c = some (.lst (cs.map V.int)) ∧ cs.length = tab.length ∧
  ∀ p H', Same H H' → H' p = some (.lst ((idxs (marks tab cs)).map V.int)) → Q (.ref p) H'
theorem ok__parted (T : Tx K mg) : FnOk P w K mg base CX0 1 T.f__parted T.d__parted ["table", "classes"] (sp__parted K) := by
  refine T.F__parted.ok sc__parted (fun vs H Q E h => ?_) (fun cdv A outer s H vs Q E hr h => ?_)
  · obtain ⟨t, c, tab, cs, rfl, _⟩ := h; rfl
  · obtain ⟨t, c, tab, cs, rfl, ⟨tv, ht, hrows⟩, ⟨z1, z2⟩, hc, lc, q⟩ := h
    refine ⟨_, (pss_cons (ps_set (i := 2) sc__parted.nd rfl (Or.inl rfl) pe_dnewN)
    (pss_cons (ps_set (i := 3) sc__parted.nd rfl (Or.inl rfl) (pe_lst pa_nil))
    (pss_cons (ps_for PassesOwn.never rfl (pi_enum (by rfl) T.n_enumerate (pa_cons (pv 0) pa_nil)) (pg_tup (by rfl) (pgs_cons (pg_name (i := 4) sc__parted.nd rfl (Or.inl rfl)) (pgs_cons (pg_name (i := 5) sc__parted.nd rfl (Or.inl rfl)) pgs_nil)))
    (pss_cons (ps_set (i := 6) sc__parted.nd rfl (Or.inl rfl) (pe_tup (pa_cons (pe_ix ix_list (pv 1) (pv 4) (fun _ _ => rfl)) (pa_cons (pe_callTy call_tuple_of (by rfl) T.n_tuple (by decide +kernel) (pa_cons (pe_lc (own := [("lead", 7)]) (g := gName 7) (tt := tYes) (by rfl) sc__parted.nd (pi_list (pv 5)) (blkOk_by (N := ["table", "classes", "numbers", "parted", "state", "row", "mark", "lead"]) (sc := defScope s__parted) (by decide +kernel)) (fun _ _ _ _ _ => (pg_name (i := 7) sc__parted.nd rfl (Or.inl rfl))) (fun _ _ _ _ _ => pts_nil) (fun _ _ _ _ _ => (pe_ifExp (pt_cmpR op_ge (pv 7) pe_int (nomark _)) (pe_ix (ix_listK (K := K) rfl) (pv 1) (pv 7) (fun _ _ => rfl)) (pe_un un_neg pe_int)))) pa_nil)) pa_nil))))
    (pss_one (ps_expr (pe_bm PySem.F.plainAttrs_list PySem.F.slot_list_append PySem.F.type_list_append mt_append (pv 3) (pa_cons (pe_dsetdN hr (pv 2) (pv 6) (pe_callB call_lenN (by rfl) T.n_len (by decide +kernel) (pa_cons (pv 2) pa_nil)) ⟨rfl, rfl, rfl, rfl⟩) pa_nil))))))
    (pss_one (ps_ret (pv 3)))))), ?_⟩
    have lm : (marks tab cs).length = tab.length := by unfold marks; rw [List.length_zipWith]; omega
    have ltv : tv.length = tab.length := Paired.length hrows
    refine fun N nN => ?_
    refine ⟨small' (by simp), fun Pd nP => ?_⟩
    have sN := same_new (o := NumD P w N []) nN
    have sP := same_new (o := .lst []) nP
    have nPH : H Pd = none := sN.free nP
    have NP : Pd ≠ N := fun z => by rw [z, upd_same] at nP; cases nP
    refine ⟨.ref t, rfl, t, tv, rfl, .inl (.inl (sP _ _ (sN _ _ ht))), ?_⟩
    refine for_enum (K := K) (a := t) (xs := tv) (fun i σ H' => ∃ (y4 y5 y6 : Option V) (ks : NK), σ = [some (.ref t), some (.ref c), some (.ref N), some (.ref Pd), y4, y5, y6, none] ∧ Same H H' ∧ H' N = some (NumD P w N ks) ∧ H' Pd = some (.lst ((idxs ((marks tab cs).take i)).map V.int)) ∧ KsOf (uniq [] ((marks tab cs).take i)) ks ∧ ∀ p ∈ ks, NKey H' p.1 p.2.1)
      ⟨none, none, none, [], rfl, sN.trans sP, by rw [upd_ne (Ne.symm NP)]; exact upd_same, upd_same, ⟨rfl, fun j p e => by simp at e⟩, by simp⟩ (fun i σ H' _ h => ?_) (fun i x σ H' TT ex h nT => ?_) (fun σ H' h => ?_)
    · obtain ⟨_, _, _, _, _, sm, _⟩ := h
      exact .inl (.inl (sm _ _ ht))
    · obtain ⟨y4, y5, y6, ks, rfl, sm, hN, hPd, hks, hk⟩ := h
      have lti : i < tv.length := (List.getElem?_eq_some_iff.mp ex).1
      have er : tab[i]? = some tab[i] := List.getElem?_eq_getElem (by omega)
      obtain ⟨zr, br⟩ := z2 _ (List.getElem_mem (show i < tab.length by omega))
      generalize tab[i] = r at er zr br
      have ec : cs[i]? = some cs[i] := List.getElem?_eq_getElem (by omega)
      generalize cs[i] = cc at ec
      obtain ⟨pr, epr, hpr⟩ := LRows.get hrows er
      have ex2 : x = .ref pr := Option.some.inj (ex.symm.trans epr)
      subst ex2
      have em : (marks tab cs)[i]? = some (cc, r.map (leadG cs)) := by
        unfold marks
        rw [List.getElem?_zipWith, ec, er]
      have tk : (marks tab cs).take (i + 1) = (marks tab cs).take i ++ [(cc, r.map (leadG cs))] := by rw [List.take_add_one, em]; rfl
      have sT := same_new (o := .tup [.int (i : Nat), .ref pr]) nT
      have hT : (upd H' TT (.tup [.int (i : Nat), .ref pr])) TT = some (.tup [.int (i : Nat), .ref pr]) := upd_same
      generalize upd H' TT (.tup [.int (i : Nat), .ref pr]) = H1 at sT hT ⊢
      have sm1 := sm.trans sT
      refine ⟨TT, _, rfl, .inl (.inl hT), rfl, .int (i : Nat), _, rfl, .ref pr, _, rfl, rfl, ?_⟩
      refine ⟨.ref c, rfl, .int (i : Nat), rfl, c, _, (i : Nat), _, rfl, rfl, .inl (.inl (sm1 _ _ hc)), atI_nat (j := i) (by rw [List.getElem?_map, ec]; rfl), ?_⟩
      refine ⟨.ref pr, rfl, pr, rfl, ⟨_, .inl (.inl (sm1 _ _ hpr))⟩, fun D nD => ?_⟩
      refine comp_list (K := K) (a := pr) (xs := r.map V.int) (i := 7) (fun acc H5 => Same H1 H5 ∧ acc = ((r.take acc.length).map (leadG cs)).map V.int) ⟨same_new nD, rfl⟩ (fun acc H5 h => .inl (.inl (h.1 _ _ (sm1 _ _ hpr)))) (fun acc y H5 ey h hD => ?_) (fun acc H2 la h hD => ?_)
      · obtain ⟨s5, ea⟩ := h
        obtain ⟨l, el, rfl⟩ : ∃ l, r[acc.length]? = some l ∧ y = V.int l := by
          rw [List.getElem?_map] at ey
          cases e : r[acc.length]? with
          | none => rw [e] at ey; cases ey
          | some c => rw [e] at ey; exact ⟨c, rfl, (Option.some.inj ey).symm⟩
        have ltl := (List.getElem?_eq_some_iff.mp el).1
        obtain ⟨l0, l1⟩ := br l (List.mem_of_getElem? el)
        have fin : ∀ v, v = V.int (leadG cs l) → Turned D (fun acc H5 => Same H1 H5 ∧ acc = ((r.take acc.length).map (leadG cs)).map V.int) acc.length v H5 := fun v ev => by
          subst ev
          refine turned hD (small (by omega)) ⟨same_upd2 s5 nD, ?_⟩
          rw [List.length_append, List.length_singleton, List.take_add_one, el, List.map_append, List.map_append, ← ea]
          rfl
        refine ⟨.int l, rfl, _, _, rfl, rfl, _, rfl, ite2 (fun z => ?_) (fun z => ?_)⟩
        · have z1 : l ≥ 0 := of_decide_eq_true z
          have ecl : cs[l.toNat]? = some cs[l.toNat] := List.getElem?_eq_getElem (by omega)
          refine ⟨.ref c, rfl, .int l, rfl, c, _, l, _, rfl, rfl, .inl (.inl (s5 _ _ (sm1 _ _ hc))), at_map z1 ecl, fin _ ?_⟩
          unfold leadG
          rw [if_pos z1, ecl]
          rfl
        · have z1 : ¬ l ≥ 0 := fun z2 => z (decide_eq_true z2)
          refine ⟨1, rfl, fin _ ?_⟩
          unfold leadG
          rw [if_neg z1]
      obtain ⟨s2, ea⟩ := h
      rw [List.length_map] at la
      rw [la, List.take_length] at ea
      subst ea
      refine ⟨D, _, rfl, .inl ⟨.inl (.inl hD), fun q1 nq1 => ?_⟩⟩
      have s3 := same_new (o := .tup ((r.map (leadG cs)).map V.int)) nq1
      have hq1 : (upd H2 q1 (.tup ((r.map (leadG cs)).map V.int))) q1 = some (.tup ((r.map (leadG cs)).map V.int)) := upd_same
      generalize upd H2 q1 (.tup ((r.map (leadG cs)).map V.int)) = H3 at s3 hq1 ⊢
      refine ⟨small' (by simp), fun M nM => ?_⟩
      have s4 := same_new (o := .tup [.int cc, .ref q1]) nM
      have hM : (upd H3 M (.tup [.int cc, .ref q1])) M = some (.tup [.int cc, .ref q1]) := upd_same
      generalize upd H3 M (.tup [.int cc, .ref q1]) = H4 at s4 hM ⊢
      have k14 := (s2.trans s3).trans s4
      have k4 := sT.trans k14
      have hN4 := k4 _ _ hN
      have hP4 := k4 _ _ hPd
      have hk4 : ∀ p ∈ ks, NKey H4 p.1 p.2.1 := fun p hp => (hk p hp).grow k4
      have nk : NKey H4 (markK (cc, r.map (leadG cs))) M := ⟨.tup hM (.cons (.num _) (.cons (.tup (s4 _ _ hq1) (nvs_ints _)) .nil)), markK_deep _⟩
      have lks : ks.length = (uniq [] ((marks tab cs).take i)).length := by
        have := congrArg List.length hks.1
        rw [List.length_map, List.length_map] at this
        exact this
      have lu := uniq_len ((marks tab cs).take i) []
      have lt1 : ((marks tab cs).take i).length ≤ 1000 := by rw [List.length_take]; omega
      have lt2 : ks.length ≤ 1000 := by rw [List.length_nil] at lu; omega
      have ev := val_ks (cc, r.map (leadG cs)) _ ks 0 hks.1 (fun j p e => by rw [Nat.zero_add]; exact hks.2 j p e)
      rw [Nat.zero_add] at ev
      have nNH : H N = none := nN
      refine ⟨.ref Pd, rfl, .inl ⟨rfl, _, .inl (.inl hP4)⟩, .ref N, rfl, N, rfl, ⟨_, hN4⟩, .ref M, rfl, .ref N, rfl, N, ks, rfl, hN4, hk4, ?_⟩
      refine ⟨ks, markK (cc, r.map (leadG cs)), M, hN4, rfl, nk, hk4, small (by omega), fun v hv => ?_, fun hn => ?_⟩
      · rw [ev] at hv
        by_cases c1 : (cc, r.map (leadG cs)) ∈ uniq [] ((marks tab cs).take i)
        · rw [if_pos c1] at hv
          have ev2 := Option.some.inj hv
          subst ev2
          refine ⟨Pd, _, _, rfl, rfl, hP4, small (by rw [List.length_map]; unfold idxs; rw [List.length_map]; omega), ?_⟩
          refine ⟨some (.int (i : Nat)), some (.ref pr), some (.ref M), ks, rfl, same_upd2 (sm.trans k4) nPH, by rw [upd_ne (Ne.symm NP)]; exact hN4, ?_, ?_, fun p hp => ?_⟩
          · rw [upd_same, tk, idxs_snoc, if_pos c1, List.map_append]
            rfl
          · rw [tk, uniq_snoc, if_pos c1]
            exact hks
          · exact (hk4 p hp).keep fun b xs e => by rw [upd_ne (fun z => by rw [z, hP4] at e; cases e)]; exact e
        · rw [if_neg c1] at hv
          cases hv
      · rw [ev] at hn
        by_cases c1 : (cc, r.map (leadG cs)) ∈ uniq [] ((marks tab cs).take i)
        · rw [if_pos c1] at hn
          cases hn
        · have kp : ∀ b xs, H4 b = some (.tup xs) → (upd H4 N (NumD P w N (ks ++ [(markK (cc, r.map (leadG cs)), M, V.int ((ks.length : Nat) : Int))]))) b = some (.tup xs) := fun b xs e => by
            rw [upd_ne (fun z => by rw [z, hN4] at e; cases e)]
            exact e
          have hP5 : (upd H4 N (NumD P w N (ks ++ [(markK (cc, r.map (leadG cs)), M, V.int ((ks.length : Nat) : Int))]))) Pd = some (.lst ((idxs ((marks tab cs).take i)).map V.int)) := by rw [upd_ne NP]; exact hP4
          refine ⟨Pd, _, _, rfl, rfl, hP5, small (by rw [List.length_map]; unfold idxs; rw [List.length_map]; omega), ?_⟩
          refine ⟨some (.int (i : Nat)), some (.ref pr), some (.ref M), _, rfl, same_upd2 (same_upd2 (sm.trans k4) nNH) nPH, by rw [upd_ne (Ne.symm NP)]; exact upd_same, ?_, ?_, fun p hp => ?_⟩
          · rw [upd_same, tk, idxs_snoc, if_neg c1, List.map_append, lks]
            rfl
          · rw [tk, uniq_snoc, if_neg c1]
            refine ⟨by rw [List.map_append, List.map_append, hks.1]; rfl, fun j p e => ?_⟩
            by_cases cj : j < ks.length
            · rw [List.getElem?_append_left cj] at e
              exact hks.2 j p e
            · rw [List.getElem?_append_right (by omega)] at e
              have ej : j = ks.length := by
                cases hj : j - ks.length with
                | zero => omega
                | succ n => rw [hj] at e; simp at e
              subst ej
              rw [Nat.sub_self] at e
              have := Option.some.inj e
              rw [← this]
          · have step : NKey H4 p.1 p.2.1 := by
              rcases List.mem_append.mp hp with hp | hp
              · exact hk4 p hp
              · rw [List.mem_singleton.mp hp]
                exact nk
            exact (step.keep kp).keep fun b xs e => by rw [upd_ne (fun z => by rw [z, hP5] at e; cases e)]; exact e
    · obtain ⟨y4, y5, y6, ks, rfl, sm, hN, hPd, hks, hk⟩ := h
      rw [ltv, ← lm, List.take_length] at hPd
      exact ⟨.ref Pd, rfl, q Pd H' sm hPd⟩
end
end K2
set_option Elab.async false
set_option linter.all false
set_option maxRecDepth 100000
set_option maxHeartbeats 2000000
namespace K2
open PySem PySem.Spec PyProof.Rows L2 Ver
theorem idx_lt {α : Type} [DecidableEq α] {x : α} : ∀ {l : List α}, x ∈ l → idxG x l < l.length
  | [], h => absurd h List.not_mem_nil
  | y :: l, h => by
    show (if y = x then 0 else idxG x l + 1) < l.length + 1
    by_cases c : y = x
    · rw [if_pos c]; omega
    · rw [if_neg c]
      have := idx_lt ((List.mem_cons.mp h).resolve_left fun e => c e.symm)
      omega
theorem uniq_nodup {α : Type} [DecidableEq α] : ∀ (l acc : List α), acc.Nodup → (uniq acc l).Nodup
  | [], acc, h => h
  | y :: l, acc, h => by
    show (uniq (if y ∈ acc then acc else acc ++ [y]) l).Nodup
    by_cases c : y ∈ acc
    · rw [if_pos c]; exact uniq_nodup l acc h
    · rw [if_neg c]
      refine uniq_nodup l _ (List.pairwise_append.mpr ⟨h, List.pairwise_singleton _ _, fun a ha b hb => ?_⟩)
      rw [List.mem_singleton.mp hb]
      exact fun z => c (by rw [← z]; exact ha)
theorem idx_at {α : Type} [DecidableEq α] : ∀ {l : List α} {i : Nat} {x : α}, l.Nodup → l[i]? = some x → idxG x l = i
  | [], i, x, _, e => by simp at e
  | y :: l, 0, x, _, e => by
    have : y = x := Option.some.inj e
    show (if y = x then 0 else _) = 0
    rw [if_pos this]
  | y :: l, i + 1, x, nd, e => by
    have nd' := List.nodup_cons.mp nd
    have hm : x ∈ l := List.mem_of_getElem? (i := i) e
    show (if y = x then 0 else idxG x l + 1) = i + 1
    rw [if_neg (fun z => nd'.1 (by rw [z]; exact hm)), idx_at (i := i) nd'.2 e]
theorem if_tt {A B : Prop} (h : A) : if true = true then A else B := by rw [if_pos rfl]; exact h
def cls1 (tab : List (List Int)) : List Int := idxs (marks tab (List.replicate tab.length 0))
def cnt1 (tab : List (List Int)) : Nat := (uniq [] (marks tab (List.replicate tab.length 0))).length
theorem cls1_max {ms : List Mark} (h : ms ≠ []) {m : Int} (h1 : m ∈ idxs ms) (h2 : ∀ y ∈ idxs ms, y ≤ m) : m = ((uniq [] ms).length : Int) - 1 := by
  unfold idxs at h1 h2
  obtain ⟨x, hx, rfl⟩ := List.mem_map.mp h1
  have l1 := idx_lt (x := x) (l := uniq [] ms) (uniq_mem.mpr (.inr hx))
  obtain ⟨y0, hy0⟩ := List.exists_mem_of_ne_nil _ h
  have pos : 0 < (uniq [] ms).length := List.length_pos_of_mem (uniq_mem.mpr (.inr hy0))
  have e : (uniq [] ms)[(uniq [] ms).length - 1]? = some (uniq [] ms)[(uniq [] ms).length - 1] := List.getElem?_eq_getElem (by omega)
  generalize (uniq [] ms)[(uniq [] ms).length - 1] = z at e
  have hz : z ∈ ms := (uniq_mem.mp (List.mem_of_getElem? e)).resolve_left List.not_mem_nil
  have := h2 _ (List.mem_map.mpr ⟨z, hz, rfl⟩)
  unfold place at this ⊢
  rw [idx_at (uniq_nodup _ _ List.nodup_nil) e] at this
  omega
def RefusesT (C : Addr) (E : XK) (H : Hp) (z : Str) : Prop := ∀ H' dd, Same H H' → H' dd = none → E (.ref C) (some dd) (upd H' dd (.xd [("what", .str z)]))
section
variable {P : Program} {w : World} {K : PySem.W.Frag} {mg : Str → Option Value} {base : Heap}
def sp__classes_of (K : PySem.W.Frag) (C : Addr) : Sp := fun vs H Q E => ∃ (t : Addr) (tab : List (List Int)), vs = [.ref t] ∧ TabAt K H t tab ∧ TabOk tab ∧ 1 ≤ tab.length ∧ idxs (marks tab (cls1 tab)) = cls1 tab ∧
  (60 < cnt1 tab → RefusesT C E H "book") ∧ (cnt1 tab ≤ 60 → ∀ p H', Same H H' → H' p = some (.lst ((cls1 tab).map V.int)) → Q (.ref p) H')
theorem ok__classes_of (T : Tx K mg) : FnOk P w K mg base (L2.CX P w) 2 T.f__classes_of T.d__classes_of ["table"] (sp__classes_of K T.C_TooMuch) := by
  refine T.F__classes_of.okX sc__classes_of (fun vs H Q E h => ?_) (fun cdv A outer s H vs Q E hr h => ?_)
  · obtain ⟨t, tab, rfl, _⟩ := h; rfl
  · obtain ⟨t, tab, rfl, ht, hok, n1, stab, q1, q2⟩ := h
    refine ⟨_, (pss_cons (ps_set (i := 1) sc__classes_of.nd rfl (Or.inl rfl) (pe_op op_rep (pe_lst (pa_cons pe_int pa_nil)) (pe_callB call_len_seq (by rfl) T.n_len (by decide +kernel) (pa_cons (pv 0) pa_nil))))
    (pss_cons (ps_set (i := 2) sc__classes_of.nd rfl (Or.inl rfl) pe_int)
    (pss_one (ps_while (passes_of rfl) (pt_val pe_bl)
    (pss_cons (ps_set (i := 1) sc__classes_of.nd rfl (Or.inl rfl) (pe_call (ok__parted T) hr rfl T.g__parted T.F__parted.kp T.b__parted .nil pass0 (pa_cons (pv 0) (pa_cons (pv 1) pa_nil))))
    (pss_cons (ps_set (i := 3) sc__classes_of.nd rfl (Or.inl rfl) (pv 2))
    (pss_cons (ps_set (i := 2) sc__classes_of.nd rfl (Or.inl rfl) (pe_op op_add (pe_callB (cr_max rfl) (by rfl) T.n_max (by decide +kernel) (pa_cons (pv 1) pa_nil)) pe_int))
    (pss_cons (ps_if (pt_cmpR op_gt (pv 2) (pe_glob (v := .int (60)) rfl T.c_BOOK_LIMIT.choose_spec ⟨_, rfl⟩) (nomark _)) (pss_one (ps_raiseTmu rfl T.tmu hr (takes_of rfl rfl rfl rfl) (pa_cons pe_str pa_nil))) pss_nil)
    (pss_one (ps_if (pt_cmpR op_eq (pv 2) (pv 3) (nomark _)) (pss_one (ps_ret (pv 1))) pss_nil)))))))))), ?_⟩
    obtain ⟨tv, ht', hrows⟩ := id ht
    have ltv : tv.length = tab.length := Paired.length hrows
    have z1 := hok.1
    refine ⟨small' (by simp), fun A0 nA0 => ?_⟩
    have s0 : Same H (upd H A0 (.lst [.int 0])) := same_new nA0
    have h0 : (upd H A0 (.lst [.int 0])) A0 = some (.lst [.int 0]) := upd_same
    generalize upd H A0 (.lst [.int 0]) = H0 at s0 h0 ⊢
    refine ⟨.ref t, rfl, t, tv, rfl, .inl (.inl (.inl (s0 _ _ ht'))), A0, _, [.int 0], rfl, rfl, h0, by omega, by omega, small' (by simp; omega), fun C0 nC0 => ?_⟩
    have s1 : Same H0 (upd H0 C0 (.lst (List.replicate ((tv.length : Nat) : Int).toNat [V.int 0]).flatten)) := same_new nC0
    have hC0 : (upd H0 C0 (.lst (List.replicate ((tv.length : Nat) : Int).toNat [V.int 0]).flatten)) C0 = some (.lst ((List.replicate tab.length (0 : Int)).map V.int)) := by
      rw [upd_same, Int.toNat_natCast, ltv, rep_one, List.map_replicate]
    generalize upd H0 C0 (.lst (List.replicate ((tv.length : Nat) : Int).toNat [V.int 0]).flatten) = H1 at s1 hC0 ⊢
    have s01 := s0.trans s1
    have mne : marks tab (List.replicate tab.length 0) ≠ [] := fun z => by
      have := congrArg List.length z
      unfold marks at this
      rw [List.length_zipWith, List.length_replicate, Nat.min_self] at this
      have t0 : tab.length = 0 := this
      omega
    have lm1 : (cls1 tab).length = tab.length := by
      unfold cls1 idxs marks
      rw [List.length_map, List.length_zipWith, List.length_replicate, Nat.min_self]
    refine ⟨fun m σ H' => (m = 2 ∧ ∃ y3 : Option V, σ = [some (.ref t), some (.ref C0), some (.int 1), y3] ∧ Same H H' ∧ H' C0 = some (.lst ((List.replicate tab.length (0 : Int)).map V.int))) ∨ (m = 1 ∧ ∃ (c : Addr) (y3 : Option V), σ = [some (.ref t), some (.ref c), some (.int (cnt1 tab)), y3] ∧ Same H H' ∧ H' c = some (.lst ((cls1 tab).map V.int)) ∧ cnt1 tab ≤ 60), ⟨2, .inl ⟨rfl, none, rfl, s01, hC0⟩⟩, fun m σ H' h => ?_⟩
    refine ⟨true, rfl, if_tt ?_⟩
    have mx : ∀ mm : Int, mm ∈ cls1 tab → (∀ y ∈ cls1 tab, y ≤ mm) → mm + 1 = (cnt1 tab : Int) := fun mm h1 h2 => by
      have := cls1_max mne h1 h2
      show mm + 1 = ((uniq [] (marks tab (List.replicate tab.length 0))).length : Int)
      omega
    rcases h with ⟨rfl, y3, rfl, sm, hc⟩ | ⟨rfl, c, y3, rfl, sm, hc, le60⟩
    · refine ⟨fun σ' H2 => ∃ c : Addr, σ' = [some (.ref t), some (.ref c), some (.int (cnt1 tab)), some (.int 1)] ∧ Same H H2 ∧ H2 c = some (.lst ((cls1 tab).map V.int)) ∧ cnt1 tab ≤ 60, fun σ' H2 ⟨c, e, s2, h2, l2⟩ => ⟨1, by omega, .inr ⟨rfl, c, _, e, s2, h2, l2⟩⟩, ?_⟩
      refine ⟨.ref t, rfl, .ref C0, rfl, t, C0, tab, _, rfl, ht.grow sm, hok, hc, List.length_replicate, fun p H2 s2 hp => ?_⟩
      replace hp : H2 p = some (.lst ((cls1 tab).map V.int)) := hp
      have sm2 := sm.trans s2
      refine ⟨.int 1, rfl, .ref p, rfl, p, _, rfl, .inl (.inl hp), by omega, fun mm hm hl => ⟨mm, 1, rfl, rfl, ?_⟩⟩
      have em := mx mm hm hl
      refine ⟨.int (mm + 1), rfl, _, _, rfl, rfl, _, rfl, ite2 (fun z => ?_) (fun z => ?_)⟩
      · have z1 : mm + 1 > 60 := of_decide_eq_true z
        exact ⟨_, rfl, fun dd n => q1 (by omega) H2 dd sm2 n⟩
      · have z1 : ¬ (mm + 1 > 60) := fun z2 => z (decide_eq_true z2)
        refine ⟨.int (mm + 1), rfl, .int 1, rfl, rfl, _, rfl, ite2 (fun z => ?_) (fun z => ?_)⟩
        · exact ⟨.ref p, rfl, q2 (by omega) p H2 sm2 hp⟩
        · refine ⟨p, ?_, sm2, hp, by omega⟩
          show _ = [some (V.ref t), some (V.ref p), some (V.int (cnt1 tab)), some (V.int 1)]
          rw [← em]
          rfl
    · refine ⟨fun _ _ => False, fun σ' H2 z => z.elim, ?_⟩
      refine ⟨.ref t, rfl, .ref c, rfl, t, c, tab, _, rfl, ht.grow sm, hok, hc, lm1, fun p H2 s2 hp => ?_⟩
      rw [stab] at hp
      have sm2 := sm.trans s2
      refine ⟨.int (cnt1 tab), rfl, .ref p, rfl, p, _, rfl, .inl (.inl hp), by omega, fun mm hm hl => ⟨mm, 1, rfl, rfl, ?_⟩⟩
      have em := mx mm hm hl
      refine ⟨.int (mm + 1), rfl, _, _, rfl, rfl, _, rfl, ite2 (fun z => ?_) (fun z => ?_)⟩
      · have z1 : mm + 1 > 60 := of_decide_eq_true z
        omega
      · refine ⟨.int (mm + 1), rfl, .int (cnt1 tab), rfl, rfl, _, rfl, ite2 (fun z => ?_) (fun z => ?_)⟩
        · exact ⟨.ref p, rfl, q2 le60 p H2 sm2 hp⟩
        · exact absurd (decide_eq_true (by rw [em])) z
end
end K2
set_option Elab.async false
set_option linter.all false
set_option maxRecDepth 100000
set_option maxHeartbeats 2000000
namespace K2
open PySem PySem.Spec PyProof.Rows L2 Ver
theorem if_ff {A B : Prop} (h : B) : if false = true then A else B := by rw [if_neg Bool.false_ne_true]; exact h
def clsG (cs : List Int) (l : Int) : Int := (cs[l.toNat]?).getD 0
def stepL (cs : List Int) (M : List Int) (l : Int) : List Int := if l ≥ 0 ∧ clsG cs l ∉ M.map (clsG cs) then M ++ [l] else M
def seqM (m : Nat) : List Int := (List.range m).map fun k => ((k : Nat) : Int) + 1
def metG (cs : List Int) (m : Nat) : List Int := (seqM m).foldl (stepL cs) [0]
theorem step_len (cs M : List Int) (l : Int) : (stepL cs M l).length ≤ M.length + 1 := by
  unfold stepL
  split
  · rw [List.length_append]; exact Nat.le_refl _
  · omega
theorem fold_len (cs : List Int) : ∀ (r M : List Int), (r.foldl (stepL cs) M).length ≤ M.length + r.length
  | [], M => Nat.le_refl _
  | l :: r, M => by
    have h1 := fold_len cs r (stepL cs M l)
    have h2 := step_len cs M l
    show (r.foldl (stepL cs) (stepL cs M l)).length ≤ M.length + (r.length + 1)
    omega
theorem step_keep {cs M : List Int} {l c : Int} (h : c ∈ M.map (clsG cs)) : c ∈ (stepL cs M l).map (clsG cs) := by
  unfold stepL
  split
  · rw [List.map_append]; exact List.mem_append_left _ h
  · exact h
theorem fold_keep {cs : List Int} {c : Int} : ∀ (r : List Int) {M : List Int}, c ∈ M.map (clsG cs) → c ∈ (r.foldl (stepL cs) M).map (clsG cs)
  | [], M, h => h
  | l :: r, M, h => fold_keep r (M := stepL cs M l) (step_keep h)
theorem fold_has {cs : List Int} {l : Int} : ∀ {r M : List Int}, l ∈ r → l ≥ 0 → clsG cs l ∈ (r.foldl (stepL cs) M).map (clsG cs)
  | [], M, h, _ => absurd h List.not_mem_nil
  | y :: r, M, h, h0 => by
    rcases List.mem_cons.mp h with rfl | h
    · refine fold_keep r (M := stepL cs M l) ?_
      unfold stepL
      split
      · rw [List.map_append]; exact List.mem_append_right _ List.mem_cons_self
      · rename_i hc
        exact Classical.byContradiction fun z => hc ⟨h0, z⟩
    · exact fold_has (M := stepL cs M y) h h0
theorem met_has {cs : List Int} {m : Nat} {l : Int} (h0 : 0 ≤ l) (h1 : l ≤ m) : clsG cs l ∈ (metG cs m).map (clsG cs) := by
  by_cases c : l = 0
  · subst c
    exact fold_keep _ List.mem_cons_self
  · refine fold_has (List.mem_map.mpr ⟨(l - 1).toNat, List.mem_range.mpr (by omega), by omega⟩) h0
theorem fold_same {cs M : List Int} : ∀ {r : List Int}, (∀ l ∈ r, l ≥ 0 → clsG cs l ∈ M.map (clsG cs)) → r.foldl (stepL cs) M = M
  | [], _ => rfl
  | l :: r, h => by
    have e : stepL cs M l = M := by
      unfold stepL
      rw [if_neg (fun ⟨z1, z2⟩ => z2 (h l List.mem_cons_self z1))]
    show r.foldl (stepL cs) (stepL cs M l) = M
    rw [e]
    exact fold_same fun y hy => h y (List.mem_cons_of_mem _ hy)
theorem met_range {cs : List Int} {m : Nat} : ∀ l ∈ metG cs m, 0 ≤ l ∧ l ≤ m := by
  have key : ∀ (r M : List Int), (∀ l ∈ r, 0 ≤ l ∧ l ≤ (m : Int)) → (∀ l ∈ M, 0 ≤ l ∧ l ≤ (m : Int)) → ∀ l ∈ r.foldl (stepL cs) M, 0 ≤ l ∧ l ≤ (m : Int) := by
    intro r
    induction r with
    | nil => intro M _ h; exact h
    | cons y r ih =>
      intro M hr hM
      refine ih (stepL cs M y) (fun l hl => hr l (List.mem_cons_of_mem _ hl)) fun l hl => ?_
      unfold stepL at hl
      split at hl
      · rcases List.mem_append.mp hl with hl | hl
        · exact hM l hl
        · rw [List.mem_singleton.mp hl]; exact hr y List.mem_cons_self
      · exact hM l hl
  refine key _ _ (fun l hl => ?_) (fun l hl => ?_)
  · obtain ⟨k, hk, rfl⟩ := List.mem_map.mp hl
    have := List.mem_range.mp hk
    omega
  · rw [List.mem_singleton.mp hl]; omega
section
variable {P : Program} {w : World} {K : PySem.W.Frag} {mg : Str → Option Value} {base : Heap}
def sp__first_met (K : PySem.W.Frag) : Sp := fun vs H Q _ => ∃ (t c : Addr) (tab : List (List Int)) (cs : List Int) (m : Nat), vs = [.ref t, .ref c] ∧ TabAt K H t tab ∧ TabOk tab ∧ H c = some (.lst (cs.map V.int)) ∧ cs.length = m + 1 ∧ tab.length = m + 1 ∧ tab[0]? = some (seqM m) ∧
  ∀ p H', Same H H' → H' p = some (.lst ((metG cs m).map V.int)) → Q (.ref p) H'
theorem ok__first_met (T : Tx K mg) : FnOk P w K mg base CX0 1 T.f__first_met T.d__first_met ["table", "classes"] (sp__first_met K) := by
  refine T.F__first_met.ok sc__first_met (fun vs H Q E h => ?_) (fun cdv A outer s H vs Q E hr h => ?_)
  · obtain ⟨t, c, tab, cs, m, rfl, _⟩ := h; rfl
  · obtain ⟨t, c, tab, cs, m, rfl, ⟨tv, ht, hrows⟩, ⟨z1, z2⟩, hc, lc, lt, e0, q⟩ := h
    refine ⟨_, (pss_cons (ps_set (i := 2) sc__first_met.nd rfl (Or.inl rfl) (pe_lst (pa_cons pe_int pa_nil)))
    (pss_cons (ps_set (i := 3) sc__first_met.nd rfl (Or.inl rfl) (pe_disp (pps_cons (pe_ix ix_list (pv 1) pe_int (fun _ _ => rfl)) pe_bl pps_nil) rfl rfl (List.cons_ne_nil _ _) (by decide)))
    (pss_cons (ps_set (i := 4) sc__first_met.nd rfl (Or.inl rfl) pe_int)
    (pss_cons (ps_while PassesOwn.never (pt_cmpR op_lt (pv 4) (pe_callB call_len_seq (by rfl) T.n_len (by decide +kernel) (pa_cons (pv 2) pa_nil)) (nomark _))
    (pss_cons (ps_set (i := 5) sc__first_met.nd rfl (Or.inl rfl) (pe_ix ix_list (pv 0) (pe_ix ix_list (pv 2) (pv 4) (fun _ _ => rfl)) (fun _ _ => rfl)))
    (pss_cons (ps_for PassesOwn.never rfl (pi_list (pv 5)) (pg_name (i := 6) sc__first_met.nd rfl (Or.inl rfl))
    (pss_one (ps_if (PW.pt (pw_and (pt_cmpR op_ge (pv 6) pe_int (nomark _)) (pw_and1 (pt_cmp (pc_dnotin (hu_of hr) (pe_ix ix_list (pv 1) (pv 6) (fun _ _ => rfl)) (pv 3)) (by rfl))))) (pss_cons (ps_dput (hu_of hr) (pv 3) (pe_ix ix_list (pv 1) (pv 6) (fun _ _ => rfl)) pe_bl rfl)
    (pss_one (ps_expr (pe_bm PySem.F.plainAttrs_list PySem.F.slot_list_append PySem.F.type_list_append mt_append (pv 2) (pa_cons (pv 6) pa_nil))))) pss_nil)))
    (pss_one (ps_aug (i := 4) sc__first_met.nd rfl (Or.inl rfl) pe_int ip_add)))))
    (pss_one (ps_ret (pv 2))))))), ?_⟩
    have ltv : tv.length = tab.length := Paired.length hrows
    refine ⟨small' (by simp), fun L nL => ?_⟩
    have s1 : Same H (upd H L (.lst [.int 0])) := same_new nL
    have hL1 : (upd H L (.lst [.int 0])) L = some (.lst [.int 0]) := upd_same
    generalize upd H L (.lst [.int 0]) = H1 at s1 hL1 ⊢
    refine fun Kd nK => ?_
    have LK : L ≠ Kd := fun z => by rw [z, nK] at hL1; cases hL1
    have nKH : H Kd = none := s1.free nK
    have ec0 : cs[0]? = some (clsG cs 0) := by
      unfold clsG
      have : (0 : Int).toNat = 0 := rfl
      rw [this, List.getElem?_eq_getElem (by omega)]
      rfl
    have s2 : Same H1 (upd H1 Kd (.dK [])) := same_new nK
    refine ⟨.ref c, rfl, c, _, 0, _, rfl, rfl, .inl (.inl (s2 _ _ (s1 _ _ hc))), atI_nat (j := 0) (by rw [List.getElem?_map, ec0]; rfl), ?_⟩
    refine ⟨upd_same, [(Sum.inl (clsG cs 0), V.bl true)], rfl, by simp, ?_⟩
    have s3 : Same H (upd (upd H1 Kd (.dK [])) Kd (.dK (mergeK [] [(Sum.inl (clsG cs 0), V.bl true)]))) := same_upd2 (s1.trans s2) nKH
    have hL3 : (upd (upd H1 Kd (.dK [])) Kd (.dK (mergeK [] [(Sum.inl (clsG cs 0), V.bl true)]))) L = some (.lst [.int 0]) := by rw [upd_ne LK, upd_ne LK]; exact hL1
    have hK3 : (upd (upd H1 Kd (.dK [])) Kd (.dK (mergeK [] [(Sum.inl (clsG cs 0), V.bl true)]))) Kd = some (.dK (putK [] (Sum.inl (clsG cs 0)) (V.bl true))) := upd_same
    generalize upd (upd H1 Kd (.dK [])) Kd (.dK (mergeK [] [(Sum.inl (clsG cs 0), V.bl true)])) = H3 at s3 hL3 hK3 ⊢
    refine ⟨fun mm σ H' => ∃ (k : Nat) (M : List Int) (kvs : List (L2.Key × V)) (y5 y6 : Option V), σ = [some (.ref t), some (.ref c), some (.ref L), some (.ref Kd), some (.int (k : Int)), y5, y6] ∧ Same H H' ∧ H' L = some (.lst (M.map V.int)) ∧ H' Kd = some (.dK kvs) ∧ (∀ z : Int, (valV kvs (Sum.inl z)).isSome = decide (z ∈ M.map (clsG cs))) ∧ kvs.length ≤ M.length ∧ mm + k = m + 2 ∧ ((k = 0 ∧ M = [0]) ∨ (1 ≤ k ∧ k ≤ M.length ∧ M = metG cs m)),
      ⟨m + 2, 0, [0], _, none, none, rfl, s3, hL3, hK3, fun z => ?_, by simp [putK], by omega, .inl ⟨rfl, rfl⟩⟩, fun mm σ H' h => ?_⟩
    · rw [valV_put]
      show (if Sum.inl z = Sum.inl (clsG cs 0) then some (V.bl true) else none).isSome = decide (z ∈ [clsG cs 0])
      by_cases e : z = clsG cs 0
      · subst e
        rw [if_pos rfl, decide_eq_true List.mem_cons_self]
        rfl
      · rw [if_neg (fun x => e (Sum.inl.inj x)), decide_eq_false (fun x => e (List.mem_singleton.mp x))]
        rfl
    · obtain ⟨k, M, kvs, y5, y6, rfl, sm, hL, hK, kd, lk, mk, cases0⟩ := h
      have lM : M.length ≤ m + 1 := by
        rcases cases0 with ⟨_, e⟩ | ⟨_, _, e⟩
        · rw [e]; simp
        · rw [e]
          have := fold_len cs (seqM m) [0]
          unfold seqM at this
          rw [List.length_map, List.length_range] at this
          exact Nat.le_trans this (by simp; omega)
      have rM : ∀ l ∈ M, 0 ≤ l ∧ l ≤ m := by
        rcases cases0 with ⟨_, e⟩ | ⟨_, _, e⟩
        · rw [e]; intro l hl; rw [List.mem_singleton.mp hl]; omega
        · rw [e]; exact met_range
      refine ⟨.int (k : Int), rfl, .ref L, rfl, L, _, rfl, .inl (.inl (.inl hL)), _, _, rfl, rfl, _, rfl, ite2 (fun z => ?_) (fun z => ?_)⟩
      · have z1 := of_decide_eq_true z
        rw [List.length_map] at z1
        have z2' : k < M.length := by omega
        refine ⟨fun σ' H2 => ∃ (kvs2 : List (L2.Key × V)) (y5 y6 : Option V), σ' = [some (.ref t), some (.ref c), some (.ref L), some (.ref Kd), some (.int ((k + 1 : Nat) : Int)), y5, y6] ∧ Same H H2 ∧ H2 L = some (.lst ((metG cs m).map V.int)) ∧ H2 Kd = some (.dK kvs2) ∧ (∀ z : Int, (valV kvs2 (Sum.inl z)).isSome = decide (z ∈ (metG cs m).map (clsG cs))) ∧ kvs2.length ≤ (metG cs m).length ∧ k + 1 ≤ (metG cs m).length, fun σ' H2 ⟨kvs2, y5, y6, e, s2, h2, h3, h4, h5, h6⟩ => ⟨mm - 1, by omega, k + 1, metG cs m, kvs2, y5, y6, e, s2, h2, h3, h4, h5, by omega, .inr ⟨by omega, h6, rfl⟩⟩, ?_⟩
        have eM : M[k]? = some M[k] := List.getElem?_eq_getElem z2'
        obtain ⟨b0, b1⟩ := rM _ (List.getElem_mem z2')
        generalize hs : M[k] = sv at eM b0 b1
        have er : tab[sv.toNat]? = some tab[sv.toNat] := List.getElem?_eq_getElem (by omega)
        obtain ⟨zr, br⟩ := z2 _ (List.getElem_mem (show sv.toNat < tab.length by omega))
        generalize hrr : tab[sv.toNat] = rr at er zr br
        obtain ⟨pr, epr, hpr⟩ := LRows.get hrows er
        refine ⟨.ref t, rfl, .ref L, rfl, .int (k : Int), rfl, L, _, (k : Int), _, rfl, rfl, .inl (.inl hL), atI_nat (j := k) (by rw [List.getElem?_map, eM]; rfl), t, tv, sv, _, rfl, rfl, .inl (.inl (sm _ _ ht)), at_ref b0 epr, ?_⟩
        refine ⟨.ref pr, rfl, pr, rfl, ⟨_, .inl (.inl (sm _ _ hpr))⟩, ?_⟩
        refine for_list (K := K) (a := pr) (xs := rr.map V.int) (fun j σ H2 => ∃ (kvs2 : List (L2.Key × V)) (y6 : Option V), σ = [some (.ref t), some (.ref c), some (.ref L), some (.ref Kd), some (.int (k : Int)), some (.ref pr), y6] ∧ Same H H2 ∧ H2 L = some (.lst (((rr.take j).foldl (stepL cs) M).map V.int)) ∧ H2 Kd = some (.dK kvs2) ∧ (∀ z : Int, (valV kvs2 (Sum.inl z)).isSome = decide (z ∈ ((rr.take j).foldl (stepL cs) M).map (clsG cs))) ∧ kvs2.length ≤ ((rr.take j).foldl (stepL cs) M).length)
          ⟨kvs, y6, rfl, sm, hL, hK, kd, lk⟩ (fun j σ H2 _ h => ?_) (fun j x σ H2 ex h => ?_) (fun σ H2 h => ?_)
        · obtain ⟨_, _, _, s2, _⟩ := h
          exact .inl (.inl (s2 _ _ hpr))
        · obtain ⟨kvs2, y6, rfl, s2, hL2, hK2, kd2, lk2⟩ := h
          obtain ⟨l, el, rfl⟩ : ∃ l, rr[j]? = some l ∧ x = V.int l := by
            rw [List.getElem?_map] at ex
            cases e : rr[j]? with
            | none => rw [e] at ex; cases ex
            | some c => rw [e] at ex; exact ⟨c, rfl, (Option.some.inj ex).symm⟩
          obtain ⟨l0, l1⟩ := br l (List.mem_of_getElem? el)
          have ltj := (List.getElem?_eq_some_iff.mp el).1
          have tk : (rr.take (j + 1)).foldl (stepL cs) M = stepL cs ((rr.take j).foldl (stepL cs) M) l := by
            rw [List.take_add_one, el]
            show ((rr.take j) ++ [l]).foldl (stepL cs) M = _
            rw [List.foldl_append]
            rfl
          have lF : ((rr.take j).foldl (stepL cs) M).length ≤ 3000 := by
            have := fold_len cs (rr.take j) M
            rw [List.length_take] at this
            omega
          generalize (rr.take j).foldl (stepL cs) M = F at tk lF hL2 kd2 lk2
          refine ⟨.int l, rfl, _, _, rfl, rfl, _, rfl, ite2 (fun z => ?_) (fun z => ?_)⟩
          · have z0 : l ≥ 0 := of_decide_eq_true z
            have ecl : cs[l.toNat]? = some (clsG cs l) := by
              unfold clsG
              rw [List.getElem?_eq_getElem (show l.toNat < cs.length by omega)]
              rfl
            refine ⟨.ref c, rfl, .int l, rfl, c, _, l, _, rfl, rfl, .inl (.inl (s2 _ _ hc)), at_map z0 ecl, .ref Kd, rfl, Kd, _, rfl, DGet.k (k := Sum.inl (clsG cs l)) hK2, _, rfl, ite2 (fun z2 => ?_) (fun z2 => ?_)⟩
            · have nin : clsG cs l ∉ F.map (clsG cs) := fun hm => by
                rw [kd2, decide_eq_true hm] at z2
                cases z2
              have eS : stepL cs F l = F ++ [l] := by unfold stepL; rw [if_pos ⟨z0, nin⟩]
              refine ⟨.ref Kd, rfl, .ref c, rfl, .int l, rfl, c, _, l, _, rfl, rfl, .inl (.inl (s2 _ _ hc)), at_map z0 ecl, Kd, _, rfl, DPut.k (k := Sum.inl (clsG cs l)) hK2 (small (by omega)), ?_⟩
              have hL4 : (upd H2 Kd (.dK (putK kvs2 (Sum.inl (clsG cs l)) (V.bl true)))) L = some (.lst (F.map V.int)) := by rw [upd_ne LK]; exact hL2
              refine ⟨.ref L, rfl, .inl ⟨rfl, _, .inl (.inl hL4)⟩, .int l, rfl, L, _, _, rfl, rfl, hL4, small (by rw [List.length_map]; omega), ?_⟩
              refine ⟨putK kvs2 (Sum.inl (clsG cs l)) (V.bl true), some (.int l), rfl, same_upd2 (same_upd2 s2 nKH) nL, ?_, by rw [upd_ne (Ne.symm LK)]; exact upd_same, fun zz => ?_, ?_⟩
              · rw [upd_same, tk, eS, List.map_append]
                rfl
              · rw [valV_put, tk, eS, List.map_append, List.map_singleton]
                by_cases e : zz = clsG cs l
                · subst e
                  rw [if_pos rfl, decide_eq_true (List.mem_append_right _ List.mem_cons_self)]
                  rfl
                · rw [if_neg (fun x => e (Sum.inl.inj x)), kd2]
                  by_cases hm : zz ∈ F.map (clsG cs)
                  · rw [decide_eq_true hm, decide_eq_true (List.mem_append_left _ hm)]
                  · rw [decide_eq_false hm, decide_eq_false (fun x => (List.mem_append.mp x).elim hm fun x => e (List.mem_singleton.mp x))]
              · rw [tk, eS, List.length_append]
                have := length_putK kvs2 (Sum.inl (clsG cs l)) (V.bl true)
                simp only [List.length_singleton]
                omega
            · have yin : clsG cs l ∈ F.map (clsG cs) := Classical.byContradiction fun hm => by
                rw [kd2, decide_eq_false hm] at z2
                exact z2 rfl
              have eS : stepL cs F l = F := by unfold stepL; rw [if_neg (fun x => x.2 yin)]
              refine ⟨kvs2, some (.int l), rfl, s2, ?_, hK2, ?_, ?_⟩
              · rw [tk, eS]; exact hL2
              · rw [tk, eS]; exact kd2
              · rw [tk, eS]; exact lk2
          · have z0 : ¬ l ≥ 0 := fun x => z (decide_eq_true x)
            have eS : stepL cs F l = F := by unfold stepL; rw [if_neg (fun x => z0 x.1)]
            refine if_ff ⟨kvs2, some (.int l), rfl, s2, ?_, hK2, ?_, ?_⟩
            · rw [tk, eS]; exact hL2
            · rw [tk, eS]; exact kd2
            · rw [tk, eS]; exact lk2
        · obtain ⟨kvs2, y6, rfl, s2, hL2, hK2, kd2, lk2⟩ := h
          rw [List.length_map, List.take_length] at hL2 kd2 lk2
          have eF : rr.foldl (stepL cs) M = metG cs m := by
            rcases cases0 with ⟨ek, e⟩ | ⟨_, _, e⟩
            · subst ek
              rw [e] at eM
              have : sv = 0 := (Option.some.inj eM).symm
              rw [this] at er
              have e1 : seqM m = rr := Option.some.inj (e0.symm.trans er)
              rw [e, ← e1]
              rfl
            · rw [e]
              refine fold_same fun l hl h0 => met_has h0 ?_
              have := (br l hl).2
              omega
          rw [eF] at hL2 kd2 lk2
          refine ⟨.int (k : Int), rfl, _, _, rfl, rfl, kvs2, some (.ref pr), y6, rfl, s2, hL2, hK2, kd2, lk2, ?_⟩
          have : M.length ≤ (metG cs m).length := by
            rcases cases0 with ⟨_, e⟩ | ⟨_, _, e⟩
            · rw [e]
              have := met_has (cs := cs) (m := m) (l := 0) (by omega) (by omega)
              have := List.length_pos_of_mem this
              rw [List.length_map] at this
              exact this
            · rw [e]
              exact Nat.le_refl _
          omega
      · have z1 : ¬ ((k : Int) < ((M.map V.int).length : Int)) := fun x => z (decide_eq_true x)
        rw [List.length_map] at z1
        rcases cases0 with ⟨ek, e⟩ | ⟨_, _, e⟩
        · rw [e, ek] at z1
          simp at z1
        · refine ⟨.ref L, rfl, q L H' sm ?_⟩
          rw [hL, e]
end
end K2
set_option Elab.async false
set_option linter.all false
set_option maxRecDepth 100000
set_option maxHeartbeats 4000000
namespace K2
open PySem PySem.Spec PyProof.Rows L2 Ver
theorem pg_tupK {X : Cx} {K : PySem.W.Frag} {es : List Expr} {k : Nat} {pos : Pos} {t : TGs} {n : Nat} (hK : X.K = K) (hc : X.calm = true) (hn : (assignEach es X.env).length = n) (hst : (assignEach es X.env).findIdx? (·.1) = none) (h : PGs X es t) : PG X (.Tuple es k pos) (gTup K n t) := by
  subst hK
  exact pg_tup hc h hn hst
def rTupK (K : PySem.W.Frag) : List V → Hp → VK → Prop := fun xs H Q => ∃ p ys, xs = [V.ref p] ∧ ((SqL K H p ys ∧ ∀ l, H l = none → Q (.ref l) (upd H l (.tup ys))) ∨ (SqT K H p ys ∧ Q (.ref p) H))
theorem call_tupK {X : Cx} {K : PySem.W.Frag} (h : X.K = K) : CallR X (.type "tuple") (rTupK K) := by
  subst h
  exact call_tuple_of
theorem yes_on {σ : L2.St} {H : Hp} {A B : Hp → Prop} (h : A H) : tYes σ H fun b H3 => if b = true then A H3 else B H3 := by
  show (if true = true then A H else B H)
  rw [if_pos rfl]
  exact h
theorem Rows.keep {K : PySem.W.Frag} {H H' : Hp} (e : ∀ b xs, H b = some (.tup xs) → H' b = some (.tup xs)) : ∀ {vs : List V} {rs : List (List Int)}, Rows K H vs rs → Rows K H' vs rs
  | _, _, .nil => .nil
  | _, _, .cons ⟨p, h1, h2⟩ t => .cons ⟨p, h1, e _ _ h2⟩ (Rows.keep e t)
theorem fold_nodup {cs : List Int} : ∀ (r M : List Int), (M.map (clsG cs)).Nodup → ((r.foldl (stepL cs) M).map (clsG cs)).Nodup
  | [], M, h => h
  | l :: r, M, h => by
    refine fold_nodup r (stepL cs M l) ?_
    unfold stepL
    split
    · rename_i c
      rw [List.map_append, List.map_singleton]
      refine List.pairwise_append.mpr ⟨h, List.pairwise_singleton _ _, fun a ha b hb => ?_⟩
      rw [List.mem_singleton.mp hb]
      exact fun z => c.2 (by rw [← z]; exact ha)
    · exact h
theorem met_nodup (cs : List Int) (m : Nat) : ((metG cs m).map (clsG cs)).Nodup := fold_nodup _ _ (List.pairwise_singleton _ _)
theorem met_len (cs : List Int) (m : Nat) : (metG cs m).length ≤ m + 1 := by
  have := fold_len cs (seqM m) [0]
  unfold seqM at this
  rw [List.length_map, List.length_range] at this
  exact Nat.le_trans this (by simp; omega)
def numG (cs : List Int) (m : Nat) (l : Int) : Int := if l ≥ 0 then ((idxG (clsG cs l) ((metG cs m).map (clsG cs)) : Nat) : Int) else -1
def bookG (tab : List (List Int)) (cs : List Int) (m : Nat) : List (List Int) := (metG cs m).map fun s => (rowAt tab s).map (numG cs m)
def finsG (n : Nat) : List Int := (List.range n).map fun i => ((i : Nat) : Int)
section
variable {P : Program} {w : World} {K : PySem.W.Frag} {mg : Str → Option Value} {base : Heap}
def sp_least_book (K : PySem.W.Frag) (C : Addr) : Sp := fun vs H Q E => ∃ (t : Addr) (tab : List (List Int)) (m : Nat), vs = [.ref t] ∧ TabAt K H t tab ∧ TabOk tab ∧ tab.length = m + 1 ∧ tab[0]? = some (seqM m) ∧ idxs (marks tab (cls1 tab)) = cls1 tab ∧
  (60 < cnt1 tab → RefusesT C E H "book") ∧ (cnt1 tab ≤ 60 → ∀ p H', Same H H' → BkAt K H' p ⟨((metG (cls1 tab) m).length : Int), finsG (metG (cls1 tab) m).length, bookG tab (cls1 tab) m⟩ → Q (.ref p) H')
theorem ok_least_book (T : Tx K mg) : FnOk P w K mg base (L2.CX P w) 3 T.f_least_book T.d_least_book ["table"] (sp_least_book K T.C_TooMuch) := by
  refine T.F_least_book.okX sc_least_book (fun vs H Q E h => ?_) (fun cdv A outer s H vs Q E hr h => ?_)
  · obtain ⟨t, tab, m, rfl, _⟩ := h; rfl
  · obtain ⟨t, tab, m, rfl, ht, hok, lt, e0, stab, q1, q2⟩ := h
    refine ⟨_, (pss_cons (ps_set (i := 1) sc_least_book.nd rfl (Or.inr rfl) (pe_call (ok__classes_of T) hr rfl T.g__classes_of T.F__classes_of.kp T.b__classes_of .nil (passes_call (takes_of rfl rfl rfl rfl) (fun _ _ _ _ h => h)) (pa_cons (pv 0) pa_nil)))
    (pss_cons (ps_set (i := 2) sc_least_book.nd rfl (Or.inl rfl) (pe_call (ok__first_met T) (hr.mono (by decide)) rfl T.g__first_met T.F__first_met.kp T.b__first_met .nil pass0 (pa_cons (pv 0) (pa_cons (pv 1) pa_nil))))
    (pss_cons (ps_set (i := 3) sc_least_book.nd rfl (Or.inr rfl) (pe_dc (own := [("k", 5), ("state", 6)]) (g := _) (tt := tYes) rfl sc_least_book.nd (pi_enum (by rfl) T.n_enumerate (pa_cons (pv 2) pa_nil)) (blkOk_by (N := ["table", "classes", "met", "numbers", "rows", "k", "state", "lead"]) (sc := defScope s_least_book) (by decide +kernel)) (fun _ _ _ _ _ => (pg_tupK (K := K) (n := 2) rfl rfl rfl rfl (pgs_cons (pg_name (i := 5) sc_least_book.nd rfl (Or.inl rfl)) (pgs_cons (pg_name (i := 6) sc_least_book.nd rfl (Or.inl rfl)) pgs_nil)))) (fun _ _ _ _ _ => pts_nil) (fun _ _ _ _ _ => (pe_ix (ix_listK (K := K) rfl) (pv 1) (pv 6) (fun _ _ => rfl))) (fun _ _ _ _ _ => (pv 5))))
    (pss_cons (ps_setLc (i := 4) (own := [("state", 6)]) (g := gName 6) (tt := tYes) (by rfl) sc_least_book.nd rfl rfl (sw_true rfl rfl rfl (by decide +kernel)) (pi_list (pv 2)) (blkOk_by (N := ["table", "classes", "met", "numbers", "rows", "k", "state", "lead"]) (sc := defScope s_least_book) (by decide +kernel)) (fun _ _ _ _ _ => (pg_name (i := 6) sc_least_book.nd rfl (Or.inl rfl))) (fun _ _ _ _ _ => pts_nil) (fun _ _ _ _ _ => (pe_callTy (call_tupK (K := K) rfl) (by rfl) T.n_tuple (by decide +kernel) (pa_cons (pe_lc (own := [("lead", 7)]) (g := gName 7) (tt := tYes) (by rfl) sc_least_book.nd (pi_listK (K := K) rfl (pe_ix (ix_listK (K := K) rfl) (pv 0) (pv 6) (fun _ _ => rfl))) (blkOk_by (N := ["table", "classes", "met", "numbers", "rows", "k", "state", "lead"]) (sc := PySem.relabel (lcScope (asgVal ((defBody s_least_book).getD 3 (.Pass ⟨0, 0, 0, 0⟩)))) (envOfC "" (defScope s_least_book) 0 0 .none)) (by decide +kernel)) (fun _ _ _ _ _ => (pg_name (i := 7) sc_least_book.nd rfl (Or.inl rfl))) (fun _ _ _ _ _ => pts_nil) (fun _ _ _ _ _ => (pe_ifExp (pt_cmpR op_ge (pv 7) pe_int (nomark _)) (pe_dget (hu_of hr) (pv 3) (pe_ix (ix_listK (K := K) rfl) (pv 1) (pv 7) (fun _ _ => rfl)) (fun _ _ => rfl)) (pe_un un_neg pe_int)))) pa_nil))))
    (pss_one (ps_ret (pe_tup (pa_cons (pe_callB call_len_seq (by rfl) T.n_len (by decide +kernel) (pa_cons (pv 2) pa_nil)) (pa_cons (pe_tupRg rfl (by rfl) T.n_tuple (prg_1 (by rfl) T.n_range (pe_callB call_len_seq (by rfl) T.n_len (by decide +kernel) (pa_cons (pv 2) pa_nil)))) (pa_cons (pe_callTy call_tuple_of (by rfl) T.n_tuple (by decide +kernel) (pa_cons (pv 4) pa_nil)) pa_nil)))))))))), ?_⟩
    have z1 := hok.1
    have lc1 : (cls1 tab).length = m + 1 := by
      unfold cls1 idxs marks
      rw [List.length_map, List.length_zipWith, List.length_replicate, Nat.min_self, lt]
    refine ⟨.ref t, rfl, t, tab, rfl, ht, hok, by omega, stab, fun k H' dd s2 n => q1 k H' dd s2 n, fun le60 c H1 s1 hc => ?_⟩
    replace q2 := q2 le60
    refine ⟨.ref t, rfl, .ref c, rfl, t, c, tab, cls1 tab, m, rfl, ht.grow s1, hok, hc, lc1, lt, e0, fun L H2 s2 hL => ?_⟩
    have lM := met_len (cls1 tab) m
    have nd := met_nodup (cls1 tab) m
    have rM : ∀ l ∈ metG (cls1 tab) m, 0 ≤ l ∧ l ≤ m := met_range
    have hs : ∀ l : Int, 0 ≤ l → l ≤ m → clsG (cls1 tab) l ∈ (metG (cls1 tab) m).map (clsG (cls1 tab)) := fun l a b => met_has a b
    have ecl : ∀ l : Int, 0 ≤ l → l ≤ m → (cls1 tab)[l.toNat]? = some (clsG (cls1 tab) l) := fun l a b => by
      unfold clsG
      rw [List.getElem?_eq_getElem (show l.toNat < (cls1 tab).length by omega)]
      rfl
    have sm2 := s1.trans s2
    have hc2 := s2 _ _ hc
    obtain ⟨tv, ht2, hrows⟩ := ht.grow sm2
    have enum : ∀ x : Int, numG (cls1 tab) m x = if x ≥ 0 then ((idxG (clsG (cls1 tab) x) ((metG (cls1 tab) m).map (clsG (cls1 tab))) : Nat) : Int) else -1 := fun _ => rfl
    have ebook : bookG tab (cls1 tab) m = (metG (cls1 tab) m).map fun s => (rowAt tab s).map (numG (cls1 tab) m) := rfl
    generalize bookG tab (cls1 tab) m = BK at q2 ebook
    generalize numG (cls1 tab) m = nG at enum ebook
    generalize metG (cls1 tab) m = M at q2 hL lM nd rM hs enum ebook
    generalize cls1 tab = cs at hc2 lc1 nd hs ecl enum
    refine ⟨.ref L, rfl, L, _, rfl, .inl (.inl hL), fun D nD => ?_⟩
    have DL : L ≠ D := ne_of_none hL nD
    refine ⟨fun i mm H' => ∃ kvs : List (L2.Key × V), Same H2 H' ∧ H' D = some (.dK kvs) ∧ kvs.length ≤ i ∧ (∀ z : Int, valV kvs (Sum.inl z) = if z ∈ (M.take i).map (clsG cs) then some (V.int ((idxG z ((M.take i).map (clsG cs)) : Nat) : Int)) else none) ∧ mm + i = M.length, ⟨M.length, [], same_new nD, upd_same, Nat.le_refl _, fun z => rfl, rfl⟩, fun i mm H' h => ?_⟩
    obtain ⟨kvs, k2, hD, lk, kd, em⟩ := h
    by_cases hlt : i < M.length
    · have eM : M[i]? = some M[i] := List.getElem?_eq_getElem hlt
      obtain ⟨b0, b1⟩ := rM _ (List.getElem_mem hlt)
      have nin : clsG cs M[i] ∉ (M.take i).map (clsG cs) := fun hm => by
        have h1 : (M.map (clsG cs))[i]? = some (clsG cs M[i]) := by rw [List.getElem?_map, eM]; rfl
        have h2 := idx_at nd h1
        have h3 : M.map (clsG cs) = (M.take i).map (clsG cs) ++ (M.drop i).map (clsG cs) := by rw [← List.map_append, List.take_append_drop]
        rw [h3, idx_app _ hm] at h2
        have h4 := idx_lt hm
        rw [List.length_map, List.length_take] at h4
        omega
      generalize M[i] = sv at eM b0 b1 nin
      refine .inr ⟨⟨M.map V.int, V.int sv, .inl (.inl (k2 _ _ hL)), by rw [List.getElem?_map, eM]; rfl⟩, fun H'' => ∃ kvs2 : List (L2.Key × V), Same H2 H'' ∧ H'' D = some (.dK kvs2) ∧ kvs2.length ≤ i + 1 ∧ (∀ z : Int, valV kvs2 (Sum.inl z) = if z ∈ (M.take (i + 1)).map (clsG cs) then some (V.int ((idxG z ((M.take (i + 1)).map (clsG cs)) : Nat) : Int)) else none), fun H'' ⟨kvs2, a1, a2, a3, a4⟩ => ⟨mm - 1, by omega, kvs2, a1, a2, a3, a4, by omega⟩, fun x H'' y => ?_⟩
      obtain ⟨TT, x2, rfl, nT, rfl, fx⟩ := y
      have ex2 : x2 = V.int sv := Option.some.inj ((fx _ (.inl (.inl (k2 _ _ hL)))).symm.trans (by rw [List.getElem?_map, eM]; rfl))
      subst ex2
      have sT : Same H' (upd H' TT (.tup [.int (i : Nat), .int sv])) := same_new nT
      have hT : (upd H' TT (.tup [.int (i : Nat), .int sv])) TT = some (.tup [.int (i : Nat), .int sv]) := upd_same
      have DT : D ≠ TT := ne_of_none hD nT
      generalize upd H' TT (.tup [.int (i : Nat), .int sv]) = H4 at sT hT ⊢
      refine ⟨TT, _, rfl, .inl (.inl hT), rfl, .int (i : Nat), _, rfl, .int sv, _, rfl, rfl, rfl, ?_⟩
      refine yes_on ?_
      refine ⟨.ref c, rfl, .int sv, rfl, c, _, sv, _, rfl, rfl, .inl (.inl (sT _ _ (k2 _ _ hc2))), at_map b0 (ecl sv b0 b1), .int (i : Nat), rfl, kvs, Sum.inl (clsG cs sv), rfl, sT _ _ hD, small (by omega), ?_⟩
      refine ⟨putK kvs (Sum.inl (clsG cs sv)) (V.int (i : Nat)), same_upd2 (k2.trans sT) nD, upd_same, Nat.le_trans (length_putK _ _ _) (by omega), fun zz => ?_⟩
      have tk : (M.take (i + 1)).map (clsG cs) = (M.take i).map (clsG cs) ++ [clsG cs sv] := by
        rw [List.take_add_one, eM, List.map_append]
        rfl
      have li : ((M.take i).map (clsG cs)).length = i := by rw [List.length_map, List.length_take]; omega
      rw [valV_put, tk]
      by_cases e : zz = clsG cs sv
      · subst e
        rw [if_pos rfl, if_pos (List.mem_append_right _ List.mem_cons_self), idx_new nin, li]
      · rw [if_neg (fun x => e (Sum.inl.inj x)), kd]
        by_cases hm : zz ∈ (M.take i).map (clsG cs)
        · rw [if_pos hm, if_pos (List.mem_append_left _ hm), idx_app _ hm]
        · rw [if_neg hm, if_neg (fun x => (List.mem_append.mp x).elim hm fun x => e (List.mem_singleton.mp x))]
    · have ei : i = M.length := by omega
      refine .inl ⟨⟨M.map V.int, .inl (.inl (k2 _ _ hL)), by rw [List.length_map]; omega⟩, ?_⟩
      rw [ei, List.take_length] at kd
      refine ⟨.ref L, rfl, L, rfl, ⟨_, .inl (.inl (k2 _ _ hL))⟩, fun R nR => ?_⟩
      refine comp_list (K := K) (a := L) (xs := M.map V.int) (i := 6) (fun acc H5 => Same H' H5 ∧ Rows K H5 acc ((M.take acc.length).map fun s => (rowAt tab s).map nG)) ⟨same_new nR, .nil⟩ (fun acc H5 h => .inl (.inl (h.1 _ _ (k2 _ _ hL)))) (fun acc x H5 ex h hR => ?_) (fun acc H6 la h hR => ?_)
      · obtain ⟨k5, gr⟩ := h
        obtain ⟨sv, es, rfl⟩ : ∃ sv, M[acc.length]? = some sv ∧ x = V.int sv := by
          rw [List.getElem?_map] at ex
          cases e : M[acc.length]? with
          | none => rw [e] at ex; cases ex
          | some c => rw [e] at ex; exact ⟨c, rfl, (Option.some.inj ex).symm⟩
        obtain ⟨b0, b1⟩ := rM sv (List.mem_of_getElem? es)
        have lta := (List.getElem?_eq_some_iff.mp es).1
        have er : tab[sv.toNat]? = some tab[sv.toNat] := List.getElem?_eq_getElem (by omega)
        obtain ⟨zr, br⟩ := hok.2 _ (List.getElem_mem (show sv.toNat < tab.length by omega))
        have era : rowAt tab sv = tab[sv.toNat] := by unfold rowAt; rw [er]; rfl
        rw [← era] at er zr br
        obtain ⟨pr, epr, hpr⟩ := LRows.get hrows er
        have k25 := k2.trans k5
        refine ⟨.ref t, rfl, .int sv, rfl, t, tv, sv, _, rfl, rfl, .inl (.inl (k25 _ _ ht2)), at_ref b0 epr, pr, rfl, ⟨_, .inl (.inl (k25 _ _ hpr))⟩, fun F nF => ?_⟩
        refine comp_list (K := K) (a := pr) (xs := (rowAt tab sv).map V.int) (i := 7) (fun acc H6 => Same H5 H6 ∧ acc = (((rowAt tab sv).take acc.length).map nG).map V.int) ⟨same_new nF, rfl⟩ (fun acc H6 h => .inl (.inl (h.1 _ _ (k25 _ _ hpr)))) (fun acc2 y H6 ey h hF => ?_) (fun acc2 H7 la h hF => ?_)
        · obtain ⟨k6, ea⟩ := h
          obtain ⟨l, el, rfl⟩ : ∃ l, (rowAt tab sv)[acc2.length]? = some l ∧ y = V.int l := by
            rw [List.getElem?_map] at ey
            cases e : (rowAt tab sv)[acc2.length]? with
            | none => rw [e] at ey; cases ey
            | some c => rw [e] at ey; exact ⟨c, rfl, (Option.some.inj ey).symm⟩
          have ltl := (List.getElem?_eq_some_iff.mp el).1
          obtain ⟨l0, l1⟩ := br l (List.mem_of_getElem? el)
          have fin : ∀ v, v = V.int (nG l) → Turned F (fun acc H6 => Same H5 H6 ∧ acc = (((rowAt tab sv).take acc.length).map nG).map V.int) acc2.length v H6 := fun v ev => by
            subst ev
            refine turned hF (small (by omega)) ⟨same_upd2 k6 nF, ?_⟩
            rw [List.length_append, List.length_singleton, List.take_add_one, el, List.map_append, List.map_append, ← ea]
            rfl
          have k26 := k25.trans k6
          refine ⟨.int l, rfl, _, _, rfl, rfl, _, rfl, ite2 (fun z => ?_) (fun z => ?_)⟩
          · have z0 : l ≥ 0 := of_decide_eq_true z
            refine ⟨.ref D, rfl, .ref c, rfl, .int l, rfl, c, _, l, _, rfl, rfl, .inl (.inl (k26 _ _ hc2)), at_map z0 (ecl l z0 (by omega)), D, _, rfl, (by
              have g := DGet.k (k := Sum.inl (clsG cs l)) (k6 _ _ (k5 _ _ hD))
              rw [kd, if_pos (hs l z0 (by omega))] at g
              exact g), fin _ ?_⟩
            rw [enum, if_pos z0]
          · have z0 : ¬ l ≥ 0 := fun x => z (decide_eq_true x)
            refine ⟨1, rfl, fin _ ?_⟩
            rw [enum, if_neg z0]
        · obtain ⟨k7, ea⟩ := h
          rw [List.length_map] at la
          rw [la, List.take_length] at ea
          subst ea
          refine ⟨F, _, rfl, .inl ⟨.inl (.inl hF), fun q3 nq3 => ?_⟩⟩
          have k8 := same_new (o := .tup (((rowAt tab sv).map nG).map V.int)) nq3
          have k58 := k7.trans k8
          refine turned (k58 _ _ hR) (small (by omega)) ⟨same_upd2 (k5.trans k58) nR, ?_⟩
          rw [List.length_append, List.length_singleton, List.take_add_one, es, List.map_append]
          have RQ : q3 ≠ R := fun z => by
            have := k7 _ _ hR
            rw [z, this] at nq3
            cases nq3
          refine Paired.snoc ?_ ⟨q3, rfl, by rw [upd_ne RQ]; exact upd_same⟩
          refine Rows.keep (fun b xs e => ?_) gr
          rw [upd_ne (fun z => by rw [z, hR] at e; cases e)]
          exact k58 _ _ e
      · obtain ⟨k6, gr⟩ := h
        rw [List.length_map] at la
        rw [la, List.take_length, ← ebook] at gr
        have lacc : acc.length = M.length := la
        have smF := (sm2.trans k2).trans k6
        refine ⟨.ref L, rfl, L, _, rfl, .inl (.inl (.inl (k6 _ _ (k2 _ _ hL)))), ?_⟩
        have hL6 := k6 _ _ (k2 _ _ hL)
        have ef : rgV 0 ((M.map V.int).length : Int) = (finsG M.length).map V.int := by
          unfold rgV finsG
          rw [List.map_map, List.length_map, Int.sub_zero, Int.toNat_natCast]
          exact List.map_congr_left fun i _ => by show V.int (0 + (i : Int)) = V.int (i : Int); rw [Int.zero_add]
        refine ⟨.ref L, rfl, L, _, rfl, .inl (.inl (.inl hL6)), _, rfl, RgOk.of_le (by omega) (by rw [List.length_map]; omega) (by omega) (by omega), fun f nf => ?_⟩
        rw [ef]
        have k7 : Same H6 (upd H6 f (.tup ((finsG M.length).map V.int))) := same_new nf
        have hf : (upd H6 f (.tup ((finsG M.length).map V.int))) f = some (.tup ((finsG M.length).map V.int)) := upd_same
        generalize upd H6 f (.tup ((finsG M.length).map V.int)) = H7 at k7 hf ⊢
        refine ⟨.ref R, rfl, R, _, rfl, .inl ⟨.inl (.inl (k7 _ _ hR)), fun g ng => ?_⟩⟩
        have k8 : Same H7 (upd H7 g (.tup acc)) := same_new ng
        have hg : (upd H7 g (.tup acc)) g = some (.tup acc) := upd_same
        generalize upd H7 g (.tup acc) = H8 at k8 hg ⊢
        refine ⟨small' (by simp), fun p np => ?_⟩
        have k9 := same_new (o := .tup [.int ((M.map V.int).length : Int), .ref f, .ref g]) np
        refine q2 p _ (((smF.trans k7).trans k8).trans k9) ⟨f, g, acc, .inl (.inl ?_), .inl (.inl (k9 _ _ (k8 _ _ hf))), .inl (.inl (k9 _ _ hg)), gr.grow ((k7.trans k8).trans k9)⟩
        rw [upd_same, List.length_map]
end
end K2
set_option Elab.async false
set_option linter.all false
set_option maxRecDepth 100000
set_option maxHeartbeats 2000000
namespace K2
open PySem PySem.Spec PyProof.Rows L2 Ver
section
variable {P : Program} {w : World} {K : PySem.W.Frag} {mg : Str → Option Value} {base : Heap}
def pairD (m : Int) (d : PyData) : Bool := allBelow m d && decide (lenD d = 2)
def pairsD (m : Int) : PyData → Bool | .tuple ds => ds.all (pairD m) | _ => false
def shortAll : PyData → Prop | .tuple ds => ds.length ≤ 1000 ∧ ∀ e ∈ ds, lenD e ≤ 1000 | _ => True
def sp__are_pairs (K : PySem.W.Frag) : Sp := fun vs H Q _ => ∃ x d m, vs = [x, .int m] ∧ Dp K H x d ∧ shortAll d ∧ ∀ H', Same H H' → Q (.bl (pairsD m d)) H'
theorem ok__are_pairs (T : Tx K mg) : FnOk P w K mg base CX0 5 T.f__are_pairs T.d__are_pairs ["thing", "many"] (sp__are_pairs K) := by
  refine T.F__are_pairs.ok sc__are_pairs (fun vs H Q E h => ?_) (fun cdv A outer s H vs Q E hr h => ?_)
  · obtain ⟨x, d, m, rfl, _⟩ := h; rfl
  · obtain ⟨x, d, m, rfl, hd, hz, q⟩ := h
    refine ⟨_, (pss_cons (ps_if (pt_not (pt_val (pe_callB (cr_isiD (n := "tuple") (by decide)) (by rfl) T.n_isinstance (by decide +kernel) (pa_cons (pv 0) (pa_cons (pe_bltn (v := .ty "tuple") (by rfl) T.n_tuple (by decide +kernel) rfl) pa_nil))))) (pss_one (ps_ret pe_bl)) pss_nil)
    (pss_one (ps_ret (pe_callB (cr_all rfl) (by rfl) T.n_all (by decide +kernel) (pa_cons (pe_lc (own := [("pair", 2)]) (g := gName 2) (tt := tYes) (by rfl) sc__are_pairs.nd (pi_tup (pv 0)) (blkOk_by (N := ["thing", "many", "pair"]) (sc := defScope s__are_pairs) (by decide +kernel)) (fun _ _ _ _ _ => (pg_name (i := 2) sc__are_pairs.nd rfl (Or.inl rfl))) (fun _ _ _ _ _ => pts_nil) (fun _ _ _ _ _ => (pe_and (pe_call (ok_are_below T) hr rfl T.g_are_below T.F_are_below.kp T.b_are_below .nil pass0 (pa_cons (pv 2) (pa_cons (pv 1) pa_nil))) (pe_one (pe_cmpR op_eq (pe_callB (cr_lenK (K := K) rfl) (by rfl) T.n_len (by decide +kernel) (pa_cons (pv 2) pa_nil)) pe_int (nomark _)))))) pa_nil))))), ?_⟩
    refine ⟨x, rfl, x, d, rfl, hd, _, rfl, ?_⟩
    rw [isa_tuple]
    cases d
    case tuple ds =>
      obtain ⟨a, xs, rfl, hs, ha⟩ : ∃ a xs, x = .ref a ∧ SqT K H a xs ∧ DpAll K H xs ds := by
        cases hd with
        | tup hs ha => exact ⟨_, _, rfl, hs, ha⟩
      obtain ⟨z1, z2⟩ := hz
      refine if_ff ?_
      refine ⟨.ref a, rfl, a, rfl, ⟨_, hs⟩, fun D nD => ?_⟩
      refine comp_tup (K := K) (a := a) (xs := xs) (i := 2) (fun acc H' => Same H H' ∧ acc = ((ds.take acc.length).map fun d => V.bl (pairD m d))) ⟨same_new nD, rfl⟩ (fun acc H' h => seqT_grow h.1 hs) (fun acc y H' e h hD => ?_) (fun acc H' e h hD => ?_)
      · obtain ⟨d', e', hd'⟩ := dpAll_get ha e
        have lt : acc.length < xs.length := (List.getElem?_eq_some_iff.mp e).1
        have ld := z2 d' (List.mem_of_getElem? e')
        have fin : ∀ (b : Bool) (H2 : Hp), b = pairD m d' → Same H' H2 → Turned D (fun acc H' => Same H H' ∧ acc = ((ds.take acc.length).map fun d => V.bl (pairD m d))) acc.length (.bl b) H2 := fun b H2 eb s2 => by
          subst eb
          refine turned (s2 _ _ hD) (small (by have h1 := dpAll_len ha; omega)) ⟨same_upd2 (h.1.trans s2) nD, ?_⟩
          rw [List.length_append, List.length_singleton, List.take_add_one, e', List.map_append, ← h.2]
          rfl
        refine ⟨y, rfl, .int m, rfl, y, d', m, rfl, dp_grow h.1 hd', ld, fun H2 s2 => ⟨_, rfl, ite2 (fun z => ?_) (fun z => ?_)⟩⟩
        · cases d'
          case tuple es =>
            obtain ⟨b, ys, rfl, hb, hbs⟩ : ∃ b ys, y = .ref b ∧ SqT K H b ys ∧ DpAll K H ys es := by
              cases hd' with
              | tup hs ha => exact ⟨_, _, rfl, hs, ha⟩
            refine ⟨.ref b, rfl, b, ys, rfl, .inr (seqT_grow (h.1.trans s2) hb), rfl, fin _ _ ?_ s2⟩
            show decide (V.int (ys.length : Int) = V.int 2) = (allBelow m (.tuple es) && decide (es.length = 2))
            rw [z, Bool.true_and, ← dpAll_len hbs]
            by_cases c : ys.length = 2
            · rw [decide_eq_true c, c]; rfl
            · rw [decide_eq_false c, decide_eq_false (fun x => c (by have := V.int.inj x; omega))]
          all_goals cases z
        · refine fin _ _ ?_ s2
          unfold pairD
          rw [show allBelow m d' = false from Bool.eq_false_iff.mpr z]
          rfl
      · refine ⟨D, (ds.map (pairD m)), rfl, .inl (.inl ?_), ?_⟩
        · rw [hD, h.2, e, dpAll_len ha, List.take_length, List.map_map]
          rfl
        · have e2 : (ds.map (pairD m)).all id = ds.all (pairD m) := by rw [List.all_map]; rfl
          rw [e2]
          exact q H' h.1
    all_goals exact q H (Same.refl H)
end
end K2
set_option Elab.async false
set_option linter.all false
set_option maxRecDepth 100000
set_option maxHeartbeats 2000000
namespace K2
open PySem PySem.Spec PyProof.Rows L2 Ver
theorem tup_drawn {H H' : Hp} {p a : Addr} {xs : List V} (hp : Pool H p) (d : Drawn p H H') (h : H a = some (.tup xs)) : H' a = some (.tup xs) := by
  obtain ⟨ns, _, _, e⟩ := hp
  exact d.1 a _ (ne_of h e (by intro z; cases z)) h
theorem PairsAt.drawn {K : PySem.W.Frag} {H H' : Hp} {p : Addr} (hp : Pool H p) (d : Drawn p H H') {vs : List V} {qs : List (Int × Int)} (h : PairsAt K H vs qs) : PairsAt K H' vs qs := by
  induction h with
  | nil => exact .nil
  | cons h1 _ ih =>
    obtain ⟨a, h1, h2⟩ := h1
    exact .cons ⟨a, h1, tup_drawn hp d h2⟩ ih
theorem PairsAt.keepL {K : PySem.W.Frag} {H H' : Hp} (e : ∀ b o, H b = some o → (∀ xs, o ≠ .lst xs) → H' b = some o) {vs : List V} {qs : List (Int × Int)} (h : PairsAt K H vs qs) : PairsAt K H' vs qs := by
  induction h with
  | nil => exact .nil
  | cons h1 _ ih =>
    obtain ⟨a, h1, h2⟩ := h1
    exact .cons ⟨a, h1, e _ _ h2 (fun xs z => by cases z)⟩ ih
def PL (K : PySem.W.Frag) (m : Nat) (H : Hp) (L : Addr) (n : Nat) : Prop := ∃ (vs : List V) (qs : List (Int × Int)), H L = some (.lst vs) ∧ PairsAt K H vs qs ∧ (∀ q ∈ qs, InM m q) ∧ vs.length ≤ n
section
variable {P : Program} {w : World} {K : PySem.W.Frag} {mg : Str → Option Value} {base : Heap}
def sp__law_drawn_pairs (K : PySem.W.Frag) : Sp := fun vs H Q _ => ∃ (p : Addr) (m : Nat), vs = [.ref p, .int m] ∧ Pool H p ∧ 1 ≤ m ∧ m ≤ 10 ∧
  ∀ a vs qs H', Drawn p H H' → H' a = some (.tup vs) → PairsAt K H' vs qs → (∀ q ∈ qs, InM m q) → vs.length ≤ 200 → Q (.ref a) H'
theorem ok__law_drawn_pairs (T : Tx K mg) : FnOk P w K mg base CX0 2 T.f__law_drawn_pairs T.d__law_drawn_pairs ["pool", "m"] (sp__law_drawn_pairs K) := by
  refine T.F__law_drawn_pairs.ok sc__law_drawn_pairs (fun vs H Q E h => ?_) (fun cdv A outer s H vs Q E hr h => ?_)
  · obtain ⟨p, m, rfl, _⟩ := h; rfl
  · obtain ⟨p, m, rfl, hP, m0, m1, q⟩ := h
    refine ⟨_, (pss_cons (ps_set (i := 2) sc__law_drawn_pairs.nd rfl (Or.inl rfl) (pe_lst pa_nil))
    (pss_cons (ps_for PassesOwn.never rfl (pi_range1 rfl T.n_range (pa_cons (pe_call (ok__law_pick T) hr rfl T.g__law_pick T.F__law_pick.kp T.b__law_pick .nil pass0 (pa_cons (pv 0) (pa_cons pe_int pa_nil))) pa_nil)) (pg_name (i := 3) sc__law_drawn_pairs.nd rfl (Or.inl rfl))
    (pss_one (ps_expr (pe_bm PySem.F.plainAttrs_list PySem.F.slot_list_append PySem.F.type_list_append mt_append (pv 2) (pa_cons (pe_tup (pa_cons (pe_call (ok__law_pick T) hr rfl T.g__law_pick T.F__law_pick.kp T.b__law_pick .nil pass0 (pa_cons (pv 0) (pa_cons (pv 1) pa_nil))) (pa_cons (pe_call (ok__law_pick T) hr rfl T.g__law_pick T.F__law_pick.kp T.b__law_pick .nil pass0 (pa_cons (pv 0) (pa_cons (pv 1) pa_nil))) pa_nil))) pa_nil)))))
    (C8.pss_cut (ps_if (pt_cmpR op_eq (pe_call (ok__law_pick T) hr rfl T.g__law_pick T.F__law_pick.kp T.b__law_pick .nil pass0 (pa_cons (pv 0) (pa_cons pe_int pa_nil))) pe_int (nomark _)) (pss_one (ps_for PassesOwn.never rfl (pi_range1 rfl T.n_range (pa_cons (pv 1) pa_nil)) (pg_name (i := 4) sc__law_drawn_pairs.nd rfl (Or.inl rfl))
    (pss_one (ps_for PassesOwn.never rfl (pi_range1 rfl T.n_range (pa_cons (pv 1) pa_nil)) (pg_name (i := 5) sc__law_drawn_pairs.nd rfl (Or.inl rfl))
    (pss_one (ps_expr (pe_bm PySem.F.plainAttrs_list PySem.F.slot_list_append PySem.F.type_list_append mt_append (pv 2) (pa_cons (pe_tup (pa_cons (pv 4) (pa_cons (pv 5) pa_nil))) pa_nil)))))))) pss_nil)
    (C8.pss_cut (ps_if (PW.pt (pw_and (pt_cmpR op_gt (pe_callB call_len_seq (by rfl) T.n_len (by decide +kernel) (pa_cons (pv 2) pa_nil)) pe_int (nomark _)) (pw_and1 (pt_cmpR op_eq (pe_call (ok__law_pick T) hr rfl T.g__law_pick T.F__law_pick.kp T.b__law_pick .nil pass0 (pa_cons (pv 0) (pa_cons pe_int pa_nil))) pe_int (nomark _))))) (pss_one (ps_expr (pe_bm PySem.F.plainAttrs_list PySem.F.slot_list_append PySem.F.type_list_append mt_append (pv 2) (pa_cons (pe_ix ix_list (pv 2) (pe_call (ok__law_pick T) hr rfl T.g__law_pick T.F__law_pick.kp T.b__law_pick .nil pass0 (pa_cons (pv 0) (pa_cons (pe_callB call_len_seq (by rfl) T.n_len (by decide +kernel) (pa_cons (pv 2) pa_nil)) pa_nil))) (fun _ _ => rfl)) pa_nil)))) pss_nil)
    (pss_one (ps_ret (pe_callTy call_tuple_of (by rfl) T.n_tuple (by decide +kernel) (pa_cons (pv 2) pa_nil)))))))), ?_⟩
    refine ⟨small' (by simp), fun L nL => ?_⟩
    have pL : p ≠ L := hP.ne_none nL
    have d0 := (Drawn.refl hP).same (same_new (o := .lst []) nL)
    have h0 : PL K m (upd H L (.lst [])) L 0 := ⟨[], [], upd_same, .nil, by simp, Nat.le_refl _⟩
    generalize upd H L (.lst []) = H0 at d0 h0 ⊢
    have add : ∀ {H1 : Hp} {n : Nat} {a : Addr} {x y : Int}, Drawn p H H1 → PL K m H1 L n → H1 a = some (.tup [.int x, .int y]) → InM m (x, y) → ∃ vs, H1 L = some (.lst vs) ∧ vs.length ≤ n ∧ Drawn p H (upd H1 L (.lst (vs ++ [.ref a]))) ∧ PL K m (upd H1 L (.lst (vs ++ [.ref a]))) L (n + 1) := fun {H1 n a x y} d ⟨vs, qs, h1, h2, h3, h4⟩ ha hin => by
      have kp : ∀ b o, H1 b = some o → o ≠ .lst vs → (upd H1 L (.lst (vs ++ [.ref a]))) b = some o := fun b o e ne => by
        rw [upd_ne (fun z => by rw [z, h1] at e; exact ne (Option.some.inj e).symm)]
        exact e
      refine ⟨vs, h1, h4, d.at nL pL, vs ++ [.ref a], qs ++ [(x, y)], upd_same, Paired.snoc ?_ ⟨a, rfl, kp _ _ ha (by intro z; cases z)⟩, fun q' hq => ?_, by rw [List.length_append]; exact Nat.succ_le_succ h4⟩
      · exact PairsAt.keepL (fun b o e ne => kp b o e (ne vs)) h2
      · rcases List.mem_append.mp hq with hq | hq
        · exact h3 q' hq
        · rw [List.mem_singleton.mp hq]; exact hin
    refine ⟨.ref p, rfl, p, 9, rfl, d0.2, by omega, by omega, fun r9 H1 r90 r91 d1 f1 => ⟨r9, rfl, by omega, by omega, ?_⟩⟩
    have grow : ∀ {H1 H2 : Hp} {n : Nat}, Drawn p H H1 → PL K m H1 L n → Drawn p H1 H2 → PL K m H2 L n := fun {H1 H2 n} dd ⟨vs, qs, h1, h2, h3, h4⟩ d2 => ⟨vs, qs, d2.1 _ _ pL.symm h1, PairsAt.drawn dd.2 d2 h2, h3, h4⟩
    have d01 := d0.trans d1
    have h1 := grow d0 h0 d1
    refine for_range0 (n := r9.toNat) (fun i σ H' => ∃ y3 : Option V, σ = [some (.ref p), some (.int m), some (.ref L), y3, none, none] ∧ Drawn p H H' ∧ PL K m H' L i) ⟨none, rfl, d01, h1⟩ (fun i σ H' lt h => ?_) (fun σ H' h => ?_)
    · obtain ⟨y3, rfl, d2, h2⟩ := h
      obtain ⟨vs0, qs0, hL0, _⟩ := id h2
      refine ⟨.ref L, rfl, .inl ⟨rfl, _, .inl (.inl hL0)⟩, .ref p, rfl, .int m, rfl, p, m, rfl, d2.2, by omega, by omega, fun x H3 x0 x1 d3 f3 => ?_⟩
      have d23 := d2.trans d3
      refine ⟨.ref p, rfl, .int m, rfl, p, m, rfl, d23.2, by omega, by omega, fun y H4 y0 y1 d4 f4 => ⟨small' (by simp), fun a na => ?_⟩⟩
      have d24 := d23.trans d4
      have sa := same_new (o := .tup [.int x, .int y]) na
      have h4 := grow d23 (grow d2 h2 d3) d4
      have ha : (upd H4 a (.tup [.int x, .int y])) a = some (.tup [.int x, .int y]) := upd_same
      have h5 : PL K m (upd H4 a (.tup [.int x, .int y])) L i := grow d24 h4 ((Drawn.refl d24.2).same sa)
      have d25 := d24.same sa
      generalize upd H4 a (.tup [.int x, .int y]) = H5 at ha h5 d25 ⊢
      obtain ⟨vs, hL, lv, d6, h6⟩ := add d25 h5 ha ⟨x0, x1, y0, y1⟩
      exact ⟨L, _, _, rfl, rfl, hL, small (by omega), some (.int (i : Int)), rfl, d6, h6⟩
    obtain ⟨y3, rfl, d2, h2⟩ := h
    have lr : r9.toNat ≤ 8 := by omega
    refine ⟨fun σ' H3 => ∃ (y3 y4 y5 : Option V) (n : Nat), σ' = [some (.ref p), some (.int m), some (.ref L), y3, y4, y5] ∧ Drawn p H H3 ∧ PL K m H3 L n ∧ n ≤ 120, ?_, fun σ' H3 h => ?_⟩
    · refine ⟨.ref p, rfl, p, 12, rfl, d2.2, by omega, by omega, fun r H3 r0 r1 d3 f3 => ⟨rfl, _, rfl, ite2 (fun z => ?_) (fun z => ?_)⟩⟩
      · have d23 := d2.trans d3
        have h3 := grow d2 h2 d3
        refine ⟨.int m, rfl, (m : Int), rfl, by omega, by omega, ?_⟩
        refine for_range0 (n := (m : Int).toNat) (fun i σ H' => ∃ (y4 y5 : Option V), σ = [some (.ref p), some (.int m), some (.ref L), y3, y4, y5] ∧ Drawn p H H' ∧ PL K m H' L (r9.toNat + i * m)) ⟨none, none, rfl, d23, by rw [Nat.zero_mul]; exact h3⟩ (fun i σ H' lt h => ?_) (fun σ H' h => ?_)
        · obtain ⟨y4, y5, rfl, d4, h4⟩ := h
          refine ⟨.int m, rfl, (m : Int), rfl, by omega, by omega, ?_⟩
          refine for_range0 (n := (m : Int).toNat) (fun j σ H' => ∃ (y5 : Option V), σ = [some (.ref p), some (.int m), some (.ref L), y3, some (.int (i : Int)), y5] ∧ Drawn p H H' ∧ PL K m H' L (r9.toNat + i * m + j)) ⟨y5, rfl, d4, h4⟩ (fun j σ H' lt2 h => ?_) (fun σ H' h => ?_)
          · obtain ⟨y5, rfl, d5, h5⟩ := h
            obtain ⟨vs0, qs0, hL0, _, _, lv0⟩ := id h5
            refine ⟨.ref L, rfl, .inl ⟨rfl, _, .inl (.inl hL0)⟩, .int (i : Int), rfl, .int (j : Int), rfl, small' (by simp), fun a na => ?_⟩
            have sa := same_new (o := .tup [.int (i : Int), .int (j : Int)]) na
            have ha : (upd H' a (.tup [.int (i : Int), .int (j : Int)])) a = some (.tup [.int (i : Int), .int (j : Int)]) := upd_same
            have h6 : PL K m (upd H' a (.tup [.int (i : Int), .int (j : Int)])) L (r9.toNat + i * m + j) := grow d5 h5 ((Drawn.refl d5.2).same sa)
            have d6 := d5.same sa
            generalize upd H' a (.tup [.int (i : Int), .int (j : Int)]) = H6 at ha h6 d6 ⊢
            obtain ⟨vs, hL, lv, d7, h7⟩ := add d6 h6 ha ⟨by omega, by omega, by omega, by omega⟩
            have im : i * m ≤ 100 := by
              have : i ≤ 10 := by omega
              calc i * m ≤ 10 * 10 := Nat.mul_le_mul this m1
                _ = 100 := rfl
            exact ⟨L, _, _, rfl, rfl, hL, small (by omega), some (.int (j : Int)), rfl, d7, h7⟩
          · obtain ⟨y5, rfl, d5, h5⟩ := h
            refine ⟨some (.int (i : Int)), y5, rfl, d5, ?_⟩
            rw [Int.toNat_natCast] at h5
            rw [Nat.add_mul, Nat.one_mul, ← Nat.add_assoc]
            exact h5
        · obtain ⟨y4, y5, rfl, d4, h4⟩ := h
          rw [Int.toNat_natCast] at h4
          refine ⟨y3, y4, y5, _, rfl, d4, h4, ?_⟩
          have : m * m ≤ 10 * 10 := Nat.mul_le_mul m1 m1
          omega
      · exact ⟨y3, none, none, _, rfl, d2.trans d3, grow d2 h2 d3, by omega⟩
    obtain ⟨y3, y4, y5, n, rfl, d3, h3, n1⟩ := h
    refine ⟨fun σ' H4 => ∃ (y3 y4 y5 : Option V), σ' = [some (.ref p), some (.int m), some (.ref L), y3, y4, y5] ∧ Drawn p H H4 ∧ PL K m H4 L 121, ?_, fun σ' H4 h => ?_⟩
    · obtain ⟨vs, qs, hL, hps, hin, lv⟩ := id h3
      have wk : ∀ {H5 : Hp} {k : Nat}, PL K m H5 L k → k ≤ 121 → PL K m H5 L 121 := fun ⟨vs, qs, a1, a2, a3, a4⟩ hk => ⟨vs, qs, a1, a2, a3, Nat.le_trans a4 hk⟩
      refine ⟨.ref L, rfl, L, vs, rfl, .inl (.inl (.inl hL)), _, _, rfl, rfl, _, rfl, ite2 (fun z => ?_) (fun z => ?_)⟩
      · have z1 : (vs.length : Int) > 0 := of_decide_eq_true z
        refine ⟨.ref p, rfl, p, 2, rfl, d3.2, by omega, by omega, fun r H4 r0 r1 d4 f4 => ⟨rfl, _, rfl, ite2 (fun z2 => ?_) (fun z2 => ?_)⟩⟩
        · have hL4 := d4.1 _ _ pL.symm hL
          have d34 := d3.trans d4
          refine ⟨.ref L, rfl, .inl ⟨rfl, _, .inl (.inl hL4)⟩, .ref L, rfl, .ref p, rfl, .ref L, rfl, L, vs, rfl, .inl (.inl (.inl hL4)), p, (vs.length : Int), rfl, d34.2, by omega, by omega, fun k H5 k0 k1 d5 f5 => ?_⟩
          have hL5 := d5.1 _ _ pL.symm hL4
          have d35 := d34.trans d5
          have hp5 := PairsAt.drawn d34.2 d5 (PairsAt.drawn d3.2 d4 hps)
          have ek : vs[k.toNat]? = some vs[k.toNat] := List.getElem?_eq_getElem (by omega)
          generalize vs[k.toNat] = v at ek
          obtain ⟨qq, a, eq, ev, hs⟩ := PairsAt.getT hp5 ek
          have atk : atI vs k = some v := by
            have e0 : k = ((k.toNat : Nat) : Int) := by omega
            rw [e0]
            exact atI_nat (j := k.toNat) ek
          refine ⟨L, vs, k, v, rfl, rfl, .inl (.inl hL5), atk, L, _, _, rfl, rfl, hL5, small (by omega), ?_⟩
          have kp : ∀ b o, H5 b = some o → (∀ xs, o ≠ .lst xs) → (upd H5 L (.lst (vs ++ [v]))) b = some o := fun b o e ne => by
            rw [upd_ne (fun z => by rw [z, hL5] at e; exact ne vs (Option.some.inj e).symm)]
            exact e
          refine ⟨y3, y4, y5, rfl, d35.at nL pL, vs ++ [v], qs ++ [qq], upd_same, ?_, fun q' hq => ?_, by rw [List.length_append, List.length_singleton]; omega⟩
          · have one := PairsAt.keepL (K := K) (vs := [v]) (qs := [qq]) kp (.cons ⟨a, ev, hs⟩ .nil)
            cases one with
            | cons o1 _ => exact Paired.snoc (PairsAt.keepL kp hp5) o1
          · rcases List.mem_append.mp hq with hq | hq
            · exact hin q' hq
            · rw [List.mem_singleton.mp hq]
              exact hin qq (List.mem_of_getElem? eq)
        · exact ⟨y3, y4, y5, rfl, d3.trans d4, wk (grow d3 h3 d4) (by omega)⟩
      · exact if_ff ⟨y3, y4, y5, rfl, d3, wk h3 (by omega)⟩
    obtain ⟨y3, y4, y5, rfl, d4, vs, qs, hL, hps, hin, lv⟩ := h
    refine ⟨.ref L, rfl, L, vs, rfl, .inl ⟨.inl (.inl hL), fun a na => ?_⟩⟩
    have sa := same_new (o := .tup vs) na
    exact q a vs qs _ (d4.same sa) upd_same (PairsAt.grow sa hps) hin (by omega)
end
end K2
set_option Elab.async false
set_option linter.all false
set_option maxRecDepth 100000
set_option maxHeartbeats 2000000
namespace K2
open PySem PySem.Spec PyProof.Rows L2 Ver
section
variable {P : Program} {w : World} {K : PySem.W.Frag} {mg : Str → Option Value} {base : Heap}
def sp__law_drawn_book (K : PySem.W.Frag) : Sp := fun vs H Q _ => ∃ (p : Addr) (m : Nat), vs = [.ref p, .int m] ∧ Pool H p ∧ 1 ≤ m ∧ m ≤ 10 ∧
  ∀ a B H', Drawn p H H' → BkAt K H' a B → B.Ok m → Q (.ref a) H'
theorem ok__law_drawn_book (T : Tx K mg) : FnOk P w K mg base CX0 2 T.f__law_drawn_book T.d__law_drawn_book ["pool", "m"] (sp__law_drawn_book K) := by
  refine T.F__law_drawn_book.ok sc__law_drawn_book (fun vs H Q E h => ?_) (fun cdv A outer s H vs Q E hr h => ?_)
  · obtain ⟨p, m, rfl, _⟩ := h; rfl
  · obtain ⟨p, m, rfl, hP, m0, m1, q⟩ := h
    refine ⟨_, (pss_cons (ps_set (i := 2) sc__law_drawn_book.nd rfl (Or.inr rfl) (pe_op op_add pe_int (pe_call (ok__law_pick T) hr rfl T.g__law_pick T.F__law_pick.kp T.b__law_pick .nil pass0 (pa_cons (pv 0) (pa_cons pe_int pa_nil)))))
    (pss_cons (ps_set (i := 4) sc__law_drawn_book.nd rfl (Or.inl rfl) (pe_callTy call_tuple_of (by rfl) T.n_tuple (by decide +kernel) (pa_cons (pe_lc (own := [("s", 3)]) (g := gName 3) (tt := _) (by rfl) sc__law_drawn_book.nd (pi_range1 rfl T.n_range (pa_cons (pv 2) pa_nil)) (blkOk_by (N := ["pool", "m", "count", "s", "finals", "table", "t"]) (sc := defScope s__law_drawn_book) (by decide +kernel)) (fun _ _ _ _ _ => (pg_name (i := 3) sc__law_drawn_book.nd rfl (Or.inl rfl))) (fun _ _ _ _ _ => (pts_one (pt_cmpR op_gt (pe_call (ok__law_pick T) hr rfl T.g__law_pick T.F__law_pick.kp T.b__law_pick .nil pass0 (pa_cons (pv 0) (pa_cons pe_int pa_nil))) pe_int (nomark _)))) (fun _ _ _ _ _ => (pv 3))) pa_nil)))
    (pss_cons (ps_set (i := 5) sc__law_drawn_book.nd rfl (Or.inl rfl) (pe_lst pa_nil))
    (pss_cons (ps_for PassesOwn.never rfl (pi_range1 rfl T.n_range (pa_cons (pv 2) pa_nil)) (pg_name (i := 3) sc__law_drawn_book.nd rfl (Or.inl rfl))
    (pss_one (ps_expr (pe_bm PySem.F.plainAttrs_list PySem.F.slot_list_append PySem.F.type_list_append mt_append (pv 5) (pa_cons (pe_callTy call_tuple_of (by rfl) T.n_tuple (by decide +kernel) (pa_cons (pe_lc (own := [("t", 6)]) (g := gName 6) (tt := tYes) (by rfl) sc__law_drawn_book.nd (pi_range1 rfl T.n_range (pa_cons (pv 1) pa_nil)) (blkOk_by (N := ["pool", "m", "count", "s", "finals", "table", "t"]) (sc := defScope s__law_drawn_book) (by decide +kernel)) (fun _ _ _ _ _ => (pg_name (i := 6) sc__law_drawn_book.nd rfl (Or.inl rfl))) (fun _ _ _ _ _ => pts_nil) (fun _ _ _ _ _ => (pe_op op_sub (pe_callB (call_min2 rfl) (by rfl) T.n_min (by decide +kernel) (pa_cons (pe_call (ok__law_pick T) hr rfl T.g__law_pick T.F__law_pick.kp T.b__law_pick .nil pass0 (pa_cons (pv 0) (pa_cons (pe_op op_add (pv 2) pe_int) pa_nil))) (pa_cons (pv 2) pa_nil))) pe_int))) pa_nil)) pa_nil)))))
    (pss_one (ps_ret (pe_tup (pa_cons (pv 2) (pa_cons (pv 4) (pa_cons (pe_callTy call_tuple_of (by rfl) T.n_tuple (by decide +kernel) (pa_cons (pv 5) pa_nil)) pa_nil)))))))))), ?_⟩
    refine ⟨.ref p, rfl, p, 4, rfl, hP, by omega, by omega, fun r4 H1 r40 r41 d1 f1 => ⟨1, r4, rfl, rfl, ?_⟩⟩
    obtain ⟨n, en⟩ : ∃ n : Nat, 1 + r4 = (n : Int) := ⟨(1 + r4).toNat, by omega⟩
    have n1 : 1 ≤ n := by omega
    have n4 : n ≤ 4 := by omega
    show gName 2 (V.int (1 + r4)) _ _ _
    rw [en]
    refine ⟨.int (n : Int), rfl, (n : Int), rfl, by omega, by omega, fun D nD => ?_⟩
    have pD : p ≠ D := d1.2.ne_none nD
    refine lc_range (lo := 0) (n := (n : Int).toNat) (fun k H' => ∃ fs : List Int, Drawn p H1 H' ∧ H' D = some (.lst (fs.map V.int)) ∧ fs.length ≤ k) ⟨[], (Drawn.refl d1.2).same (same_new nD), upd_same, Nat.le_refl _⟩ (fun k H' lt h => ?_) (fun H2 h => ?_)
    · obtain ⟨fs, d2, hD, lf⟩ := h
      refine ⟨wipe_one _ 3 _, ?_⟩
      refine ⟨.ref p, rfl, p, 3, rfl, d2.2, by omega, by omega, fun r H3 r0 r1 d3 f3 => ⟨_, _, rfl, rfl, _, rfl, ite2 (fun z => ?_) (fun z => ?_)⟩⟩
      · exact ⟨_, rfl, _, d3.1 _ _ pD.symm hD, small (by rw [List.length_map]; omega), fs ++ [0 + (k : Int)], (d2.trans d3).at nD pD, by rw [upd_same, List.map_append]; rfl, by rw [List.length_append]; exact Nat.succ_le_succ lf⟩
      · exact ⟨fs, d2.trans d3, d3.1 _ _ pD.symm hD, by omega⟩
    obtain ⟨fs, d2, hD, lf⟩ := h
    refine ⟨D, _, rfl, .inl ⟨.inl (.inl hD), fun f nf => ?_⟩⟩
    have sf := same_new (o := .tup (fs.map V.int)) nf
    have hf : (upd H2 f (.tup (fs.map V.int))) f = some (.tup (fs.map V.int)) := upd_same
    have d12 := (d1.trans d2).same sf
    generalize upd H2 f (.tup (fs.map V.int)) = H3 at hf d12 ⊢
    refine ⟨small' (by simp), fun L nL => ?_⟩
    have pL : p ≠ L := d12.2.ne_none nL
    have d13 := d12.same (same_new (o := .lst []) nL)
    have nLH : H L = none := by
      cases e : H L with
      | none => rfl
      | some o =>
        have := d12.1 L o (Ne.symm pL) e
        rw [nL] at this
        cases this
    have fL : f ≠ L := ne_of_none hf nL
    refine ⟨.int (n : Int), rfl, (n : Int), rfl, by omega, by omega, ?_⟩
    refine for_range0 (n := (n : Int).toNat) (fun i σ H' => ∃ (y3 : Option V) (tv : List V) (tab : List (List Int)), σ = [some (.ref p), some (.int m), some (.int n), y3, some (.ref f), some (.ref L), none] ∧ Drawn p H H' ∧ H' f = some (.tup (fs.map V.int)) ∧ H' L = some (.lst tv) ∧ Rows K H' tv tab ∧ tab.length = i ∧ ∀ r ∈ tab, r.length = m ∧ ∀ x ∈ r, -1 ≤ x ∧ x < (n : Int))
      ⟨none, [], [], rfl, d13, by rw [upd_ne fL]; exact hf, upd_same, .nil, rfl, by simp⟩ (fun i σ H' lt h => ?_) (fun σ H' h => ?_)
    · obtain ⟨y3, tv, tab, rfl, d4, hf4, hL, hr4, lt4, ok4⟩ := h
      have ltv : tv.length = tab.length := Paired.length hr4
      refine ⟨.ref L, rfl, .inl ⟨rfl, _, .inl (.inl hL)⟩, .int m, rfl, (m : Int), rfl, by omega, by omega, fun D2 nD2 => ?_⟩
      have pD2 : p ≠ D2 := d4.2.ne_none nD2
      refine comp_range (n := (m : Int).toNat) (i := 6) (fun acc H5 => Drawn p H' H5 ∧ ∃ r : List Int, acc = r.map V.int ∧ ∀ x ∈ r, -1 ≤ x ∧ x < (n : Int)) ⟨(Drawn.refl d4.2).same (same_new nD2), [], rfl, by simp⟩ (fun acc H5 la h hD => ?_) (fun acc H5 la h hD => ?_)
      · obtain ⟨d5, r, rfl, pr⟩ := h
        refine ⟨.ref p, rfl, .int (n : Int), rfl, (n : Int), 2, rfl, rfl, p, _, rfl, d5.2, by omega, by omega, fun x H6 x0 x1 d6 f6 => ⟨.int (n : Int), rfl, x, (n : Int), rfl, (if (n : Int) < x then (n : Int) else x), 1, rfl, rfl, ?_⟩⟩
        refine turned (d6.1 _ _ pD2.symm hD) (small (by omega)) ⟨(d5.trans d6).at nD2 pD2, r ++ [(if (n : Int) < x then (n : Int) else x) - 1], by rw [List.map_append]; rfl, fun z hz => ?_⟩
        rcases List.mem_append.mp hz with hz | hz
        · exact pr z hz
        · rw [List.mem_singleton.mp hz]
          constructor
          · split <;> omega
          · split <;> omega
      obtain ⟨d5, r, rfl, pr⟩ := h
      rw [List.length_map] at la
      refine ⟨D2, _, rfl, .inl ⟨.inl (.inl hD), fun g ng => ?_⟩⟩
      have sg := same_new (o := .tup (r.map V.int)) ng
      have hg : (upd H5 g (.tup (r.map V.int))) g = some (.tup (r.map V.int)) := upd_same
      have d6 := d5.same sg
      generalize upd H5 g (.tup (r.map V.int)) = H6 at hg d6 ⊢
      have hL6 := d6.1 _ _ pL.symm hL
      have keep : ∀ b xs, H6 b = some (.tup xs) → (upd H6 L (.lst (tv ++ [.ref g]))) b = some (.tup xs) := fun b xs e => by
        rw [upd_ne (fun z => by rw [z, hL6] at e; cases e)]
        exact e
      refine ⟨L, _, _, rfl, rfl, hL6, small (by omega), some (.int (i : Int)), tv ++ [.ref g], tab ++ [r], rfl, (d4.trans d6).at nLH pL, keep _ _ (tup_drawn d4.2 d6 hf4), upd_same, Paired.snoc (Rows.keep (fun b xs e => keep b xs (tup_drawn d4.2 d6 e)) hr4) ⟨g, rfl, keep _ _ hg⟩, by rw [List.length_append, lt4]; rfl, fun r' hr' => ?_⟩
      rcases List.mem_append.mp hr' with hr' | hr'
      · exact ok4 r' hr'
      · rw [List.mem_singleton.mp hr']
        exact ⟨by omega, pr⟩
    · obtain ⟨y3, tv, tab, rfl, d4, hf4, hL, hr4, lt4, ok4⟩ := h
      rw [Int.toNat_natCast] at lt4
      refine ⟨.int (n : Int), rfl, .ref f, rfl, .ref L, rfl, L, tv, rfl, .inl ⟨.inl (.inl hL), fun g ng => ?_⟩⟩
      have sg := same_new (o := .tup tv) ng
      have hg : (upd H' g (.tup tv)) g = some (.tup tv) := upd_same
      generalize upd H' g (.tup tv) = H6 at sg hg ⊢
      refine ⟨small' (by simp), fun a na => ?_⟩
      have sa := same_new (o := .tup [.int (n : Int), .ref f, .ref g]) na
      refine q a ⟨(n : Int), fs, tab⟩ _ ((d4.same sg).same sa) ⟨f, g, tv, .inl (.inl upd_same), .inl (.inl (sa _ _ (sg _ _ hf4))), .inl (.inl (sa _ _ hg)), hr4.grow (sg.trans sa)⟩ ⟨by show 1 ≤ tab.length; omega, fun r hr => ?_⟩
      obtain ⟨k1, k2⟩ := ok4 r hr
      refine ⟨k1, fun x hx => ?_⟩
      have := k2 x hx
      show -1 ≤ x ∧ x < (tab.length : Int)
      omega
end
end K2
set_option Elab.async false
set_option linter.all false
set_option maxRecDepth 100000
set_option maxHeartbeats 2000000
namespace K2
open PySem PySem.Spec PyProof.Rows L2 Ver
def fmR : Int → List Int → Option Int
  | k, [] => some k
  | k, s :: r => if s > k then none else fmR (if s = k then k + 1 else k) r
def fmT : Int → List (List Int) → Option Int
  | k, [] => some k
  | k, r :: t => (fmR k r).bind fun k2 => fmT k2 t
theorem fmR_step {k s : Int} {r : List Int} {j : Nat} (e : r[j]? = some s) : fmR k (r.drop j) = if s > k then none else fmR (if s = k then k + 1 else k) (r.drop (j + 1)) := by
  obtain ⟨lt, e'⟩ := List.getElem?_eq_some_iff.mp e
  rw [List.drop_eq_getElem_cons lt, e']
  rfl
theorem fmT_step {k : Int} {t : List (List Int)} {r : List Int} {i : Nat} (e : t[i]? = some r) : fmT k (t.drop i) = (fmR k r).bind fun k2 => fmT k2 (t.drop (i + 1)) := by
  obtain ⟨lt, e'⟩ := List.getElem?_eq_some_iff.mp e
  rw [List.drop_eq_getElem_cons lt, e']
  rfl
section
variable {P : Program} {w : World} {K : PySem.W.Frag} {mg : Str → Option Value} {base : Heap}
def sp__law_first_met (K : PySem.W.Frag) : Sp := fun vs H Q _ => ∃ (a : Addr) (tv : List V) (tab : List (List Int)) (c : Int), vs = [.ref a, .int c] ∧ SqT K H a tv ∧ Rows K H tv tab ∧ Q (.bl (decide (fmT 1 tab = some c))) H
theorem ok__law_first_met (T : Tx K mg) : FnOk P w K mg base CX0 1 T.f__law_first_met T.d__law_first_met ["table", "count"] (sp__law_first_met K) := by
  refine T.F__law_first_met.ok sc__law_first_met (fun vs H Q E h => ?_) (fun cdv A outer s H vs Q E hr h => ?_)
  · obtain ⟨a, tv, tab, c, rfl, _⟩ := h; rfl
  · obtain ⟨a, tv, tab, c, rfl, ht, hrows, q⟩ := h
    refine ⟨_, (pss_cons (ps_set (i := 2) sc__law_first_met.nd rfl (Or.inl rfl) pe_int)
    (pss_cons (ps_for PassesOwn.never rfl (pi_tup (pv 0)) (pg_name (i := 3) sc__law_first_met.nd rfl (Or.inl rfl))
    (pss_one (ps_for PassesOwn.never rfl (pi_tup (pv 3)) (pg_name (i := 4) sc__law_first_met.nd rfl (Or.inl rfl))
    (pss_cons (ps_if (pt_cmpR op_gt (pv 4) (pv 2) (nomark _)) (pss_one (ps_ret pe_bl)) pss_nil)
    (pss_one (ps_if (pt_cmpR op_eq (pv 4) (pv 2) (nomark _)) (pss_one (ps_set (i := 2) sc__law_first_met.nd rfl (Or.inl rfl) (pe_op op_add (pv 2) pe_int))) pss_nil))))))
    (pss_one (ps_ret (pe_cmpR op_eq (pv 2) (pv 1) (nomark _)))))), ?_⟩
    have ltv : tv.length = tab.length := Paired.length hrows
    refine ⟨.ref a, rfl, a, rfl, ⟨_, ht⟩, ?_⟩
    refine for_tup (K := K) (a := a) (xs := tv) (fun i σ H' => H' = H ∧ ∃ (k : Int) (y3 y4 : Option V), σ = [some (.ref a), some (.int c), some (.int k), y3, y4] ∧ fmT k (tab.drop i) = fmT 1 tab) ⟨rfl, 1, none, none, rfl, rfl⟩ (fun i σ H' _ h => by rw [h.1]; exact ht) (fun i x σ H' ex h => ?_) (fun σ H' h => ?_)
    · obtain ⟨rfl, k, y3, y4, rfl, e⟩ := h
      have lti := (List.getElem?_eq_some_iff.mp ex).1
      have er : tab[i]? = some tab[i] := List.getElem?_eq_getElem (by omega)
      generalize tab[i] = r at er
      obtain ⟨pr, epr, hpr⟩ := hrows.get er
      have ex2 : x = .ref pr := Option.some.inj (ex.symm.trans epr)
      subst ex2
      rw [fmT_step er] at e
      refine ⟨.ref pr, rfl, pr, rfl, ⟨_, hpr⟩, ?_⟩
      refine for_tup (K := K) (a := pr) (xs := r.map V.int) (fun j σ H2 => H2 = H' ∧ ∃ (k : Int) (y4 : Option V), σ = [some (.ref a), some (.int c), some (.int k), some (.ref pr), y4] ∧ ((fmR k (r.drop j)).bind fun k2 => fmT k2 (tab.drop (i + 1))) = fmT 1 tab) ⟨rfl, k, y4, rfl, e⟩ (fun j σ H2 _ h => by rw [h.1]; exact hpr) (fun j x σ H2 ex h => ?_) (fun σ H2 h => ?_)
      · obtain ⟨rfl, k, y4, rfl, e⟩ := h
        obtain ⟨s, es, rfl⟩ : ∃ s, r[j]? = some s ∧ x = V.int s := by
          rw [List.getElem?_map] at ex
          cases e : r[j]? with
          | none => rw [e] at ex; cases ex
          | some c => rw [e] at ex; exact ⟨c, rfl, (Option.some.inj ex).symm⟩
        rw [fmR_step es] at e
        refine ⟨.int s, rfl, .int k, rfl, _, _, rfl, rfl, _, rfl, ite2 (fun z => ?_) (fun z => ?_)⟩
        · have z1 : s > k := of_decide_eq_true z
          rw [if_pos z1] at e
          have e2 : fmT 1 tab = none := e.symm
          rw [e2] at q
          exact q
        · have z1 : ¬ s > k := fun x => z (decide_eq_true x)
          rw [if_neg z1] at e
          refine ⟨.int s, rfl, .int k, rfl, rfl, _, rfl, ite2 (fun z2 => ?_) (fun z2 => ?_)⟩
          · have z3 : s = k := V.int.inj (of_decide_eq_true z2)
            rw [if_pos z3] at e
            exact ⟨.int k, rfl, _, _, rfl, rfl, rfl, k + 1, some (.int s), rfl, e⟩
          · have z3 : ¬ s = k := fun x => z2 (decide_eq_true (by rw [x]))
            rw [if_neg z3] at e
            exact ⟨rfl, k, some (.int s), rfl, e⟩
      · obtain ⟨rfl, k, y4, rfl, e⟩ := h
        rw [List.length_map, List.drop_length] at e
        exact ⟨rfl, k, some (.ref pr), y4, rfl, e⟩
    · obtain ⟨rfl, k, y3, y4, rfl, e⟩ := h
      rw [ltv, List.drop_length] at e
      have e' : fmT 1 tab = some k := e.symm
      refine ⟨.int k, rfl, .int c, rfl, rfl, ?_⟩
      rw [e'] at q
      rw [show decide (V.int k = V.int c) = decide (some k = some c) by
        by_cases x : k = c
        · subst x; rw [decide_eq_true rfl, decide_eq_true rfl]
        · rw [decide_eq_false (fun z => x (V.int.inj z)), decide_eq_false (fun z => x (Option.some.inj z))]]
      exact q
end
end K2
set_option Elab.async false
set_option linter.all false
set_option maxRecDepth 100000
set_option maxHeartbeats 2000000
namespace K2
open PySem PySem.Spec PyProof.Rows L2 Ver
theorem dp_rows {K : PySem.W.Frag} {H : Hp} {vs : List V} {rs : List (List Int)} (h : Rows K H vs rs) : DpAll K H vs (rs.map fun (r : List Int) => PyData.tuple (r.map PyData.int)) := by
  induction h with
  | nil => exact .nil
  | cons h1 _ ih =>
    obtain ⟨p, rfl, hp⟩ := h1
    exact .cons (.tup (.inl (.inl hp)) (dpAll_ints _)) ih
def bkD (B : Bk) : PyData := .tuple [.int B.count, .tuple (B.fin.map PyData.int), .tuple (B.tab.map fun (r : List Int) => PyData.tuple (r.map PyData.int))]
theorem dp_bk {K : PySem.W.Frag} {H : Hp} {a : Addr} {B : Bk} (h : BkAt K H a B) : Dp K H (.ref a) (bkD B) := by
  obtain ⟨f, t, tv, s1, s2, s3, g⟩ := h
  exact .tup s1 (.cons (.int _) (.cons (.tup s2 (dpAll_ints _)) (.cons (.tup s3 (dp_rows g)) .nil)))
theorem ok_fins {l : List Int} (h : l.length ≤ 100000) : okD 5 (.tuple (l.map PyData.int)) := ⟨by rw [List.length_map]; exact h, fun e he => by
  obtain ⟨i, _, rfl⟩ := List.mem_map.mp he
  exact trivial⟩
section
variable {P : Program} {w : World} {K : PySem.W.Frag} {mg : Str → Option Value} {base : Heap}
def sp__law_shape_right (K : PySem.W.Frag) : Sp := fun vs H Q _ => ∃ (a : Addr) (B : Bk) (m : Nat), vs = [.ref a, .int m, .int B.count] ∧ BkAt K H a B ∧ B.Ok m ∧ B.count = B.tab.length ∧ B.tab.length ≤ 100 ∧ B.fin = finsG B.tab.length ∧ ∀ H', Same H H' → Q (.bl true) H'
theorem ok__law_shape_right (T : Tx K mg) : FnOk P w K mg base CX0 7 T.f__law_shape_right T.d__law_shape_right ["told", "m", "count"] (sp__law_shape_right K) := by
  refine T.F__law_shape_right.ok sc__law_shape_right (fun vs H Q E h => ?_) (fun cdv A outer s H vs Q E hr h => ?_)
  · obtain ⟨a, B, m, rfl, _⟩ := h; rfl
  · obtain ⟨a, B, m, rfl, hB, hok, ec, lt, ef, q⟩ := h
    refine ⟨_, (pss_cons (ps_if (PW.pt (pw_or (pt_not (pt_val (pe_callB (cr_isiD (n := "tuple") (by decide)) (by rfl) T.n_isinstance (by decide +kernel) (pa_cons (pv 0) (pa_cons (pe_bltn (v := .ty "tuple") (by rfl) T.n_tuple (by decide +kernel) rfl) pa_nil))))) (pw_or (pt_cmpR op_ne (pe_callB call_len_seq (by rfl) T.n_len (by decide +kernel) (pa_cons (pv 0) pa_nil)) pe_int (nomark _)) (pw_or1 (pt_not (pt_val (pe_call (ok__law_same T 5) hr rfl T.g__law_same T.F__law_same.kp T.b__law_same .nil pass0 (pa_cons (pe_ix ix_tup (pv 0) pe_int (fun _ _ => rfl)) (pa_cons (pv 2) pa_nil))))))))) (pss_one (ps_ret pe_bl)) pss_nil)
    (pss_cons (ps_if (pt_not (pt_val (pe_call (ok__law_same T 5) hr rfl T.g__law_same T.F__law_same.kp T.b__law_same .nil pass0 (pa_cons (pe_ix ix_tup (pv 0) pe_int (fun _ _ => rfl)) (pa_cons (pe_callTy call_tuple_of (by rfl) T.n_tuple (by decide +kernel) (pa_cons (pe_listRg rfl (by rfl) T.n_list (prg_1 (by rfl) T.n_range (pv 2))) pa_nil)) pa_nil))))) (pss_one (ps_ret pe_bl)) pss_nil)
    (pss_cons (ps_if (PW.pt (pw_or (pt_not (pt_val (pe_callB (cr_isiD (n := "tuple") (by decide)) (by rfl) T.n_isinstance (by decide +kernel) (pa_cons (pe_ix ix_tup (pv 0) pe_int (fun _ _ => rfl)) (pa_cons (pe_bltn (v := .ty "tuple") (by rfl) T.n_tuple (by decide +kernel) rfl) pa_nil))))) (pw_or1 (pt_cmpR op_ne (pe_callB call_len_seq (by rfl) T.n_len (by decide +kernel) (pa_cons (pe_ix ix_tup (pv 0) pe_int (fun _ _ => rfl)) pa_nil)) (pv 2) (nomark _))))) (pss_one (ps_ret pe_bl)) pss_nil)
    (pss_cons (ps_for PassesOwn.never rfl (pi_tup (pe_ix ix_tup (pv 0) pe_int (fun _ _ => rfl))) (pg_name (i := 3) sc__law_shape_right.nd rfl (Or.inl rfl))
    (pss_cons (ps_if (PW.pt (pw_or (pt_not (pt_val (pe_callB (cr_isiD (n := "tuple") (by decide)) (by rfl) T.n_isinstance (by decide +kernel) (pa_cons (pv 3) (pa_cons (pe_bltn (v := .ty "tuple") (by rfl) T.n_tuple (by decide +kernel) rfl) pa_nil))))) (pw_or1 (pt_cmpR op_ne (pe_callB call_len_seq (by rfl) T.n_len (by decide +kernel) (pa_cons (pv 3) pa_nil)) (pv 1) (nomark _))))) (pss_one (ps_ret pe_bl)) pss_nil)
    (pss_one (ps_for PassesOwn.never rfl (pi_tup (pv 3)) (pg_name (i := 4) sc__law_shape_right.nd rfl (Or.inl rfl))
    (pss_one (ps_if (PW.pt (pw_or (pt_not (pt_val (pe_callB (cr_isiD (n := "int") (by decide)) (by rfl) T.n_isinstance (by decide +kernel) (pa_cons (pv 4) (pa_cons (pe_bltn (v := .ty "int") (by rfl) T.n_int (by decide +kernel) rfl) pa_nil))))) (pw_or (pt_val (pe_callB (cr_isiD (n := "bool") (by decide)) (by rfl) T.n_isinstance (by decide +kernel) (pa_cons (pv 4) (pa_cons (pe_bltn (v := .ty "bool") (by rfl) T.n_bool (by decide +kernel) rfl) pa_nil)))) (pw_or (pt_cmpR op_lt (pv 4) (pe_un un_neg pe_int) (nomark _)) (pw_or1 (pt_cmpR op_ge (pv 4) (pv 2) (nomark _))))))) (pss_one (ps_ret pe_bl)) pss_nil))))))
    (pss_one (ps_ret pe_bl)))))), ?_⟩
    obtain ⟨f, tb, tv, s1, s2, s3, g1⟩ := id hB
    have ltv : tv.length = B.tab.length := Paired.length g1
    have lfin : B.fin.length = B.tab.length := by rw [ef]; unfold finsG; rw [List.length_map, List.length_range]
    refine ⟨.ref a, rfl, .ref a, bkD B, rfl, dp_bk hB, _, rfl, if_ff ?_⟩
    refine ⟨.ref a, rfl, a, _, rfl, .inr s1, rfl, _, rfl, if_ff ?_⟩
    refine ⟨.ref a, rfl, a, _, 0, .int B.count, rfl, rfl, s1, rfl, .int B.count, rfl, .int B.count, .int B.count, .int B.count, rfl, .int _, .int _, trivial, fun H1 k1 => ⟨_, rfl, ?_⟩⟩
    refine ⟨.ref a, rfl, a, _, 1, .ref f, rfl, rfl, seqT_grow k1 s1, rfl, .int B.count, rfl, _, rfl, RgOk.of_le (by omega) (by omega) (by omega) (by omega), fun l nl => ?_⟩
    have er : rgV 0 B.count = B.fin.map V.int := by
      rw [ef, ec]
      unfold rgV finsG
      rw [List.map_map, Int.sub_zero, Int.toNat_natCast]
      exact List.map_congr_left fun i _ => by show V.int (0 + (i : Int)) = V.int (i : Int); rw [Int.zero_add]
    rw [er]
    have kl : Same H1 (upd H1 l (.lst (B.fin.map V.int))) := same_new nl
    have hl : (upd H1 l (.lst (B.fin.map V.int))) l = some (.lst (B.fin.map V.int)) := upd_same
    generalize upd H1 l (.lst (B.fin.map V.int)) = H2 at kl hl ⊢
    refine ⟨l, _, rfl, .inl ⟨.inl (.inl hl), fun tt ntt => ?_⟩⟩
    have kt := same_new (o := .tup (B.fin.map V.int)) ntt
    have k13 := (k1.trans kl).trans kt
    refine ⟨.ref f, .ref tt, .tuple (B.fin.map PyData.int), rfl, .tup (seqT_grow k13 s2) (dpAll_ints _), .tup (.inl (.inl upd_same)) (dpAll_ints _), ok_fins (by omega), fun H4 k4 => ⟨_, rfl, ?_⟩⟩
    have k14 := k13.trans k4
    have hB4 := hB.grow k14
    clear s2
    refine ⟨.ref a, rfl, a, _, 2, .ref tb, rfl, rfl, seqT_grow k14 s1, rfl, .ref tb, .tuple (B.tab.map fun (r : List Int) => PyData.tuple (r.map PyData.int)), rfl, .tup (seqT_grow k14 s3) (dp_rows (g1.grow k14)), _, rfl, if_ff ?_⟩
    have e3 : (!decide (V.int (tv.length : Int) = V.int B.count)) = false := by rw [ec, ltv, decide_eq_true rfl]; rfl
    refine ⟨.ref a, rfl, a, _, 2, .ref tb, rfl, rfl, seqT_grow k14 s1, rfl, tb, tv, rfl, .inr (seqT_grow k14 s3), .int B.count, rfl, rfl, false, by rw [e3], if_ff ?_⟩
    refine ⟨.ref a, rfl, a, _, 2, .ref tb, rfl, rfl, seqT_grow k14 s1, rfl, tb, rfl, ⟨_, seqT_grow k14 s3⟩, ?_⟩
    refine for_tup (K := K) (a := tb) (xs := tv) (fun i σ H' => H' = H4 ∧ ∃ y3 y4, σ = [some (.ref a), some (.int m), some (.int B.count), y3, y4]) ⟨rfl, none, none, rfl⟩ (fun i σ H' _ h => by rw [h.1]; exact seqT_grow k14 s3) (fun i x σ H' ex h => ?_) (fun σ H' h => ?_)
    · obtain ⟨rfl, y3, y4, rfl⟩ := h
      have lti := (List.getElem?_eq_some_iff.mp ex).1
      have er : B.tab[i]? = some B.tab[i] := List.getElem?_eq_getElem (by omega)
      obtain ⟨lr, br⟩ := hok.row _ (List.getElem_mem (show i < B.tab.length by omega))
      generalize B.tab[i] = r at er lr br
      obtain ⟨pr, epr, hpr⟩ := (g1.grow k14).get er
      have ex2 : x = .ref pr := Option.some.inj (ex.symm.trans epr)
      subst ex2
      have e4 : (!decide (V.int ((r.map V.int).length : Int) = V.int (m : Int))) = false := by rw [List.length_map, lr, decide_eq_true rfl]; rfl
      refine ⟨.ref pr, rfl, .ref pr, .tuple (r.map PyData.int), rfl, .tup hpr (dpAll_ints _), _, rfl, if_ff ?_⟩
      refine ⟨.ref pr, rfl, pr, _, rfl, .inr hpr, .int m, rfl, rfl, false, by rw [e4], if_ff ?_⟩
      refine ⟨.ref pr, rfl, pr, rfl, ⟨_, hpr⟩, ?_⟩
      refine for_tup (K := K) (a := pr) (xs := r.map V.int) (fun j σ H2 => H2 = H' ∧ ∃ y4, σ = [some (.ref a), some (.int m), some (.int B.count), some (.ref pr), y4]) ⟨rfl, y4, rfl⟩ (fun j σ H2 _ h => by rw [h.1]; exact hpr) (fun j x σ H2 ex h => ?_) (fun σ H2 h => ?_)
      · obtain ⟨rfl, y4, rfl⟩ := h
        obtain ⟨s0, es, rfl⟩ : ∃ s0, r[j]? = some s0 ∧ x = V.int s0 := by
          rw [List.getElem?_map] at ex
          cases e : r[j]? with
          | none => rw [e] at ex; cases ex
          | some c => rw [e] at ex; exact ⟨c, rfl, (Option.some.inj ex).symm⟩
        obtain ⟨b0, b1⟩ := br s0 (List.mem_of_getElem? es)
        refine ⟨.int s0, rfl, .int s0, .int s0, rfl, .int _, _, rfl, if_ff ?_⟩
        refine ⟨.int s0, rfl, .int s0, .int s0, rfl, .int _, _, rfl, if_ff ?_⟩
        refine ⟨.int s0, rfl, 1, rfl, _, _, rfl, rfl, false, congrArg V.bl (decide_eq_false (by omega)), if_ff ?_⟩
        refine ⟨.int s0, rfl, .int B.count, rfl, _, _, rfl, rfl, false, congrArg V.bl (decide_eq_false (by omega)), if_ff ?_⟩
        exact ⟨rfl, some (.int s0), rfl⟩
      · obtain ⟨rfl, y4, rfl⟩ := h
        exact ⟨rfl, some (.ref pr), y4, rfl⟩
    · obtain ⟨rfl, _⟩ := h
      exact q _ k14
end
end K2
set_option Elab.async false
set_option linter.all false
set_option maxRecDepth 100000
set_option maxHeartbeats 2000000
namespace K2
open PySem PySem.Spec PyProof.Rows L2 Ver
structure PairsOk (m : Nat) (bar : List (List Bool)) (B : Bk) : Prop where
  ok : B.Ok m
  count : B.count = B.tab.length
  many : B.tab.length = (uniq [List.replicate m false] bar).length
  few : B.tab.length ≤ 100
  fin : B.fin = finsG B.tab.length
  home : ∀ t : Int, 0 ≤ t → t < m → 0 ≤ cellG B.tab 0 t
  alike : ∀ s t : Int, 0 ≤ s → s < B.tab.length → 0 ≤ t → t < m → cellG B.tab s t = -1 ∨ cellG B.tab s t = cellG B.tab 0 t
  bars : ∀ t u : Int, 0 ≤ t → t < m → 0 ≤ u → u < m → decide (cellG B.tab (cellG B.tab 0 t) u = -1) = barG bar t u
  first : fmT 1 B.tab = some B.count
section
variable {P : Program} {w : World} {K : PySem.W.Frag} {mg : Str → Option Value} {base : Heap}
def sp__law_pairs_right (K : PySem.W.Frag) : Sp := fun vs H Q _ => ∃ (a : Addr) (B : Bk) (m : Nat) (b : Addr) (bar : List (List Bool)), vs = [.ref a, .int m, .ref b] ∧ BkAt K H a B ∧ BarAt K H b bar ∧ Sqr m bar ∧ m ≤ 100 ∧ PairsOk m bar B ∧ ∀ H', Same H H' → Q (.bl true) H'
theorem ok__law_pairs_right (T : Tx K mg) : FnOk P w K mg base CX0 8 T.f__law_pairs_right T.d__law_pairs_right ["told", "m", "barred"] (sp__law_pairs_right K) := by
  refine T.F__law_pairs_right.ok sc__law_pairs_right (fun vs H Q E h => ?_) (fun cdv A outer s H vs Q E hr h => ?_)
  · obtain ⟨a, B, m, b, bar, rfl, _⟩ := h; rfl
  · obtain ⟨a, B, m, b, bar, rfl, hB, hbar, sq, m1, po, q⟩ := h
    refine ⟨_, (pss_cons (ps_set (i := 3) sc__law_pairs_right.nd rfl (Or.inl rfl) (pe_call (ok__law_many T) (hr.mono (by decide)) rfl T.g__law_many T.F__law_many.kp T.b__law_many .nil pass0 (pa_cons (pv 1) (pa_cons (pv 2) pa_nil))))
    (pss_cons (ps_if (pt_not (pt_val (pe_call (ok__law_shape_right T) hr rfl T.g__law_shape_right T.F__law_shape_right.kp T.b__law_shape_right .nil pass0 (pa_cons (pv 0) (pa_cons (pv 1) (pa_cons (pv 3) pa_nil)))))) (pss_one (ps_ret pe_bl)) pss_nil)
    (pss_cons (ps_set (i := 4) sc__law_pairs_right.nd rfl (Or.inl rfl) (pe_ix ix_tup (pv 0) pe_int (fun _ _ => rfl)))
    (pss_cons (ps_for PassesOwn.never rfl (pi_range1 rfl T.n_range (pa_cons (pv 1) pa_nil)) (pg_name (i := 5) sc__law_pairs_right.nd rfl (Or.inl rfl))
    (pss_cons (ps_set (i := 6) sc__law_pairs_right.nd rfl (Or.inl rfl) (pe_ix ix_tup (pe_ix ix_tup (pv 4) pe_int (fun _ _ => rfl)) (pv 5) (fun _ _ => rfl)))
    (pss_cons (ps_if (pt_cmpR op_lt (pv 6) pe_int (nomark _)) (pss_one (ps_ret pe_bl)) pss_nil)
    (pss_cons (ps_for PassesOwn.never rfl (pi_range1 rfl T.n_range (pa_cons (pv 3) pa_nil)) (pg_name (i := 7) sc__law_pairs_right.nd rfl (Or.inl rfl))
    (pss_one (ps_if (PW.pt (pw_and (pt_cmpR op_ne (pe_ix ix_tup (pe_ix ix_tup (pv 4) (pv 7) (fun _ _ => rfl)) (pv 5) (fun _ _ => rfl)) (pe_un un_neg pe_int) (nomark _)) (pw_and1 (pt_cmpR op_ne (pe_ix ix_tup (pe_ix ix_tup (pv 4) (pv 7) (fun _ _ => rfl)) (pv 5) (fun _ _ => rfl)) (pv 6) (nomark _))))) (pss_one (ps_ret pe_bl)) pss_nil)))
    (pss_one (ps_for PassesOwn.never rfl (pi_range1 rfl T.n_range (pa_cons (pv 1) pa_nil)) (pg_name (i := 8) sc__law_pairs_right.nd rfl (Or.inl rfl))
    (pss_one (ps_if (pt_cmpR op_ne (pe_cmpR op_eq (pe_ix ix_tup (pe_ix ix_tup (pv 4) (pv 6) (fun _ _ => rfl)) (pv 8) (fun _ _ => rfl)) (pe_un un_neg pe_int) (nomark _)) (pe_ix ix_list (pe_ix ix_list (pv 2) (pv 5) (fun _ _ => rfl)) (pv 8) (fun _ _ => rfl)) (nomark _)) (pss_one (ps_ret pe_bl)) pss_nil))))))))
    (pss_one (ps_ret (pe_call (ok__law_first_met T) (hr.mono (by decide)) rfl T.g__law_first_met T.F__law_first_met.kp T.b__law_first_met .nil pass0 (pa_cons (pv 4) (pa_cons (pv 3) pa_nil))))))))), ?_⟩
    refine ⟨.int m, rfl, .ref b, rfl, m, b, bar, rfl, hbar, sq, m1, fun H1 k1 => ?_⟩
    rw [← po.many, ← po.count]
    refine ⟨.ref a, rfl, .int m, rfl, .int B.count, rfl, a, B, m, rfl, hB.grow k1, po.ok, po.count, po.few, po.fin, fun H2 k2 => ⟨_, rfl, ?_⟩⟩
    have k12 := k1.trans k2
    obtain ⟨f, tb, tv, s1, s2, s3, g1⟩ := hB.grow k12
    obtain ⟨bv, hbv, hbr⟩ := hbar.grow k12
    have any := po.ok.any1
    refine ⟨.ref a, rfl, a, _, 2, .ref tb, rfl, rfl, s1, rfl, ?_⟩
    refine ⟨.int m, rfl, (m : Int), rfl, by omega, by omega, ?_⟩
    have cell : ∀ s t : Int, 0 ≤ s → s < B.tab.length → 0 ≤ t → t < m → ∃ pn, atI tv s = some (.ref pn) ∧ SqT K H2 pn ((rowAt B.tab s).map V.int) ∧ atI ((rowAt B.tab s).map V.int) t = some (.int (cellG B.tab s t)) := fun s t b0 b1 b2 b3 => by
      obtain ⟨e1, e2, _, _⟩ := po.ok.cell b0 b1 b2 b3
      obtain ⟨pn, epn, hpn⟩ := g1.get e1
      exact ⟨pn, at_ref b0 epn, hpn, at_map b2 e2⟩
    refine for_range0 (n := (m : Int).toNat) (fun i σ H' => H' = H2 ∧ ∃ y5 y6 y7 y8, σ = [some (.ref a), some (.int m), some (.ref b), some (.int B.count), some (.ref tb), y5, y6, y7, y8]) ⟨rfl, none, none, none, none, rfl⟩ (fun i σ H' lt h => ?_) (fun σ H' h => ?_)
    · obtain ⟨rfl, y5, y6, y7, y8, rfl⟩ := h
      have i1 : (i : Int) < m := by omega
      obtain ⟨p0, a1, a2, a3⟩ := cell 0 i (by omega) (by omega) (by omega) i1
      have h0 := po.home i (by omega) i1
      refine ⟨.ref tb, rfl, tb, tv, 0, _, rfl, rfl, s3, a1, .int (i : Int), rfl, p0, _, (i : Int), _, rfl, rfl, a2, a3, ?_⟩
      have al := po.alike
      have ba := po.bars
      obtain ⟨_, _, _, hlt⟩ := po.ok.cell (s := 0) (t := (i : Int)) (by omega) (by omega) (by omega) i1
      generalize hh : cellG B.tab 0 (i : Int) = hm at h0 hlt
      refine ⟨.int hm, rfl, _, _, rfl, rfl, false, congrArg V.bl (decide_eq_false (by omega)), if_ff ?_⟩
      refine ⟨.int B.count, rfl, B.count, rfl, by rw [po.count]; omega, by rw [po.count]; have := po.few; omega, ?_⟩
      refine for_range0 (n := B.count.toNat) (fun j σ H2 => H2 = H' ∧ ∃ y7, σ = [some (.ref a), some (.int m), some (.ref b), some (.int B.count), some (.ref tb), some (.int (i : Int)), some (.int hm), y7, y8]) ⟨rfl, y7, rfl⟩ (fun j σ H2 lt2 h => ?_) (fun σ H2 h => ?_)
      · obtain ⟨rfl, y7, rfl⟩ := h
        have j1 : (j : Int) < B.tab.length := by have := po.count; omega
        obtain ⟨pj, c1, c2, c3⟩ := cell j i (by omega) j1 (by omega) i1
        refine ⟨.ref tb, rfl, .int (j : Int), rfl, tb, tv, (j : Int), _, rfl, rfl, s3, c1, .int (i : Int), rfl, pj, _, (i : Int), _, rfl, rfl, c2, c3, ?_⟩
        have alj := al j i (by omega) j1 (by omega) i1
        rw [hh] at alj
        refine ⟨1, rfl, rfl, _, rfl, ite2 (fun z => ?_) (fun z => ?_)⟩
        · have z1 : cellG B.tab (j : Int) (i : Int) ≠ -1 := fun x => by rw [x, decide_eq_true rfl] at z; cases z
          have z2 : cellG B.tab (j : Int) (i : Int) = hm := alj.resolve_left z1
          refine ⟨.ref tb, rfl, .int (j : Int), rfl, tb, tv, (j : Int), _, rfl, rfl, s3, c1, .int (i : Int), rfl, pj, _, (i : Int), _, rfl, rfl, c2, c3, .int hm, rfl, rfl, false, congrArg V.bl (by rw [z2, decide_eq_true rfl]; rfl), if_ff ⟨rfl, some (.int (j : Int)), rfl⟩⟩
        · exact if_ff ⟨rfl, some (.int (j : Int)), rfl⟩
      · obtain ⟨rfl, y7, rfl⟩ := h
        refine ⟨.int m, rfl, (m : Int), rfl, by omega, by omega, ?_⟩
        refine for_range0 (n := (m : Int).toNat) (fun j σ H3 => H3 = H2 ∧ ∃ y8, σ = [some (.ref a), some (.int m), some (.ref b), some (.int B.count), some (.ref tb), some (.int (i : Int)), some (.int hm), y7, y8]) ⟨rfl, y8, rfl⟩ (fun j σ H3 lt2 h => ?_) (fun σ H3 h => ?_)
        · obtain ⟨rfl, y8, rfl⟩ := h
          have j1 : (j : Int) < m := by omega
          obtain ⟨pj, c1, c2, c3⟩ := cell hm j h0 hlt (by omega) j1
          have bj := ba i j (by omega) i1 (by omega) j1
          rw [hh] at bj
          obtain ⟨rb, e1, e2⟩ := bar_at sq (t := (i : Int)) (u := (j : Int)) (by omega) i1 (by omega) j1
          obtain ⟨pb, epb, hpb⟩ := hbr.get e1
          have at1 : atI bv (i : Int) = some (.ref pb) := at_ref (by omega) epb
          refine ⟨.ref tb, rfl, .int hm, rfl, tb, tv, hm, _, rfl, rfl, s3, c1, .int (j : Int), rfl, pj, _, (j : Int), _, rfl, rfl, c2, c3, 1, rfl, rfl, .ref b, rfl, .int (i : Int), rfl, b, bv, (i : Int), _, rfl, rfl, .inl (.inl hbv), at1, .int (j : Int), rfl, pb, _, (j : Int), _, rfl, rfl, .inl (.inl hpb), at_bl (by omega) e2, rfl, false, congrArg V.bl ?_, if_ff ⟨rfl, some (.int (j : Int)), rfl⟩⟩
          have eb : decide (V.int (cellG B.tab hm (j : Int)) = V.int (-1)) = barG bar (i : Int) (j : Int) := by
            rw [← bj]
            by_cases x : cellG B.tab hm (j : Int) = -1
            · rw [decide_eq_true x, x]; exact decide_eq_true rfl
            · rw [decide_eq_false x]; exact decide_eq_false fun y => x (V.int.inj y)
          show (!decide (V.bl (decide (V.int (cellG B.tab hm (j : Int)) = V.int (-1))) = V.bl (barG bar (i : Int) (j : Int)))) = false
          rw [eb, decide_eq_true rfl]
          rfl
        · obtain ⟨rfl, y8, rfl⟩ := h
          exact ⟨rfl, some (.int (i : Int)), some (.int hm), y7, y8, rfl⟩
    · obtain ⟨rfl, y5, y6, y7, y8, rfl⟩ := h
      refine ⟨.ref tb, rfl, .int B.count, rfl, tb, tv, B.tab, B.count, rfl, s3, g1, ?_⟩
      rw [decide_eq_true po.first]
      exact q _ k12
end
end K2
set_option Elab.async false
set_option linter.all false
set_option maxRecDepth 100000
set_option maxHeartbeats 2000000
namespace K2
open PySem PySem.Spec PyProof.Rows L2 Ver
theorem uniq_map {α β : Type} [DecidableEq α] [DecidableEq β] (f : α → β) : ∀ (l acc : List α), (∀ x ∈ acc ++ l, ∀ y ∈ acc ++ l, f x = f y → x = y) → uniq (acc.map f) (l.map f) = (uniq acc l).map f
  | [], acc, _ => rfl
  | x :: l, acc, h => by
    show uniq (if f x ∈ acc.map f then acc.map f else acc.map f ++ [f x]) (l.map f) = (uniq (if x ∈ acc then acc else acc ++ [x]) l).map f
    have hx : x ∈ acc ++ x :: l := List.mem_append_right _ List.mem_cons_self
    by_cases c : x ∈ acc
    · rw [if_pos c, if_pos (List.mem_map.mpr ⟨x, c, rfl⟩)]
      refine uniq_map f l acc fun a ha b hb => h a ?_ b ?_
      · exact (List.mem_append.mp ha).elim (fun z => List.mem_append_left _ z) fun z => List.mem_append_right _ (List.mem_cons_of_mem _ z)
      · exact (List.mem_append.mp hb).elim (fun z => List.mem_append_left _ z) fun z => List.mem_append_right _ (List.mem_cons_of_mem _ z)
    · have c2 : f x ∉ acc.map f := fun z => by
        obtain ⟨y, hy, e⟩ := List.mem_map.mp z
        have := h y (List.mem_append_left _ hy) x hx e
        rw [this] at hy
        exact c hy
      rw [if_neg c, if_neg c2, show acc.map f ++ [f x] = (acc ++ [x]).map f by rw [List.map_append]; rfl]
      refine uniq_map f l (acc ++ [x]) fun a ha b hb => h a ?_ b ?_
      · rw [List.append_assoc] at ha; exact ha
      · rw [List.append_assoc] at hb; exact hb
theorem idx_map {α β : Type} [DecidableEq α] [DecidableEq β] (f : α → β) {x : α} : ∀ {l : List α}, (∀ y ∈ l, f y = f x → y = x) → idxG (f x) (l.map f) = idxG x l
  | [], _ => rfl
  | y :: l, h => by
    show (if f y = f x then 0 else idxG (f x) (l.map f) + 1) = if y = x then 0 else idxG x l + 1
    by_cases c : y = x
    · rw [if_pos c, if_pos (by rw [c])]
    · rw [if_neg c, if_neg (fun z => c (h y List.mem_cons_self z)), idx_map f fun z hz => h z (List.mem_cons_of_mem _ hz)]
theorem idx_get {α : Type} [DecidableEq α] {x : α} : ∀ {l : List α}, x ∈ l → l[idxG x l]? = some x
  | [], h => absurd h List.not_mem_nil
  | y :: l, h => by
    by_cases c : y = x
    · rw [show idxG x (y :: l) = 0 from if_pos c, c]
      rfl
    · rw [show idxG x (y :: l) = idxG x l + 1 from if_neg c]
      exact idx_get ((List.mem_cons.mp h).resolve_left fun e => c e.symm)
theorem idx_inj {α : Type} [DecidableEq α] {x y : α} {l : List α} (hx : x ∈ l) (hy : y ∈ l) (e : idxG x l = idxG y l) : x = y := by
  have h1 := idx_get hx
  rw [e, idx_get hy] at h1
  exact (Option.some.inj h1).symm
def rowP (m : Nat) (r : List Bool) : List Int := List.zipWith (fun b u => if b = true then -1 else u) r (seqM m)
def tabP (m : Nat) (bar : List (List Bool)) : List (List Int) := (List.replicate m false :: bar).map (rowP m)
theorem seq_len (m : Nat) : (seqM m).length = m := by unfold seqM; rw [List.length_map, List.length_range]
theorem rowP_len {m : Nat} {r : List Bool} (h : r.length = m) : (rowP m r).length = m := by
  unfold rowP
  rw [List.length_zipWith, seq_len, h, Nat.min_self]
theorem rowP_at {m : Nat} {r : List Bool} {u : Nat} {b : Bool} (h : r[u]? = some b) (lt : u < m) : (rowP m r)[u]? = some (if b = true then -1 else ((u : Nat) : Int) + 1) := by
  unfold rowP
  rw [List.getElem?_zipWith, h]
  have : (seqM m)[u]? = some (((u : Nat) : Int) + 1) := by
    unfold seqM
    rw [List.getElem?_map, List.getElem?_range lt]
    rfl
  rw [this]
theorem zipWith_rep (m : Nat) : rowP m (List.replicate m false) = seqM m := by
  refine List.ext_getElem? fun i => ?_
  by_cases h : i < m
  · rw [rowP_at (b := false) (by rw [List.getElem?_replicate, if_pos h]) h]
    unfold seqM
    rw [List.getElem?_map, List.getElem?_range h]
    rfl
  · rw [List.getElem?_eq_none (by rw [rowP_len List.length_replicate]; omega), List.getElem?_eq_none (by rw [seq_len]; omega)]
theorem tabP_ok {m : Nat} {bar : List (List Bool)} (sq : Sqr m bar) (m1 : m ≤ 100) : TabOk (tabP m bar) ∧ (tabP m bar).length = m + 1 ∧ (tabP m bar)[0]? = some (seqM m) := by
  have len : (tabP m bar).length = m + 1 := by unfold tabP; rw [List.length_map, List.length_cons, sq.1]
  refine ⟨⟨by omega, fun r hr => ?_⟩, len, ?_⟩
  · obtain ⟨r0, h0, rfl⟩ := List.mem_map.mp hr
    have l0 : r0.length = m := by
      rcases List.mem_cons.mp h0 with rfl | h0
      · exact List.length_replicate
      · exact sq.2 _ h0
    refine ⟨by rw [rowP_len l0]; omega, fun l hl => ?_⟩
    obtain ⟨i, hi, rfl⟩ := List.mem_iff_getElem.mp hl
    have him : i < m := by rw [rowP_len l0] at hi; exact hi
    have e := rowP_at (r := r0) (m := m) (u := i) (List.getElem?_eq_getElem (by omega)) him
    rw [List.getElem?_eq_getElem hi] at e
    rw [Option.some.inj e, len]
    split <;> omega
  · show some (rowP m (List.replicate m false)) = _
    rw [zipWith_rep]
end K2
set_option Elab.async false
set_option linter.all false
set_option maxRecDepth 100000
set_option maxHeartbeats 2000000
namespace K2
open PySem PySem.Spec PyProof.Rows L2 Ver
theorem zip_map {α β γ δ : Type} (f : β → γ → δ) (a : α → β) (b : α → γ) : ∀ l : List α, List.zipWith f (l.map a) (l.map b) = l.map fun x => f (a x) (b x)
  | [] => rfl
  | x :: l => by
    show f (a x) (b x) :: List.zipWith f (l.map a) (l.map b) = _
    rw [zip_map f a b l]
    rfl
abbrev rowsB (m : Nat) (bar : List (List Bool)) : List (List Bool) := List.replicate m false :: bar
def clsB (m : Nat) (bar : List (List Bool)) (r : List Bool) : Int := ((idxG r (uniq [] (rowsB m bar)) : Nat) : Int)
def markB (m : Nat) (cs : List Int) (g : List Bool → Int) (r : List Bool) : Mark := (g r, (rowP m r).map (leadG cs))
theorem marks_of {m : Nat} {bar : List (List Bool)} (cs : List Int) (g : List Bool → Int) (h : cs = (rowsB m bar).map g) : marks (tabP m bar) cs = (rowsB m bar).map (markB m cs g) := by
  unfold marks tabP
  have := zip_map (fun c row => ((c, row.map (leadG cs)) : Mark)) g (rowP m) (rowsB m bar)
  rw [← h] at this
  exact this
theorem lead_no (cs : List Int) : leadG cs (-1) = -1 := rfl
theorem mark_inj {m : Nat} {cs : List Int} {g : List Bool → Int} (hc : ∀ l : Int, 0 ≤ l → leadG cs l ≠ -1) {r r2 : List Bool} (h1 : r.length = m) (h2 : r2.length = m) (e : markB m cs g r = markB m cs g r2) : r = r2 := by
  have e2 : (rowP m r).map (leadG cs) = (rowP m r2).map (leadG cs) := congrArg Prod.snd e
  refine List.ext_getElem? fun i => ?_
  by_cases hi : i < m
  · have a1 := rowP_at (r := r) (m := m) (u := i) (List.getElem?_eq_getElem (by omega)) hi
    have a2 := rowP_at (r := r2) (m := m) (u := i) (List.getElem?_eq_getElem (by omega)) hi
    have e3 : ((rowP m r).map (leadG cs))[i]? = ((rowP m r2).map (leadG cs))[i]? := by rw [e2]
    rw [List.getElem?_map, List.getElem?_map, a1, a2] at e3
    have e4 := Option.some.inj e3
    rw [List.getElem?_eq_getElem (by omega), List.getElem?_eq_getElem (by omega)]
    congr 1
    cases x : r[i]'(by omega) with
    | true =>
      cases y : r2[i]'(by omega) with
      | true => rfl
      | false =>
        rw [x, y, if_pos rfl, if_neg Bool.false_ne_true, lead_no] at e4
        exact absurd e4.symm (hc _ (by omega))
    | false =>
      cases y : r2[i]'(by omega) with
      | false => rfl
      | true =>
        rw [x, y, if_pos rfl, if_neg Bool.false_ne_true, lead_no] at e4
        exact absurd e4 (hc _ (by omega))
  · rw [List.getElem?_eq_none (by omega), List.getElem?_eq_none (by omega)]
theorem rowsB_len {m : Nat} {bar : List (List Bool)} (sq : Sqr m bar) : ∀ r ∈ rowsB m bar, r.length = m := fun r hr => by
  rcases List.mem_cons.mp hr with rfl | hr
  · exact List.length_replicate
  · exact sq.2 r hr
theorem uniq_marks {m : Nat} {bar : List (List Bool)} (sq : Sqr m bar) {cs : List Int} {g : List Bool → Int} (h : cs = (rowsB m bar).map g) (hc : ∀ l : Int, 0 ≤ l → leadG cs l ≠ -1) :
    uniq [] (marks (tabP m bar) cs) = (uniq [] (rowsB m bar)).map (markB m cs g) := by
  rw [marks_of cs g h]
  exact uniq_map (markB m cs g) (rowsB m bar) [] fun x hx y hy e => mark_inj hc (rowsB_len sq x hx) (rowsB_len sq y hy) e
theorem idxs_marks {m : Nat} {bar : List (List Bool)} (sq : Sqr m bar) {cs : List Int} {g : List Bool → Int} (h : cs = (rowsB m bar).map g) (hc : ∀ l : Int, 0 ≤ l → leadG cs l ≠ -1) :
    idxs (marks (tabP m bar) cs) = (rowsB m bar).map (clsB m bar) := by
  unfold idxs
  rw [uniq_marks sq h hc, marks_of cs g h, List.map_map]
  refine List.map_congr_left fun r hr => ?_
  show place _ (markB m cs g r) = clsB m bar r
  unfold place clsB
  rw [idx_map (markB m cs g) fun y hy e => mark_inj hc (rowsB_len sq y ((uniq_mem.mp hy).resolve_left List.not_mem_nil)) (rowsB_len sq r hr) e]
theorem zeros_map {m : Nat} {bar : List (List Bool)} : List.replicate (tabP m bar).length (0 : Int) = (rowsB m bar).map fun _ => 0 := by
  unfold tabP
  rw [List.length_map]
  exact (List.map_const' ..).symm
theorem lead_pos {cs : List Int} (h : ∀ x ∈ cs, 0 ≤ x) (l : Int) (l0 : 0 ≤ l) : leadG cs l ≠ -1 := by
  unfold leadG
  rw [if_pos l0]
  cases e : cs[l.toNat]? with
  | none => show (0 : Int) ≠ -1; decide
  | some x =>
    have := h x (List.mem_of_getElem? e)
    show x ≠ -1
    omega
theorem cls1_tabP {m : Nat} {bar : List (List Bool)} (sq : Sqr m bar) : cls1 (tabP m bar) = (rowsB m bar).map (clsB m bar) :=
  idxs_marks sq zeros_map (lead_pos fun x hx => by rw [List.eq_of_mem_replicate hx]; exact Int.le_refl _)
theorem cnt1_tabP {m : Nat} {bar : List (List Bool)} (sq : Sqr m bar) : cnt1 (tabP m bar) = (uniq [List.replicate m false] bar).length := by
  unfold cnt1
  rw [uniq_marks sq zeros_map (lead_pos fun x hx => by rw [List.eq_of_mem_replicate hx]; exact Int.le_refl _), List.length_map]
  rfl
theorem stable_tabP {m : Nat} {bar : List (List Bool)} (sq : Sqr m bar) : idxs (marks (tabP m bar) (cls1 (tabP m bar))) = cls1 (tabP m bar) := by
  rw [cls1_tabP sq]
  exact idxs_marks sq rfl (lead_pos fun x hx => by
    obtain ⟨r, _, rfl⟩ := List.mem_map.mp hx
    unfold clsB
    omega)
end K2
set_option Elab.async false
set_option linter.all false
set_option maxRecDepth 100000
set_option maxHeartbeats 2000000
namespace K2
open PySem PySem.Spec PyProof.Rows L2 Ver
theorem uniq_app {α : Type} [DecidableEq α] : ∀ (l1 l2 acc : List α), uniq acc (l1 ++ l2) = uniq (uniq acc l1) l2
  | [], _, _ => rfl
  | x :: l1, l2, acc => uniq_app l1 l2 _
theorem uniq_pre {α : Type} [DecidableEq α] : ∀ (l acc : List α), ∃ t, uniq acc l = acc ++ t
  | [], acc => ⟨[], (List.append_nil _).symm⟩
  | x :: l, acc => by
    obtain ⟨t, e⟩ := uniq_pre l (if x ∈ acc then acc else acc ++ [x])
    by_cases c : x ∈ acc
    · rw [if_pos c] at e
      exact ⟨t, by show uniq (if x ∈ acc then acc else acc ++ [x]) l = _; rw [if_pos c, e]⟩
    · rw [if_neg c] at e
      exact ⟨x :: t, by show uniq (if x ∈ acc then acc else acc ++ [x]) l = _; rw [if_neg c, e, List.append_assoc]; rfl⟩
theorem fins_mem {n : Nat} {z : Int} : z ∈ finsG n ↔ 0 ≤ z ∧ z < n := by
  unfold finsG
  constructor
  · intro h
    obtain ⟨i, hi, rfl⟩ := List.mem_map.mp h
    have := List.mem_range.mp hi
    omega
  · rintro ⟨h0, h1⟩
    exact List.mem_map.mpr ⟨z.toNat, List.mem_range.mpr (by omega), by omega⟩
theorem fins_succ (n : Nat) : finsG (n + 1) = finsG n ++ [((n : Nat) : Int)] := by
  unfold finsG
  rw [List.range_succ, List.map_append]
  rfl
theorem fins_at {n : Nat} {i : Nat} (h : i < n) : (finsG n)[i]? = some ((i : Nat) : Int) := by
  unfold finsG
  rw [List.getElem?_map, List.getElem?_range h]
  rfl
theorem fins_len (n : Nat) : (finsG n).length = n := by unfold finsG; rw [List.length_map, List.length_range]
section
variable {m : Nat} {bar : List (List Bool)}
abbrev clsL (m : Nat) (bar : List (List Bool)) : List Int := (rowsB m bar).map (clsB m bar)
theorem clsG_at {i : Nat} {r : List Bool} (e : (rowsB m bar)[i]? = some r) : clsG (clsL m bar) ((i : Nat) : Int) = clsB m bar r := by
  unfold clsG
  rw [Int.toNat_natCast, List.getElem?_map, e]
  rfl
theorem met_cls (sq : Sqr m bar) : ∀ k, k ≤ m → (((seqM m).take k).foldl (stepL (clsL m bar)) [0]).map (clsG (clsL m bar)) = finsG (uniq [] ((rowsB m bar).take (k + 1))).length
  | 0, _ => by
    show [clsG (clsL m bar) ((0 : Nat) : Int)] = _
    rw [clsG_at (r := List.replicate m false) rfl]
    obtain ⟨t, et⟩ := uniq_pre bar [List.replicate m false]
    have : clsB m bar (List.replicate m false) = 0 := by
      unfold clsB
      rw [show uniq [] (rowsB m bar) = uniq [List.replicate m false] bar from rfl, et]
      show ((idxG (List.replicate m false) (List.replicate m false :: t) : Nat) : Int) = 0
      rw [show idxG (List.replicate m false) (List.replicate m false :: t) = 0 from if_pos rfl]
      rfl
    rw [this]
    rfl
  | k + 1, hk => by
    have ih := met_cls sq k (by omega)
    have eS : (seqM m)[k]? = some (((k + 1 : Nat) : Nat) : Int) := by
      unfold seqM
      rw [List.getElem?_map, List.getElem?_range (by omega)]
      rfl
    have lr : (rowsB m bar).length = m + 1 := by rw [List.length_cons, sq.1]
    have er : (rowsB m bar)[k + 1]? = some (rowsB m bar)[k + 1] := List.getElem?_eq_getElem (by omega)
    generalize (rowsB m bar)[k + 1] = x at er
    have tk : (rowsB m bar).take (k + 1 + 1) = (rowsB m bar).take (k + 1) ++ [x] := by rw [List.take_add_one, er]; rfl
    have ec := clsG_at er
    have eU : uniq [] (rowsB m bar) = uniq (uniq [] ((rowsB m bar).take (k + 1 + 1))) ((rowsB m bar).drop (k + 1 + 1)) := by
      rw [← uniq_app, List.take_append_drop]
    obtain ⟨t, et⟩ := uniq_pre ((rowsB m bar).drop (k + 1 + 1)) (uniq [] ((rowsB m bar).take (k + 1 + 1)))
    rw [List.take_add_one, eS]
    show (((seqM m).take k ++ [(((k + 1 : Nat) : Nat) : Int)]).foldl (stepL (clsL m bar)) [0]).map _ = _
    rw [List.foldl_append]
    show (stepL (clsL m bar) (((seqM m).take k).foldl (stepL (clsL m bar)) [0]) ((k + 1 : Nat) : Int)).map _ = _
    generalize ((seqM m).take k).foldl (stepL (clsL m bar)) [0] = F at ih ⊢
    unfold stepL
    rw [ih, ec, tk, uniq_snoc]
    rw [tk, uniq_snoc] at eU et
    by_cases c : x ∈ uniq [] ((rowsB m bar).take (k + 1))
    · rw [if_pos c] at eU et ⊢
      have e1 : clsB m bar x = ((idxG x (uniq [] ((rowsB m bar).take (k + 1))) : Nat) : Int) := by
        unfold clsB
        rw [eU, et, idx_app _ c]
      have := idx_lt c
      rw [if_neg (fun z => z.2 (fins_mem.mpr (by rw [e1]; omega)))]
      exact ih
    · rw [if_neg c] at eU et ⊢
      have e1 : clsB m bar x = ((uniq [] ((rowsB m bar).take (k + 1))).length : Int) := by
        unfold clsB
        rw [eU, et, idx_app _ (List.mem_append_right _ List.mem_cons_self), idx_new c]
      rw [if_pos ⟨by omega, fun z => by have := fins_mem.mp z; omega⟩, List.map_append, ih, List.length_append, List.length_singleton, fins_succ, List.map_singleton, ec, e1]
end
end K2
set_option Elab.async false
set_option linter.all false
set_option maxRecDepth 100000
set_option maxHeartbeats 2000000
namespace K2
open PySem PySem.Spec PyProof.Rows L2 Ver
section
variable {m : Nat} {bar : List (List Bool)}
def cntB (m : Nat) (bar : List (List Bool)) : Nat := (uniq [] (rowsB m bar)).length
abbrev metB (m : Nat) (bar : List (List Bool)) : List Int := metG (clsL m bar) m
theorem rowsB_size (sq : Sqr m bar) : (rowsB m bar).length = m + 1 := by rw [List.length_cons, sq.1]
theorem met_all (sq : Sqr m bar) : (metB m bar).map (clsG (clsL m bar)) = finsG (cntB m bar) := by
  have h := met_cls sq m (Nat.le_refl _)
  rw [List.take_of_length_le (by rw [seq_len]; exact Nat.le_refl _), List.take_of_length_le (by rw [rowsB_size sq]; exact Nat.le_refl _)] at h
  exact h
theorem met_size (sq : Sqr m bar) : (metB m bar).length = cntB m bar := by
  have := congrArg List.length (met_all sq)
  rw [List.length_map, fins_len] at this
  exact this
theorem clsB_lt {r : List Bool} (h : r ∈ rowsB m bar) : 0 ≤ clsB m bar r ∧ clsB m bar r < cntB m bar := by
  have := idx_lt (uniq_mem.mpr (.inr h) : r ∈ uniq [] (rowsB m bar))
  unfold clsB cntB
  omega
theorem clsB_inj {r r2 : List Bool} (h : r ∈ rowsB m bar) (h2 : r2 ∈ rowsB m bar) (e : clsB m bar r = clsB m bar r2) : r = r2 := by
  unfold clsB at e
  have e2 : idxG r (uniq [] (rowsB m bar)) = idxG r2 (uniq [] (rowsB m bar)) := by omega
  exact idx_inj (uniq_mem.mpr (.inr h)) (uniq_mem.mpr (.inr h2)) e2
theorem clsB_zero : clsB m bar (List.replicate m false) = 0 := by
  obtain ⟨t, et⟩ := uniq_pre bar [List.replicate m false]
  unfold clsB
  rw [show uniq [] (rowsB m bar) = uniq [List.replicate m false] bar from rfl, et]
  show ((idxG (List.replicate m false) (List.replicate m false :: t) : Nat) : Int) = 0
  rw [show idxG (List.replicate m false) (List.replicate m false :: t) = 0 from if_pos rfl]
  rfl
theorem clsG_in (sq : Sqr m bar) {l : Int} (h0 : 0 ≤ l) (h1 : l ≤ m) : ∃ r, (rowsB m bar)[l.toNat]? = some r ∧ r ∈ rowsB m bar ∧ clsG (clsL m bar) l = clsB m bar r := by
  have e := List.getElem?_eq_getElem (show l.toNat < (rowsB m bar).length by rw [rowsB_size sq]; omega)
  refine ⟨_, e, List.mem_of_getElem? e, ?_⟩
  have := clsG_at e
  rw [show ((l.toNat : Nat) : Int) = l by omega] at this
  exact this
theorem num_is (sq : Sqr m bar) {l : Int} (h0 : 0 ≤ l) (h1 : l ≤ m) : numG (clsL m bar) m l = clsG (clsL m bar) l := by
  obtain ⟨r, _, hr, e⟩ := clsG_in sq h0 h1
  obtain ⟨c0, c1⟩ := clsB_lt hr
  unfold numG
  rw [if_pos h0, met_all sq, e]
  have nd := met_nodup (clsL m bar) m
  rw [met_all sq] at nd
  have ea := fins_at (n := cntB m bar) (i := (clsB m bar r).toNat) (by omega)
  rw [show (((clsB m bar r).toNat : Nat) : Int) = clsB m bar r by omega] at ea
  rw [idx_at nd ea]
  omega
theorem num_no : numG (clsL m bar) m (-1) = -1 := rfl
def homeB (m : Nat) (bar : List (List Bool)) (t : Int) : Int := clsG (clsL m bar) (t + 1)
theorem home_row (sq : Sqr m bar) {t : Int} (t0 : 0 ≤ t) (t1 : t < m) : ∃ r, bar[t.toNat]? = some r ∧ r ∈ rowsB m bar ∧ homeB m bar t = clsB m bar r := by
  obtain ⟨r, e, hr, ec⟩ := clsG_in sq (l := t + 1) (by omega) (by omega)
  refine ⟨r, ?_, hr, ec⟩
  rw [show (t + 1).toNat = t.toNat + 1 by omega] at e
  exact e
abbrev bookB (m : Nat) (bar : List (List Bool)) : List (List Int) := bookG (tabP m bar) (clsL m bar) m
theorem book_size (sq : Sqr m bar) : (bookB m bar).length = cntB m bar := by
  unfold bookB bookG
  rw [List.length_map, met_size sq]
theorem book_row (sq : Sqr m bar) {k : Nat} (hk : k < cntB m bar) : ∃ r, r ∈ rowsB m bar ∧ clsB m bar r = (k : Int) ∧ (bookB m bar)[k]? = some ((rowP m r).map (numG (clsL m bar) m)) := by
  have em := List.getElem?_eq_getElem (show k < (metB m bar).length by rw [met_size sq]; exact hk)
  obtain ⟨b0, b1⟩ := met_range _ (List.mem_of_getElem? em)
  generalize (metB m bar)[k]'(by rw [met_size sq]; exact hk) = s at em b0 b1
  obtain ⟨r, e, hr, ec⟩ := clsG_in sq b0 b1
  have h1 : ((metB m bar).map (clsG (clsL m bar)))[k]? = some (clsG (clsL m bar) s) := by rw [List.getElem?_map, em]; rfl
  rw [met_all sq, fins_at hk, ec] at h1
  refine ⟨r, hr, (Option.some.inj h1).symm, ?_⟩
  unfold bookB bookG
  rw [List.getElem?_map, em]
  show some ((rowAt (tabP m bar) s).map _) = _
  have : rowAt (tabP m bar) s = rowP m r := by
    unfold rowAt tabP
    rw [List.getElem?_map, e]
    rfl
  rw [this]
theorem book_cell (sq : Sqr m bar) {k t : Int} (k0 : 0 ≤ k) (k1 : k < cntB m bar) (t0 : 0 ≤ t) (t1 : t < m) : ∃ r b, r ∈ rowsB m bar ∧ clsB m bar r = k ∧ r[t.toNat]? = some b ∧ cellG (bookB m bar) k t = if b = true then -1 else homeB m bar t := by
  obtain ⟨r, hr, ec, er⟩ := book_row sq (k := k.toNat) (by omega)
  have lr := rowsB_len sq r hr
  have eb := List.getElem?_eq_getElem (show t.toNat < r.length by omega)
  refine ⟨r, _, hr, by rw [ec]; omega, eb, ?_⟩
  generalize r[t.toNat] = b at eb
  unfold cellG rowAt
  rw [er]
  show ((((rowP m r).map (numG (clsL m bar) m))[t.toNat]?).getD 0) = _
  rw [List.getElem?_map, rowP_at eb (by omega)]
  show numG (clsL m bar) m (if b = true then -1 else ((t.toNat : Nat) : Int) + 1) = _
  cases b with
  | true => exact num_no
  | false =>
    rw [if_neg Bool.false_ne_true, if_neg Bool.false_ne_true, show ((t.toNat : Nat) : Int) + 1 = t + 1 by omega, num_is sq (by omega) (by omega)]
    rfl
end
end K2
set_option Elab.async false
set_option linter.all false
set_option maxRecDepth 100000
set_option maxHeartbeats 2000000
namespace K2
open PySem PySem.Spec PyProof.Rows L2 Ver
theorem fmR_snoc : ∀ (r : List Int) (k s : Int), fmR k (r ++ [s]) = (fmR k r).bind fun k2 => if s > k2 then none else some (if s = k2 then k2 + 1 else k2)
  | [], k, s => by
    show (if s > k then none else fmR (if s = k then k + 1 else k) []) = _
    rfl
  | x :: r, k, s => by
    show (if x > k then none else fmR (if x = k then k + 1 else k) (r ++ [s])) = (if x > k then none else fmR (if x = k then k + 1 else k) r).bind _
    by_cases c : x > k
    · rw [if_pos c, if_pos c]; rfl
    · rw [if_neg c, if_neg c, fmR_snoc r]
theorem fmR_low : ∀ {r : List Int} {k : Int}, (∀ x ∈ r, x < k) → fmR k r = some k
  | [], k, _ => rfl
  | x :: r, k, h => by
    have := h x List.mem_cons_self
    show (if x > k then none else fmR (if x = k then k + 1 else k) r) = some k
    rw [if_neg (by omega), if_neg (by omega)]
    exact fmR_low fun y hy => h y (List.mem_cons_of_mem _ hy)
theorem fmT_low : ∀ {t : List (List Int)} {k : Int}, (∀ r ∈ t, ∀ x ∈ r, x < k) → fmT k t = some k
  | [], k, _ => rfl
  | r :: t, k, h => by
    show (fmR k r).bind _ = some k
    rw [fmR_low (h r List.mem_cons_self)]
    exact fmT_low fun y hy => h y (List.mem_cons_of_mem _ hy)
section
variable {m : Nat} {bar : List (List Bool)}
theorem fm_first (sq : Sqr m bar) : ∀ k, k ≤ m → fmR 1 (((seqM m).take k).map (clsG (clsL m bar))) = some ((uniq [] ((rowsB m bar).take (k + 1))).length : Int)
  | 0, _ => rfl
  | k + 1, hk => by
    have ih := fm_first sq k (by omega)
    have eS : (seqM m)[k]? = some (((k + 1 : Nat) : Nat) : Int) := by
      unfold seqM
      rw [List.getElem?_map, List.getElem?_range (by omega)]
      rfl
    have er : (rowsB m bar)[k + 1]? = some ((rowsB m bar)[k + 1]'(by rw [rowsB_size sq]; omega)) := List.getElem?_eq_getElem (by rw [rowsB_size sq]; omega)
    generalize (rowsB m bar)[k + 1]'(by rw [rowsB_size sq]; omega) = x at er
    have tk : (rowsB m bar).take (k + 1 + 1) = (rowsB m bar).take (k + 1) ++ [x] := by rw [List.take_add_one, er]; rfl
    have ec := clsG_at er
    have eU : uniq [] (rowsB m bar) = uniq (uniq [] ((rowsB m bar).take (k + 1 + 1))) ((rowsB m bar).drop (k + 1 + 1)) := by
      rw [← uniq_app, List.take_append_drop]
    obtain ⟨t, et⟩ := uniq_pre ((rowsB m bar).drop (k + 1 + 1)) (uniq [] ((rowsB m bar).take (k + 1 + 1)))
    rw [List.take_add_one, eS]
    show fmR 1 (((seqM m).take k ++ [(((k + 1 : Nat) : Nat) : Int)]).map _) = _
    rw [List.map_append, List.map_singleton, fmR_snoc, ih, ec, tk, uniq_snoc]
    rw [tk, uniq_snoc] at eU et
    show (if _ > _ then none else _) = _
    by_cases c : x ∈ uniq [] ((rowsB m bar).take (k + 1))
    · rw [if_pos c] at eU et ⊢
      have e1 : clsB m bar x = ((idxG x (uniq [] ((rowsB m bar).take (k + 1))) : Nat) : Int) := by
        unfold clsB
        rw [eU, et, idx_app _ c]
      have := idx_lt c
      rw [e1, if_neg (by omega), if_neg (by omega)]
    · rw [if_neg c] at eU et ⊢
      have e1 : clsB m bar x = ((uniq [] ((rowsB m bar).take (k + 1))).length : Int) := by
        unfold clsB
        rw [eU, et, idx_app _ (List.mem_append_right _ List.mem_cons_self), idx_new c]
      rw [e1, if_neg (by omega), if_pos rfl, List.length_append, List.length_singleton]
      rfl
theorem home_lt (sq : Sqr m bar) {t : Int} (t0 : 0 ≤ t) (t1 : t < m) : 0 ≤ homeB m bar t ∧ homeB m bar t < cntB m bar := by
  obtain ⟨r, _, hr, e⟩ := home_row sq t0 t1
  rw [e]
  exact clsB_lt hr
theorem cnt_pos : 0 < cntB m bar := by
  unfold cntB
  exact List.length_pos_of_mem (uniq_mem.mpr (.inr List.mem_cons_self) : List.replicate m false ∈ uniq [] (rowsB m bar))
theorem cell_zero (sq : Sqr m bar) {t : Int} (t0 : 0 ≤ t) (t1 : t < m) : cellG (bookB m bar) 0 t = homeB m bar t := by
  have := cnt_pos (m := m) (bar := bar)
  obtain ⟨r, b, hr, ec, eb, e⟩ := book_cell sq (k := 0) (by omega) (by omega) t0 t1
  have er : r = List.replicate m false := clsB_inj hr List.mem_cons_self (by rw [ec, clsB_zero])
  rw [er, List.getElem?_replicate, if_pos (by omega)] at eb
  rw [e, ← Option.some.inj eb]
  rfl
abbrev bkB (m : Nat) (bar : List (List Bool)) : Bk := ⟨((metB m bar).length : Int), finsG (metB m bar).length, bookB m bar⟩
theorem pairsOk (sq : Sqr m bar) (few : cntB m bar ≤ 60) : PairsOk m bar (bkB m bar) := by
  have pos := cnt_pos (m := m) (bar := bar)
  have bs := book_size sq
  have ms := met_size sq
  have ents : ∀ r ∈ bookB m bar, r.length = m ∧ ∀ x ∈ r, -1 ≤ x ∧ x < (cntB m bar : Int) := fun r hr => by
    obtain ⟨k, hk, rfl⟩ := List.mem_iff_getElem.mp hr
    rw [bs] at hk
    obtain ⟨r0, hr0, _, er⟩ := book_row sq hk
    rw [List.getElem?_eq_getElem (by rw [bs]; exact hk)] at er
    rw [Option.some.inj er]
    have l0 := rowsB_len sq r0 hr0
    refine ⟨by rw [List.length_map, rowP_len l0], fun x hx => ?_⟩
    obtain ⟨l, hl, rfl⟩ := List.mem_map.mp hx
    obtain ⟨i, hi, rfl⟩ := List.mem_iff_getElem.mp hl
    have him : i < m := by rw [rowP_len l0] at hi; exact hi
    have e := rowP_at (r := r0) (m := m) (u := i) (List.getElem?_eq_getElem (by omega)) him
    rw [List.getElem?_eq_getElem hi] at e
    rw [Option.some.inj e]
    split
    · rw [num_no]; omega
    · rw [num_is sq (by omega) (by omega)]
      obtain ⟨r2, _, hr2, e2⟩ := clsG_in sq (l := (i : Int) + 1) (by omega) (by omega)
      have := clsB_lt hr2
      rw [e2]
      omega
  refine ⟨⟨by show 1 ≤ (bookB m bar).length; omega, fun r hr => ?_⟩, ?_, bs, ?_, ?_, fun t t0 t1 => ?_, fun s t s0 s1 t0 t1 => ?_, fun t u t0 t1 u0 u1 => ?_, ?_⟩
  · obtain ⟨h1, h2⟩ := ents r hr
    refine ⟨h1, fun x hx => ?_⟩
    have := h2 x hx
    show -1 ≤ x ∧ x < ((bookB m bar).length : Int)
    omega
  · show ((metB m bar).length : Int) = (bookB m bar).length
    omega
  · show (bookB m bar).length ≤ 100
    omega
  · show finsG (metB m bar).length = finsG (bookB m bar).length
    rw [ms, bs]
  · show 0 ≤ cellG (bookB m bar) 0 t
    rw [cell_zero sq t0 t1]
    exact (home_lt sq t0 t1).1
  · show cellG (bookB m bar) s t = -1 ∨ cellG (bookB m bar) s t = cellG (bookB m bar) 0 t
    have s2 : s < ((bookB m bar).length : Int) := s1
    obtain ⟨r, b, _, _, _, e⟩ := book_cell sq (k := s) s0 (by omega) t0 t1
    rw [e, cell_zero sq t0 t1]
    cases b with
    | true => exact .inl rfl
    | false => exact .inr rfl
  · show decide (cellG (bookB m bar) (cellG (bookB m bar) 0 t) u = -1) = barG bar t u
    rw [cell_zero sq t0 t1]
    obtain ⟨rt, ert, hrt, eh⟩ := home_row sq t0 t1
    obtain ⟨h0, h1⟩ := home_lt sq t0 t1
    obtain ⟨r, b, hr, ec, eb, e⟩ := book_cell sq (k := homeB m bar t) h0 h1 u0 u1
    have er : r = rt := clsB_inj hr hrt (by rw [ec, eh])
    rw [er] at eb
    have ebar : barG bar t u = b := by
      unfold barG
      rw [ert]
      show ((rt[u.toNat]?).getD false) = b
      rw [eb]
      rfl
    rw [e, ebar]
    have hu := home_lt sq u0 u1
    cases b with
    | true => rfl
    | false =>
      rw [if_neg Bool.false_ne_true]
      exact decide_eq_false (by omega)
  · show fmT 1 (bookB m bar) = some ((metB m bar).length : Int)
    obtain ⟨r0, hr0, ec0, er0⟩ := book_row sq (k := 0) pos
    have e0 : r0 = List.replicate m false := clsB_inj hr0 List.mem_cons_self (by rw [ec0, clsB_zero]; rfl)
    rw [e0, zipWith_rep] at er0
    have el : (bookB m bar) = (seqM m).map (numG (clsL m bar) m) :: (bookB m bar).tail := by
      cases hB : bookB m bar with
      | nil => rw [hB] at er0; cases er0
      | cons a l =>
        rw [hB] at er0
        rw [Option.some.inj er0]
        rfl
    have en : (seqM m).map (numG (clsL m bar) m) = (seqM m).map (clsG (clsL m bar)) := List.map_congr_left fun l hl => by
      obtain ⟨i, hi, rfl⟩ := List.mem_map.mp hl
      have := List.mem_range.mp hi
      exact num_is sq (by omega) (by omega)
    have hf := fm_first sq m (Nat.le_refl _)
    rw [List.take_of_length_le (by rw [seq_len]; exact Nat.le_refl _), List.take_of_length_le (by rw [rowsB_size sq]; exact Nat.le_refl _)] at hf
    rw [el, en]
    show (fmR 1 ((seqM m).map (clsG (clsL m bar)))).bind _ = _
    rw [hf, ms]
    show fmT (cntB m bar : Int) (bookB m bar).tail = some (cntB m bar : Int)
    exact fmT_low fun r hr x hx => ((ents r (List.mem_of_mem_tail hr)).2 x hx).2
end
end K2
set_option Elab.async false
set_option linter.all false
set_option maxRecDepth 100000
set_option maxHeartbeats 2000000
namespace K2
open PySem PySem.Spec PyProof.Rows L2 Ver
theorem inV_ints (s : Int) : ∀ l : List Int, inV (.int s) (l.map V.int) = decide (s ∈ l)
  | [] => rfl
  | x :: l => by
    have ih := inV_ints s l
    have h : inV (.int s) ((x :: l).map V.int) = (eqV (.int x) (.int s) || inV (.int s) (l.map V.int)) := rfl
    rw [h, ih]
    show ((x == s) || decide (s ∈ l)) = decide (s ∈ x :: l)
    by_cases c : x = s
    · subst c
      rw [beq_self_eq_true, Bool.true_or, decide_eq_true List.mem_cons_self]
    · rw [beq_false_of_ne c, Bool.false_or]
      by_cases c2 : s ∈ l
      · rw [decide_eq_true c2, decide_eq_true (List.mem_cons_of_mem _ c2)]
      · rw [decide_eq_false c2, decide_eq_false (fun z => (List.mem_cons.mp z).elim (fun e => c e.symm) c2)]
section
variable {m : Nat} {bar : List (List Bool)}
theorem cell_home (sq : Sqr m bar) {t u : Int} (t0 : 0 ≤ t) (t1 : t < m) (u0 : 0 ≤ u) (u1 : u < m) : cellG (bookB m bar) (homeB m bar t) u = if barG bar t u = true then -1 else homeB m bar u := by
  obtain ⟨rt, ert, hrt, eh⟩ := home_row sq t0 t1
  obtain ⟨h0, h1⟩ := home_lt sq t0 t1
  obtain ⟨r, b, hr, ec, eb, e⟩ := book_cell sq (k := homeB m bar t) h0 h1 u0 u1
  have er : r = rt := clsB_inj hr hrt (by rw [ec, eh])
  rw [er] at eb
  have ebar : barG bar t u = b := by
    unfold barG
    rw [ert]
    show ((rt[u.toNat]?).getD false) = b
    rw [eb]
    rfl
  rw [e, ebar]
theorem run_home (sq : Sqr m bar) : ∀ (row : List Int) (t : Int), 0 ≤ t → t < m → (∀ u ∈ row, 0 ≤ u ∧ u < (m : Int)) → (letG bar (t :: row) = true → 0 ≤ runG (bookB m bar) (homeB m bar t) row ∧ runG (bookB m bar) (homeB m bar t) row < cntB m bar) ∧ (letG bar (t :: row) = false → runG (bookB m bar) (homeB m bar t) row = -1)
  | [], t, t0, t1, _ => ⟨fun _ => home_lt sq t0 t1, fun z => by cases z⟩
  | u :: row, t, t0, t1, h => by
    obtain ⟨u0, u1⟩ := h u List.mem_cons_self
    have ih := run_home sq row u u0 u1 fun v hv => h v (List.mem_cons_of_mem _ hv)
    have ec := cell_home sq t0 t1 u0 u1
    have hu := home_lt sq u0 u1
    have el : letG bar (t :: u :: row) = (!barG bar t u && letG bar (u :: row)) := rfl
    have er : runG (bookB m bar) (homeB m bar t) (u :: row) = if cellG (bookB m bar) (homeB m bar t) u < 0 then -1 else runG (bookB m bar) (cellG (bookB m bar) (homeB m bar t) u) row := rfl
    rw [el, er, ec]
    cases hb : barG bar t u with
    | true => exact ⟨fun z => (by cases z), fun _ => rfl⟩
    | false =>
      have e2 : (if false = true then (-1 : Int) else homeB m bar u) = homeB m bar u := if_neg Bool.false_ne_true
      rw [e2]
      have e3 : (if homeB m bar u < 0 then (-1 : Int) else runG (bookB m bar) (homeB m bar u) row) = runG (bookB m bar) (homeB m bar u) row := if_neg (by omega)
      rw [e3]
      exact ih
theorem takes_let (sq : Sqr m bar) {row : List Int} (h : ∀ u ∈ row, 0 ≤ u ∧ u < (m : Int)) : finG (bkB m bar) (runG (bookB m bar) 0 row) = letG bar row := by
  have pos := cnt_pos (m := m) (bar := bar)
  unfold finG
  rw [show (bkB m bar).fin = finsG (metB m bar).length from rfl, inV_ints, met_size sq]
  cases row with
  | nil =>
    show decide ((0 : Int) ∈ finsG (cntB m bar)) = true
    exact decide_eq_true (fins_mem.mpr (by omega))
  | cons t row =>
    obtain ⟨t0, t1⟩ := h t List.mem_cons_self
    have hr := run_home sq row t t0 t1 fun v hv => h v (List.mem_cons_of_mem _ hv)
    have hh := home_lt sq t0 t1
    have er : runG (bookB m bar) 0 (t :: row) = if cellG (bookB m bar) 0 t < 0 then -1 else runG (bookB m bar) (cellG (bookB m bar) 0 t) row := rfl
    rw [er, cell_zero sq t0 t1, if_neg (by omega)]
    cases hl : letG bar (t :: row) with
    | true => exact decide_eq_true (fins_mem.mpr (hr.1 hl))
    | false =>
      rw [hr.2 hl]
      exact decide_eq_false fun z => by have := fins_mem.mp z; omega
end
end K2
set_option Elab.async false
set_option linter.all false
set_option maxRecDepth 100000
set_option maxHeartbeats 2000000
namespace K2
open PySem PySem.Spec PyProof.Rows L2 Ver
theorem bar_set {m : Nat} {b : List (List Bool)} (sq : Sqr m b) {q : Int × Int} (hq : InM m q) {t u : Int} (t0 : 0 ≤ t) (t1 : t < m) (u0 : 0 ≤ u) (u1 : u < m) : barG (setBar b q) t u = (decide (q = (t, u)) || barG b t u) := by
  obtain ⟨x, y⟩ := q
  obtain ⟨x0, x1, y0, y1⟩ := hq
  have x0' : 0 ≤ x := x0
  have x1' : x < m := x1
  have y0' : 0 ≤ y := y0
  have y1' : y < m := y1
  have lx : x.toNat < b.length := by rw [sq.1]; omega
  have ex : b[x.toNat]? = some b[x.toNat] := List.getElem?_eq_getElem lx
  have lr := sq.2 _ (List.getElem_mem lx)
  unfold setBar barG
  show (((b.set x.toNat (((b[x.toNat]?).getD []).set y.toNat true))[t.toNat]?).getD [])[u.toNat]?.getD false = _
  rw [ex]
  show (((b.set x.toNat (b[x.toNat].set y.toNat true))[t.toNat]?).getD [])[u.toNat]?.getD false = _
  by_cases c : x = t
  · subst c
    rw [List.getElem?_set_self lx, ex]
    show ((b[x.toNat].set y.toNat true)[u.toNat]?).getD false = (decide ((x, y) = (x, u)) || ((b[x.toNat][u.toNat]?).getD false))
    by_cases c2 : y = u
    · subst c2
      rw [List.getElem?_set_self (by omega), decide_eq_true rfl]
      rfl
    · rw [List.getElem?_set_ne (by omega), decide_eq_false (fun z => c2 (Prod.mk.inj z).2), Bool.false_or]
  · rw [List.getElem?_set_ne (by omega), decide_eq_false (fun z => c (Prod.mk.inj z).1), Bool.false_or]
theorem bar_fold {m : Nat} : ∀ (qs : List (Int × Int)) (b : List (List Bool)), Sqr m b → (∀ q ∈ qs, InM m q) → ∀ {t u : Int}, 0 ≤ t → t < m → 0 ≤ u → u < m → barG (qs.foldl setBar b) t u = (decide ((t, u) ∈ qs) || barG b t u)
  | [], b, _, _, t, u, _, _, _, _ => by
    show barG b t u = _
    rw [decide_eq_false List.not_mem_nil, Bool.false_or]
  | q :: qs, b, sq, h, t, u, t0, t1, u0, u1 => by
    have hq := h q List.mem_cons_self
    show barG (qs.foldl setBar (setBar b q)) t u = _
    rw [bar_fold qs (setBar b q) (sqr_set sq hq.1 hq.2.1) (fun q' h' => h q' (List.mem_cons_of_mem _ h')) t0 t1 u0 u1, bar_set sq hq t0 t1 u0 u1]
    by_cases c : q = (t, u)
    · rw [decide_eq_true c, decide_eq_true (by rw [c]; exact List.mem_cons_self : (t, u) ∈ q :: qs), Bool.true_or]
      exact Bool.or_true _
    · rw [decide_eq_false c, Bool.false_or]
      by_cases c2 : (t, u) ∈ qs
      · rw [decide_eq_true c2, decide_eq_true (List.mem_cons_of_mem _ c2)]
      · rw [decide_eq_false c2, decide_eq_false (fun z => (List.mem_cons.mp z).elim (fun e => c e.symm) c2)]
theorem bar_of {m : Nat} {qs : List (Int × Int)} (h : ∀ q ∈ qs, InM m q) {t u : Int} (t0 : 0 ≤ t) (t1 : t < m) (u0 : 0 ≤ u) (u1 : u < m) : barG (barOf m qs) t u = decide ((t, u) ∈ qs) := by
  unfold barOf
  rw [bar_fold qs _ (sqr_rep m) h t0 t1 u0 u1]
  have : barG (List.replicate m (List.replicate m false)) t u = false := by
    unfold barG
    rw [List.getElem?_replicate, if_pos (by omega)]
    show ((List.replicate m false)[u.toNat]?).getD false = false
    rw [List.getElem?_replicate, if_pos (by omega)]
    rfl
  rw [this, Bool.or_false]
theorem sqr_of {m : Nat} {qs : List (Int × Int)} (h : ∀ q ∈ qs, InM m q) : Sqr m (barOf m qs) := sqr_fold qs _ (sqr_rep m) h
theorem bar_same {m : Nat} {qs ps : List (Int × Int)} (h : ∀ q ∈ qs, InM m q) (e : ∀ q, q ∈ ps ↔ q ∈ qs) : barOf m ps = barOf m qs := by
  have h2 : ∀ q ∈ ps, InM m q := fun q hq => h q ((e q).mp hq)
  have s1 := sqr_of h
  have s2 := sqr_of h2
  refine List.ext_getElem? fun i => ?_
  by_cases hi : i < m
  · have e1 := List.getElem?_eq_getElem (show i < (barOf m ps).length by rw [s2.1]; exact hi)
    have e2 := List.getElem?_eq_getElem (show i < (barOf m qs).length by rw [s1.1]; exact hi)
    have l1 := s2.2 _ (List.mem_of_getElem? e1)
    have l2 := s1.2 _ (List.mem_of_getElem? e2)
    rw [e1, e2]
    congr 1
    refine List.ext_getElem? fun j => ?_
    by_cases hj : j < m
    · have b1 := bar_of h2 (t := (i : Int)) (u := (j : Int)) (by omega) (by omega) (by omega) (by omega)
      have b2 := bar_of h (t := (i : Int)) (u := (j : Int)) (by omega) (by omega) (by omega) (by omega)
      unfold barG at b1 b2
      rw [Int.toNat_natCast, Int.toNat_natCast, e1] at b1
      rw [Int.toNat_natCast, Int.toNat_natCast, e2] at b2
      have c1 := List.getElem?_eq_getElem (show j < ((barOf m ps)[i]'(by rw [s2.1]; exact hi)).length by omega)
      have c2 := List.getElem?_eq_getElem (show j < ((barOf m qs)[i]'(by rw [s1.1]; exact hi)).length by omega)
      have d1 : (((barOf m ps)[i]'(by rw [s2.1]; exact hi))[j]?).getD false = decide (((i : Int), (j : Int)) ∈ ps) := b1
      have d2 : (((barOf m qs)[i]'(by rw [s1.1]; exact hi))[j]?).getD false = decide (((i : Int), (j : Int)) ∈ qs) := b2
      rw [c1] at d1
      rw [c2] at d2
      rw [c1, c2]
      congr 1
      have d1' := (show _ = decide (((i : Int), (j : Int)) ∈ ps) from d1)
      have d2' := (show _ = decide (((i : Int), (j : Int)) ∈ qs) from d2)
      rw [show decide (((i : Int), (j : Int)) ∈ ps) = decide (((i : Int), (j : Int)) ∈ qs) from decide_eq_decide.mpr (e _)] at d1'
      exact d1'.trans d2'.symm
    · rw [List.getElem?_eq_none (by omega), List.getElem?_eq_none (by omega)]
  · rw [List.getElem?_eq_none (by rw [s2.1]; omega), List.getElem?_eq_none (by rw [s1.1]; omega)]
end K2
set_option Elab.async false
set_option linter.all false
set_option maxRecDepth 100000
set_option maxHeartbeats 4000000
namespace K2
open PySem PySem.Spec PyProof.Rows L2 Ver
section
variable {P : Program} {w : World} {K : PySem.W.Frag} {mg : Str → Option Value} {base : Heap}
def pairsDt (qs : List (Int × Int)) : PyData := .tuple (qs.map fun q => .tuple [.int q.1, .int q.2])
theorem dp_pairs {H : Hp} {vs : List V} {qs : List (Int × Int)} (h : PairsAt K H vs qs) : DpAll K H vs (qs.map fun q => PyData.tuple [.int q.1, .int q.2]) := by
  induction h with
  | nil => exact .nil
  | cons h1 _ ih =>
    obtain ⟨a, rfl, h2⟩ := h1
    exact .cons (.tup (.inl (.inl h2)) (.cons (.int _) (.cons (.int _) .nil))) ih
theorem pairsD_ok {m : Nat} {qs : List (Int × Int)} (h : ∀ q ∈ qs, InM m q) : pairsD m (pairsDt qs) = true := by
  show (qs.map fun q => PyData.tuple [.int q.1, .int q.2]).all (pairD m) = true
  rw [List.all_eq_true]
  intro d hd
  obtain ⟨q, hq, rfl⟩ := List.mem_map.mp hd
  obtain ⟨a0, a1, b0, b1⟩ := h q hq
  show ((decide (0 ≤ q.1) && decide (q.1 < (m : Int))) && ((decide (0 ≤ q.2) && decide (q.2 < (m : Int))) && true) && decide (2 = 2)) = true
  rw [decide_eq_true a0, decide_eq_true a1, decide_eq_true b0, decide_eq_true b1]
  rfl
theorem short_pairs {qs : List (Int × Int)} (h : qs.length ≤ 1000) : shortAll (pairsDt qs) := ⟨by rw [List.length_map]; exact h, fun e he => by
  obtain ⟨q, hq, rfl⟩ := List.mem_map.mp he
  show 2 ≤ 1000
  decide⟩
def pk (q : Int × Int) : List L2.Key := [Sum.inl q.1, Sum.inl q.2]
theorem pk_inj {q r : Int × Int} (h : pk q = pk r) : q = r := by
  obtain ⟨a, b⟩ := q
  obtain ⟨c, d⟩ := r
  have h1 : (Sum.inl a : L2.Key) = Sum.inl c := (List.cons.inj h).1
  have h2 : (Sum.inl b : L2.Key) = Sum.inl d := (List.cons.inj (List.cons.inj h).2).1
  rw [Sum.inl.inj h1, Sum.inl.inj h2]
theorem LRows.but {H : Hp} {L : Addr} {o : HO} {vs : List V} {rs : List (List Int)} (h : LRows K H vs rs) (ne : ∀ v ∈ vs, v ≠ V.ref L) : LRows K (upd H L o) vs rs := by
  induction h with
  | nil => exact .nil
  | cons h1 _ ih =>
    obtain ⟨p, rfl, h2⟩ := h1
    refine .cons ⟨p, rfl, ?_⟩ (ih fun v hv => ne v (List.mem_cons_of_mem _ hv))
    rw [upd_ne (fun z => ne (.ref p) List.mem_cons_self (by rw [z]))]
    exact h2
def sp_pairs_book (K : PySem.W.Frag) (C CT : Addr) : Sp := fun vs H Q E => ∃ (t : Addr) (ts : List V) (m : Nat) (x : V), vs = [.ref t, x] ∧ SqT K H t ts ∧ ts.length = m ∧ m ≤ 100 ∧
  ((∃ d, Dp K H x d ∧ shortAll d ∧ pairsD m d = false ∧ Refuses C E H "pairs") ∨
   ∃ p pl qs, x = .ref p ∧ SqT K H p pl ∧ PairsAt K H pl qs ∧ (∀ q ∈ qs, InM m q) ∧ pl.length ≤ 1000 ∧
    (60 < cntB m (barOf m qs) → RefusesT CT E H "book") ∧ (cntB m (barOf m qs) ≤ 60 → ∀ p H', Same H H' → BkAt K H' p (bkB m (barOf m qs)) → Q (.ref p) H'))
theorem ok_pairs_book (T : Tx K mg) : FnOk P w K mg base (L2.CX P w) 6 T.f_pairs_book T.d_pairs_book ["tokens", "pairs"] (sp_pairs_book K T.C_NotUsable T.C_TooMuch) := by
  refine T.F_pairs_book.okX sc_pairs_book (fun vs H Q E h => ?_) (fun cdv A outer s H vs Q E hr h => ?_)
  · obtain ⟨t, ts, m, x, rfl, _⟩ := h; rfl
  · obtain ⟨t, ts, m, x, rfl, hT, lm, m1, q⟩ := h
    refine ⟨_, (pss_cons (ps_if (pt_not (pt_val (pe_call (ok__are_pairs T) hr rfl T.g__are_pairs T.F__are_pairs.kp T.b__are_pairs .nil pass0 (pa_cons (pv 1) (pa_cons (pe_callB call_len_seq (by rfl) T.n_len (by decide +kernel) (pa_cons (pv 0) pa_nil)) pa_nil))))) (pss_one (ps_raiseNus rfl T.nus hr (takes_of rfl rfl rfl rfl) (pa_cons pe_str pa_nil))) pss_nil)
    (pss_cons (ps_set (i := 2) sc_pairs_book.nd rfl (Or.inr rfl) (pe_dcT (own := [("pair", 5)]) (g := gName 5) (Nat.lt_of_succ_lt (hu_of hr)) rfl sc_pairs_book.nd (pi_tup (pv 1)) (blkOk_by (N := ["tokens", "pairs", "barred", "token", "table", "pair", "other"]) (sc := defScope s_pairs_book) (by decide +kernel)) (fun _ _ _ _ _ => (pg_name (i := 5) sc_pairs_book.nd rfl (Or.inl rfl))) (fun _ _ _ _ _ => (pv 5)) (fun _ _ _ _ _ => pe_bl)))
    (pss_cons (ps_set (i := 4) sc_pairs_book.nd rfl (Or.inl rfl) (pe_lst (pa_cons (pe_lc (own := [("token", 3)]) (g := gName 3) (tt := tYes) (by rfl) sc_pairs_book.nd (pi_range1 rfl T.n_range (pa_cons (pe_callB call_len_seq (by rfl) T.n_len (by decide +kernel) (pa_cons (pv 0) pa_nil)) pa_nil)) (blkOk_by (N := ["tokens", "pairs", "barred", "token", "table", "pair", "other"]) (sc := defScope s_pairs_book) (by decide +kernel)) (fun _ _ _ _ _ => (pg_name (i := 3) sc_pairs_book.nd rfl (Or.inl rfl))) (fun _ _ _ _ _ => pts_nil) (fun _ _ _ _ _ => (pe_op op_add (pv 3) pe_int))) pa_nil)))
    (pss_cons (ps_for (passes_of rfl) rfl (pi_range1 rfl T.n_range (pa_cons (pe_callB call_len_seq (by rfl) T.n_len (by decide +kernel) (pa_cons (pv 0) pa_nil)) pa_nil)) (pg_name (i := 3) sc_pairs_book.nd rfl (Or.inr rfl))
    (pss_one (ps_expr (pe_bm PySem.F.plainAttrs_list PySem.F.slot_list_append PySem.F.type_list_append mt_append (pv 4) (pa_cons (pe_lc (own := [("other", 6)]) (g := gName 6) (tt := tYes) (by rfl) sc_pairs_book.nd (pi_range1 rfl T.n_range (pa_cons (pe_callB call_len_seq (by rfl) T.n_len (by decide +kernel) (pa_cons (pv 0) pa_nil)) pa_nil)) (blkOk_by (N := ["tokens", "pairs", "barred", "token", "table", "pair", "other"]) (sc := defScope s_pairs_book) (by decide +kernel)) (fun _ _ _ _ _ => (pg_name (i := 6) sc_pairs_book.nd rfl (Or.inl rfl))) (fun _ _ _ _ _ => pts_nil) (fun _ _ _ _ _ => (pe_ifExp (pt_cmp (pc_din (hu_of hr) (pe_tup (pa_cons (pv 3) (pa_cons (pv 6) pa_nil))) (pv 2)) (by rfl)) (pe_un un_neg pe_int) (pe_op op_add (pv 6) pe_int)))) pa_nil)))))
    (pss_one (ps_ret (pe_call (ok_least_book T) (hr.mono (by decide)) rfl T.g_least_book T.F_least_book.kp T.b_least_book .nil (passes_call (takes_of rfl rfl rfl rfl) (fun _ _ _ _ h => h)) (pa_cons (pv 4) pa_nil)))))))), ?_⟩
    obtain ⟨dq, hdq, sdq⟩ : ∃ d, Dp K H x d ∧ shortAll d := by
      rcases q with ⟨d, h1, h2, _⟩ | ⟨p, pl, qs, rfl, hp, hq, hin, l1, _⟩
      · exact ⟨d, h1, h2⟩
      · exact ⟨pairsDt qs, .tup hp (dp_pairs hq), short_pairs (by rw [← Paired.length hq]; exact l1)⟩
    rcases q with ⟨d, h1, h2, no, ref⟩ | ⟨p, pl, qs, rfl, hp, hq, hin, l1, q1, q2⟩
    · refine ⟨x, rfl, .ref t, rfl, t, ts, rfl, .inr hT, x, d, (ts.length : Int), rfl, h1, h2, fun H1 s1 => ⟨_, rfl, ite2 (fun z => ?_) (fun z => ?_)⟩⟩
      · exact ⟨_, rfl, fun dd n => ref H1 dd s1 n⟩
      · rw [lm, no] at z
        exact absurd rfl z
    refine ⟨.ref p, rfl, .ref t, rfl, t, ts, rfl, .inr hT, .ref p, pairsDt qs, (ts.length : Int), rfl, .tup hp (dp_pairs hq), short_pairs (by rw [← Paired.length hq]; exact l1), fun H1 s1 => ⟨_, rfl, ite2 (fun z => ?_) (fun z => ?_)⟩⟩
    · rw [lm, pairsD_ok hin] at z
      cases z
    clear z
    have lq : pl.length = qs.length := Paired.length hq
    generalize ebar : barOf m qs = bar at q1 q2
    have sq : Sqr m bar := by rw [← ebar]; exact sqr_of hin
    have bars : ∀ {a b : Int}, 0 ≤ a → a < m → 0 ≤ b → b < m → barG bar a b = decide ((a, b) ∈ qs) := fun {a b} a0 a1 b0 b1 => by rw [← ebar]; exact bar_of hin a0 a1 b0 b1
    refine ⟨.ref p, rfl, p, rfl, ⟨_, seqT_grow s1 hp⟩, fun D nD => ?_⟩
    have nDH : H D = none := s1.free nD
    refine dcT_tup (K := K) (a := p) (xs := pl) (fun i H' => ∃ kvs : List (List L2.Key × V), Same H1 H' ∧ H' D = some (.dT kvs) ∧ kvs.length ≤ i ∧ ∀ r : Int × Int, (valV kvs (pk r)).isSome = decide (r ∈ qs.take i))
      ⟨[], same_new nD, upd_same, Nat.le_refl _, fun r => by rw [List.take_zero, decide_eq_false List.not_mem_nil]; rfl⟩ (fun i H' h => ?_) (fun i y H' ey h => ?_) (fun H2 h => ?_)
    · obtain ⟨_, sm, _⟩ := h
      exact seqT_grow (s1.trans sm) hp
    · obtain ⟨kvs, sm, hD, lk, kd⟩ := h
      obtain ⟨r, a, er, rfl, ha⟩ := PairsAt.getT hq ey
      have ltq : i < qs.length := (List.getElem?_eq_some_iff.mp er).1
      refine ⟨wipe_one _ 5 _, ?_⟩
      refine ⟨.ref a, rfl, kvs, pk r, a, rfl, sm _ _ (s1 _ _ ha), hD, small (by omega), putK kvs (pk r) (.bl true), same_upd2 sm nD, upd_same, Nat.le_trans (length_putK _ _ _) (by omega), fun r2 => ?_⟩
      have tk : qs.take (i + 1) = qs.take i ++ [r] := by rw [List.take_add_one, er]; rfl
      rw [valV_put, tk]
      by_cases c : pk r2 = pk r
      · rw [if_pos c, pk_inj c, decide_eq_true (List.mem_append_right _ List.mem_cons_self)]
        rfl
      · rw [if_neg c, kd]
        have c2 : r2 ≠ r := fun z => c (by rw [z])
        by_cases hm : r2 ∈ qs.take i
        · rw [decide_eq_true hm, decide_eq_true (List.mem_append_left _ hm)]
        · rw [decide_eq_false hm, decide_eq_false (fun z => (List.mem_append.mp z).elim hm fun z => c2 (List.mem_singleton.mp z))]
    obtain ⟨kvs, s2, hD, lk, kd⟩ := h
    rw [lq, List.take_length] at kd
    have s12 := s1.trans s2
    refine ⟨.ref t, rfl, t, ts, rfl, .inr (seqT_grow s12 hT), (ts.length : Int), rfl, by omega, by omega, fun R nR => ?_⟩
    refine comp_range (n := (ts.length : Int).toNat) (i := 3) (fun acc H5 => Same H2 H5 ∧ acc = ((seqM m).take acc.length).map V.int) ⟨same_new nR, rfl⟩ (fun acc H5 la h hR => ?_) (fun acc H3 la h hR => ?_)
    · obtain ⟨s5, ea⟩ := h
      refine ⟨.int (acc.length : Int), rfl, _, _, rfl, rfl, turned hR (small (by omega)) ⟨same_upd2 s5 nR, ?_⟩⟩
      have es : (seqM m)[acc.length]? = some ((acc.length : Int) + 1) := by
        unfold seqM
        rw [List.getElem?_map, List.getElem?_range (by omega)]
        rfl
      rw [List.length_append, List.length_singleton, List.take_add_one, es, List.map_append, ← ea]
      rfl
    obtain ⟨s3, ea⟩ := h
    have eacc : acc = (seqM m).map V.int := by
      rw [la, show (ts.length : Int).toNat = m by omega, List.take_of_length_le (by rw [seq_len]; exact Nat.le_refl _)] at ea
      exact ea
    subst eacc
    refine ⟨small' (by simp), fun L nL => ?_⟩
    have RL : R ≠ L := ne_of_none hR nL
    have s23 := s2.trans s3
    have s13 := s1.trans s23
    have nLH : H L = none := s13.free nL
    have DL : D ≠ L := ne_of_none (s3 _ _ hD) nL
    have len1 : (tabP m bar).length = m + 1 := by unfold tabP; rw [List.length_map, List.length_cons, sq.1]
    have row0 : (tabP m bar).take 1 = [seqM m] := by
      show [rowP m (List.replicate m false)] = _
      rw [zipWith_rep]
    refine ⟨.ref t, rfl, t, ts, rfl, .inr (seqT_grow ((s13).trans (same_new nL)) hT), (ts.length : Int), rfl, by omega, by omega, ?_⟩
    refine for_range0 (n := (ts.length : Int).toNat) (fun i σ H' => ∃ (y3 : Option V) (tv : List V), σ = [some (.ref t), some (.ref p), some (.ref D), y3, some (.ref L), none, none] ∧ Same H H' ∧ H' D = some (.dT kvs) ∧ H' L = some (.lst tv) ∧ LRows K H' tv ((tabP m bar).take (i + 1)) ∧ ∀ v ∈ tv, v ≠ V.ref L)
      ⟨none, [.ref R], rfl, s13.trans (same_new nL), by rw [upd_ne DL]; exact s3 _ _ hD, upd_same, by rw [row0]; exact .cons ⟨R, rfl, by rw [upd_ne RL]; exact hR⟩ .nil, fun v hv z => RL (by rw [List.mem_singleton.mp hv] at z; exact V.ref.inj z)⟩ (fun i σ H' lt h => ?_) (fun σ H' h => ?_)
    · obtain ⟨y3, tv, rfl, sm, hD', hL, gr, neL⟩ := h
      have ltv : tv.length = i + 1 := by rw [Paired.length gr, List.length_take, len1]; omega
      refine ⟨.ref L, rfl, .inl ⟨rfl, _, .inl (.inl hL)⟩, .ref t, rfl, t, ts, rfl, .inr (seqT_grow sm hT), (ts.length : Int), rfl, by omega, by omega, fun Z nZ => ?_⟩
      have im : i < m := by omega
      obtain ⟨br, ebr⟩ : ∃ br, bar[i]? = some br := ⟨_, List.getElem?_eq_getElem (by rw [sq.1]; exact im)⟩
      have lbr := sq.2 br (List.mem_of_getElem? ebr)
      refine comp_range (n := (ts.length : Int).toNat) (i := 6) (fun acc H5 => Same H' H5 ∧ acc = ((rowP m br).take acc.length).map V.int) ⟨same_new nZ, rfl⟩ (fun acc H5 la h hZ => ?_) (fun acc H5 la h hZ => ?_)
      · obtain ⟨s5, ea⟩ := h
        have jm : acc.length < m := by omega
        obtain ⟨b, eb⟩ : ∃ b, br[acc.length]? = some b := ⟨_, List.getElem?_eq_getElem (by omega)⟩
        have ebG : barG bar (i : Int) (acc.length : Int) = b := by
          unfold barG
          rw [Int.toNat_natCast, Int.toNat_natCast, ebr]
          show (br[acc.length]?).getD false = b
          rw [eb]; rfl
        have eq := bars (a := (i : Int)) (b := (acc.length : Int)) (by omega) (by omega) (by omega) (by omega)
        rw [ebG] at eq
        have ep := rowP_at eb jm
        refine ⟨.int (i : Int), rfl, .int (acc.length : Int), rfl, small' (by simp), fun a na => ?_⟩
        have sa : Same H5 (upd H5 a (.tup [.int (i : Int), .int (acc.length : Int)])) := same_new na
        have ha : (upd H5 a (.tup [.int (i : Int), .int (acc.length : Int)])) a = some (.tup ((pk ((i : Int), (acc.length : Int))).map kV)) := upd_same
        generalize upd H5 a (.tup [.int (i : Int), .int (acc.length : Int)]) = H6 at sa ha ⊢
        have fin : ∀ v, v = V.int (if b = true then -1 else ((acc.length : Nat) : Int) + 1) → Turned Z (fun acc H5 => Same H' H5 ∧ acc = ((rowP m br).take acc.length).map V.int) acc.length v H6 := fun v ev => by
          subst ev
          refine turned (sa _ _ hZ) (small (by omega)) ⟨same_upd2 (s5.trans sa) nZ, ?_⟩
          rw [List.length_append, List.length_singleton, List.take_add_one, ep, List.map_append, ← ea]
          rfl
        have hD6 := sa _ _ (s5 _ _ hD')
        refine ⟨.ref D, rfl, D, _, rfl, DGet.t (k := pk ((i : Int), (acc.length : Int))) hD6 ha, _, rfl, ite2 (fun z => ?_) (fun z => ?_)⟩
        · rw [kd, ← eq] at z
          subst z
          exact ⟨1, rfl, fin _ rfl⟩
        · rw [kd, ← eq] at z
          have z2 : b = false := Bool.eq_false_iff.mpr z
          subst z2
          exact ⟨.int (acc.length : Int), rfl, _, _, rfl, rfl, fin _ rfl⟩
      obtain ⟨s5, ea⟩ := h
      have eacc : acc = (rowP m br).map V.int := by
        rw [la, show (ts.length : Int).toNat = m by omega, List.take_of_length_le (by rw [rowP_len lbr]; exact Nat.le_refl _)] at ea
        exact ea
      subst eacc
      refine ⟨L, tv, .ref Z, rfl, rfl, s5 _ _ hL, small (by omega), some (.int (i : Int)), tv ++ [.ref Z], rfl, same_upd2 (sm.trans s5) nLH, by rw [upd_ne DL]; exact s5 _ _ hD', upd_same, ?_⟩
      have LZ : Z ≠ L := fun z => by rw [z, hL] at nZ; cases nZ
      refine ⟨?_, fun v hv z => ?_⟩
      rotate_left
      · rcases List.mem_append.mp hv with hv | hv
        · exact neL v hv z
        · rw [List.mem_singleton.mp hv] at z
          exact LZ (V.ref.inj z)
      have et : (tabP m bar)[i + 1]? = some (rowP m br) := by
        unfold tabP
        rw [List.getElem?_map]
        show (bar[i]?).map (rowP m) = _
        rw [ebr]; rfl
      rw [List.take_add_one, et]
      refine Paired.snoc ?_ ⟨Z, rfl, by rw [upd_ne LZ]; exact hZ⟩
      exact (gr.grow s5).but neL
    · obtain ⟨y3, tv, rfl, sm, hD', hL, gr, neL⟩ := h
      rw [show (ts.length : Int).toNat = m by omega, List.take_of_length_le (by rw [len1]; exact Nat.le_refl _)] at gr
      obtain ⟨tok, tl, t0⟩ := tabP_ok sq m1
      have e1 := cls1_tabP sq
      refine ⟨.ref L, rfl, L, tabP m bar, m, rfl, ⟨tv, hL, gr⟩, tok, tl, t0, stable_tabP sq, fun k H2 dd s2 n => ?_, fun k a H2 s2 hb => ?_⟩
      · rw [cnt1_tabP sq] at k
        exact q1 k H2 dd (sm.trans s2) n
      · rw [cnt1_tabP sq] at k
        rw [e1] at hb
        exact q2 k a H2 (sm.trans s2) hb
end
end K2
set_option Elab.async false
set_option linter.all false
set_option maxRecDepth 100000
set_option maxHeartbeats 4000000
namespace K2
open PySem PySem.Spec PyProof.Rows L2 Ver
def wdD (k z : Str) : PyData := .list [.str k, .str z]
theorem wd_at {K : PySem.W.Frag} {H : Hp} {L : Addr} {k z : Str} (h : H L = some (.lst [.str k, .str z])) : Dp K H (.ref L) (wdD k z) := .lst (.inl (.inl h)) (.cons (.str _) (.cons (.str _) .nil))
def ToldRow (n : Int) (B : Bk) (r : List Int) : V := if n = 0 ∨ n = 3 then .int (runG B.tab 0 r) else .bl (finG B (runG B.tab 0 r))
section
variable {P : Program} {w : World} {K : PySem.W.Frag} {mg : Str → Option Value} {base : Heap}
def sp__law_told (K : PySem.W.Frag) : Sp := fun vs H Q _ => ∃ (n : Int) (t : Addr) (ts : List V) (bk x : V), vs = [.int n, .ref t, bk, x] ∧ SqT K H t ts ∧ ts.length ≤ 100 ∧
  (((n = 0 ∨ n = 1 ∨ n = 3 ∨ n = 4) ∧ ∃ a B d, bk = .ref a ∧ BkAt K H a B ∧ B.Ok ts.length ∧ Dp K H x d ∧ lenD d ≤ 1000 ∧
      (rowD ts.length d = false → ∀ L H', Same H H' → H' L = some (.lst [.str "not usable", .str "row"]) → Q (.ref L) H') ∧
      (∀ r : List Int, d = .tuple (r.map PyData.int) → rowD ts.length d = true → ∀ H', Same H H' → Q (ToldRow n B r) H')) ∨
   ((n = 2 ∨ n = 5) ∧ ((∃ d, Dp K H x d ∧ shortAll d ∧ pairsD ts.length d = false ∧ ∀ L H', Same H H' → H' L = some (.lst [.str "not usable", .str "pairs"]) → Q (.ref L) H') ∨
      ∃ p pl qs, x = .ref p ∧ SqT K H p pl ∧ PairsAt K H pl qs ∧ (∀ q ∈ qs, InM ts.length q) ∧ pl.length ≤ 1000 ∧
       (60 < cntB ts.length (barOf ts.length qs) → ∀ L H', Same H H' → H' L = some (.lst [.str "too much", .str "book"]) → Q (.ref L) H') ∧
       (cntB ts.length (barOf ts.length qs) ≤ 60 → ∀ p H', Same H H' → BkAt K H' p (bkB ts.length (barOf ts.length qs)) → Q (.ref p) H'))))
theorem ok__law_told (T : Tx K mg) : FnOk P w K mg base CX0 8 T.f__law_told T.d__law_told ["which", "tokens", "book", "thing"] (sp__law_told K) := by
  refine T.F__law_told.ok sc__law_told (fun vs H Q E h => ?_) (fun cdv A outer s H vs Q E hr h => ?_)
  · obtain ⟨n, t, ts, bk, x, rfl, _⟩ := h; rfl
  · obtain ⟨n, t, ts, bk, x, rfl, hT, m1, q⟩ := h
    refine ⟨_, (pss_one (ps_tryCls (Wout := fun _ _ _ _ => False) rfl rfl sc__law_told.nd takes0
    (fun W pn xe tk _ => (pss_cons (ps_if (pt_cmpR op_eq (pv 0) pe_int (nomark _)) (pss_one (ps_ret (pe_callS (ok_runs T) (hr.mono (by decide)) rfl T.g_runs T.F_runs.kp T.b_runs (fun σ => passAt tk σ) (pa_cons (pv 1) (pa_cons (pv 2) (pa_cons (pv 3) pa_nil)))))) pss_nil)
    (pss_cons (ps_if (pt_cmpR op_eq (pv 0) pe_int (nomark _)) (pss_one (ps_ret (pe_callS (ok_takes T) hr rfl T.g_takes T.F_takes.kp T.b_takes (fun σ => passAt tk σ) (pa_cons (pv 1) (pa_cons (pv 2) (pa_cons (pv 3) pa_nil)))))) pss_nil)
    (pss_cons (ps_if (pt_cmpR op_eq (pv 0) pe_int (nomark _)) (pss_one (ps_ret (pe_callS (ok_pairs_book T) (hr.mono (by decide)) rfl T.g_pairs_book T.F_pairs_book.kp T.b_pairs_book (fun σ => passAt tk σ) (pa_cons (pv 1) (pa_cons (pv 3) pa_nil))))) pss_nil)
    (pss_cons (ps_if (pt_cmpR op_eq (pv 0) pe_int (nomark _)) (pss_one (ps_ret (pe_callKw (ok_runs T) (hr.mono (by decide)) rfl T.g_runs T.F_runs.kp T.k_runs (fun σ => passAt tk σ) (pk_cons (pv 3) (pk_cons (pv 2) (pk_cons (pv 1) pk_nil)))))) pss_nil)
    (pss_cons (ps_if (pt_cmpR op_eq (pv 0) pe_int (nomark _)) (pss_one (ps_ret (pe_callKw (ok_takes T) hr rfl T.g_takes T.F_takes.kp T.k_takes (fun σ => passAt tk σ) (pk_cons (pv 3) (pk_cons (pv 2) (pk_cons (pv 1) pk_nil)))))) pss_nil)
    (pss_one (ps_ret (pe_callKw (ok_pairs_book T) (hr.mono (by decide)) rfl T.g_pairs_book T.F_pairs_book.kp T.k_pairs_book (fun σ => passAt tk σ) (pk_cons (pv 3) (pk_cons (pv 1) pk_nil)))))))))))
    (.cons (i := 4) (c := .ref T.C_NotUsable) rfl rfl ⟨rfl, by decide, Or.inl T.nus.gC⟩ (fun a oe cls d pn hz hf => (pss_one (ps_ret (pe_lst (pa_cons pe_str (pa_cons (pe_byNus T.nus hz hf (pv 4)) pa_nil)))))) (.cons (i := 4) (c := .ref T.C_TooMuch) rfl rfl ⟨rfl, by decide, Or.inl T.tmu.gC⟩ (fun a oe cls d pn hz hf => (pss_one (ps_ret (pe_lst (pa_cons pe_str (pa_cons (pe_byTmu T.tmu hz hf (pv 4)) pa_nil)))))) .nil)))), ?_⟩
    rcases q with ⟨hn, a, B, d, rfl, hB, hok, hd, hz, q1, q2⟩ | ⟨hn, q⟩
    · rcases hn with rfl | rfl | rfl | rfl
      · refine ⟨.int 0, rfl, rfl, _, rfl, ite2 (fun _ => ⟨.ref t, rfl, .ref a, rfl, x, rfl, t, ts, a, B, x, d, rfl, hT, hB, hok, hd, hz, fun k H' dd sm n => ⟨true, T.nus.te, fun _ u hu => ⟨.ref u, rfl, rfl, rfl, dd, _, rfl, upd_same, small' (by simp), fun L nL => q1 k L _ ((sm.trans (same_new n)).trans (same_new nL)) upd_same⟩, fun z => Bool.noConfusion z⟩, fun r er k H' sm => q2 r er k H' sm⟩) (fun z => absurd (by decide) z)⟩
      · refine ⟨.int 1, rfl, rfl, _, rfl, ite2 (fun z => absurd z (by decide)) (fun _ => ?_)⟩
        refine ⟨.int 1, rfl, rfl, _, rfl, ite2 (fun _ => ⟨.ref t, rfl, .ref a, rfl, x, rfl, t, ts, a, B, x, d, rfl, hT, hB, hok, hd, hz, fun k H' dd sm n => ⟨true, T.nus.te, fun _ u hu => ⟨.ref u, rfl, rfl, rfl, dd, _, rfl, upd_same, small' (by simp), fun L nL => q1 k L _ ((sm.trans (same_new n)).trans (same_new nL)) upd_same⟩, fun z => Bool.noConfusion z⟩, fun r er k H' sm => q2 r er k H' sm⟩) (fun z => absurd (by decide) z)⟩
      · refine ⟨.int 3, rfl, rfl, _, rfl, ite2 (fun z => absurd z (by decide)) (fun _ => ?_)⟩
        refine ⟨.int 3, rfl, rfl, _, rfl, ite2 (fun z => absurd z (by decide)) (fun _ => ?_)⟩
        refine ⟨.int 3, rfl, rfl, _, rfl, ite2 (fun z => absurd z (by decide)) (fun _ => ?_)⟩
        refine ⟨.int 3, rfl, rfl, _, rfl, ite2 (fun _ => ⟨x, rfl, .ref a, rfl, .ref t, rfl, rfl, t, ts, a, B, x, d, rfl, hT, hB, hok, hd, hz, fun k H' dd sm n => ⟨true, T.nus.te, fun _ u hu => ⟨.ref u, rfl, rfl, rfl, dd, _, rfl, upd_same, small' (by simp), fun L nL => q1 k L _ ((sm.trans (same_new n)).trans (same_new nL)) upd_same⟩, fun z => Bool.noConfusion z⟩, fun r er k H' sm => q2 r er k H' sm⟩) (fun z => absurd (by decide) z)⟩
      · refine ⟨.int 4, rfl, rfl, _, rfl, ite2 (fun z => absurd z (by decide)) (fun _ => ?_)⟩
        refine ⟨.int 4, rfl, rfl, _, rfl, ite2 (fun z => absurd z (by decide)) (fun _ => ?_)⟩
        refine ⟨.int 4, rfl, rfl, _, rfl, ite2 (fun z => absurd z (by decide)) (fun _ => ?_)⟩
        refine ⟨.int 4, rfl, rfl, _, rfl, ite2 (fun z => absurd z (by decide)) (fun _ => ?_)⟩
        refine ⟨.int 4, rfl, rfl, _, rfl, ite2 (fun _ => ⟨x, rfl, .ref a, rfl, .ref t, rfl, rfl, t, ts, a, B, x, d, rfl, hT, hB, hok, hd, hz, fun k H' dd sm n => ⟨true, T.nus.te, fun _ u hu => ⟨.ref u, rfl, rfl, rfl, dd, _, rfl, upd_same, small' (by simp), fun L nL => q1 k L _ ((sm.trans (same_new n)).trans (same_new nL)) upd_same⟩, fun z => Bool.noConfusion z⟩, fun r er k H' sm => q2 r er k H' sm⟩) (fun z => absurd (by decide) z)⟩
    · rcases hn with rfl | rfl
      · refine ⟨.int 2, rfl, rfl, _, rfl, ite2 (fun z => absurd z (by decide)) (fun _ => ?_)⟩
        refine ⟨.int 2, rfl, rfl, _, rfl, ite2 (fun z => absurd z (by decide)) (fun _ => ?_)⟩
        refine ⟨.int 2, rfl, rfl, _, rfl, ite2 (fun _ => ⟨.ref t, rfl, x, rfl, t, ts, ts.length, x, rfl, hT, rfl, m1, ?_⟩) (fun z => absurd (by decide) z)⟩
        rcases q with ⟨d, h1, h2, h3, q1⟩ | ⟨p, pl, qs, rfl, hp, hq, hin, l1, q1, q2⟩
        · exact .inl ⟨d, h1, h2, h3, fun H' dd sm n => ⟨true, T.nus.te, fun _ u hu => ⟨.ref u, rfl, rfl, rfl, dd, _, rfl, upd_same, small' (by simp), fun L nL => q1 L _ ((sm.trans (same_new n)).trans (same_new nL)) upd_same⟩, fun z => Bool.noConfusion z⟩⟩
        · exact .inr ⟨p, pl, qs, rfl, hp, hq, hin, l1, fun k H' dd sm n => ⟨false, T.xTN, fun z => Bool.noConfusion z, fun _ => ⟨true, T.tmu.te, fun _ u hu => ⟨.ref u, rfl, rfl, rfl, dd, _, rfl, upd_same, small' (by simp), fun L nL => q1 k L _ ((sm.trans (same_new n)).trans (same_new nL)) upd_same⟩, fun z => Bool.noConfusion z⟩⟩, fun k p' H' sm hb => q2 k p' H' sm hb⟩
      · refine ⟨.int 5, rfl, rfl, _, rfl, ite2 (fun z => absurd z (by decide)) (fun _ => ?_)⟩
        refine ⟨.int 5, rfl, rfl, _, rfl, ite2 (fun z => absurd z (by decide)) (fun _ => ?_)⟩
        refine ⟨.int 5, rfl, rfl, _, rfl, ite2 (fun z => absurd z (by decide)) (fun _ => ?_)⟩
        refine ⟨.int 5, rfl, rfl, _, rfl, ite2 (fun z => absurd z (by decide)) (fun _ => ?_)⟩
        refine ⟨.int 5, rfl, rfl, _, rfl, ite2 (fun z => absurd z (by decide)) (fun _ => ?_)⟩
        refine ⟨x, rfl, .ref t, rfl, rfl, t, ts, ts.length, x, rfl, hT, rfl, m1, ?_⟩
        rcases q with ⟨d, h1, h2, h3, q1⟩ | ⟨p, pl, qs, rfl, hp, hq, hin, l1, q1, q2⟩
        · exact .inl ⟨d, h1, h2, h3, fun H' dd sm n => ⟨true, T.nus.te, fun _ u hu => ⟨.ref u, rfl, rfl, rfl, dd, _, rfl, upd_same, small' (by simp), fun L nL => q1 L _ ((sm.trans (same_new n)).trans (same_new nL)) upd_same⟩, fun z => Bool.noConfusion z⟩⟩
        · exact .inr ⟨p, pl, qs, rfl, hp, hq, hin, l1, fun k H' dd sm n => ⟨false, T.xTN, fun z => Bool.noConfusion z, fun _ => ⟨true, T.tmu.te, fun _ u hu => ⟨.ref u, rfl, rfl, rfl, dd, _, rfl, upd_same, small' (by simp), fun L nL => q1 k L _ ((sm.trans (same_new n)).trans (same_new nL)) upd_same⟩, fun z => Bool.noConfusion z⟩⟩, fun k p' H' sm hb => q2 k p' H' sm hb⟩
end
end K2
set_option Elab.async false
set_option linter.all false
set_option maxRecDepth 100000
set_option maxHeartbeats 4000000
namespace K2
open PySem PySem.Spec PyProof.Rows L2 Ver
theorem passAny0 {X : Cx} {σ : L2.St} : PassesAt CX0 X σ L2.E0 := fun _ _ _ _ _ _ h => h.elim
theorem Rows.drawn {K : PySem.W.Frag} {H H' : Hp} {p : Addr} (hp : Pool H p) (d : Drawn p H H') {vs : List V} {rs : List (List Int)} (h : Rows K H vs rs) : Rows K H' vs rs := by
  induction h with
  | nil => exact .nil
  | cons h1 _ ih =>
    obtain ⟨a, h1, h2⟩ := h1
    exact .cons ⟨a, h1, tup_drawn hp d h2⟩ ih
theorem BkAt.drawn {K : PySem.W.Frag} {H H' : Hp} {p a : Addr} {B : Bk} (hp : Pool H p) (d : Drawn p H H') (h : BkAt K H a B) : BkAt K H' a B := by
  obtain ⟨f, t, tv, s1, s2, s3, g⟩ := h
  exact ⟨f, t, tv, seqT_drawn hp d s1, seqT_drawn hp d s2, seqT_drawn hp d s3, g.drawn hp d⟩
theorem row_all {m : Nat} {r : List Int} (h2 : r.length ≤ 60) (h : ∀ x ∈ r, 0 ≤ x ∧ x < (m : Int)) : rowD m (.tuple (r.map PyData.int)) = true := by
  show ((r.map PyData.int).all (belowD m) && decide ((r.map PyData.int).length ≤ 60)) = true
  rw [List.length_map, decide_eq_true h2, Bool.and_true, List.all_eq_true]
  intro e he
  obtain ⟨i, hi, rfl⟩ := List.mem_map.mp he
  show (decide (0 ≤ i) && decide (i < (m : Int))) = true
  rw [decide_eq_true (h i hi).1, decide_eq_true (h i hi).2]
  rfl
theorem data_inj : ∀ {a b : List Int}, a.map PyData.int = b.map PyData.int → a = b
  | [], [], _ => rfl
  | [], _ :: _, h => by cases h
  | _ :: _, [], h => by cases h
  | x :: a, y :: b, h => by
    have h1 : PyData.int x = PyData.int y := (List.cons.inj h).1
    have h2 := (List.cons.inj h).2
    injection h1 with h3
    rw [h3, data_inj h2]
theorem row_inj {a b : List Int} (h : PyData.tuple (a.map PyData.int) = .tuple (b.map PyData.int)) : a = b := by
  injection h with h
  exact data_inj h
abbrev freeB (m : Nat) : Bk := ⟨1, [0], [List.replicate m 0]⟩
theorem free_ok (m : Nat) : (freeB m).Ok m := ⟨Nat.le_refl _, fun r hr => by
  rw [List.mem_singleton.mp hr]
  refine ⟨List.length_replicate, fun x hx => ?_⟩
  rw [List.eq_of_mem_replicate hx]
  show (-1 : Int) ≤ 0 ∧ (0 : Int) < ((1 : Nat) : Int)
  omega⟩
theorem free_run {m : Nat} : ∀ {r : List Int}, (∀ x ∈ r, 0 ≤ x ∧ x < (m : Int)) → runG (freeB m).tab 0 r = 0
  | [], _ => rfl
  | t :: r, h => by
    obtain ⟨t0, t1⟩ := h t List.mem_cons_self
    have e : cellG (freeB m).tab 0 t = 0 := by
      show ((List.replicate m (0 : Int))[t.toNat]?).getD 0 = 0
      rw [List.getElem?_replicate, if_pos (by omega)]
      rfl
    show (if cellG (freeB m).tab 0 t < 0 then (-1 : Int) else runG (freeB m).tab (cellG (freeB m).tab 0 t) r) = 0
    rw [e, if_neg (by decide)]
    exact free_run fun x hx => h x (List.mem_cons_of_mem _ hx)
section
variable {P : Program} {w : World} {K : PySem.W.Frag} {mg : Str → Option Value} {base : Heap}
def RowsOk (m : Nat) (rs : List (List Int)) : Prop := ∀ r ∈ rs, r.length ≤ 60 ∧ ∀ x ∈ r, 0 ≤ x ∧ x < (m : Int)
def sp__law_books_right (K : PySem.W.Frag) : Sp := fun vs H Q _ => ∃ (p t : Addr) (ts : List V) (rl : Addr) (us : List V) (rs : List (List Int)), vs = [.ref p, .ref t, .ref rl] ∧ Pool H p ∧ SqT K H t ts ∧ 1 ≤ ts.length ∧ ts.length ≤ 10 ∧
  H rl = some (.lst us) ∧ rl ≠ p ∧ Rows K H us rs ∧ us ≠ [] ∧ us.length ≤ 100000 ∧ RowsOk ts.length rs ∧ ∀ H', Drawn p H H' → Q (.bl true) H'
theorem ok__law_books_right (T : Tx K mg) : FnOk P w K mg base CX0 9 T.f__law_books_right T.d__law_books_right ["pool", "tokens", "rows"] (sp__law_books_right K) := by
  refine T.F__law_books_right.ok sc__law_books_right (fun vs H Q E h => ?_) (fun cdv A outer s H vs Q E hr h => ?_)
  · obtain ⟨p, t, ts, rl, us, rs, rfl, _⟩ := h; rfl
  · obtain ⟨p, t, ts, rl, us, rs, rfl, hP, hT, m0, m1, hL, rlp, hR, ne, lu, ok, q⟩ := h
    refine ⟨_, (pss_cons (ps_set (i := 3) sc__law_books_right.nd rfl (Or.inl rfl) (pe_callB call_len_seq (by rfl) T.n_len (by decide +kernel) (pa_cons (pv 1) pa_nil)))
    (pss_cons (ps_set (i := 4) sc__law_books_right.nd rfl (Or.inl rfl) (pe_callKw (ok_free_book T) (hr.mono (by decide)) rfl T.g_free_book T.F_free_book.kp T.k_free_book (fun _ => passAny0) (pk_cons (pv 1) pk_nil)))
    (pss_cons (ps_if (pt_not (pt_val (pe_call (ok__law_same T 5) (hr.mono (by decide)) rfl T.g__law_same T.F__law_same.kp T.b__law_same .nil pass0 (pa_cons (pv 4) (pa_cons (pe_tup (pa_cons pe_int (pa_cons (pe_tup (pa_cons pe_int pa_nil)) (pa_cons (pe_tup (pa_cons (pe_callTy call_tuple_of (by rfl) T.n_tuple (by decide +kernel) (pa_cons (pe_lc (own := [("t", 9)]) (g := gName 9) (tt := tYes) (by rfl) sc__law_books_right.nd (pi_range1 rfl T.n_range (pa_cons (pv 3) pa_nil)) (blkOk_by (N := ["pool", "tokens", "rows", "m", "free", "book", "row", "named", "state", "t"]) (sc := defScope s__law_books_right) (by decide +kernel)) (fun _ _ _ _ _ => (pg_name (i := 9) sc__law_books_right.nd rfl (Or.inl rfl))) (fun _ _ _ _ _ => pts_nil) (fun _ _ _ _ _ => pe_int)) pa_nil)) pa_nil)) pa_nil)))) pa_nil))))) (pss_one (ps_ret pe_bl)) pss_nil)
    (pss_cons (ps_set (i := 5) sc__law_books_right.nd rfl (Or.inl rfl) (pe_call (ok__law_drawn_book T) (hr.mono (by decide)) rfl T.g__law_drawn_book T.F__law_drawn_book.kp T.b__law_drawn_book .nil pass0 (pa_cons (pv 0) (pa_cons (pv 3) pa_nil))))
    (pss_cons (ps_for PassesOwn.never rfl (pi_list (pv 2)) (pg_name (i := 6) sc__law_books_right.nd rfl (Or.inl rfl))
    (pss_cons (ps_set (i := 7) sc__law_books_right.nd rfl (Or.inl rfl) (pe_ifExp (pt_cmpR op_eq (pe_callB call_len_seq (by rfl) T.n_len (by decide +kernel) (pa_cons (pv 6) pa_nil)) pe_int (nomark _)) pe_int pe_int))
    (pss_cons (ps_set (i := 8) sc__law_books_right.nd rfl (Or.inl rfl) (pe_call (ok__law_run T) (hr.mono (by decide)) rfl T.g__law_run T.F__law_run.kp T.b__law_run .nil pass0 (pa_cons (pe_ix ix_tup (pv 5) pe_int (fun _ _ => rfl)) (pa_cons (pv 6) pa_nil))))
    (pss_cons (ps_if (pt_not (pt_val (pe_call (ok__law_same T 5) (hr.mono (by decide)) rfl T.g__law_same T.F__law_same.kp T.b__law_same .nil pass0 (pa_cons (pe_call (ok__law_told T) hr rfl T.g__law_told T.F__law_told.kp T.b__law_told .nil pass0 (pa_cons (pv 7) (pa_cons (pv 1) (pa_cons (pv 5) (pa_cons (pv 6) pa_nil))))) (pa_cons (pv 8) pa_nil))))) (pss_one (ps_ret pe_bl)) pss_nil)
    (pss_one (ps_if (pt_not (pt_val (pe_call (ok__law_same T 5) (hr.mono (by decide)) rfl T.g__law_same T.F__law_same.kp T.b__law_same .nil pass0 (pa_cons (pe_call (ok__law_told T) hr rfl T.g__law_told T.F__law_told.kp T.b__law_told .nil pass0 (pa_cons (pe_op op_add pe_int (pv 7)) (pa_cons (pv 1) (pa_cons (pv 5) (pa_cons (pv 6) pa_nil))))) (pa_cons (pe_cmpR op_in_seq (pv 8) (pe_ix ix_tup (pv 5) pe_int (fun _ _ => rfl)) (by rfl)) pa_nil))))) (pss_one (ps_ret pe_bl)) pss_nil))))))
    (pss_one (ps_ret (pe_call (ok__law_same T 5) (hr.mono (by decide)) rfl T.g__law_same T.F__law_same.kp T.b__law_same .nil pass0 (pa_cons (pe_call (ok__law_told T) hr rfl T.g__law_told T.F__law_told.kp T.b__law_told .nil pass0 (pa_cons pe_int (pa_cons (pv 1) (pa_cons (pv 4) (pa_cons (pe_ix ix_list (pv 2) (pe_un un_neg pe_int) (fun _ _ => rfl)) pa_nil))))) (pa_cons pe_bl pa_nil)))))))))), ?_⟩
    refine ⟨.ref t, rfl, t, ts, rfl, .inr hT, .ref t, rfl, rfl, t, ts, rfl, hT, m0, by omega, fun a H1 s1 hB hd => ?_⟩
    refine ⟨.ref a, rfl, small' (by simp), fun p1 np1 => ?_⟩
    have s2 := same_new (o := .tup [.int 0]) np1
    have h1 : (upd H1 p1 (.tup [.int 0])) p1 = some (.tup [.int 0]) := upd_same
    generalize upd H1 p1 (.tup [.int 0]) = H2 at s2 h1 ⊢
    refine ⟨.int ts.length, rfl, (ts.length : Int), rfl, by omega, by omega, fun D nD => ?_⟩
    refine comp_range (n := (ts.length : Int).toNat) (i := 9) (fun acc H5 => Same H2 H5 ∧ acc = List.replicate acc.length (V.int 0)) ⟨same_new nD, rfl⟩ (fun acc H5 la h hD => ?_) (fun acc H3 la h hD => ?_)
    · obtain ⟨s5, ea⟩ := h
      exact turned hD (small (by omega)) ⟨same_upd2 s5 nD, by rw [List.length_append, List.length_singleton, List.replicate_succ', ← ea]⟩
    obtain ⟨s3, ea⟩ := h
    rw [la, show (ts.length : Int).toNat = ts.length by omega] at ea
    subst ea
    refine ⟨D, _, rfl, .inl ⟨.inl (.inl hD), fun p2 np2 => ?_⟩⟩
    have s4 := same_new (o := .tup (List.replicate ts.length (V.int 0))) np2
    have h2 : (upd H3 p2 (.tup (List.replicate ts.length (V.int 0)))) p2 = some (.tup (List.replicate ts.length (V.int 0))) := upd_same
    generalize upd H3 p2 (.tup (List.replicate ts.length (V.int 0))) = H4 at s4 h2 ⊢
    refine ⟨small' (by simp), fun p3 np3 => ?_⟩
    have s5 := same_new (o := .tup [.ref p2]) np3
    have h3 : (upd H4 p3 (.tup [.ref p2])) p3 = some (.tup [.ref p2]) := upd_same
    generalize upd H4 p3 (.tup [.ref p2]) = H5 at s5 h3 ⊢
    refine ⟨small' (by simp), fun p4 np4 => ?_⟩
    have s6 := same_new (o := .tup [.int 1, .ref p1, .ref p3]) np4
    have h4 : (upd H5 p4 (.tup [.int 1, .ref p1, .ref p3])) p4 = some (.tup [.int 1, .ref p1, .ref p3]) := upd_same
    generalize upd H5 p4 (.tup [.int 1, .ref p1, .ref p3]) = H6 at s6 h4 ⊢
    have s16 : Same H1 H6 := (((s2.trans s3).trans s4).trans s5).trans s6
    have s56 : Same H4 H6 := s5.trans s6
    have s26 : Same H2 H6 := ((s3.trans s4).trans s5).trans s6
    have d6 : Drawn p H H6 := (Drawn.refl hP).same (s1.trans s16)
    refine ⟨.ref a, .ref p4, _, rfl, dp_grow s16 hd, .tup (.inl (.inl h4)) (.cons (.int 1) (.cons (.tup (.inl (.inl (s26 _ _ h1))) (.cons (.int 0) .nil)) (.cons (.tup (.inl (.inl (s6 _ _ h3))) (.cons (.tup (.inl (.inl (s56 _ _ h2))) (dp_rep _ 0)) .nil)) .nil))), ?_, fun H7 s7 => ⟨_, rfl, ?_⟩⟩
    · refine ⟨by show 3 ≤ 100000; decide, fun e he => ?_⟩
      simp only [List.mem_cons, List.not_mem_nil, or_false] at he
      rcases he with rfl | rfl | rfl
      · trivial
      · exact ⟨by show 1 ≤ 100000; decide, fun e he => by rw [List.mem_singleton.mp he]; trivial⟩
      · refine ⟨by show 1 ≤ 100000; decide, fun e he => ?_⟩
        rw [List.mem_singleton.mp he]
        refine ⟨by rw [List.length_replicate]; omega, fun e he => ?_⟩
        rw [List.eq_of_mem_replicate he]
        trivial
    have hB7 := hB.grow (s16.trans s7)
    have d7 := d6.same s7
    refine ⟨.ref p, rfl, .int ts.length, rfl, p, ts.length, rfl, d7.2, m0, by omega, fun b B H8 d8 hB8 hok8 => ?_⟩
    have d08 := d7.trans d8
    have hF8 := BkAt.drawn d7.2 d8 hB7
    have tb := hB8
    have hL8 := d08.1 _ _ rlp hL
    refine ⟨.ref rl, rfl, rl, rfl, ⟨_, .inl (.inl hL8)⟩, ?_⟩
    refine for_list (K := K) (a := rl) (xs := us) (fun i σ H' => ∃ y6 y7 y8, σ = [some (.ref p), some (.ref t), some (.ref rl), some (.int ts.length), some (.ref a), some (.ref b), y6, y7, y8, none] ∧ Same H8 H')
      ⟨none, none, none, rfl, Same.refl H8⟩ (fun i σ H' _ h => ?_) (fun i x σ H' ex h => ?_) (fun σ H9 h => ?_)
    · obtain ⟨_, _, _, _, k⟩ := h
      exact .inl (.inl (k _ _ hL8))
    · obtain ⟨y6, y7, y8, rfl, k⟩ := h
      have lti : i < us.length := (List.getElem?_eq_some_iff.mp ex).1
      obtain ⟨r, er⟩ : ∃ r, rs[i]? = some r := ⟨_, List.getElem?_eq_getElem (by rw [← Paired.length hR]; exact lti)⟩
      obtain ⟨pr, epr, hpr⟩ := (hR.drawn hP d08).getT er
      have ex2 : x = .ref pr := Option.some.inj (ex.symm.trans epr)
      subst ex2
      obtain ⟨l6, br⟩ := ok r (List.mem_of_getElem? er)
      have hpr' := k _ _ hpr
      have hB' := hB8.grow k
      obtain ⟨f, tbl, tv, g1, g2, g3, g4⟩ := hB'
      have hB' := hB8.grow k
      have hT' : SqT K H' t ts := seqT_grow k (seqT_drawn hP d08 hT)
      refine ⟨.ref pr, rfl, pr, _, rfl, .inr (.inl (.inl hpr')), rfl, _, rfl, ite2 (fun z => ?_) (fun z => ?_)⟩
      · skip
        refine ⟨.ref b, rfl, b, _, 2, .ref tbl, rfl, rfl, g1, rfl, .ref pr, rfl, tbl, tv, B, ts.length, pr, r, rfl, g3, g4, hok8, .inl (.inl hpr'), br, ?_⟩
        refine ⟨.int 3, rfl, .ref t, rfl, .ref b, rfl, .ref pr, rfl, 3, t, ts, .ref b, .ref pr, rfl, hT', by omega, .inl ⟨.inr (.inr (.inl rfl)), b, B, .tuple (r.map PyData.int), rfl, hB', hok8, .tup (.inl (.inl hpr')) (dpAll_ints r), by show (r.map PyData.int).length ≤ 1000; rw [List.length_map]; omega, (fun z => absurd (z.symm.trans (row_all l6 br)) (by decide)), fun r2 e2 _ Ha sa => ?_⟩⟩
        have e3 := row_inj e2
        subst e3
        clear e2
        refine ⟨.int (runG B.tab 0 r), rfl, _, _, .int (runG B.tab 0 r), rfl, by rw [show ToldRow 3 B r = .int (runG B.tab 0 r) from if_pos (by decide)]; exact .int _, .int _, trivial, fun Hb sb => ⟨_, rfl, ?_⟩⟩
        have k2 := sa.trans sb
        refine ⟨.int 3, rfl, _, _, rfl, rfl, .ref t, rfl, .ref b, rfl, .ref pr, rfl, (1 + 3 : Int), t, ts, .ref b, .ref pr, rfl, seqT_grow k2 hT', by omega, .inl ⟨.inr (.inr (.inr rfl)), b, B, .tuple (r.map PyData.int), rfl, hB'.grow k2, hok8, .tup (.inl (.inl (k2 _ _ hpr'))) (dpAll_ints r), by show (r.map PyData.int).length ≤ 1000; rw [List.length_map]; omega, (fun z => absurd (z.symm.trans (row_all l6 br)) (by decide)), fun r2 e2 _ Hc sc => ?_⟩⟩
        have e3 := row_inj e2
        subst e3
        clear e2
        have k3 := k2.trans sc
        refine ⟨.int (runG B.tab 0 r), rfl, .ref b, rfl, b, _, 1, .ref f, rfl, rfl, seqT_grow k3 g1, rfl, f, _, rfl, .inr (seqT_grow k3 g2), rfl, flat_ints _, _, _, .bool (finG B (runG B.tab 0 r)), rfl, by rw [show ToldRow (1 + 3) B r = .bl (finG B (runG B.tab 0 r)) from if_neg (by decide)]; exact .bl _, .bl _, trivial, fun Hd sd => ⟨_, rfl, ?_⟩⟩
        exact ⟨_, _, _, rfl, k.trans (k3.trans sd)⟩
      · skip
        refine ⟨.ref b, rfl, b, _, 2, .ref tbl, rfl, rfl, g1, rfl, .ref pr, rfl, tbl, tv, B, ts.length, pr, r, rfl, g3, g4, hok8, .inl (.inl hpr'), br, ?_⟩
        refine ⟨.int 0, rfl, .ref t, rfl, .ref b, rfl, .ref pr, rfl, 0, t, ts, .ref b, .ref pr, rfl, hT', by omega, .inl ⟨.inl rfl, b, B, .tuple (r.map PyData.int), rfl, hB', hok8, .tup (.inl (.inl hpr')) (dpAll_ints r), by show (r.map PyData.int).length ≤ 1000; rw [List.length_map]; omega, (fun z => absurd (z.symm.trans (row_all l6 br)) (by decide)), fun r2 e2 _ Ha sa => ?_⟩⟩
        have e3 := row_inj e2
        subst e3
        clear e2
        refine ⟨.int (runG B.tab 0 r), rfl, _, _, .int (runG B.tab 0 r), rfl, by rw [show ToldRow 0 B r = .int (runG B.tab 0 r) from if_pos (by decide)]; exact .int _, .int _, trivial, fun Hb sb => ⟨_, rfl, ?_⟩⟩
        have k2 := sa.trans sb
        refine ⟨.int 0, rfl, _, _, rfl, rfl, .ref t, rfl, .ref b, rfl, .ref pr, rfl, (1 + 0 : Int), t, ts, .ref b, .ref pr, rfl, seqT_grow k2 hT', by omega, .inl ⟨.inr (.inl rfl), b, B, .tuple (r.map PyData.int), rfl, hB'.grow k2, hok8, .tup (.inl (.inl (k2 _ _ hpr'))) (dpAll_ints r), by show (r.map PyData.int).length ≤ 1000; rw [List.length_map]; omega, (fun z => absurd (z.symm.trans (row_all l6 br)) (by decide)), fun r2 e2 _ Hc sc => ?_⟩⟩
        have e3 := row_inj e2
        subst e3
        clear e2
        have k3 := k2.trans sc
        refine ⟨.int (runG B.tab 0 r), rfl, .ref b, rfl, b, _, 1, .ref f, rfl, rfl, seqT_grow k3 g1, rfl, f, _, rfl, .inr (seqT_grow k3 g2), rfl, flat_ints _, _, _, .bool (finG B (runG B.tab 0 r)), rfl, by rw [show ToldRow (1 + 0) B r = .bl (finG B (runG B.tab 0 r)) from if_neg (by decide)]; exact .bl _, .bl _, trivial, fun Hd sd => ⟨_, rfl, ?_⟩⟩
        exact ⟨_, _, _, rfl, k.trans (k3.trans sd)⟩
    · obtain ⟨y6, y7, y8, rfl, k⟩ := h
      obtain ⟨ini, la, eu⟩ : ∃ ini la, us = ini ++ [la] := ⟨_, _, (List.dropLast_concat_getLast ne).symm⟩
      have el : us[ini.length]? = some la := by rw [eu, List.getElem?_append_right (Nat.le_refl _), Nat.sub_self]; rfl
      have lti : ini.length < us.length := (List.getElem?_eq_some_iff.mp el).1
      obtain ⟨r, er⟩ : ∃ r, rs[ini.length]? = some r := ⟨_, List.getElem?_eq_getElem (by rw [← Paired.length hR]; exact lti)⟩
      obtain ⟨pr, epr, hpr⟩ := (hR.drawn hP d08).getT er
      have ex2 : la = .ref pr := Option.some.inj (el.symm.trans epr)
      subst ex2
      obtain ⟨l6, br⟩ := ok r (List.mem_of_getElem? er)
      have hpr' := k _ _ hpr
      have hT' : SqT K H9 t ts := seqT_grow k (seqT_drawn hP d08 hT)
      refine ⟨.ref t, rfl, .ref a, rfl, .ref rl, rfl, 1, rfl, rl, us, -1, .ref pr, rfl, rfl, .inl (.inl (k _ _ hL8)), by rw [eu]; exact atI_last _ _, 1, t, ts, .ref a, .ref pr, rfl, hT', by omega, .inl ⟨.inr (.inl rfl), a, freeB ts.length, .tuple (r.map PyData.int), rfl, hF8.grow k, free_ok _, .tup (.inl (.inl hpr')) (dpAll_ints r), by show (r.map PyData.int).length ≤ 1000; rw [List.length_map]; omega, (fun z => absurd (z.symm.trans (row_all l6 br)) (by decide)), fun r2 e2 _ Ha sa => ?_⟩⟩
      have e3 := row_inj e2
      subst e3
      clear e2
      refine ⟨_, _, .bool true, rfl, ?_, .bl true, trivial, fun Hb sb => q Hb (d08.same ((k.trans sa).trans sb))⟩
      rw [show ToldRow 1 (freeB ts.length) r = .bl (finG (freeB ts.length) (runG (freeB ts.length).tab 0 r)) from if_neg (by decide), free_run br]
      exact .bl true
end
end K2
set_option Elab.async false
set_option linter.all false
set_option maxRecDepth 100000
set_option maxHeartbeats 4000000
namespace K2
open PySem PySem.Spec PyProof.Rows L2 Ver
def offP (p : Addr) (H : Hp) : Hp := fun b => if b = p then none else H b
theorem offP_at {p A : Addr} {H : Hp} {o : HO} (ne : p ≠ A) (h : H A = some o) : offP p H A = some o := by
  unfold offP
  rw [if_neg (Ne.symm ne)]
  exact h
theorem offP_none {p : Addr} {H : Hp} : offP p H p = none := by unfold offP; rw [if_pos rfl]
theorem offP_same {p : Addr} {H : Hp} : Same (offP p H) H := fun b o e => by
  unfold offP at e
  split at e
  · cases e
  · exact e
theorem offP_drawn {p : Addr} {H H' : Hp} (d : Drawn p H H') : Same (offP p H) (offP p H') := fun b o e => by
  unfold offP at e ⊢
  split at e
  · cases e
  · rename_i ne
    rw [if_neg ne]
    exact d.1 b o ne e
theorem odd_get {K : PySem.W.Frag} {H : Hp} : ∀ (xs : List V) (ds : List PyData), DpAll K H xs ds → ∀ j, j < xs.length → ∃ v d, xs[j]? = some v ∧ Dp K H v d ∧ d ∈ ds
  | [], _, _, j, h => by simp at h
  | x :: xs, ds, h, j, hj => by
    cases h with
    | cons hd hr =>
      match j, hj with
      | 0, _ => exact ⟨_, _, rfl, hd, List.mem_cons_self⟩
      | j + 1, hj =>
        obtain ⟨v, d, e, h1, h2⟩ := odd_get xs _ hr j (by simpa using hj)
        exact ⟨v, d, e, h1, List.mem_cons_of_mem _ h2⟩
theorem odd_at {p : Addr} {K : PySem.W.Frag} {H : Hp} {xs : List V} {ds : List PyData} {i : Int} (h : DpAll K (offP p H) xs ds) (h0 : 0 ≤ i) {n : Int} (h1 : i < n) (hn : n = xs.length) : ∃ v d, atI xs i = some v ∧ Dp K H v d ∧ d ∈ ds := by
  obtain ⟨j, rfl⟩ : ∃ j : Nat, i = (j : Int) := ⟨i.toNat, by omega⟩
  obtain ⟨v, d, e, h2, h3⟩ := odd_get xs ds h j (by omega)
  exact ⟨v, d, atI_nat (j := j) e, dp_grow offP_same h2, h3⟩
theorem below_no {b i : Int} (h : i < 0 ∨ b ≤ i) : belowD b (.int i) = false := by
  show (decide (0 ≤ i) && decide (i < b)) = false
  rcases h with h | h
  · rw [decide_eq_false (by omega)]; rfl
  · rw [decide_eq_false (p := i < b) (by omega)]; exact Bool.and_false _
theorem all_no {f : PyData → Bool} {ds : List PyData} {e : PyData} (h : e ∈ ds) (n : f e = false) : ds.all f = false := by
  cases k : ds.all f with
  | false => rfl
  | true =>
    have := List.all_eq_true.mp k e h
    rw [n] at this
    cases this
theorem row_no {n : Nat} {ds : List PyData} {e : PyData} (h : e ∈ ds) (k : belowD n e = false) : rowD n (.tuple ds) = false := by
  show (ds.all (belowD n) && _) = false
  rw [all_no h k]
  rfl
theorem row_long {n : Nat} {ds : List PyData} (h : 60 < ds.length) : rowD n (.tuple ds) = false := by
  show (ds.all (belowD n) && decide (ds.length ≤ 60)) = false
  rw [decide_eq_false (p := ds.length ≤ 60) (by omega), Bool.and_false]
theorem ok_wd (k z : Str) : okD 5 (wdD k z) := ⟨by show 2 ≤ 100000; decide, fun e he => by
  rcases List.mem_cons.mp he with rfl | he
  · exact trivial
  · rw [List.mem_singleton.mp he]; exact trivial⟩
theorem dpAll_app {K : PySem.W.Frag} {H : Hp} : ∀ {xs ys : List V} {ds es : List PyData}, DpAll K H xs ds → DpAll K H ys es → DpAll K H (xs ++ ys) (ds ++ es)
  | [], _, _, _, h, h2 => by cases h; exact h2
  | x :: xs, _, _, _, h, h2 => by
    cases h with
    | cons a b => exact .cons a (dpAll_app b h2)
theorem Pool.ne_tup {H : Hp} {p b : Addr} {xs : List V} (hp : Pool H p) (h : H b = some (.tup xs)) : p ≠ b := by
  obtain ⟨ns, _, _, e⟩ := hp
  exact (ne_of h e (by intro z; cases z)).symm
theorem flat_map {n : Nat} (ks : List Int) : (List.replicate n (ks.map V.int)).flatten = ((List.replicate n ks).flatten).map V.int := by
  rw [List.map_flatten, List.map_replicate]
theorem flat_mem {n : Nat} {ks : List Int} {x : Int} (h : x ∈ (List.replicate n ks).flatten) : x ∈ ks := by
  obtain ⟨l, hl, hx⟩ := List.mem_flatten.mp h
  rw [List.eq_of_mem_replicate hl] at hx
  exact hx
theorem flat_len {n : Nat} (ks : List Int) : ((List.replicate n ks).flatten).length = n * ks.length := by
  rw [List.length_flatten, List.map_replicate, List.sum_replicate_nat]
theorem cut_to {xs : List V} {k : Nat} (h : k ≤ xs.length) : cutV xs none (some (k : Int)) = xs.take k := by
  unfold cutV
  rw [HT.sIx_none, HT.sIx_nat, Nat.min_eq_left h]
  show (xs.drop 0).take (k - 0) = xs.take k
  rw [List.drop_zero, Nat.sub_zero]
section
variable {P : Program} {w : World} {K : PySem.W.Frag} {mg : Str → Option Value} {base : Heap}

def sp__law_refused_rows (K : PySem.W.Frag) : Sp := fun vs H Q _ => ∃ (p t : Addr) (ts : List V) (rw : Addr) (r : List Int), vs = [.ref p, .ref t, .ref rw] ∧ Pool H p ∧ SqT K H t ts ∧ 1 ≤ ts.length ∧ ts.length ≤ 10 ∧
  H rw = some (.tup (r.map V.int)) ∧ 1 ≤ r.length ∧ r.length ≤ 9 ∧ ∀ H', Drawn p H H' → Q (.bl true) H'
theorem ok__law_refused_rows (T : Tx K mg) : FnOk P w K mg base CX0 9 T.f__law_refused_rows T.d__law_refused_rows ["pool", "tokens", "row"] (sp__law_refused_rows K) := by
  refine T.F__law_refused_rows.ok sc__law_refused_rows (fun vs H Q E h => ?_) (fun cdv A outer s H vs Q E hr h => ?_)
  · obtain ⟨p, t, ts, rw, r, rfl, _⟩ := h; rfl
  · obtain ⟨p, t, ts, rw, r, rfl, hP, hT, m0, m1, hrw0, r1, r9, q⟩ := h
    refine ⟨_, (pss_cons (ps_set (i := 3) sc__law_refused_rows.nd rfl (Or.inl rfl) (pe_callB call_len_seq (by rfl) T.n_len (by decide +kernel) (pa_cons (pv 1) pa_nil)))
    (pss_cons (ps_set (i := 4) sc__law_refused_rows.nd rfl (Or.inl rfl) (pe_call (ok__law_drawn_book T) (hr.mono (by decide)) rfl T.g__law_drawn_book T.F__law_drawn_book.kp T.b__law_drawn_book .nil pass0 (pa_cons (pv 0) (pa_cons (pv 3) pa_nil))))
    (C8.pss_cut (ps_set (i := 5) sc__law_refused_rows.nd rfl (Or.inl rfl) (pe_lst (pa_cons (pe_slice sl_tupA (pe_op op_repA (pv 2) pe_int) po_none (po_some pe_int)) (pa_cons (pe_callTy call_list_of (by rfl) T.n_list (by decide +kernel) (pa_cons (pv 2) pa_nil)) (pa_cons (pe_op op_catA (pv 2) (pe_tup (pa_cons (pv 3) pa_nil))) (pa_cons (pe_op op_catA (pe_tup (pa_cons (pe_un un_neg pe_int) pa_nil)) (pv 2)) (pa_cons (pe_op op_catA (pv 2) (pe_tup (pa_cons pe_bl pa_nil))) (pa_cons pe_non (pa_cons pe_str (pa_cons pe_int (pa_cons (pe_tup (pa_cons (pv 2) pa_nil)) (pa_cons (pe_tup (pa_cons (pe_lst (pa_cons pe_int pa_nil)) pa_nil)) (pa_cons (pe_lst pa_nil) (pa_cons pe_bl pa_nil))))))))))))))
    (pss_cons (ps_for PassesOwn.never rfl (pi_list (pe_lst (pa_cons pe_int (pa_cons pe_int (pa_cons pe_int (pa_cons pe_int pa_nil)))))) (pg_name (i := 6) sc__law_refused_rows.nd rfl (Or.inl rfl))
    (pss_cons (ps_set (i := 7) sc__law_refused_rows.nd rfl (Or.inl rfl) (pe_ix ix_list (pv 5) (pe_call (ok__law_pick T) (hr.mono (by decide)) rfl T.g__law_pick T.F__law_pick.kp T.b__law_pick .nil pass0 (pa_cons (pv 0) (pa_cons pe_int pa_nil))) (fun _ _ => rfl)))
    (pss_one (ps_if (pt_not (pt_val (pe_call (ok__law_same T 5) (hr.mono (by decide)) rfl T.g__law_same T.F__law_same.kp T.b__law_same .nil pass0 (pa_cons (pe_call (ok__law_told T) hr rfl T.g__law_told T.F__law_told.kp T.b__law_told .nil pass0 (pa_cons (pv 6) (pa_cons (pv 1) (pa_cons (pv 4) (pa_cons (pv 7) pa_nil))))) (pa_cons (pe_lst (pa_cons pe_str (pa_cons pe_str pa_nil))) pa_nil))))) (pss_one (ps_ret pe_bl)) pss_nil))))
    (pss_one (ps_ret pe_bl)))))), ?_⟩
    have lr : (r.map V.int).length = r.length := List.length_map ..
    have rne : r.map V.int ≠ [] := fun z => by rw [z] at lr; simp at lr; omega
    have qrw : p ≠ rw := hP.ne_tup hrw0
    refine ⟨.ref t, rfl, t, ts, rfl, .inr hT, ?_⟩
    refine ⟨.ref p, rfl, .int ts.length, rfl, p, ts.length, rfl, hP, m0, by omega, fun b B H8 d8 hB8 hok8 => ?_⟩
    have hrw := d8.1 _ _ qrw.symm hrw0
    refine ⟨fun σ' H' => ∃ (L : Addr) (us : List V) (ds : List PyData), σ' = [some (.ref p), some (.ref t), some (.ref rw), some (.int ts.length), some (.ref b), some (.ref L), none, none] ∧ Drawn p H8 H' ∧ H' L = some (.lst us) ∧ p ≠ L ∧ DpAll K (offP p H') us ds ∧ us.length = 12 ∧ ∀ d ∈ ds, rowD ts.length d = false ∧ lenD d ≤ 1000, ?_, fun σ' H9 h => ?_⟩
    · have dA : Drawn p H8 H8 := Drawn.refl d8.2
      refine ⟨.ref rw, rfl, rw, 61, r.map V.int, rfl, rfl, .inl (.inl hrw), rne, by omega, by omega, by omega, fun z => absurd z (by decide), fun _ z0 nz0 => ?_⟩
      have e1 : Same H8 (upd H8 z0 (.tup (List.replicate (61 : Int).toNat (r.map V.int)).flatten)) := same_new nz0
      have hz0 : (upd H8 z0 (.tup (List.replicate (61 : Int).toNat (r.map V.int)).flatten)) z0 = some (.tup (List.replicate (61 : Int).toNat (r.map V.int)).flatten) := upd_same
      have qz0 : p ≠ z0 := dA.2.ne_none nz0
      generalize upd H8 z0 (.tup (List.replicate (61 : Int).toNat (r.map V.int)).flatten) = G1 at e1 hz0 ⊢
      have dd1 := dA.same e1
      replace hrw := e1 _ _ hrw
      have fl : (List.replicate (61 : Int).toNat (r.map V.int)).flatten = ((List.replicate 61 r).flatten).map V.int := flat_map r
      have ll : (((List.replicate 61 r).flatten).map V.int).length = 61 * r.length := by rw [List.length_map, flat_len]
      rw [fl] at hz0
      refine ⟨61, rfl, z0, _, rfl, .inl (.inl hz0), fun hw => ?_, fun hw z1 nz1 => ?_⟩
      · have hw2 := hw.2
        rw [show (some (61 : Int)) = some ((61 : Nat) : Int) from rfl, HT.sIx_nat, ll] at hw2
        have r1' : r.length = 1 := by omega
        refine ⟨.ref rw, rfl, rw, _, rfl, .inr (.inl (.inl hrw)), fun l2 nl2 => ?_⟩
        have e2 : Same G1 (upd G1 l2 (.lst (r.map V.int))) := same_new nl2
        have hl2 : (upd G1 l2 (.lst (r.map V.int))) l2 = some (.lst (r.map V.int)) := upd_same
        have ql2 : p ≠ l2 := dd1.2.ne_none nl2
        generalize upd G1 l2 (.lst (r.map V.int)) = G2 at e2 hl2 ⊢
        have dd2 := dd1.same e2
        replace hrw := e2 _ _ hrw
        replace hz0 := e2 _ _ hz0
        refine ⟨.ref rw, rfl, .int ts.length, rfl, small' (by simp), fun t3 nt3 => ?_⟩
        have e3 : Same G2 (upd G2 t3 (.tup [.int (ts.length : Int)])) := same_new nt3
        have ht3 : (upd G2 t3 (.tup [.int (ts.length : Int)])) t3 = some (.tup [.int (ts.length : Int)]) := upd_same
        have qt3 : p ≠ t3 := dd2.2.ne_none nt3
        generalize upd G2 t3 (.tup [.int (ts.length : Int)]) = G3 at e3 ht3 ⊢
        have dd3 := dd2.same e3
        replace hrw := e3 _ _ hrw
        replace hz0 := e3 _ _ hz0
        replace hl2 := e3 _ _ hl2
        refine ⟨rw, t3, (r.map V.int), [.int (ts.length : Int)], rfl, rfl, .inl (.inl hrw), .inl (.inl ht3), small' (by first | (simp; omega) | (simp [List.length_map]; omega)), fun z => absurd z (rne), fun _ z => absurd z (List.cons_ne_nil _ _), fun _ _ c3 nc3 => ?_⟩
        have e4 : Same G3 (upd G3 c3 (.tup ((r.map V.int) ++ [.int (ts.length : Int)]))) := same_new nc3
        have hc3 : (upd G3 c3 (.tup ((r.map V.int) ++ [.int (ts.length : Int)]))) c3 = some (.tup ((r.map V.int) ++ [.int (ts.length : Int)])) := upd_same
        have qc3 : p ≠ c3 := dd3.2.ne_none nc3
        generalize upd G3 c3 (.tup ((r.map V.int) ++ [.int (ts.length : Int)])) = G4 at e4 hc3 ⊢
        have dd4 := dd3.same e4
        replace hrw := e4 _ _ hrw
        replace hz0 := e4 _ _ hz0
        replace hl2 := e4 _ _ hl2
        replace ht3 := e4 _ _ ht3
        refine ⟨1, rfl, small' (by simp), fun t4 nt4 => ?_⟩
        have e5 : Same G4 (upd G4 t4 (.tup [.int (-1)])) := same_new nt4
        have ht4 : (upd G4 t4 (.tup [.int (-1)])) t4 = some (.tup [.int (-1)]) := upd_same
        have qt4 : p ≠ t4 := dd4.2.ne_none nt4
        generalize upd G4 t4 (.tup [.int (-1)]) = G5 at e5 ht4 ⊢
        have dd5 := dd4.same e5
        replace hrw := e5 _ _ hrw
        replace hz0 := e5 _ _ hz0
        replace hl2 := e5 _ _ hl2
        replace ht3 := e5 _ _ ht3
        replace hc3 := e5 _ _ hc3
        refine ⟨.ref rw, rfl, ?_⟩
        refine ⟨t4, rw, [.int (-1)], (r.map V.int), rfl, rfl, .inl (.inl ht4), .inl (.inl hrw), small' (by first | (simp; omega) | (simp [List.length_map]; omega)), fun z => absurd z (List.cons_ne_nil _ _), fun _ z => absurd z (rne), fun _ _ c4 nc4 => ?_⟩
        have e6 : Same G5 (upd G5 c4 (.tup ([.int (-1)] ++ (r.map V.int)))) := same_new nc4
        have hc4 : (upd G5 c4 (.tup ([.int (-1)] ++ (r.map V.int)))) c4 = some (.tup ([.int (-1)] ++ (r.map V.int))) := upd_same
        have qc4 : p ≠ c4 := dd5.2.ne_none nc4
        generalize upd G5 c4 (.tup ([.int (-1)] ++ (r.map V.int))) = G6 at e6 hc4 ⊢
        have dd6 := dd5.same e6
        replace hrw := e6 _ _ hrw
        replace hz0 := e6 _ _ hz0
        replace hl2 := e6 _ _ hl2
        replace ht3 := e6 _ _ ht3
        replace hc3 := e6 _ _ hc3
        replace ht4 := e6 _ _ ht4
        refine ⟨.ref rw, rfl, small' (by simp), fun t5 nt5 => ?_⟩
        have e7 : Same G6 (upd G6 t5 (.tup [.bl false])) := same_new nt5
        have ht5 : (upd G6 t5 (.tup [.bl false])) t5 = some (.tup [.bl false]) := upd_same
        have qt5 : p ≠ t5 := dd6.2.ne_none nt5
        generalize upd G6 t5 (.tup [.bl false]) = G7 at e7 ht5 ⊢
        have dd7 := dd6.same e7
        replace hrw := e7 _ _ hrw
        replace hz0 := e7 _ _ hz0
        replace hl2 := e7 _ _ hl2
        replace ht3 := e7 _ _ ht3
        replace hc3 := e7 _ _ hc3
        replace ht4 := e7 _ _ ht4
        replace hc4 := e7 _ _ hc4
        refine ⟨rw, t5, (r.map V.int), [.bl false], rfl, rfl, .inl (.inl hrw), .inl (.inl ht5), small' (by first | (simp; omega) | (simp [List.length_map]; omega)), fun z => absurd z (rne), fun _ z => absurd z (List.cons_ne_nil _ _), fun _ _ c5 nc5 => ?_⟩
        have e8 : Same G7 (upd G7 c5 (.tup ((r.map V.int) ++ [.bl false]))) := same_new nc5
        have hc5 : (upd G7 c5 (.tup ((r.map V.int) ++ [.bl false]))) c5 = some (.tup ((r.map V.int) ++ [.bl false])) := upd_same
        have qc5 : p ≠ c5 := dd7.2.ne_none nc5
        generalize upd G7 c5 (.tup ((r.map V.int) ++ [.bl false])) = G8 at e8 hc5 ⊢
        have dd8 := dd7.same e8
        replace hrw := e8 _ _ hrw
        replace hz0 := e8 _ _ hz0
        replace hl2 := e8 _ _ hl2
        replace ht3 := e8 _ _ ht3
        replace hc3 := e8 _ _ hc3
        replace ht4 := e8 _ _ ht4
        replace hc4 := e8 _ _ hc4
        replace ht5 := e8 _ _ ht5
        refine ⟨.ref rw, rfl, small' (by simp), fun t9 nt9 => ?_⟩
        have e9 : Same G8 (upd G8 t9 (.tup [.ref rw])) := same_new nt9
        have ht9 : (upd G8 t9 (.tup [.ref rw])) t9 = some (.tup [.ref rw]) := upd_same
        have qt9 : p ≠ t9 := dd8.2.ne_none nt9
        generalize upd G8 t9 (.tup [.ref rw]) = G9 at e9 ht9 ⊢
        have dd9 := dd8.same e9
        replace hrw := e9 _ _ hrw
        replace hz0 := e9 _ _ hz0
        replace hl2 := e9 _ _ hl2
        replace ht3 := e9 _ _ ht3
        replace hc3 := e9 _ _ hc3
        replace ht4 := e9 _ _ ht4
        replace hc4 := e9 _ _ hc4
        replace ht5 := e9 _ _ ht5
        replace hc5 := e9 _ _ hc5
        refine ⟨small' (by simp), fun l10 nl10 => ?_⟩
        have e10 : Same G9 (upd G9 l10 (.lst [.int 0])) := same_new nl10
        have hl10 : (upd G9 l10 (.lst [.int 0])) l10 = some (.lst [.int 0]) := upd_same
        have ql10 : p ≠ l10 := dd9.2.ne_none nl10
        generalize upd G9 l10 (.lst [.int 0]) = G10 at e10 hl10 ⊢
        have dd10 := dd9.same e10
        replace hrw := e10 _ _ hrw
        replace hz0 := e10 _ _ hz0
        replace hl2 := e10 _ _ hl2
        replace ht3 := e10 _ _ ht3
        replace hc3 := e10 _ _ hc3
        replace ht4 := e10 _ _ ht4
        replace hc4 := e10 _ _ hc4
        replace ht5 := e10 _ _ ht5
        replace hc5 := e10 _ _ hc5
        replace ht9 := e10 _ _ ht9
        refine ⟨small' (by simp), fun t10 nt10 => ?_⟩
        have e11 : Same G10 (upd G10 t10 (.tup [.ref l10])) := same_new nt10
        have ht10 : (upd G10 t10 (.tup [.ref l10])) t10 = some (.tup [.ref l10]) := upd_same
        have qt10 : p ≠ t10 := dd10.2.ne_none nt10
        generalize upd G10 t10 (.tup [.ref l10]) = G11 at e11 ht10 ⊢
        have dd11 := dd10.same e11
        replace hrw := e11 _ _ hrw
        replace hz0 := e11 _ _ hz0
        replace hl2 := e11 _ _ hl2
        replace ht3 := e11 _ _ ht3
        replace hc3 := e11 _ _ hc3
        replace ht4 := e11 _ _ ht4
        replace hc4 := e11 _ _ hc4
        replace ht5 := e11 _ _ ht5
        replace hc5 := e11 _ _ hc5
        replace ht9 := e11 _ _ ht9
        replace hl10 := e11 _ _ hl10
        refine ⟨small' (by simp), fun l11 nl11 => ?_⟩
        have e12 : Same G11 (upd G11 l11 (.lst [])) := same_new nl11
        have hl11 : (upd G11 l11 (.lst [])) l11 = some (.lst []) := upd_same
        have ql11 : p ≠ l11 := dd11.2.ne_none nl11
        generalize upd G11 l11 (.lst []) = G12 at e12 hl11 ⊢
        have dd12 := dd11.same e12
        replace hrw := e12 _ _ hrw
        replace hz0 := e12 _ _ hz0
        replace hl2 := e12 _ _ hl2
        replace ht3 := e12 _ _ ht3
        replace hc3 := e12 _ _ hc3
        replace ht4 := e12 _ _ ht4
        replace hc4 := e12 _ _ hc4
        replace ht5 := e12 _ _ ht5
        replace hc5 := e12 _ _ hc5
        replace ht9 := e12 _ _ ht9
        replace hl10 := e12 _ _ hl10
        replace ht10 := e12 _ _ ht10
        refine ⟨small' (by simp), fun L nL => ?_⟩
        have e13 : Same G12 (upd G12 L (.lst [.ref z0, .ref l2, .ref c3, .ref c4, .ref c5, .non, .str "0", .int 0, .ref t9, .ref t10, .ref l11, .bl true])) := same_new nL
        have hL : (upd G12 L (.lst [.ref z0, .ref l2, .ref c3, .ref c4, .ref c5, .non, .str "0", .int 0, .ref t9, .ref t10, .ref l11, .bl true])) L = some (.lst [.ref z0, .ref l2, .ref c3, .ref c4, .ref c5, .non, .str "0", .int 0, .ref t9, .ref t10, .ref l11, .bl true]) := upd_same
        have qL : p ≠ L := dd12.2.ne_none nL
        generalize upd G12 L (.lst [.ref z0, .ref l2, .ref c3, .ref c4, .ref c5, .non, .str "0", .int 0, .ref t9, .ref t10, .ref l11, .bl true]) = G13 at e13 hL ⊢
        have dd13 := dd12.same e13
        replace hrw := e13 _ _ hrw
        replace hz0 := e13 _ _ hz0
        replace hl2 := e13 _ _ hl2
        replace ht3 := e13 _ _ ht3
        replace hc3 := e13 _ _ hc3
        replace ht4 := e13 _ _ ht4
        replace hc4 := e13 _ _ hc4
        replace ht5 := e13 _ _ ht5
        replace hc5 := e13 _ _ hc5
        replace ht9 := e13 _ _ ht9
        replace hl10 := e13 _ _ hl10
        replace ht10 := e13 _ _ ht10
        replace hl11 := e13 _ _ hl11
        refine ⟨L, _, _, rfl, dd13, hL, qL, .cons (.tup (.inl (.inl (offP_at qz0 hz0))) (dpAll_ints _)) (.cons (.lst (.inl (.inl (offP_at ql2 hl2))) (dpAll_ints r)) (.cons (.tup (.inl (.inl (offP_at qc3 hc3))) (dpAll_app (dpAll_ints r) (.cons (.int _) .nil))) (.cons (.tup (.inl (.inl (offP_at qc4 hc4))) (.cons (.int _) (dpAll_ints r))) (.cons (.tup (.inl (.inl (offP_at qc5 hc5))) (dpAll_app (dpAll_ints r) (.cons (.bl _) .nil))) (.cons (.non) (.cons (.str _) (.cons (.int _) (.cons (.tup (.inl (.inl (offP_at qt9 ht9))) (.cons (.tup (.inl (.inl (offP_at qrw hrw))) (dpAll_ints r)) .nil)) (.cons (.tup (.inl (.inl (offP_at qt10 ht10))) (.cons (.lst (.inl (.inl (offP_at ql10 hl10))) (.cons (.int _) .nil)) .nil)) (.cons (.lst (.inl (.inl (offP_at ql11 hl11))) (.nil)) (.cons (.bl _) (.nil)))))))))))), rfl, fun d hd => ?_⟩
        simp only [List.mem_cons, List.not_mem_nil, or_false] at hd
        rcases hd with rfl | rfl | rfl | rfl | rfl | rfl | rfl | rfl | rfl | rfl | rfl | rfl
        · exact ⟨row_long (by rw [List.length_map, flat_len]; omega), by show List.length _ ≤ 1000; rw [List.length_map, flat_len]; omega⟩
        · exact ⟨rfl, by show List.length _ ≤ 1000; rw [List.length_map]; omega⟩
        · exact ⟨row_no (e := .int ts.length) (List.mem_append_right _ List.mem_cons_self) (below_no (.inr (Int.le_refl _))), by show List.length _ ≤ 1000; rw [List.length_append, List.length_map]; show r.length + 1 ≤ 1000; omega⟩
        · exact ⟨row_no (e := .int (-1)) (List.mem_cons_self) rfl, by show List.length _ ≤ 1000; rw [List.length_cons, List.length_map]; omega⟩
        · exact ⟨row_no (e := .bool false) (List.mem_append_right _ List.mem_cons_self) rfl, by show List.length _ ≤ 1000; rw [List.length_append, List.length_map]; show r.length + 1 ≤ 1000; omega⟩
        · exact ⟨rfl, Nat.le_of_ble_eq_true rfl⟩
        · exact ⟨rfl, Nat.le_of_ble_eq_true rfl⟩
        · exact ⟨rfl, Nat.le_of_ble_eq_true rfl⟩
        · exact ⟨row_no (e := .tuple _) List.mem_cons_self rfl, Nat.le_of_ble_eq_true rfl⟩
        · exact ⟨row_no (e := .list _) List.mem_cons_self rfl, Nat.le_of_ble_eq_true rfl⟩
        · exact ⟨rfl, Nat.le_of_ble_eq_true rfl⟩
        · exact ⟨rfl, Nat.le_of_ble_eq_true rfl⟩
      · have cz := cut_to (xs := ((List.replicate 61 r).flatten).map V.int) (k := 61) (by rw [ll]; omega)
        have e2 : Same G1 (upd G1 z1 (.tup (cutV (((List.replicate 61 r).flatten).map V.int) none (some 61)))) := same_new nz1
        have hz1 : (upd G1 z1 (.tup (cutV (((List.replicate 61 r).flatten).map V.int) none (some 61)))) z1 = some (.tup (cutV (((List.replicate 61 r).flatten).map V.int) none (some 61))) := upd_same
        have qz1 : p ≠ z1 := dd1.2.ne_none nz1
        generalize upd G1 z1 (.tup (cutV (((List.replicate 61 r).flatten).map V.int) none (some 61))) = G2 at e2 hz1 ⊢
        have dd2 := dd1.same e2
        replace hrw := e2 _ _ hrw
        replace hz0 := e2 _ _ hz0
        rw [show (some (61 : Int)) = some ((61 : Nat) : Int) from rfl, cz, ← List.map_take] at hz1
        refine ⟨.ref rw, rfl, rw, _, rfl, .inr (.inl (.inl hrw)), fun l2 nl2 => ?_⟩
        have e3 : Same G2 (upd G2 l2 (.lst (r.map V.int))) := same_new nl2
        have hl2 : (upd G2 l2 (.lst (r.map V.int))) l2 = some (.lst (r.map V.int)) := upd_same
        have ql2 : p ≠ l2 := dd2.2.ne_none nl2
        generalize upd G2 l2 (.lst (r.map V.int)) = G3 at e3 hl2 ⊢
        have dd3 := dd2.same e3
        replace hrw := e3 _ _ hrw
        replace hz0 := e3 _ _ hz0
        replace hz1 := e3 _ _ hz1
        refine ⟨.ref rw, rfl, .int ts.length, rfl, small' (by simp), fun t3 nt3 => ?_⟩
        have e4 : Same G3 (upd G3 t3 (.tup [.int (ts.length : Int)])) := same_new nt3
        have ht3 : (upd G3 t3 (.tup [.int (ts.length : Int)])) t3 = some (.tup [.int (ts.length : Int)]) := upd_same
        have qt3 : p ≠ t3 := dd3.2.ne_none nt3
        generalize upd G3 t3 (.tup [.int (ts.length : Int)]) = G4 at e4 ht3 ⊢
        have dd4 := dd3.same e4
        replace hrw := e4 _ _ hrw
        replace hz0 := e4 _ _ hz0
        replace hz1 := e4 _ _ hz1
        replace hl2 := e4 _ _ hl2
        refine ⟨rw, t3, (r.map V.int), [.int (ts.length : Int)], rfl, rfl, .inl (.inl hrw), .inl (.inl ht3), small' (by first | (simp; omega) | (simp [List.length_map]; omega)), fun z => absurd z (rne), fun _ z => absurd z (List.cons_ne_nil _ _), fun _ _ c3 nc3 => ?_⟩
        have e5 : Same G4 (upd G4 c3 (.tup ((r.map V.int) ++ [.int (ts.length : Int)]))) := same_new nc3
        have hc3 : (upd G4 c3 (.tup ((r.map V.int) ++ [.int (ts.length : Int)]))) c3 = some (.tup ((r.map V.int) ++ [.int (ts.length : Int)])) := upd_same
        have qc3 : p ≠ c3 := dd4.2.ne_none nc3
        generalize upd G4 c3 (.tup ((r.map V.int) ++ [.int (ts.length : Int)])) = G5 at e5 hc3 ⊢
        have dd5 := dd4.same e5
        replace hrw := e5 _ _ hrw
        replace hz0 := e5 _ _ hz0
        replace hz1 := e5 _ _ hz1
        replace hl2 := e5 _ _ hl2
        replace ht3 := e5 _ _ ht3
        refine ⟨1, rfl, small' (by simp), fun t4 nt4 => ?_⟩
        have e6 : Same G5 (upd G5 t4 (.tup [.int (-1)])) := same_new nt4
        have ht4 : (upd G5 t4 (.tup [.int (-1)])) t4 = some (.tup [.int (-1)]) := upd_same
        have qt4 : p ≠ t4 := dd5.2.ne_none nt4
        generalize upd G5 t4 (.tup [.int (-1)]) = G6 at e6 ht4 ⊢
        have dd6 := dd5.same e6
        replace hrw := e6 _ _ hrw
        replace hz0 := e6 _ _ hz0
        replace hz1 := e6 _ _ hz1
        replace hl2 := e6 _ _ hl2
        replace ht3 := e6 _ _ ht3
        replace hc3 := e6 _ _ hc3
        refine ⟨.ref rw, rfl, ?_⟩
        refine ⟨t4, rw, [.int (-1)], (r.map V.int), rfl, rfl, .inl (.inl ht4), .inl (.inl hrw), small' (by first | (simp; omega) | (simp [List.length_map]; omega)), fun z => absurd z (List.cons_ne_nil _ _), fun _ z => absurd z (rne), fun _ _ c4 nc4 => ?_⟩
        have e7 : Same G6 (upd G6 c4 (.tup ([.int (-1)] ++ (r.map V.int)))) := same_new nc4
        have hc4 : (upd G6 c4 (.tup ([.int (-1)] ++ (r.map V.int)))) c4 = some (.tup ([.int (-1)] ++ (r.map V.int))) := upd_same
        have qc4 : p ≠ c4 := dd6.2.ne_none nc4
        generalize upd G6 c4 (.tup ([.int (-1)] ++ (r.map V.int))) = G7 at e7 hc4 ⊢
        have dd7 := dd6.same e7
        replace hrw := e7 _ _ hrw
        replace hz0 := e7 _ _ hz0
        replace hz1 := e7 _ _ hz1
        replace hl2 := e7 _ _ hl2
        replace ht3 := e7 _ _ ht3
        replace hc3 := e7 _ _ hc3
        replace ht4 := e7 _ _ ht4
        refine ⟨.ref rw, rfl, small' (by simp), fun t5 nt5 => ?_⟩
        have e8 : Same G7 (upd G7 t5 (.tup [.bl false])) := same_new nt5
        have ht5 : (upd G7 t5 (.tup [.bl false])) t5 = some (.tup [.bl false]) := upd_same
        have qt5 : p ≠ t5 := dd7.2.ne_none nt5
        generalize upd G7 t5 (.tup [.bl false]) = G8 at e8 ht5 ⊢
        have dd8 := dd7.same e8
        replace hrw := e8 _ _ hrw
        replace hz0 := e8 _ _ hz0
        replace hz1 := e8 _ _ hz1
        replace hl2 := e8 _ _ hl2
        replace ht3 := e8 _ _ ht3
        replace hc3 := e8 _ _ hc3
        replace ht4 := e8 _ _ ht4
        replace hc4 := e8 _ _ hc4
        refine ⟨rw, t5, (r.map V.int), [.bl false], rfl, rfl, .inl (.inl hrw), .inl (.inl ht5), small' (by first | (simp; omega) | (simp [List.length_map]; omega)), fun z => absurd z (rne), fun _ z => absurd z (List.cons_ne_nil _ _), fun _ _ c5 nc5 => ?_⟩
        have e9 : Same G8 (upd G8 c5 (.tup ((r.map V.int) ++ [.bl false]))) := same_new nc5
        have hc5 : (upd G8 c5 (.tup ((r.map V.int) ++ [.bl false]))) c5 = some (.tup ((r.map V.int) ++ [.bl false])) := upd_same
        have qc5 : p ≠ c5 := dd8.2.ne_none nc5
        generalize upd G8 c5 (.tup ((r.map V.int) ++ [.bl false])) = G9 at e9 hc5 ⊢
        have dd9 := dd8.same e9
        replace hrw := e9 _ _ hrw
        replace hz0 := e9 _ _ hz0
        replace hz1 := e9 _ _ hz1
        replace hl2 := e9 _ _ hl2
        replace ht3 := e9 _ _ ht3
        replace hc3 := e9 _ _ hc3
        replace ht4 := e9 _ _ ht4
        replace hc4 := e9 _ _ hc4
        replace ht5 := e9 _ _ ht5
        refine ⟨.ref rw, rfl, small' (by simp), fun t9 nt9 => ?_⟩
        have e10 : Same G9 (upd G9 t9 (.tup [.ref rw])) := same_new nt9
        have ht9 : (upd G9 t9 (.tup [.ref rw])) t9 = some (.tup [.ref rw]) := upd_same
        have qt9 : p ≠ t9 := dd9.2.ne_none nt9
        generalize upd G9 t9 (.tup [.ref rw]) = G10 at e10 ht9 ⊢
        have dd10 := dd9.same e10
        replace hrw := e10 _ _ hrw
        replace hz0 := e10 _ _ hz0
        replace hz1 := e10 _ _ hz1
        replace hl2 := e10 _ _ hl2
        replace ht3 := e10 _ _ ht3
        replace hc3 := e10 _ _ hc3
        replace ht4 := e10 _ _ ht4
        replace hc4 := e10 _ _ hc4
        replace ht5 := e10 _ _ ht5
        replace hc5 := e10 _ _ hc5
        refine ⟨small' (by simp), fun l10 nl10 => ?_⟩
        have e11 : Same G10 (upd G10 l10 (.lst [.int 0])) := same_new nl10
        have hl10 : (upd G10 l10 (.lst [.int 0])) l10 = some (.lst [.int 0]) := upd_same
        have ql10 : p ≠ l10 := dd10.2.ne_none nl10
        generalize upd G10 l10 (.lst [.int 0]) = G11 at e11 hl10 ⊢
        have dd11 := dd10.same e11
        replace hrw := e11 _ _ hrw
        replace hz0 := e11 _ _ hz0
        replace hz1 := e11 _ _ hz1
        replace hl2 := e11 _ _ hl2
        replace ht3 := e11 _ _ ht3
        replace hc3 := e11 _ _ hc3
        replace ht4 := e11 _ _ ht4
        replace hc4 := e11 _ _ hc4
        replace ht5 := e11 _ _ ht5
        replace hc5 := e11 _ _ hc5
        replace ht9 := e11 _ _ ht9
        refine ⟨small' (by simp), fun t10 nt10 => ?_⟩
        have e12 : Same G11 (upd G11 t10 (.tup [.ref l10])) := same_new nt10
        have ht10 : (upd G11 t10 (.tup [.ref l10])) t10 = some (.tup [.ref l10]) := upd_same
        have qt10 : p ≠ t10 := dd11.2.ne_none nt10
        generalize upd G11 t10 (.tup [.ref l10]) = G12 at e12 ht10 ⊢
        have dd12 := dd11.same e12
        replace hrw := e12 _ _ hrw
        replace hz0 := e12 _ _ hz0
        replace hz1 := e12 _ _ hz1
        replace hl2 := e12 _ _ hl2
        replace ht3 := e12 _ _ ht3
        replace hc3 := e12 _ _ hc3
        replace ht4 := e12 _ _ ht4
        replace hc4 := e12 _ _ hc4
        replace ht5 := e12 _ _ ht5
        replace hc5 := e12 _ _ hc5
        replace ht9 := e12 _ _ ht9
        replace hl10 := e12 _ _ hl10
        refine ⟨small' (by simp), fun l11 nl11 => ?_⟩
        have e13 : Same G12 (upd G12 l11 (.lst [])) := same_new nl11
        have hl11 : (upd G12 l11 (.lst [])) l11 = some (.lst []) := upd_same
        have ql11 : p ≠ l11 := dd12.2.ne_none nl11
        generalize upd G12 l11 (.lst []) = G13 at e13 hl11 ⊢
        have dd13 := dd12.same e13
        replace hrw := e13 _ _ hrw
        replace hz0 := e13 _ _ hz0
        replace hz1 := e13 _ _ hz1
        replace hl2 := e13 _ _ hl2
        replace ht3 := e13 _ _ ht3
        replace hc3 := e13 _ _ hc3
        replace ht4 := e13 _ _ ht4
        replace hc4 := e13 _ _ hc4
        replace ht5 := e13 _ _ ht5
        replace hc5 := e13 _ _ hc5
        replace ht9 := e13 _ _ ht9
        replace hl10 := e13 _ _ hl10
        replace ht10 := e13 _ _ ht10
        refine ⟨small' (by simp), fun L nL => ?_⟩
        have e14 : Same G13 (upd G13 L (.lst [.ref z1, .ref l2, .ref c3, .ref c4, .ref c5, .non, .str "0", .int 0, .ref t9, .ref t10, .ref l11, .bl true])) := same_new nL
        have hL : (upd G13 L (.lst [.ref z1, .ref l2, .ref c3, .ref c4, .ref c5, .non, .str "0", .int 0, .ref t9, .ref t10, .ref l11, .bl true])) L = some (.lst [.ref z1, .ref l2, .ref c3, .ref c4, .ref c5, .non, .str "0", .int 0, .ref t9, .ref t10, .ref l11, .bl true]) := upd_same
        have qL : p ≠ L := dd13.2.ne_none nL
        generalize upd G13 L (.lst [.ref z1, .ref l2, .ref c3, .ref c4, .ref c5, .non, .str "0", .int 0, .ref t9, .ref t10, .ref l11, .bl true]) = G14 at e14 hL ⊢
        have dd14 := dd13.same e14
        replace hrw := e14 _ _ hrw
        replace hz0 := e14 _ _ hz0
        replace hz1 := e14 _ _ hz1
        replace hl2 := e14 _ _ hl2
        replace ht3 := e14 _ _ ht3
        replace hc3 := e14 _ _ hc3
        replace ht4 := e14 _ _ ht4
        replace hc4 := e14 _ _ hc4
        replace ht5 := e14 _ _ ht5
        replace hc5 := e14 _ _ hc5
        replace ht9 := e14 _ _ ht9
        replace hl10 := e14 _ _ hl10
        replace ht10 := e14 _ _ ht10
        replace hl11 := e14 _ _ hl11
        refine ⟨L, _, _, rfl, dd14, hL, qL, .cons (.tup (.inl (.inl (offP_at qz1 hz1))) (dpAll_ints _)) (.cons (.lst (.inl (.inl (offP_at ql2 hl2))) (dpAll_ints r)) (.cons (.tup (.inl (.inl (offP_at qc3 hc3))) (dpAll_app (dpAll_ints r) (.cons (.int _) .nil))) (.cons (.tup (.inl (.inl (offP_at qc4 hc4))) (.cons (.int _) (dpAll_ints r))) (.cons (.tup (.inl (.inl (offP_at qc5 hc5))) (dpAll_app (dpAll_ints r) (.cons (.bl _) .nil))) (.cons (.non) (.cons (.str _) (.cons (.int _) (.cons (.tup (.inl (.inl (offP_at qt9 ht9))) (.cons (.tup (.inl (.inl (offP_at qrw hrw))) (dpAll_ints r)) .nil)) (.cons (.tup (.inl (.inl (offP_at qt10 ht10))) (.cons (.lst (.inl (.inl (offP_at ql10 hl10))) (.cons (.int _) .nil)) .nil)) (.cons (.lst (.inl (.inl (offP_at ql11 hl11))) (.nil)) (.cons (.bl _) (.nil)))))))))))), rfl, fun d hd => ?_⟩
        simp only [List.mem_cons, List.not_mem_nil, or_false] at hd
        rcases hd with rfl | rfl | rfl | rfl | rfl | rfl | rfl | rfl | rfl | rfl | rfl | rfl
        · exact ⟨row_long (by rw [List.length_map, List.length_take, flat_len]; omega), by show List.length _ ≤ 1000; rw [List.length_map, List.length_take, flat_len]; omega⟩
        · exact ⟨rfl, by show List.length _ ≤ 1000; rw [List.length_map]; omega⟩
        · exact ⟨row_no (e := .int ts.length) (List.mem_append_right _ List.mem_cons_self) (below_no (.inr (Int.le_refl _))), by show List.length _ ≤ 1000; rw [List.length_append, List.length_map]; show r.length + 1 ≤ 1000; omega⟩
        · exact ⟨row_no (e := .int (-1)) (List.mem_cons_self) rfl, by show List.length _ ≤ 1000; rw [List.length_cons, List.length_map]; omega⟩
        · exact ⟨row_no (e := .bool false) (List.mem_append_right _ List.mem_cons_self) rfl, by show List.length _ ≤ 1000; rw [List.length_append, List.length_map]; show r.length + 1 ≤ 1000; omega⟩
        · exact ⟨rfl, Nat.le_of_ble_eq_true rfl⟩
        · exact ⟨rfl, Nat.le_of_ble_eq_true rfl⟩
        · exact ⟨rfl, Nat.le_of_ble_eq_true rfl⟩
        · exact ⟨row_no (e := .tuple _) List.mem_cons_self rfl, Nat.le_of_ble_eq_true rfl⟩
        · exact ⟨row_no (e := .list _) List.mem_cons_self rfl, Nat.le_of_ble_eq_true rfl⟩
        · exact ⟨rfl, Nat.le_of_ble_eq_true rfl⟩
        · exact ⟨rfl, Nat.le_of_ble_eq_true rfl⟩
    obtain ⟨L, us, ds, rfl, d9, hL, qL, hds, lus, bad⟩ := h
    refine ⟨small' (by simp), fun J nJ => ?_⟩
    have qJ : p ≠ J := d9.2.ne_none nJ
    have sJ : Same H9 (upd H9 J (.lst [.int 0, .int 1, .int 3, .int 4])) := same_new nJ
    have hJ : (upd H9 J (.lst [.int 0, .int 1, .int 3, .int 4])) J = some (.lst [.int 0, .int 1, .int 3, .int 4]) := upd_same
    generalize upd H9 J (.lst [.int 0, .int 1, .int 3, .int 4]) = HJ at sJ hJ ⊢
    have dJ := d9.same sJ
    have dsJ : Drawn p H9 HJ := (Drawn.refl d9.2).same sJ
    refine ⟨J, rfl, ⟨_, .inl (.inl hJ)⟩, ?_⟩
    refine for_list (K := K) (a := J) (xs := [.int 0, .int 1, .int 3, .int 4]) (fun i σ H' => ∃ y6 y7, σ = [some (.ref p), some (.ref t), some (.ref rw), some (.int ts.length), some (.ref b), some (.ref L), y6, y7] ∧ Drawn p HJ H')
      ⟨none, none, rfl, Drawn.refl dJ.2⟩ (fun i σ H' _ h => ?_) (fun i x σ H' ex h => ?_) (fun σ H' h => ?_)
    · obtain ⟨_, _, _, k⟩ := h
      exact .inl (.inl (k.1 _ _ qJ.symm hJ))
    · obtain ⟨y6, y7, rfl, k⟩ := h
      obtain ⟨w, hw, rfl⟩ : ∃ w : Int, (w = 0 ∨ w = 1 ∨ w = 3 ∨ w = 4) ∧ x = .int w := by
        match i, ex with
        | 0, ex => exact ⟨0, .inl rfl, (Option.some.inj ex).symm⟩
        | 1, ex => exact ⟨1, .inr (.inl rfl), (Option.some.inj ex).symm⟩
        | 2, ex => exact ⟨3, .inr (.inr (.inl rfl)), (Option.some.inj ex).symm⟩
        | 3, ex => exact ⟨4, .inr (.inr (.inr rfl)), (Option.some.inj ex).symm⟩
      refine ⟨.ref L, rfl, .ref p, rfl, p, 12, rfl, k.2, by omega, by omega, fun i0 H3 i00 i01 dd ff => ?_⟩
      have kd := dsJ.trans (k.trans dd)
      have hL3 := kd.1 _ _ qL.symm hL
      obtain ⟨v, dv, atv, Dv, mem⟩ := odd_at (dpAll_grow (offP_drawn kd) hds) i00 i01 (by rw [lus]; rfl)
      obtain ⟨bad1, bad2⟩ := bad dv mem
      refine ⟨L, us, i0, v, rfl, rfl, .inl (.inl hL3), atv, ?_⟩
      have dB := d9.trans kd
      refine ⟨.int w, rfl, .ref t, rfl, .ref b, rfl, v, rfl, w, t, ts, .ref b, v, rfl, seqT_drawn hP (d8.trans dB) hT, by omega, .inl ⟨hw, b, B, dv, rfl, BkAt.drawn d8.2 dB hB8, hok8, Dv, bad2, fun _ L2 H4 s4 hL2 => ?_, fun r2 _ z => absurd (bad1.symm.trans z) (by decide)⟩⟩
      refine ⟨small' (by simp), fun M nM => ?_⟩
      have sM := same_new (o := .lst [.str "not usable", .str "row"]) nM
      exact ⟨.ref L2, .ref M, wdD "not usable" "row", rfl, dp_grow sM (wd_at hL2), wd_at upd_same, ok_wd _ _, fun H5 s5 => ⟨_, rfl, _, _, rfl, (((k.trans dd).same s4).same sM).same s5⟩⟩
    · obtain ⟨y6, y7, rfl, k⟩ := h
      exact q H' ((d8.trans dJ).trans k)
end
end K2
set_option Elab.async false
set_option linter.all false
set_option maxRecDepth 100000
set_option maxHeartbeats 8000000
namespace K2
open PySem PySem.Spec PyProof.Rows L2 Ver
theorem PairsAt.offP {K : PySem.W.Frag} {H : Hp} {p : Addr} {vs : List V} {qs : List (Int × Int)} (h : PairsAt K H vs qs) (hp : Pool H p) : PairsAt K (K2.offP p H) vs qs := by
  induction h with
  | nil => exact .nil
  | cons h1 _ ih =>
    obtain ⟨a, h1, h2⟩ := h1
    exact .cons ⟨a, h1, offP_at (hp.ne_tup h2) h2⟩ ih
theorem len_one {l : List V} {v : V} (h : l.length ≤ 200) : l.length + [v].length ≤ 100000 := by show l.length + 1 ≤ 100000; omega
theorem len_two {l : List V} {v : V} (h : l.length ≤ 200) : [v].length + l.length ≤ 100000 := by show 1 + l.length ≤ 100000; omega
theorem pair_no {m : Int} {es : List PyData} {e : PyData} (h : e ∈ es) (k : belowD m e = false) : pairD m (.tuple es) = false := by
  show (es.all (belowD m) && _) = false
  rw [all_no h k]
  rfl
theorem pair_len {m : Int} {es : List PyData} (h : es.length ≠ 2) : pairD m (.tuple es) = false := by
  show (es.all (belowD m) && decide (es.length = 2)) = false
  rw [decide_eq_false h, Bool.and_false]
theorem pairs_no {m : Int} {ds : List PyData} {e : PyData} (h : e ∈ ds) (k : pairD m e = false) : pairsD m (.tuple ds) = false := all_no h k
theorem short_one {e : PyData} (h : lenD e ≤ 1000) : shortAll (.tuple [e]) := ⟨by show 1 ≤ 1000; decide, fun x hx => by rw [List.mem_singleton.mp hx]; exact h⟩
theorem lenD_pairs {qs : List (Int × Int)} {x : PyData} (h : x ∈ qs.map fun q => PyData.tuple [.int q.1, .int q.2]) : lenD x ≤ 1000 := by
  obtain ⟨q, _, rfl⟩ := List.mem_map.mp h
  show 2 ≤ 1000
  decide
theorem short_app {qs : List (Int × Int)} {e : PyData} (l : qs.length ≤ 200) (h : lenD e ≤ 1000) : shortAll (.tuple ((qs.map fun q => PyData.tuple [.int q.1, .int q.2]) ++ [e])) := ⟨by rw [List.length_append, List.length_map]; show qs.length + 1 ≤ 1000; omega, fun x hx => by
  rcases List.mem_append.mp hx with hx | hx
  · exact lenD_pairs hx
  · rw [List.mem_singleton.mp hx]; exact h⟩
theorem short_con {qs : List (Int × Int)} {e : PyData} (l : qs.length ≤ 200) (h : lenD e ≤ 1000) : shortAll (.tuple (e :: (qs.map fun q => PyData.tuple [.int q.1, .int q.2]))) := ⟨by rw [List.length_cons, List.length_map]; omega, fun x hx => by
  rcases List.mem_cons.mp hx with rfl | hx
  · exact h
  · exact lenD_pairs hx⟩
section
variable {P : Program} {w : World} {K : PySem.W.Frag} {mg : Str → Option Value} {base : Heap}
def sp__law_refused_pairs (K : PySem.W.Frag) : Sp := fun vs H Q _ => ∃ (p t : Addr) (ts : List V) (pr : Addr) (pl : List V) (qs : List (Int × Int)), vs = [.ref p, .ref t, .ref pr] ∧ Pool H p ∧ SqT K H t ts ∧ 1 ≤ ts.length ∧ ts.length ≤ 10 ∧
  H pr = some (.tup pl) ∧ PairsAt K H pl qs ∧ pl.length ≤ 200 ∧ ∀ H', Drawn p H H' → Q (.bl true) H'
theorem ok__law_refused_pairs (T : Tx K mg) : FnOk P w K mg base CX0 9 T.f__law_refused_pairs T.d__law_refused_pairs ["pool", "tokens", "pairs"] (sp__law_refused_pairs K) := by
  refine T.F__law_refused_pairs.ok sc__law_refused_pairs (fun vs H Q E h => ?_) (fun cdv A outer s H vs Q E hr h => ?_)
  · obtain ⟨p, t, ts, pr, pl, qs, rfl, _⟩ := h; rfl
  · obtain ⟨p, t, ts, pr, pl, qs, rfl, hP, hT, m0, m1, hpr, hq, lp, q⟩ := h
    refine ⟨_, (pss_cons (ps_set (i := 3) sc__law_refused_pairs.nd rfl (Or.inl rfl) (pe_callB call_len_seq (by rfl) T.n_len (by decide +kernel) (pa_cons (pv 1) pa_nil)))
    (C8.pss_cut (ps_set (i := 4) sc__law_refused_pairs.nd rfl (Or.inl rfl) (pe_lst (pa_cons (pe_callTy call_list_of (by rfl) T.n_list (by decide +kernel) (pa_cons (pv 2) pa_nil)) (pa_cons pe_non (pa_cons pe_int (pa_cons pe_str (pa_cons pe_bl (pa_cons (pe_op op_catA (pv 2) (pe_tup (pa_cons pe_int pa_nil))) (pa_cons (pe_op op_catA (pe_tup (pa_cons (pe_tup (pa_cons pe_int (pa_cons (pv 3) pa_nil))) pa_nil)) (pv 2)) (pa_cons (pe_op op_catA (pv 2) (pe_tup (pa_cons (pe_tup (pa_cons (pe_un un_neg pe_int) (pa_cons pe_int pa_nil))) pa_nil))) (pa_cons (pe_op op_catA (pv 2) (pe_tup (pa_cons (pe_tup (pa_cons pe_int (pa_cons pe_int (pa_cons pe_int pa_nil)))) pa_nil))) (pa_cons (pe_op op_catA (pe_tup (pa_cons (pe_tup (pa_cons pe_bl (pa_cons pe_int pa_nil))) pa_nil)) (pv 2)) (pa_cons (pe_op op_catA (pv 2) (pe_tup (pa_cons (pe_tup (pa_cons pe_int (pa_cons pe_bl pa_nil))) pa_nil))) (pa_cons (pe_op op_catA (pv 2) (pe_tup (pa_cons (pe_lst (pa_cons pe_int (pa_cons pe_int pa_nil))) pa_nil))) (pa_cons (pe_op op_catA (pv 2) (pe_tup (pa_cons (pe_tup (pa_cons pe_int pa_nil)) pa_nil))) (pa_cons (pe_op op_catA (pv 2) (pe_tup (pa_cons (pe_tup pa_nil) pa_nil))) (pa_cons (pe_tup (pa_cons pe_non pa_nil)) (pa_cons (pe_op op_catA (pv 2) (pe_tup (pa_cons (pe_tup (pa_cons pe_str (pa_cons pe_int pa_nil))) pa_nil))) (pa_cons (pe_op op_catA (pv 2) (pe_tup (pa_cons (pe_tup (pa_cons pe_int (pa_cons pe_non pa_nil))) pa_nil))) (pa_cons (pe_op op_catA (pv 2) (pe_tup (pa_cons pe_str pa_nil))) (pa_cons (pe_tup (pa_cons (pe_tup (pa_cons (pv 3) (pa_cons pe_int pa_nil))) pa_nil)) (pa_cons (pe_lst (pa_cons (pe_tup (pa_cons pe_int (pa_cons pe_int pa_nil))) pa_nil)) pa_nil))))))))))))))))))))))
    (pss_cons (ps_for PassesOwn.never rfl (pi_range1 rfl T.n_range (pa_cons pe_int pa_nil)) (pg_name (i := 5) sc__law_refused_pairs.nd rfl (Or.inl rfl))
    (pss_cons (ps_set (i := 6) sc__law_refused_pairs.nd rfl (Or.inl rfl) (pe_ix ix_list (pv 4) (pe_call (ok__law_pick T) (hr.mono (by decide)) rfl T.g__law_pick T.F__law_pick.kp T.b__law_pick .nil pass0 (pa_cons (pv 0) (pa_cons pe_int pa_nil))) (fun _ _ => rfl)))
    (pss_one (ps_if (pt_not (pt_val (pe_call (ok__law_same T 5) (hr.mono (by decide)) rfl T.g__law_same T.F__law_same.kp T.b__law_same .nil pass0 (pa_cons (pe_call (ok__law_told T) hr rfl T.g__law_told T.F__law_told.kp T.b__law_told .nil pass0 (pa_cons (pe_op op_add pe_int (pe_op op_mul pe_int (pe_op op_fdivN (pv 5) pe_int))) (pa_cons (pv 1) (pa_cons pe_non (pa_cons (pv 6) pa_nil))))) (pa_cons (pe_lst (pa_cons pe_str (pa_cons pe_str pa_nil))) pa_nil))))) (pss_one (ps_ret pe_bl)) pss_nil))))
    (pss_one (ps_ret pe_bl))))), ?_⟩
    have qpr : p ≠ pr := hP.ne_tup hpr
    have lq : qs.length ≤ 200 := by rw [← Paired.length hq]; exact lp
    refine ⟨.ref t, rfl, t, ts, rfl, .inr hT, ?_⟩
    refine ⟨fun σ' H' => ∃ (L : Addr) (us : List V) (ds : List PyData), σ' = [some (.ref p), some (.ref t), some (.ref pr), some (.int ts.length), some (.ref L), none, none] ∧ Drawn p H H' ∧ H' L = some (.lst us) ∧ p ≠ L ∧ DpAll K (offP p H') us ds ∧ us.length = 20 ∧ ∀ d ∈ ds, pairsD ts.length d = false ∧ shortAll d, ?_, fun σ' H9 h => ?_⟩
    · have dA : Drawn p H H := Drawn.refl hP
      by_cases pne : pl = []
      · subst pne
        refine ⟨.ref pr, rfl, pr, _, rfl, .inr (.inl (.inl hpr)), fun l0 nl0 => ?_⟩
        have e1 : Same H (upd H l0 (.lst [])) := same_new nl0
        have hl0 : (upd H l0 (.lst [])) l0 = some (.lst []) := upd_same
        have ql0 : p ≠ l0 := dA.2.ne_none nl0
        generalize upd H l0 (.lst []) = G1 at e1 hl0 ⊢
        have dd1 := dA.same e1
        replace hpr := e1 _ _ hpr
        replace hq := PairsAt.grow e1 hq
        refine ⟨.ref pr, rfl, ?_⟩
        refine ⟨small' (by simp), fun t5 nt5 => ?_⟩
        have e2 : Same G1 (upd G1 t5 (.tup [.int 0])) := same_new nt5
        have ht5 : (upd G1 t5 (.tup [.int 0])) t5 = some (.tup [.int 0]) := upd_same
        have qt5 : p ≠ t5 := dd1.2.ne_none nt5
        generalize upd G1 t5 (.tup [.int 0]) = G2 at e2 ht5 ⊢
        have dd2 := dd1.same e2
        replace hpr := e2 _ _ hpr
        replace hl0 := e2 _ _ hl0
        replace hq := PairsAt.grow e2 hq
        refine ⟨pr, t5, [], [.int 0], rfl, rfl, .inl (.inl hpr), .inl (.inl ht5), small' (by simp), fun _ => ?_, fun z => absurd rfl z, fun z => absurd rfl z⟩
        refine ⟨.int ts.length, rfl, small' (by simp), fun u6 nu6 => ?_⟩
        have e3 : Same G2 (upd G2 u6 (.tup [.int 0, .int (ts.length : Int)])) := same_new nu6
        have hu6 : (upd G2 u6 (.tup [.int 0, .int (ts.length : Int)])) u6 = some (.tup [.int 0, .int (ts.length : Int)]) := upd_same
        have qu6 : p ≠ u6 := dd2.2.ne_none nu6
        generalize upd G2 u6 (.tup [.int 0, .int (ts.length : Int)]) = G3 at e3 hu6 ⊢
        have dd3 := dd2.same e3
        replace hpr := e3 _ _ hpr
        replace hl0 := e3 _ _ hl0
        replace ht5 := e3 _ _ ht5
        replace hq := PairsAt.grow e3 hq
        refine ⟨small' (by simp), fun t6 nt6 => ?_⟩
        have e4 : Same G3 (upd G3 t6 (.tup [.ref u6])) := same_new nt6
        have ht6 : (upd G3 t6 (.tup [.ref u6])) t6 = some (.tup [.ref u6]) := upd_same
        have qt6 : p ≠ t6 := dd3.2.ne_none nt6
        generalize upd G3 t6 (.tup [.ref u6]) = G4 at e4 ht6 ⊢
        have dd4 := dd3.same e4
        replace hpr := e4 _ _ hpr
        replace hl0 := e4 _ _ hl0
        replace ht5 := e4 _ _ ht5
        replace hu6 := e4 _ _ hu6
        replace hq := PairsAt.grow e4 hq
        refine ⟨.ref pr, rfl, ?_⟩
        refine ⟨t6, pr, [.ref u6], [], rfl, rfl, .inl (.inl ht6), .inl (.inl hpr), small' (by simp), fun z => absurd z (List.cons_ne_nil _ _), fun _ _ => ?_, fun _ z => absurd rfl z⟩
        refine ⟨.ref pr, rfl, ?_⟩
        refine ⟨1, rfl, small' (by simp), fun u7 nu7 => ?_⟩
        have e5 : Same G4 (upd G4 u7 (.tup [.int (-1), .int 0])) := same_new nu7
        have hu7 : (upd G4 u7 (.tup [.int (-1), .int 0])) u7 = some (.tup [.int (-1), .int 0]) := upd_same
        have qu7 : p ≠ u7 := dd4.2.ne_none nu7
        generalize upd G4 u7 (.tup [.int (-1), .int 0]) = G5 at e5 hu7 ⊢
        have dd5 := dd4.same e5
        replace hpr := e5 _ _ hpr
        replace hl0 := e5 _ _ hl0
        replace ht5 := e5 _ _ ht5
        replace hu6 := e5 _ _ hu6
        replace ht6 := e5 _ _ ht6
        replace hq := PairsAt.grow e5 hq
        refine ⟨small' (by simp), fun t7 nt7 => ?_⟩
        have e6 : Same G5 (upd G5 t7 (.tup [.ref u7])) := same_new nt7
        have ht7 : (upd G5 t7 (.tup [.ref u7])) t7 = some (.tup [.ref u7]) := upd_same
        have qt7 : p ≠ t7 := dd5.2.ne_none nt7
        generalize upd G5 t7 (.tup [.ref u7]) = G6 at e6 ht7 ⊢
        have dd6 := dd5.same e6
        replace hpr := e6 _ _ hpr
        replace hl0 := e6 _ _ hl0
        replace ht5 := e6 _ _ ht5
        replace hu6 := e6 _ _ hu6
        replace ht6 := e6 _ _ ht6
        replace hu7 := e6 _ _ hu7
        replace hq := PairsAt.grow e6 hq
        refine ⟨pr, t7, [], [.ref u7], rfl, rfl, .inl (.inl hpr), .inl (.inl ht7), small' (by simp), fun _ => ?_, fun z => absurd rfl z, fun z => absurd rfl z⟩
        refine ⟨.ref pr, rfl, ?_⟩
        refine ⟨small' (by simp), fun u8 nu8 => ?_⟩
        have e7 : Same G6 (upd G6 u8 (.tup [.int 0, .int 0, .int 0])) := same_new nu8
        have hu8 : (upd G6 u8 (.tup [.int 0, .int 0, .int 0])) u8 = some (.tup [.int 0, .int 0, .int 0]) := upd_same
        have qu8 : p ≠ u8 := dd6.2.ne_none nu8
        generalize upd G6 u8 (.tup [.int 0, .int 0, .int 0]) = G7 at e7 hu8 ⊢
        have dd7 := dd6.same e7
        replace hpr := e7 _ _ hpr
        replace hl0 := e7 _ _ hl0
        replace ht5 := e7 _ _ ht5
        replace hu6 := e7 _ _ hu6
        replace ht6 := e7 _ _ ht6
        replace hu7 := e7 _ _ hu7
        replace ht7 := e7 _ _ ht7
        replace hq := PairsAt.grow e7 hq
        refine ⟨small' (by simp), fun t8 nt8 => ?_⟩
        have e8 : Same G7 (upd G7 t8 (.tup [.ref u8])) := same_new nt8
        have ht8 : (upd G7 t8 (.tup [.ref u8])) t8 = some (.tup [.ref u8]) := upd_same
        have qt8 : p ≠ t8 := dd7.2.ne_none nt8
        generalize upd G7 t8 (.tup [.ref u8]) = G8 at e8 ht8 ⊢
        have dd8 := dd7.same e8
        replace hpr := e8 _ _ hpr
        replace hl0 := e8 _ _ hl0
        replace ht5 := e8 _ _ ht5
        replace hu6 := e8 _ _ hu6
        replace ht6 := e8 _ _ ht6
        replace hu7 := e8 _ _ hu7
        replace ht7 := e8 _ _ ht7
        replace hu8 := e8 _ _ hu8
        replace hq := PairsAt.grow e8 hq
        refine ⟨pr, t8, [], [.ref u8], rfl, rfl, .inl (.inl hpr), .inl (.inl ht8), small' (by simp), fun _ => ?_, fun z => absurd rfl z, fun z => absurd rfl z⟩
        refine ⟨small' (by simp), fun u9 nu9 => ?_⟩
        have e9 : Same G8 (upd G8 u9 (.tup [.bl true, .int 0])) := same_new nu9
        have hu9 : (upd G8 u9 (.tup [.bl true, .int 0])) u9 = some (.tup [.bl true, .int 0]) := upd_same
        have qu9 : p ≠ u9 := dd8.2.ne_none nu9
        generalize upd G8 u9 (.tup [.bl true, .int 0]) = G9 at e9 hu9 ⊢
        have dd9 := dd8.same e9
        replace hpr := e9 _ _ hpr
        replace hl0 := e9 _ _ hl0
        replace ht5 := e9 _ _ ht5
        replace hu6 := e9 _ _ hu6
        replace ht6 := e9 _ _ ht6
        replace hu7 := e9 _ _ hu7
        replace ht7 := e9 _ _ ht7
        replace hu8 := e9 _ _ hu8
        replace ht8 := e9 _ _ ht8
        replace hq := PairsAt.grow e9 hq
        refine ⟨small' (by simp), fun t9 nt9 => ?_⟩
        have e10 : Same G9 (upd G9 t9 (.tup [.ref u9])) := same_new nt9
        have ht9 : (upd G9 t9 (.tup [.ref u9])) t9 = some (.tup [.ref u9]) := upd_same
        have qt9 : p ≠ t9 := dd9.2.ne_none nt9
        generalize upd G9 t9 (.tup [.ref u9]) = G10 at e10 ht9 ⊢
        have dd10 := dd9.same e10
        replace hpr := e10 _ _ hpr
        replace hl0 := e10 _ _ hl0
        replace ht5 := e10 _ _ ht5
        replace hu6 := e10 _ _ hu6
        replace ht6 := e10 _ _ ht6
        replace hu7 := e10 _ _ hu7
        replace ht7 := e10 _ _ ht7
        replace hu8 := e10 _ _ hu8
        replace ht8 := e10 _ _ ht8
        replace hu9 := e10 _ _ hu9
        replace hq := PairsAt.grow e10 hq
        refine ⟨.ref pr, rfl, ?_⟩
        refine ⟨t9, pr, [.ref u9], [], rfl, rfl, .inl (.inl ht9), .inl (.inl hpr), small' (by simp), fun z => absurd z (List.cons_ne_nil _ _), fun _ _ => ?_, fun _ z => absurd rfl z⟩
        refine ⟨.ref pr, rfl, ?_⟩
        refine ⟨small' (by simp), fun u10 nu10 => ?_⟩
        have e11 : Same G10 (upd G10 u10 (.tup [.int 0, .bl false])) := same_new nu10
        have hu10 : (upd G10 u10 (.tup [.int 0, .bl false])) u10 = some (.tup [.int 0, .bl false]) := upd_same
        have qu10 : p ≠ u10 := dd10.2.ne_none nu10
        generalize upd G10 u10 (.tup [.int 0, .bl false]) = G11 at e11 hu10 ⊢
        have dd11 := dd10.same e11
        replace hpr := e11 _ _ hpr
        replace hl0 := e11 _ _ hl0
        replace ht5 := e11 _ _ ht5
        replace hu6 := e11 _ _ hu6
        replace ht6 := e11 _ _ ht6
        replace hu7 := e11 _ _ hu7
        replace ht7 := e11 _ _ ht7
        replace hu8 := e11 _ _ hu8
        replace ht8 := e11 _ _ ht8
        replace hu9 := e11 _ _ hu9
        replace ht9 := e11 _ _ ht9
        replace hq := PairsAt.grow e11 hq
        refine ⟨small' (by simp), fun t10 nt10 => ?_⟩
        have e12 : Same G11 (upd G11 t10 (.tup [.ref u10])) := same_new nt10
        have ht10 : (upd G11 t10 (.tup [.ref u10])) t10 = some (.tup [.ref u10]) := upd_same
        have qt10 : p ≠ t10 := dd11.2.ne_none nt10
        generalize upd G11 t10 (.tup [.ref u10]) = G12 at e12 ht10 ⊢
        have dd12 := dd11.same e12
        replace hpr := e12 _ _ hpr
        replace hl0 := e12 _ _ hl0
        replace ht5 := e12 _ _ ht5
        replace hu6 := e12 _ _ hu6
        replace ht6 := e12 _ _ ht6
        replace hu7 := e12 _ _ hu7
        replace ht7 := e12 _ _ ht7
        replace hu8 := e12 _ _ hu8
        replace ht8 := e12 _ _ ht8
        replace hu9 := e12 _ _ hu9
        replace ht9 := e12 _ _ ht9
        replace hu10 := e12 _ _ hu10
        replace hq := PairsAt.grow e12 hq
        refine ⟨pr, t10, [], [.ref u10], rfl, rfl, .inl (.inl hpr), .inl (.inl ht10), small' (by simp), fun _ => ?_, fun z => absurd rfl z, fun z => absurd rfl z⟩
        refine ⟨.ref pr, rfl, ?_⟩
        refine ⟨small' (by simp), fun u11 nu11 => ?_⟩
        have e13 : Same G12 (upd G12 u11 (.lst [.int 0, .int 0])) := same_new nu11
        have hu11 : (upd G12 u11 (.lst [.int 0, .int 0])) u11 = some (.lst [.int 0, .int 0]) := upd_same
        have qu11 : p ≠ u11 := dd12.2.ne_none nu11
        generalize upd G12 u11 (.lst [.int 0, .int 0]) = G13 at e13 hu11 ⊢
        have dd13 := dd12.same e13
        replace hpr := e13 _ _ hpr
        replace hl0 := e13 _ _ hl0
        replace ht5 := e13 _ _ ht5
        replace hu6 := e13 _ _ hu6
        replace ht6 := e13 _ _ ht6
        replace hu7 := e13 _ _ hu7
        replace ht7 := e13 _ _ ht7
        replace hu8 := e13 _ _ hu8
        replace ht8 := e13 _ _ ht8
        replace hu9 := e13 _ _ hu9
        replace ht9 := e13 _ _ ht9
        replace hu10 := e13 _ _ hu10
        replace ht10 := e13 _ _ ht10
        replace hq := PairsAt.grow e13 hq
        refine ⟨small' (by simp), fun t11 nt11 => ?_⟩
        have e14 : Same G13 (upd G13 t11 (.tup [.ref u11])) := same_new nt11
        have ht11 : (upd G13 t11 (.tup [.ref u11])) t11 = some (.tup [.ref u11]) := upd_same
        have qt11 : p ≠ t11 := dd13.2.ne_none nt11
        generalize upd G13 t11 (.tup [.ref u11]) = G14 at e14 ht11 ⊢
        have dd14 := dd13.same e14
        replace hpr := e14 _ _ hpr
        replace hl0 := e14 _ _ hl0
        replace ht5 := e14 _ _ ht5
        replace hu6 := e14 _ _ hu6
        replace ht6 := e14 _ _ ht6
        replace hu7 := e14 _ _ hu7
        replace ht7 := e14 _ _ ht7
        replace hu8 := e14 _ _ hu8
        replace ht8 := e14 _ _ ht8
        replace hu9 := e14 _ _ hu9
        replace ht9 := e14 _ _ ht9
        replace hu10 := e14 _ _ hu10
        replace ht10 := e14 _ _ ht10
        replace hu11 := e14 _ _ hu11
        replace hq := PairsAt.grow e14 hq
        refine ⟨pr, t11, [], [.ref u11], rfl, rfl, .inl (.inl hpr), .inl (.inl ht11), small' (by simp), fun _ => ?_, fun z => absurd rfl z, fun z => absurd rfl z⟩
        refine ⟨.ref pr, rfl, ?_⟩
        refine ⟨small' (by simp), fun u12 nu12 => ?_⟩
        have e15 : Same G14 (upd G14 u12 (.tup [.int 0])) := same_new nu12
        have hu12 : (upd G14 u12 (.tup [.int 0])) u12 = some (.tup [.int 0]) := upd_same
        have qu12 : p ≠ u12 := dd14.2.ne_none nu12
        generalize upd G14 u12 (.tup [.int 0]) = G15 at e15 hu12 ⊢
        have dd15 := dd14.same e15
        replace hpr := e15 _ _ hpr
        replace hl0 := e15 _ _ hl0
        replace ht5 := e15 _ _ ht5
        replace hu6 := e15 _ _ hu6
        replace ht6 := e15 _ _ ht6
        replace hu7 := e15 _ _ hu7
        replace ht7 := e15 _ _ ht7
        replace hu8 := e15 _ _ hu8
        replace ht8 := e15 _ _ ht8
        replace hu9 := e15 _ _ hu9
        replace ht9 := e15 _ _ ht9
        replace hu10 := e15 _ _ hu10
        replace ht10 := e15 _ _ ht10
        replace hu11 := e15 _ _ hu11
        replace ht11 := e15 _ _ ht11
        replace hq := PairsAt.grow e15 hq
        refine ⟨small' (by simp), fun t12 nt12 => ?_⟩
        have e16 : Same G15 (upd G15 t12 (.tup [.ref u12])) := same_new nt12
        have ht12 : (upd G15 t12 (.tup [.ref u12])) t12 = some (.tup [.ref u12]) := upd_same
        have qt12 : p ≠ t12 := dd15.2.ne_none nt12
        generalize upd G15 t12 (.tup [.ref u12]) = G16 at e16 ht12 ⊢
        have dd16 := dd15.same e16
        replace hpr := e16 _ _ hpr
        replace hl0 := e16 _ _ hl0
        replace ht5 := e16 _ _ ht5
        replace hu6 := e16 _ _ hu6
        replace ht6 := e16 _ _ ht6
        replace hu7 := e16 _ _ hu7
        replace ht7 := e16 _ _ ht7
        replace hu8 := e16 _ _ hu8
        replace ht8 := e16 _ _ ht8
        replace hu9 := e16 _ _ hu9
        replace ht9 := e16 _ _ ht9
        replace hu10 := e16 _ _ hu10
        replace ht10 := e16 _ _ ht10
        replace hu11 := e16 _ _ hu11
        replace ht11 := e16 _ _ ht11
        replace hu12 := e16 _ _ hu12
        replace hq := PairsAt.grow e16 hq
        refine ⟨pr, t12, [], [.ref u12], rfl, rfl, .inl (.inl hpr), .inl (.inl ht12), small' (by simp), fun _ => ?_, fun z => absurd rfl z, fun z => absurd rfl z⟩
        refine ⟨.ref pr, rfl, ?_⟩
        refine ⟨small' (by simp), fun u13 nu13 => ?_⟩
        have e17 : Same G16 (upd G16 u13 (.tup [])) := same_new nu13
        have hu13 : (upd G16 u13 (.tup [])) u13 = some (.tup []) := upd_same
        have qu13 : p ≠ u13 := dd16.2.ne_none nu13
        generalize upd G16 u13 (.tup []) = G17 at e17 hu13 ⊢
        have dd17 := dd16.same e17
        replace hpr := e17 _ _ hpr
        replace hl0 := e17 _ _ hl0
        replace ht5 := e17 _ _ ht5
        replace hu6 := e17 _ _ hu6
        replace ht6 := e17 _ _ ht6
        replace hu7 := e17 _ _ hu7
        replace ht7 := e17 _ _ ht7
        replace hu8 := e17 _ _ hu8
        replace ht8 := e17 _ _ ht8
        replace hu9 := e17 _ _ hu9
        replace ht9 := e17 _ _ ht9
        replace hu10 := e17 _ _ hu10
        replace ht10 := e17 _ _ ht10
        replace hu11 := e17 _ _ hu11
        replace ht11 := e17 _ _ ht11
        replace hu12 := e17 _ _ hu12
        replace ht12 := e17 _ _ ht12
        replace hq := PairsAt.grow e17 hq
        refine ⟨small' (by simp), fun t13 nt13 => ?_⟩
        have e18 : Same G17 (upd G17 t13 (.tup [.ref u13])) := same_new nt13
        have ht13 : (upd G17 t13 (.tup [.ref u13])) t13 = some (.tup [.ref u13]) := upd_same
        have qt13 : p ≠ t13 := dd17.2.ne_none nt13
        generalize upd G17 t13 (.tup [.ref u13]) = G18 at e18 ht13 ⊢
        have dd18 := dd17.same e18
        replace hpr := e18 _ _ hpr
        replace hl0 := e18 _ _ hl0
        replace ht5 := e18 _ _ ht5
        replace hu6 := e18 _ _ hu6
        replace ht6 := e18 _ _ ht6
        replace hu7 := e18 _ _ hu7
        replace ht7 := e18 _ _ ht7
        replace hu8 := e18 _ _ hu8
        replace ht8 := e18 _ _ ht8
        replace hu9 := e18 _ _ hu9
        replace ht9 := e18 _ _ ht9
        replace hu10 := e18 _ _ hu10
        replace ht10 := e18 _ _ ht10
        replace hu11 := e18 _ _ hu11
        replace ht11 := e18 _ _ ht11
        replace hu12 := e18 _ _ hu12
        replace ht12 := e18 _ _ ht12
        replace hu13 := e18 _ _ hu13
        replace hq := PairsAt.grow e18 hq
        refine ⟨pr, t13, [], [.ref u13], rfl, rfl, .inl (.inl hpr), .inl (.inl ht13), small' (by simp), fun _ => ?_, fun z => absurd rfl z, fun z => absurd rfl z⟩
        refine ⟨small' (by simp), fun t14 nt14 => ?_⟩
        have e19 : Same G18 (upd G18 t14 (.tup [.non])) := same_new nt14
        have ht14 : (upd G18 t14 (.tup [.non])) t14 = some (.tup [.non]) := upd_same
        have qt14 : p ≠ t14 := dd18.2.ne_none nt14
        generalize upd G18 t14 (.tup [.non]) = G19 at e19 ht14 ⊢
        have dd19 := dd18.same e19
        replace hpr := e19 _ _ hpr
        replace hl0 := e19 _ _ hl0
        replace ht5 := e19 _ _ ht5
        replace hu6 := e19 _ _ hu6
        replace ht6 := e19 _ _ ht6
        replace hu7 := e19 _ _ hu7
        replace ht7 := e19 _ _ ht7
        replace hu8 := e19 _ _ hu8
        replace ht8 := e19 _ _ ht8
        replace hu9 := e19 _ _ hu9
        replace ht9 := e19 _ _ ht9
        replace hu10 := e19 _ _ hu10
        replace ht10 := e19 _ _ ht10
        replace hu11 := e19 _ _ hu11
        replace ht11 := e19 _ _ ht11
        replace hu12 := e19 _ _ hu12
        replace ht12 := e19 _ _ ht12
        replace hu13 := e19 _ _ hu13
        replace ht13 := e19 _ _ ht13
        replace hq := PairsAt.grow e19 hq
        refine ⟨.ref pr, rfl, ?_⟩
        refine ⟨small' (by simp), fun u15 nu15 => ?_⟩
        have e20 : Same G19 (upd G19 u15 (.tup [.str "0", .int 0])) := same_new nu15
        have hu15 : (upd G19 u15 (.tup [.str "0", .int 0])) u15 = some (.tup [.str "0", .int 0]) := upd_same
        have qu15 : p ≠ u15 := dd19.2.ne_none nu15
        generalize upd G19 u15 (.tup [.str "0", .int 0]) = G20 at e20 hu15 ⊢
        have dd20 := dd19.same e20
        replace hpr := e20 _ _ hpr
        replace hl0 := e20 _ _ hl0
        replace ht5 := e20 _ _ ht5
        replace hu6 := e20 _ _ hu6
        replace ht6 := e20 _ _ ht6
        replace hu7 := e20 _ _ hu7
        replace ht7 := e20 _ _ ht7
        replace hu8 := e20 _ _ hu8
        replace ht8 := e20 _ _ ht8
        replace hu9 := e20 _ _ hu9
        replace ht9 := e20 _ _ ht9
        replace hu10 := e20 _ _ hu10
        replace ht10 := e20 _ _ ht10
        replace hu11 := e20 _ _ hu11
        replace ht11 := e20 _ _ ht11
        replace hu12 := e20 _ _ hu12
        replace ht12 := e20 _ _ ht12
        replace hu13 := e20 _ _ hu13
        replace ht13 := e20 _ _ ht13
        replace ht14 := e20 _ _ ht14
        replace hq := PairsAt.grow e20 hq
        refine ⟨small' (by simp), fun t15 nt15 => ?_⟩
        have e21 : Same G20 (upd G20 t15 (.tup [.ref u15])) := same_new nt15
        have ht15 : (upd G20 t15 (.tup [.ref u15])) t15 = some (.tup [.ref u15]) := upd_same
        have qt15 : p ≠ t15 := dd20.2.ne_none nt15
        generalize upd G20 t15 (.tup [.ref u15]) = G21 at e21 ht15 ⊢
        have dd21 := dd20.same e21
        replace hpr := e21 _ _ hpr
        replace hl0 := e21 _ _ hl0
        replace ht5 := e21 _ _ ht5
        replace hu6 := e21 _ _ hu6
        replace ht6 := e21 _ _ ht6
        replace hu7 := e21 _ _ hu7
        replace ht7 := e21 _ _ ht7
        replace hu8 := e21 _ _ hu8
        replace ht8 := e21 _ _ ht8
        replace hu9 := e21 _ _ hu9
        replace ht9 := e21 _ _ ht9
        replace hu10 := e21 _ _ hu10
        replace ht10 := e21 _ _ ht10
        replace hu11 := e21 _ _ hu11
        replace ht11 := e21 _ _ ht11
        replace hu12 := e21 _ _ hu12
        replace ht12 := e21 _ _ ht12
        replace hu13 := e21 _ _ hu13
        replace ht13 := e21 _ _ ht13
        replace ht14 := e21 _ _ ht14
        replace hu15 := e21 _ _ hu15
        replace hq := PairsAt.grow e21 hq
        refine ⟨pr, t15, [], [.ref u15], rfl, rfl, .inl (.inl hpr), .inl (.inl ht15), small' (by simp), fun _ => ?_, fun z => absurd rfl z, fun z => absurd rfl z⟩
        refine ⟨.ref pr, rfl, ?_⟩
        refine ⟨small' (by simp), fun u16 nu16 => ?_⟩
        have e22 : Same G21 (upd G21 u16 (.tup [.int 0, .non])) := same_new nu16
        have hu16 : (upd G21 u16 (.tup [.int 0, .non])) u16 = some (.tup [.int 0, .non]) := upd_same
        have qu16 : p ≠ u16 := dd21.2.ne_none nu16
        generalize upd G21 u16 (.tup [.int 0, .non]) = G22 at e22 hu16 ⊢
        have dd22 := dd21.same e22
        replace hpr := e22 _ _ hpr
        replace hl0 := e22 _ _ hl0
        replace ht5 := e22 _ _ ht5
        replace hu6 := e22 _ _ hu6
        replace ht6 := e22 _ _ ht6
        replace hu7 := e22 _ _ hu7
        replace ht7 := e22 _ _ ht7
        replace hu8 := e22 _ _ hu8
        replace ht8 := e22 _ _ ht8
        replace hu9 := e22 _ _ hu9
        replace ht9 := e22 _ _ ht9
        replace hu10 := e22 _ _ hu10
        replace ht10 := e22 _ _ ht10
        replace hu11 := e22 _ _ hu11
        replace ht11 := e22 _ _ ht11
        replace hu12 := e22 _ _ hu12
        replace ht12 := e22 _ _ ht12
        replace hu13 := e22 _ _ hu13
        replace ht13 := e22 _ _ ht13
        replace ht14 := e22 _ _ ht14
        replace hu15 := e22 _ _ hu15
        replace ht15 := e22 _ _ ht15
        replace hq := PairsAt.grow e22 hq
        refine ⟨small' (by simp), fun t16 nt16 => ?_⟩
        have e23 : Same G22 (upd G22 t16 (.tup [.ref u16])) := same_new nt16
        have ht16 : (upd G22 t16 (.tup [.ref u16])) t16 = some (.tup [.ref u16]) := upd_same
        have qt16 : p ≠ t16 := dd22.2.ne_none nt16
        generalize upd G22 t16 (.tup [.ref u16]) = G23 at e23 ht16 ⊢
        have dd23 := dd22.same e23
        replace hpr := e23 _ _ hpr
        replace hl0 := e23 _ _ hl0
        replace ht5 := e23 _ _ ht5
        replace hu6 := e23 _ _ hu6
        replace ht6 := e23 _ _ ht6
        replace hu7 := e23 _ _ hu7
        replace ht7 := e23 _ _ ht7
        replace hu8 := e23 _ _ hu8
        replace ht8 := e23 _ _ ht8
        replace hu9 := e23 _ _ hu9
        replace ht9 := e23 _ _ ht9
        replace hu10 := e23 _ _ hu10
        replace ht10 := e23 _ _ ht10
        replace hu11 := e23 _ _ hu11
        replace ht11 := e23 _ _ ht11
        replace hu12 := e23 _ _ hu12
        replace ht12 := e23 _ _ ht12
        replace hu13 := e23 _ _ hu13
        replace ht13 := e23 _ _ ht13
        replace ht14 := e23 _ _ ht14
        replace hu15 := e23 _ _ hu15
        replace ht15 := e23 _ _ ht15
        replace hu16 := e23 _ _ hu16
        replace hq := PairsAt.grow e23 hq
        refine ⟨pr, t16, [], [.ref u16], rfl, rfl, .inl (.inl hpr), .inl (.inl ht16), small' (by simp), fun _ => ?_, fun z => absurd rfl z, fun z => absurd rfl z⟩
        refine ⟨.ref pr, rfl, ?_⟩
        refine ⟨small' (by simp), fun t17 nt17 => ?_⟩
        have e24 : Same G23 (upd G23 t17 (.tup [.str "00"])) := same_new nt17
        have ht17 : (upd G23 t17 (.tup [.str "00"])) t17 = some (.tup [.str "00"]) := upd_same
        have qt17 : p ≠ t17 := dd23.2.ne_none nt17
        generalize upd G23 t17 (.tup [.str "00"]) = G24 at e24 ht17 ⊢
        have dd24 := dd23.same e24
        replace hpr := e24 _ _ hpr
        replace hl0 := e24 _ _ hl0
        replace ht5 := e24 _ _ ht5
        replace hu6 := e24 _ _ hu6
        replace ht6 := e24 _ _ ht6
        replace hu7 := e24 _ _ hu7
        replace ht7 := e24 _ _ ht7
        replace hu8 := e24 _ _ hu8
        replace ht8 := e24 _ _ ht8
        replace hu9 := e24 _ _ hu9
        replace ht9 := e24 _ _ ht9
        replace hu10 := e24 _ _ hu10
        replace ht10 := e24 _ _ ht10
        replace hu11 := e24 _ _ hu11
        replace ht11 := e24 _ _ ht11
        replace hu12 := e24 _ _ hu12
        replace ht12 := e24 _ _ ht12
        replace hu13 := e24 _ _ hu13
        replace ht13 := e24 _ _ ht13
        replace ht14 := e24 _ _ ht14
        replace hu15 := e24 _ _ hu15
        replace ht15 := e24 _ _ ht15
        replace hu16 := e24 _ _ hu16
        replace ht16 := e24 _ _ ht16
        replace hq := PairsAt.grow e24 hq
        refine ⟨pr, t17, [], [.str "00"], rfl, rfl, .inl (.inl hpr), .inl (.inl ht17), small' (by simp), fun _ => ?_, fun z => absurd rfl z, fun z => absurd rfl z⟩
        refine ⟨.int ts.length, rfl, small' (by simp), fun u18 nu18 => ?_⟩
        have e25 : Same G24 (upd G24 u18 (.tup [.int (ts.length : Int), .int 0])) := same_new nu18
        have hu18 : (upd G24 u18 (.tup [.int (ts.length : Int), .int 0])) u18 = some (.tup [.int (ts.length : Int), .int 0]) := upd_same
        have qu18 : p ≠ u18 := dd24.2.ne_none nu18
        generalize upd G24 u18 (.tup [.int (ts.length : Int), .int 0]) = G25 at e25 hu18 ⊢
        have dd25 := dd24.same e25
        replace hpr := e25 _ _ hpr
        replace hl0 := e25 _ _ hl0
        replace ht5 := e25 _ _ ht5
        replace hu6 := e25 _ _ hu6
        replace ht6 := e25 _ _ ht6
        replace hu7 := e25 _ _ hu7
        replace ht7 := e25 _ _ ht7
        replace hu8 := e25 _ _ hu8
        replace ht8 := e25 _ _ ht8
        replace hu9 := e25 _ _ hu9
        replace ht9 := e25 _ _ ht9
        replace hu10 := e25 _ _ hu10
        replace ht10 := e25 _ _ ht10
        replace hu11 := e25 _ _ hu11
        replace ht11 := e25 _ _ ht11
        replace hu12 := e25 _ _ hu12
        replace ht12 := e25 _ _ ht12
        replace hu13 := e25 _ _ hu13
        replace ht13 := e25 _ _ ht13
        replace ht14 := e25 _ _ ht14
        replace hu15 := e25 _ _ hu15
        replace ht15 := e25 _ _ ht15
        replace hu16 := e25 _ _ hu16
        replace ht16 := e25 _ _ ht16
        replace ht17 := e25 _ _ ht17
        replace hq := PairsAt.grow e25 hq
        refine ⟨small' (by simp), fun t18 nt18 => ?_⟩
        have e26 : Same G25 (upd G25 t18 (.tup [.ref u18])) := same_new nt18
        have ht18 : (upd G25 t18 (.tup [.ref u18])) t18 = some (.tup [.ref u18]) := upd_same
        have qt18 : p ≠ t18 := dd25.2.ne_none nt18
        generalize upd G25 t18 (.tup [.ref u18]) = G26 at e26 ht18 ⊢
        have dd26 := dd25.same e26
        replace hpr := e26 _ _ hpr
        replace hl0 := e26 _ _ hl0
        replace ht5 := e26 _ _ ht5
        replace hu6 := e26 _ _ hu6
        replace ht6 := e26 _ _ ht6
        replace hu7 := e26 _ _ hu7
        replace ht7 := e26 _ _ ht7
        replace hu8 := e26 _ _ hu8
        replace ht8 := e26 _ _ ht8
        replace hu9 := e26 _ _ hu9
        replace ht9 := e26 _ _ ht9
        replace hu10 := e26 _ _ hu10
        replace ht10 := e26 _ _ ht10
        replace hu11 := e26 _ _ hu11
        replace ht11 := e26 _ _ ht11
        replace hu12 := e26 _ _ hu12
        replace ht12 := e26 _ _ ht12
        replace hu13 := e26 _ _ hu13
        replace ht13 := e26 _ _ ht13
        replace ht14 := e26 _ _ ht14
        replace hu15 := e26 _ _ hu15
        replace ht15 := e26 _ _ ht15
        replace hu16 := e26 _ _ hu16
        replace ht16 := e26 _ _ ht16
        replace ht17 := e26 _ _ ht17
        replace hu18 := e26 _ _ hu18
        replace hq := PairsAt.grow e26 hq
        refine ⟨small' (by simp), fun u19 nu19 => ?_⟩
        have e27 : Same G26 (upd G26 u19 (.tup [.int 0, .int 0])) := same_new nu19
        have hu19 : (upd G26 u19 (.tup [.int 0, .int 0])) u19 = some (.tup [.int 0, .int 0]) := upd_same
        have qu19 : p ≠ u19 := dd26.2.ne_none nu19
        generalize upd G26 u19 (.tup [.int 0, .int 0]) = G27 at e27 hu19 ⊢
        have dd27 := dd26.same e27
        replace hpr := e27 _ _ hpr
        replace hl0 := e27 _ _ hl0
        replace ht5 := e27 _ _ ht5
        replace hu6 := e27 _ _ hu6
        replace ht6 := e27 _ _ ht6
        replace hu7 := e27 _ _ hu7
        replace ht7 := e27 _ _ ht7
        replace hu8 := e27 _ _ hu8
        replace ht8 := e27 _ _ ht8
        replace hu9 := e27 _ _ hu9
        replace ht9 := e27 _ _ ht9
        replace hu10 := e27 _ _ hu10
        replace ht10 := e27 _ _ ht10
        replace hu11 := e27 _ _ hu11
        replace ht11 := e27 _ _ ht11
        replace hu12 := e27 _ _ hu12
        replace ht12 := e27 _ _ ht12
        replace hu13 := e27 _ _ hu13
        replace ht13 := e27 _ _ ht13
        replace ht14 := e27 _ _ ht14
        replace hu15 := e27 _ _ hu15
        replace ht15 := e27 _ _ ht15
        replace hu16 := e27 _ _ hu16
        replace ht16 := e27 _ _ ht16
        replace ht17 := e27 _ _ ht17
        replace hu18 := e27 _ _ hu18
        replace ht18 := e27 _ _ ht18
        replace hq := PairsAt.grow e27 hq
        refine ⟨small' (by simp), fun l19 nl19 => ?_⟩
        have e28 : Same G27 (upd G27 l19 (.lst [.ref u19])) := same_new nl19
        have hl19 : (upd G27 l19 (.lst [.ref u19])) l19 = some (.lst [.ref u19]) := upd_same
        have ql19 : p ≠ l19 := dd27.2.ne_none nl19
        generalize upd G27 l19 (.lst [.ref u19]) = G28 at e28 hl19 ⊢
        have dd28 := dd27.same e28
        replace hpr := e28 _ _ hpr
        replace hl0 := e28 _ _ hl0
        replace ht5 := e28 _ _ ht5
        replace hu6 := e28 _ _ hu6
        replace ht6 := e28 _ _ ht6
        replace hu7 := e28 _ _ hu7
        replace ht7 := e28 _ _ ht7
        replace hu8 := e28 _ _ hu8
        replace ht8 := e28 _ _ ht8
        replace hu9 := e28 _ _ hu9
        replace ht9 := e28 _ _ ht9
        replace hu10 := e28 _ _ hu10
        replace ht10 := e28 _ _ ht10
        replace hu11 := e28 _ _ hu11
        replace ht11 := e28 _ _ ht11
        replace hu12 := e28 _ _ hu12
        replace ht12 := e28 _ _ ht12
        replace hu13 := e28 _ _ hu13
        replace ht13 := e28 _ _ ht13
        replace ht14 := e28 _ _ ht14
        replace hu15 := e28 _ _ hu15
        replace ht15 := e28 _ _ ht15
        replace hu16 := e28 _ _ hu16
        replace ht16 := e28 _ _ ht16
        replace ht17 := e28 _ _ ht17
        replace hu18 := e28 _ _ hu18
        replace ht18 := e28 _ _ ht18
        replace hu19 := e28 _ _ hu19
        replace hq := PairsAt.grow e28 hq
        refine ⟨small' (by simp), fun L nL => ?_⟩
        have e29 : Same G28 (upd G28 L (.lst [.ref l0, .non, .int 0, .str "01", .bl true, .ref t5, .ref t6, .ref t7, .ref t8, .ref t9, .ref t10, .ref t11, .ref t12, .ref t13, .ref t14, .ref t15, .ref t16, .ref t17, .ref t18, .ref l19])) := same_new nL
        have hL : (upd G28 L (.lst [.ref l0, .non, .int 0, .str "01", .bl true, .ref t5, .ref t6, .ref t7, .ref t8, .ref t9, .ref t10, .ref t11, .ref t12, .ref t13, .ref t14, .ref t15, .ref t16, .ref t17, .ref t18, .ref l19])) L = some (.lst [.ref l0, .non, .int 0, .str "01", .bl true, .ref t5, .ref t6, .ref t7, .ref t8, .ref t9, .ref t10, .ref t11, .ref t12, .ref t13, .ref t14, .ref t15, .ref t16, .ref t17, .ref t18, .ref l19]) := upd_same
        have qL : p ≠ L := dd28.2.ne_none nL
        generalize upd G28 L (.lst [.ref l0, .non, .int 0, .str "01", .bl true, .ref t5, .ref t6, .ref t7, .ref t8, .ref t9, .ref t10, .ref t11, .ref t12, .ref t13, .ref t14, .ref t15, .ref t16, .ref t17, .ref t18, .ref l19]) = G29 at e29 hL ⊢
        have dd29 := dd28.same e29
        replace hpr := e29 _ _ hpr
        replace hl0 := e29 _ _ hl0
        replace ht5 := e29 _ _ ht5
        replace hu6 := e29 _ _ hu6
        replace ht6 := e29 _ _ ht6
        replace hu7 := e29 _ _ hu7
        replace ht7 := e29 _ _ ht7
        replace hu8 := e29 _ _ hu8
        replace ht8 := e29 _ _ ht8
        replace hu9 := e29 _ _ hu9
        replace ht9 := e29 _ _ ht9
        replace hu10 := e29 _ _ hu10
        replace ht10 := e29 _ _ ht10
        replace hu11 := e29 _ _ hu11
        replace ht11 := e29 _ _ ht11
        replace hu12 := e29 _ _ hu12
        replace ht12 := e29 _ _ ht12
        replace hu13 := e29 _ _ hu13
        replace ht13 := e29 _ _ ht13
        replace ht14 := e29 _ _ ht14
        replace hu15 := e29 _ _ hu15
        replace ht15 := e29 _ _ ht15
        replace hu16 := e29 _ _ hu16
        replace ht16 := e29 _ _ ht16
        replace ht17 := e29 _ _ ht17
        replace hu18 := e29 _ _ hu18
        replace ht18 := e29 _ _ ht18
        replace hu19 := e29 _ _ hu19
        replace hl19 := e29 _ _ hl19
        replace hq := PairsAt.grow e29 hq
        refine ⟨L, _, _, rfl, dd29, hL, qL, .cons (.lst (.inl (.inl (offP_at ql0 hl0))) (.nil)) (.cons (.non) (.cons (.int _) (.cons (.str _) (.cons (.bl _) (.cons (.tup (.inl (.inl (offP_at qt5 ht5))) (.cons (.int _) .nil)) (.cons (.tup (.inl (.inl (offP_at qt6 ht6))) (.cons (.tup (.inl (.inl (offP_at qu6 hu6))) (.cons (.int _) (.cons (.int _) (.nil)))) .nil)) (.cons (.tup (.inl (.inl (offP_at qt7 ht7))) (.cons (.tup (.inl (.inl (offP_at qu7 hu7))) (.cons (.int _) (.cons (.int _) (.nil)))) .nil)) (.cons (.tup (.inl (.inl (offP_at qt8 ht8))) (.cons (.tup (.inl (.inl (offP_at qu8 hu8))) (.cons (.int _) (.cons (.int _) (.cons (.int _) (.nil))))) .nil)) (.cons (.tup (.inl (.inl (offP_at qt9 ht9))) (.cons (.tup (.inl (.inl (offP_at qu9 hu9))) (.cons (.bl _) (.cons (.int _) (.nil)))) .nil)) (.cons (.tup (.inl (.inl (offP_at qt10 ht10))) (.cons (.tup (.inl (.inl (offP_at qu10 hu10))) (.cons (.int _) (.cons (.bl _) (.nil)))) .nil)) (.cons (.tup (.inl (.inl (offP_at qt11 ht11))) (.cons (.lst (.inl (.inl (offP_at qu11 hu11))) (.cons (.int _) (.cons (.int _) (.nil)))) .nil)) (.cons (.tup (.inl (.inl (offP_at qt12 ht12))) (.cons (.tup (.inl (.inl (offP_at qu12 hu12))) (.cons (.int _) (.nil))) .nil)) (.cons (.tup (.inl (.inl (offP_at qt13 ht13))) (.cons (.tup (.inl (.inl (offP_at qu13 hu13))) (.nil)) .nil)) (.cons (.tup (.inl (.inl (offP_at qt14 ht14))) (.cons .non .nil)) (.cons (.tup (.inl (.inl (offP_at qt15 ht15))) (.cons (.tup (.inl (.inl (offP_at qu15 hu15))) (.cons (.str _) (.cons (.int _) (.nil)))) .nil)) (.cons (.tup (.inl (.inl (offP_at qt16 ht16))) (.cons (.tup (.inl (.inl (offP_at qu16 hu16))) (.cons (.int _) (.cons (.non) (.nil)))) .nil)) (.cons (.tup (.inl (.inl (offP_at qt17 ht17))) (.cons (.str _) .nil)) (.cons (.tup (.inl (.inl (offP_at qt18 ht18))) (.cons (.tup (.inl (.inl (offP_at qu18 hu18))) (.cons (.int _) (.cons (.int _) (.nil)))) .nil)) (.cons (.lst (.inl (.inl (offP_at ql19 hl19))) (.cons (.tup (.inl (.inl (offP_at qu19 hu19))) (.cons (.int _) (.cons (.int _) (.nil)))) .nil)) (.nil)))))))))))))))))))), rfl, fun d hd => ?_⟩
        simp only [List.mem_cons, List.not_mem_nil, or_false] at hd
        rcases hd with rfl | rfl | rfl | rfl | rfl | rfl | rfl | rfl | rfl | rfl | rfl | rfl | rfl | rfl | rfl | rfl | rfl | rfl | rfl | rfl
        · exact ⟨rfl, trivial⟩
        · exact ⟨rfl, trivial⟩
        · exact ⟨rfl, trivial⟩
        · exact ⟨rfl, trivial⟩
        · exact ⟨rfl, trivial⟩
        · exact ⟨pairs_no (e := .int 0) (List.mem_cons_self) (rfl), short_one (Nat.le_of_ble_eq_true rfl)⟩
        · exact ⟨pairs_no (e := .tuple [.int 0, .int (ts.length : Int)]) (List.mem_cons_self) (pair_no (e := .int (ts.length : Int)) (List.mem_cons_of_mem _ List.mem_cons_self) (below_no (.inr (Int.le_refl _)))), short_one (Nat.le_of_ble_eq_true rfl)⟩
        · exact ⟨pairs_no (e := .tuple [.int (-1), .int 0]) (List.mem_cons_self) (rfl), short_one (Nat.le_of_ble_eq_true rfl)⟩
        · exact ⟨pairs_no (e := .tuple [.int 0, .int 0, .int 0]) (List.mem_cons_self) (pair_len (by decide)), short_one (Nat.le_of_ble_eq_true rfl)⟩
        · exact ⟨pairs_no (e := .tuple [.bool true, .int 0]) (List.mem_cons_self) (rfl), short_one (Nat.le_of_ble_eq_true rfl)⟩
        · exact ⟨pairs_no (e := .tuple [.int 0, .bool false]) (List.mem_cons_self) (pair_no (e := .bool false) (List.mem_cons_of_mem _ List.mem_cons_self) rfl), short_one (Nat.le_of_ble_eq_true rfl)⟩
        · exact ⟨pairs_no (e := .list [.int 0, .int 0]) (List.mem_cons_self) (rfl), short_one (Nat.le_of_ble_eq_true rfl)⟩
        · exact ⟨pairs_no (e := .tuple [.int 0]) (List.mem_cons_self) (pair_len (by decide)), short_one (Nat.le_of_ble_eq_true rfl)⟩
        · exact ⟨pairs_no (e := .tuple []) (List.mem_cons_self) (pair_len (by decide)), short_one (Nat.le_of_ble_eq_true rfl)⟩
        · exact ⟨pairs_no (e := .none) List.mem_cons_self rfl, short_one (Nat.le_of_ble_eq_true rfl)⟩
        · exact ⟨pairs_no (e := .tuple [.str "0", .int 0]) (List.mem_cons_self) (rfl), short_one (Nat.le_of_ble_eq_true rfl)⟩
        · exact ⟨pairs_no (e := .tuple [.int 0, .none]) (List.mem_cons_self) (pair_no (e := .none) (List.mem_cons_of_mem _ List.mem_cons_self) rfl), short_one (Nat.le_of_ble_eq_true rfl)⟩
        · exact ⟨pairs_no (e := .str "00") (List.mem_cons_self) (rfl), short_one (Nat.le_of_ble_eq_true rfl)⟩
        · exact ⟨pairs_no (e := .tuple [.int (ts.length : Int), .int 0]) List.mem_cons_self (pair_no (e := .int (ts.length : Int)) List.mem_cons_self (below_no (.inr (Int.le_refl _)))), short_one (Nat.le_of_ble_eq_true rfl)⟩
        · exact ⟨rfl, trivial⟩
      · skip
        refine ⟨.ref pr, rfl, pr, _, rfl, .inr (.inl (.inl hpr)), fun l0 nl0 => ?_⟩
        have e1 : Same H (upd H l0 (.lst pl)) := same_new nl0
        have hl0 : (upd H l0 (.lst pl)) l0 = some (.lst pl) := upd_same
        have ql0 : p ≠ l0 := dA.2.ne_none nl0
        generalize upd H l0 (.lst pl) = G1 at e1 hl0 ⊢
        have dd1 := dA.same e1
        replace hpr := e1 _ _ hpr
        replace hq := PairsAt.grow e1 hq
        refine ⟨.ref pr, rfl, ?_⟩
        refine ⟨small' (by simp), fun t5 nt5 => ?_⟩
        have e2 : Same G1 (upd G1 t5 (.tup [.int 0])) := same_new nt5
        have ht5 : (upd G1 t5 (.tup [.int 0])) t5 = some (.tup [.int 0]) := upd_same
        have qt5 : p ≠ t5 := dd1.2.ne_none nt5
        generalize upd G1 t5 (.tup [.int 0]) = G2 at e2 ht5 ⊢
        have dd2 := dd1.same e2
        replace hpr := e2 _ _ hpr
        replace hl0 := e2 _ _ hl0
        replace hq := PairsAt.grow e2 hq
        refine ⟨pr, t5, pl, [.int 0], rfl, rfl, .inl (.inl hpr), .inl (.inl ht5), small' (len_one lp), fun z => absurd z (pne), fun _ z => absurd z (List.cons_ne_nil _ _), fun _ _ c5 nc5 => ?_⟩
        have e3 : Same G2 (upd G2 c5 (.tup (pl ++ [.int 0]))) := same_new nc5
        have hc5 : (upd G2 c5 (.tup (pl ++ [.int 0]))) c5 = some (.tup (pl ++ [.int 0])) := upd_same
        have qc5 : p ≠ c5 := dd2.2.ne_none nc5
        generalize upd G2 c5 (.tup (pl ++ [.int 0])) = G3 at e3 hc5 ⊢
        have dd3 := dd2.same e3
        replace hpr := e3 _ _ hpr
        replace hl0 := e3 _ _ hl0
        replace ht5 := e3 _ _ ht5
        replace hq := PairsAt.grow e3 hq
        refine ⟨.int ts.length, rfl, small' (by simp), fun u6 nu6 => ?_⟩
        have e4 : Same G3 (upd G3 u6 (.tup [.int 0, .int (ts.length : Int)])) := same_new nu6
        have hu6 : (upd G3 u6 (.tup [.int 0, .int (ts.length : Int)])) u6 = some (.tup [.int 0, .int (ts.length : Int)]) := upd_same
        have qu6 : p ≠ u6 := dd3.2.ne_none nu6
        generalize upd G3 u6 (.tup [.int 0, .int (ts.length : Int)]) = G4 at e4 hu6 ⊢
        have dd4 := dd3.same e4
        replace hpr := e4 _ _ hpr
        replace hl0 := e4 _ _ hl0
        replace ht5 := e4 _ _ ht5
        replace hc5 := e4 _ _ hc5
        replace hq := PairsAt.grow e4 hq
        refine ⟨small' (by simp), fun t6 nt6 => ?_⟩
        have e5 : Same G4 (upd G4 t6 (.tup [.ref u6])) := same_new nt6
        have ht6 : (upd G4 t6 (.tup [.ref u6])) t6 = some (.tup [.ref u6]) := upd_same
        have qt6 : p ≠ t6 := dd4.2.ne_none nt6
        generalize upd G4 t6 (.tup [.ref u6]) = G5 at e5 ht6 ⊢
        have dd5 := dd4.same e5
        replace hpr := e5 _ _ hpr
        replace hl0 := e5 _ _ hl0
        replace ht5 := e5 _ _ ht5
        replace hc5 := e5 _ _ hc5
        replace hu6 := e5 _ _ hu6
        replace hq := PairsAt.grow e5 hq
        refine ⟨.ref pr, rfl, ?_⟩
        refine ⟨t6, pr, [.ref u6], pl, rfl, rfl, .inl (.inl ht6), .inl (.inl hpr), small' (len_two lp), fun z => absurd z (List.cons_ne_nil _ _), fun _ z => absurd z (pne), fun _ _ c6 nc6 => ?_⟩
        have e6 : Same G5 (upd G5 c6 (.tup ([.ref u6] ++ pl))) := same_new nc6
        have hc6 : (upd G5 c6 (.tup ([.ref u6] ++ pl))) c6 = some (.tup ([.ref u6] ++ pl)) := upd_same
        have qc6 : p ≠ c6 := dd5.2.ne_none nc6
        generalize upd G5 c6 (.tup ([.ref u6] ++ pl)) = G6 at e6 hc6 ⊢
        have dd6 := dd5.same e6
        replace hpr := e6 _ _ hpr
        replace hl0 := e6 _ _ hl0
        replace ht5 := e6 _ _ ht5
        replace hc5 := e6 _ _ hc5
        replace hu6 := e6 _ _ hu6
        replace ht6 := e6 _ _ ht6
        replace hq := PairsAt.grow e6 hq
        refine ⟨.ref pr, rfl, ?_⟩
        refine ⟨1, rfl, small' (by simp), fun u7 nu7 => ?_⟩
        have e7 : Same G6 (upd G6 u7 (.tup [.int (-1), .int 0])) := same_new nu7
        have hu7 : (upd G6 u7 (.tup [.int (-1), .int 0])) u7 = some (.tup [.int (-1), .int 0]) := upd_same
        have qu7 : p ≠ u7 := dd6.2.ne_none nu7
        generalize upd G6 u7 (.tup [.int (-1), .int 0]) = G7 at e7 hu7 ⊢
        have dd7 := dd6.same e7
        replace hpr := e7 _ _ hpr
        replace hl0 := e7 _ _ hl0
        replace ht5 := e7 _ _ ht5
        replace hc5 := e7 _ _ hc5
        replace hu6 := e7 _ _ hu6
        replace ht6 := e7 _ _ ht6
        replace hc6 := e7 _ _ hc6
        replace hq := PairsAt.grow e7 hq
        refine ⟨small' (by simp), fun t7 nt7 => ?_⟩
        have e8 : Same G7 (upd G7 t7 (.tup [.ref u7])) := same_new nt7
        have ht7 : (upd G7 t7 (.tup [.ref u7])) t7 = some (.tup [.ref u7]) := upd_same
        have qt7 : p ≠ t7 := dd7.2.ne_none nt7
        generalize upd G7 t7 (.tup [.ref u7]) = G8 at e8 ht7 ⊢
        have dd8 := dd7.same e8
        replace hpr := e8 _ _ hpr
        replace hl0 := e8 _ _ hl0
        replace ht5 := e8 _ _ ht5
        replace hc5 := e8 _ _ hc5
        replace hu6 := e8 _ _ hu6
        replace ht6 := e8 _ _ ht6
        replace hc6 := e8 _ _ hc6
        replace hu7 := e8 _ _ hu7
        replace hq := PairsAt.grow e8 hq
        refine ⟨pr, t7, pl, [.ref u7], rfl, rfl, .inl (.inl hpr), .inl (.inl ht7), small' (len_one lp), fun z => absurd z (pne), fun _ z => absurd z (List.cons_ne_nil _ _), fun _ _ c7 nc7 => ?_⟩
        have e9 : Same G8 (upd G8 c7 (.tup (pl ++ [.ref u7]))) := same_new nc7
        have hc7 : (upd G8 c7 (.tup (pl ++ [.ref u7]))) c7 = some (.tup (pl ++ [.ref u7])) := upd_same
        have qc7 : p ≠ c7 := dd8.2.ne_none nc7
        generalize upd G8 c7 (.tup (pl ++ [.ref u7])) = G9 at e9 hc7 ⊢
        have dd9 := dd8.same e9
        replace hpr := e9 _ _ hpr
        replace hl0 := e9 _ _ hl0
        replace ht5 := e9 _ _ ht5
        replace hc5 := e9 _ _ hc5
        replace hu6 := e9 _ _ hu6
        replace ht6 := e9 _ _ ht6
        replace hc6 := e9 _ _ hc6
        replace hu7 := e9 _ _ hu7
        replace ht7 := e9 _ _ ht7
        replace hq := PairsAt.grow e9 hq
        refine ⟨.ref pr, rfl, ?_⟩
        refine ⟨small' (by simp), fun u8 nu8 => ?_⟩
        have e10 : Same G9 (upd G9 u8 (.tup [.int 0, .int 0, .int 0])) := same_new nu8
        have hu8 : (upd G9 u8 (.tup [.int 0, .int 0, .int 0])) u8 = some (.tup [.int 0, .int 0, .int 0]) := upd_same
        have qu8 : p ≠ u8 := dd9.2.ne_none nu8
        generalize upd G9 u8 (.tup [.int 0, .int 0, .int 0]) = G10 at e10 hu8 ⊢
        have dd10 := dd9.same e10
        replace hpr := e10 _ _ hpr
        replace hl0 := e10 _ _ hl0
        replace ht5 := e10 _ _ ht5
        replace hc5 := e10 _ _ hc5
        replace hu6 := e10 _ _ hu6
        replace ht6 := e10 _ _ ht6
        replace hc6 := e10 _ _ hc6
        replace hu7 := e10 _ _ hu7
        replace ht7 := e10 _ _ ht7
        replace hc7 := e10 _ _ hc7
        replace hq := PairsAt.grow e10 hq
        refine ⟨small' (by simp), fun t8 nt8 => ?_⟩
        have e11 : Same G10 (upd G10 t8 (.tup [.ref u8])) := same_new nt8
        have ht8 : (upd G10 t8 (.tup [.ref u8])) t8 = some (.tup [.ref u8]) := upd_same
        have qt8 : p ≠ t8 := dd10.2.ne_none nt8
        generalize upd G10 t8 (.tup [.ref u8]) = G11 at e11 ht8 ⊢
        have dd11 := dd10.same e11
        replace hpr := e11 _ _ hpr
        replace hl0 := e11 _ _ hl0
        replace ht5 := e11 _ _ ht5
        replace hc5 := e11 _ _ hc5
        replace hu6 := e11 _ _ hu6
        replace ht6 := e11 _ _ ht6
        replace hc6 := e11 _ _ hc6
        replace hu7 := e11 _ _ hu7
        replace ht7 := e11 _ _ ht7
        replace hc7 := e11 _ _ hc7
        replace hu8 := e11 _ _ hu8
        replace hq := PairsAt.grow e11 hq
        refine ⟨pr, t8, pl, [.ref u8], rfl, rfl, .inl (.inl hpr), .inl (.inl ht8), small' (len_one lp), fun z => absurd z (pne), fun _ z => absurd z (List.cons_ne_nil _ _), fun _ _ c8 nc8 => ?_⟩
        have e12 : Same G11 (upd G11 c8 (.tup (pl ++ [.ref u8]))) := same_new nc8
        have hc8 : (upd G11 c8 (.tup (pl ++ [.ref u8]))) c8 = some (.tup (pl ++ [.ref u8])) := upd_same
        have qc8 : p ≠ c8 := dd11.2.ne_none nc8
        generalize upd G11 c8 (.tup (pl ++ [.ref u8])) = G12 at e12 hc8 ⊢
        have dd12 := dd11.same e12
        replace hpr := e12 _ _ hpr
        replace hl0 := e12 _ _ hl0
        replace ht5 := e12 _ _ ht5
        replace hc5 := e12 _ _ hc5
        replace hu6 := e12 _ _ hu6
        replace ht6 := e12 _ _ ht6
        replace hc6 := e12 _ _ hc6
        replace hu7 := e12 _ _ hu7
        replace ht7 := e12 _ _ ht7
        replace hc7 := e12 _ _ hc7
        replace hu8 := e12 _ _ hu8
        replace ht8 := e12 _ _ ht8
        replace hq := PairsAt.grow e12 hq
        refine ⟨small' (by simp), fun u9 nu9 => ?_⟩
        have e13 : Same G12 (upd G12 u9 (.tup [.bl true, .int 0])) := same_new nu9
        have hu9 : (upd G12 u9 (.tup [.bl true, .int 0])) u9 = some (.tup [.bl true, .int 0]) := upd_same
        have qu9 : p ≠ u9 := dd12.2.ne_none nu9
        generalize upd G12 u9 (.tup [.bl true, .int 0]) = G13 at e13 hu9 ⊢
        have dd13 := dd12.same e13
        replace hpr := e13 _ _ hpr
        replace hl0 := e13 _ _ hl0
        replace ht5 := e13 _ _ ht5
        replace hc5 := e13 _ _ hc5
        replace hu6 := e13 _ _ hu6
        replace ht6 := e13 _ _ ht6
        replace hc6 := e13 _ _ hc6
        replace hu7 := e13 _ _ hu7
        replace ht7 := e13 _ _ ht7
        replace hc7 := e13 _ _ hc7
        replace hu8 := e13 _ _ hu8
        replace ht8 := e13 _ _ ht8
        replace hc8 := e13 _ _ hc8
        replace hq := PairsAt.grow e13 hq
        refine ⟨small' (by simp), fun t9 nt9 => ?_⟩
        have e14 : Same G13 (upd G13 t9 (.tup [.ref u9])) := same_new nt9
        have ht9 : (upd G13 t9 (.tup [.ref u9])) t9 = some (.tup [.ref u9]) := upd_same
        have qt9 : p ≠ t9 := dd13.2.ne_none nt9
        generalize upd G13 t9 (.tup [.ref u9]) = G14 at e14 ht9 ⊢
        have dd14 := dd13.same e14
        replace hpr := e14 _ _ hpr
        replace hl0 := e14 _ _ hl0
        replace ht5 := e14 _ _ ht5
        replace hc5 := e14 _ _ hc5
        replace hu6 := e14 _ _ hu6
        replace ht6 := e14 _ _ ht6
        replace hc6 := e14 _ _ hc6
        replace hu7 := e14 _ _ hu7
        replace ht7 := e14 _ _ ht7
        replace hc7 := e14 _ _ hc7
        replace hu8 := e14 _ _ hu8
        replace ht8 := e14 _ _ ht8
        replace hc8 := e14 _ _ hc8
        replace hu9 := e14 _ _ hu9
        replace hq := PairsAt.grow e14 hq
        refine ⟨.ref pr, rfl, ?_⟩
        refine ⟨t9, pr, [.ref u9], pl, rfl, rfl, .inl (.inl ht9), .inl (.inl hpr), small' (len_two lp), fun z => absurd z (List.cons_ne_nil _ _), fun _ z => absurd z (pne), fun _ _ c9 nc9 => ?_⟩
        have e15 : Same G14 (upd G14 c9 (.tup ([.ref u9] ++ pl))) := same_new nc9
        have hc9 : (upd G14 c9 (.tup ([.ref u9] ++ pl))) c9 = some (.tup ([.ref u9] ++ pl)) := upd_same
        have qc9 : p ≠ c9 := dd14.2.ne_none nc9
        generalize upd G14 c9 (.tup ([.ref u9] ++ pl)) = G15 at e15 hc9 ⊢
        have dd15 := dd14.same e15
        replace hpr := e15 _ _ hpr
        replace hl0 := e15 _ _ hl0
        replace ht5 := e15 _ _ ht5
        replace hc5 := e15 _ _ hc5
        replace hu6 := e15 _ _ hu6
        replace ht6 := e15 _ _ ht6
        replace hc6 := e15 _ _ hc6
        replace hu7 := e15 _ _ hu7
        replace ht7 := e15 _ _ ht7
        replace hc7 := e15 _ _ hc7
        replace hu8 := e15 _ _ hu8
        replace ht8 := e15 _ _ ht8
        replace hc8 := e15 _ _ hc8
        replace hu9 := e15 _ _ hu9
        replace ht9 := e15 _ _ ht9
        replace hq := PairsAt.grow e15 hq
        refine ⟨.ref pr, rfl, ?_⟩
        refine ⟨small' (by simp), fun u10 nu10 => ?_⟩
        have e16 : Same G15 (upd G15 u10 (.tup [.int 0, .bl false])) := same_new nu10
        have hu10 : (upd G15 u10 (.tup [.int 0, .bl false])) u10 = some (.tup [.int 0, .bl false]) := upd_same
        have qu10 : p ≠ u10 := dd15.2.ne_none nu10
        generalize upd G15 u10 (.tup [.int 0, .bl false]) = G16 at e16 hu10 ⊢
        have dd16 := dd15.same e16
        replace hpr := e16 _ _ hpr
        replace hl0 := e16 _ _ hl0
        replace ht5 := e16 _ _ ht5
        replace hc5 := e16 _ _ hc5
        replace hu6 := e16 _ _ hu6
        replace ht6 := e16 _ _ ht6
        replace hc6 := e16 _ _ hc6
        replace hu7 := e16 _ _ hu7
        replace ht7 := e16 _ _ ht7
        replace hc7 := e16 _ _ hc7
        replace hu8 := e16 _ _ hu8
        replace ht8 := e16 _ _ ht8
        replace hc8 := e16 _ _ hc8
        replace hu9 := e16 _ _ hu9
        replace ht9 := e16 _ _ ht9
        replace hc9 := e16 _ _ hc9
        replace hq := PairsAt.grow e16 hq
        refine ⟨small' (by simp), fun t10 nt10 => ?_⟩
        have e17 : Same G16 (upd G16 t10 (.tup [.ref u10])) := same_new nt10
        have ht10 : (upd G16 t10 (.tup [.ref u10])) t10 = some (.tup [.ref u10]) := upd_same
        have qt10 : p ≠ t10 := dd16.2.ne_none nt10
        generalize upd G16 t10 (.tup [.ref u10]) = G17 at e17 ht10 ⊢
        have dd17 := dd16.same e17
        replace hpr := e17 _ _ hpr
        replace hl0 := e17 _ _ hl0
        replace ht5 := e17 _ _ ht5
        replace hc5 := e17 _ _ hc5
        replace hu6 := e17 _ _ hu6
        replace ht6 := e17 _ _ ht6
        replace hc6 := e17 _ _ hc6
        replace hu7 := e17 _ _ hu7
        replace ht7 := e17 _ _ ht7
        replace hc7 := e17 _ _ hc7
        replace hu8 := e17 _ _ hu8
        replace ht8 := e17 _ _ ht8
        replace hc8 := e17 _ _ hc8
        replace hu9 := e17 _ _ hu9
        replace ht9 := e17 _ _ ht9
        replace hc9 := e17 _ _ hc9
        replace hu10 := e17 _ _ hu10
        replace hq := PairsAt.grow e17 hq
        refine ⟨pr, t10, pl, [.ref u10], rfl, rfl, .inl (.inl hpr), .inl (.inl ht10), small' (len_one lp), fun z => absurd z (pne), fun _ z => absurd z (List.cons_ne_nil _ _), fun _ _ c10 nc10 => ?_⟩
        have e18 : Same G17 (upd G17 c10 (.tup (pl ++ [.ref u10]))) := same_new nc10
        have hc10 : (upd G17 c10 (.tup (pl ++ [.ref u10]))) c10 = some (.tup (pl ++ [.ref u10])) := upd_same
        have qc10 : p ≠ c10 := dd17.2.ne_none nc10
        generalize upd G17 c10 (.tup (pl ++ [.ref u10])) = G18 at e18 hc10 ⊢
        have dd18 := dd17.same e18
        replace hpr := e18 _ _ hpr
        replace hl0 := e18 _ _ hl0
        replace ht5 := e18 _ _ ht5
        replace hc5 := e18 _ _ hc5
        replace hu6 := e18 _ _ hu6
        replace ht6 := e18 _ _ ht6
        replace hc6 := e18 _ _ hc6
        replace hu7 := e18 _ _ hu7
        replace ht7 := e18 _ _ ht7
        replace hc7 := e18 _ _ hc7
        replace hu8 := e18 _ _ hu8
        replace ht8 := e18 _ _ ht8
        replace hc8 := e18 _ _ hc8
        replace hu9 := e18 _ _ hu9
        replace ht9 := e18 _ _ ht9
        replace hc9 := e18 _ _ hc9
        replace hu10 := e18 _ _ hu10
        replace ht10 := e18 _ _ ht10
        replace hq := PairsAt.grow e18 hq
        refine ⟨.ref pr, rfl, ?_⟩
        refine ⟨small' (by simp), fun u11 nu11 => ?_⟩
        have e19 : Same G18 (upd G18 u11 (.lst [.int 0, .int 0])) := same_new nu11
        have hu11 : (upd G18 u11 (.lst [.int 0, .int 0])) u11 = some (.lst [.int 0, .int 0]) := upd_same
        have qu11 : p ≠ u11 := dd18.2.ne_none nu11
        generalize upd G18 u11 (.lst [.int 0, .int 0]) = G19 at e19 hu11 ⊢
        have dd19 := dd18.same e19
        replace hpr := e19 _ _ hpr
        replace hl0 := e19 _ _ hl0
        replace ht5 := e19 _ _ ht5
        replace hc5 := e19 _ _ hc5
        replace hu6 := e19 _ _ hu6
        replace ht6 := e19 _ _ ht6
        replace hc6 := e19 _ _ hc6
        replace hu7 := e19 _ _ hu7
        replace ht7 := e19 _ _ ht7
        replace hc7 := e19 _ _ hc7
        replace hu8 := e19 _ _ hu8
        replace ht8 := e19 _ _ ht8
        replace hc8 := e19 _ _ hc8
        replace hu9 := e19 _ _ hu9
        replace ht9 := e19 _ _ ht9
        replace hc9 := e19 _ _ hc9
        replace hu10 := e19 _ _ hu10
        replace ht10 := e19 _ _ ht10
        replace hc10 := e19 _ _ hc10
        replace hq := PairsAt.grow e19 hq
        refine ⟨small' (by simp), fun t11 nt11 => ?_⟩
        have e20 : Same G19 (upd G19 t11 (.tup [.ref u11])) := same_new nt11
        have ht11 : (upd G19 t11 (.tup [.ref u11])) t11 = some (.tup [.ref u11]) := upd_same
        have qt11 : p ≠ t11 := dd19.2.ne_none nt11
        generalize upd G19 t11 (.tup [.ref u11]) = G20 at e20 ht11 ⊢
        have dd20 := dd19.same e20
        replace hpr := e20 _ _ hpr
        replace hl0 := e20 _ _ hl0
        replace ht5 := e20 _ _ ht5
        replace hc5 := e20 _ _ hc5
        replace hu6 := e20 _ _ hu6
        replace ht6 := e20 _ _ ht6
        replace hc6 := e20 _ _ hc6
        replace hu7 := e20 _ _ hu7
        replace ht7 := e20 _ _ ht7
        replace hc7 := e20 _ _ hc7
        replace hu8 := e20 _ _ hu8
        replace ht8 := e20 _ _ ht8
        replace hc8 := e20 _ _ hc8
        replace hu9 := e20 _ _ hu9
        replace ht9 := e20 _ _ ht9
        replace hc9 := e20 _ _ hc9
        replace hu10 := e20 _ _ hu10
        replace ht10 := e20 _ _ ht10
        replace hc10 := e20 _ _ hc10
        replace hu11 := e20 _ _ hu11
        replace hq := PairsAt.grow e20 hq
        refine ⟨pr, t11, pl, [.ref u11], rfl, rfl, .inl (.inl hpr), .inl (.inl ht11), small' (len_one lp), fun z => absurd z (pne), fun _ z => absurd z (List.cons_ne_nil _ _), fun _ _ c11 nc11 => ?_⟩
        have e21 : Same G20 (upd G20 c11 (.tup (pl ++ [.ref u11]))) := same_new nc11
        have hc11 : (upd G20 c11 (.tup (pl ++ [.ref u11]))) c11 = some (.tup (pl ++ [.ref u11])) := upd_same
        have qc11 : p ≠ c11 := dd20.2.ne_none nc11
        generalize upd G20 c11 (.tup (pl ++ [.ref u11])) = G21 at e21 hc11 ⊢
        have dd21 := dd20.same e21
        replace hpr := e21 _ _ hpr
        replace hl0 := e21 _ _ hl0
        replace ht5 := e21 _ _ ht5
        replace hc5 := e21 _ _ hc5
        replace hu6 := e21 _ _ hu6
        replace ht6 := e21 _ _ ht6
        replace hc6 := e21 _ _ hc6
        replace hu7 := e21 _ _ hu7
        replace ht7 := e21 _ _ ht7
        replace hc7 := e21 _ _ hc7
        replace hu8 := e21 _ _ hu8
        replace ht8 := e21 _ _ ht8
        replace hc8 := e21 _ _ hc8
        replace hu9 := e21 _ _ hu9
        replace ht9 := e21 _ _ ht9
        replace hc9 := e21 _ _ hc9
        replace hu10 := e21 _ _ hu10
        replace ht10 := e21 _ _ ht10
        replace hc10 := e21 _ _ hc10
        replace hu11 := e21 _ _ hu11
        replace ht11 := e21 _ _ ht11
        replace hq := PairsAt.grow e21 hq
        refine ⟨.ref pr, rfl, ?_⟩
        refine ⟨small' (by simp), fun u12 nu12 => ?_⟩
        have e22 : Same G21 (upd G21 u12 (.tup [.int 0])) := same_new nu12
        have hu12 : (upd G21 u12 (.tup [.int 0])) u12 = some (.tup [.int 0]) := upd_same
        have qu12 : p ≠ u12 := dd21.2.ne_none nu12
        generalize upd G21 u12 (.tup [.int 0]) = G22 at e22 hu12 ⊢
        have dd22 := dd21.same e22
        replace hpr := e22 _ _ hpr
        replace hl0 := e22 _ _ hl0
        replace ht5 := e22 _ _ ht5
        replace hc5 := e22 _ _ hc5
        replace hu6 := e22 _ _ hu6
        replace ht6 := e22 _ _ ht6
        replace hc6 := e22 _ _ hc6
        replace hu7 := e22 _ _ hu7
        replace ht7 := e22 _ _ ht7
        replace hc7 := e22 _ _ hc7
        replace hu8 := e22 _ _ hu8
        replace ht8 := e22 _ _ ht8
        replace hc8 := e22 _ _ hc8
        replace hu9 := e22 _ _ hu9
        replace ht9 := e22 _ _ ht9
        replace hc9 := e22 _ _ hc9
        replace hu10 := e22 _ _ hu10
        replace ht10 := e22 _ _ ht10
        replace hc10 := e22 _ _ hc10
        replace hu11 := e22 _ _ hu11
        replace ht11 := e22 _ _ ht11
        replace hc11 := e22 _ _ hc11
        replace hq := PairsAt.grow e22 hq
        refine ⟨small' (by simp), fun t12 nt12 => ?_⟩
        have e23 : Same G22 (upd G22 t12 (.tup [.ref u12])) := same_new nt12
        have ht12 : (upd G22 t12 (.tup [.ref u12])) t12 = some (.tup [.ref u12]) := upd_same
        have qt12 : p ≠ t12 := dd22.2.ne_none nt12
        generalize upd G22 t12 (.tup [.ref u12]) = G23 at e23 ht12 ⊢
        have dd23 := dd22.same e23
        replace hpr := e23 _ _ hpr
        replace hl0 := e23 _ _ hl0
        replace ht5 := e23 _ _ ht5
        replace hc5 := e23 _ _ hc5
        replace hu6 := e23 _ _ hu6
        replace ht6 := e23 _ _ ht6
        replace hc6 := e23 _ _ hc6
        replace hu7 := e23 _ _ hu7
        replace ht7 := e23 _ _ ht7
        replace hc7 := e23 _ _ hc7
        replace hu8 := e23 _ _ hu8
        replace ht8 := e23 _ _ ht8
        replace hc8 := e23 _ _ hc8
        replace hu9 := e23 _ _ hu9
        replace ht9 := e23 _ _ ht9
        replace hc9 := e23 _ _ hc9
        replace hu10 := e23 _ _ hu10
        replace ht10 := e23 _ _ ht10
        replace hc10 := e23 _ _ hc10
        replace hu11 := e23 _ _ hu11
        replace ht11 := e23 _ _ ht11
        replace hc11 := e23 _ _ hc11
        replace hu12 := e23 _ _ hu12
        replace hq := PairsAt.grow e23 hq
        refine ⟨pr, t12, pl, [.ref u12], rfl, rfl, .inl (.inl hpr), .inl (.inl ht12), small' (len_one lp), fun z => absurd z (pne), fun _ z => absurd z (List.cons_ne_nil _ _), fun _ _ c12 nc12 => ?_⟩
        have e24 : Same G23 (upd G23 c12 (.tup (pl ++ [.ref u12]))) := same_new nc12
        have hc12 : (upd G23 c12 (.tup (pl ++ [.ref u12]))) c12 = some (.tup (pl ++ [.ref u12])) := upd_same
        have qc12 : p ≠ c12 := dd23.2.ne_none nc12
        generalize upd G23 c12 (.tup (pl ++ [.ref u12])) = G24 at e24 hc12 ⊢
        have dd24 := dd23.same e24
        replace hpr := e24 _ _ hpr
        replace hl0 := e24 _ _ hl0
        replace ht5 := e24 _ _ ht5
        replace hc5 := e24 _ _ hc5
        replace hu6 := e24 _ _ hu6
        replace ht6 := e24 _ _ ht6
        replace hc6 := e24 _ _ hc6
        replace hu7 := e24 _ _ hu7
        replace ht7 := e24 _ _ ht7
        replace hc7 := e24 _ _ hc7
        replace hu8 := e24 _ _ hu8
        replace ht8 := e24 _ _ ht8
        replace hc8 := e24 _ _ hc8
        replace hu9 := e24 _ _ hu9
        replace ht9 := e24 _ _ ht9
        replace hc9 := e24 _ _ hc9
        replace hu10 := e24 _ _ hu10
        replace ht10 := e24 _ _ ht10
        replace hc10 := e24 _ _ hc10
        replace hu11 := e24 _ _ hu11
        replace ht11 := e24 _ _ ht11
        replace hc11 := e24 _ _ hc11
        replace hu12 := e24 _ _ hu12
        replace ht12 := e24 _ _ ht12
        replace hq := PairsAt.grow e24 hq
        refine ⟨.ref pr, rfl, ?_⟩
        refine ⟨small' (by simp), fun u13 nu13 => ?_⟩
        have e25 : Same G24 (upd G24 u13 (.tup [])) := same_new nu13
        have hu13 : (upd G24 u13 (.tup [])) u13 = some (.tup []) := upd_same
        have qu13 : p ≠ u13 := dd24.2.ne_none nu13
        generalize upd G24 u13 (.tup []) = G25 at e25 hu13 ⊢
        have dd25 := dd24.same e25
        replace hpr := e25 _ _ hpr
        replace hl0 := e25 _ _ hl0
        replace ht5 := e25 _ _ ht5
        replace hc5 := e25 _ _ hc5
        replace hu6 := e25 _ _ hu6
        replace ht6 := e25 _ _ ht6
        replace hc6 := e25 _ _ hc6
        replace hu7 := e25 _ _ hu7
        replace ht7 := e25 _ _ ht7
        replace hc7 := e25 _ _ hc7
        replace hu8 := e25 _ _ hu8
        replace ht8 := e25 _ _ ht8
        replace hc8 := e25 _ _ hc8
        replace hu9 := e25 _ _ hu9
        replace ht9 := e25 _ _ ht9
        replace hc9 := e25 _ _ hc9
        replace hu10 := e25 _ _ hu10
        replace ht10 := e25 _ _ ht10
        replace hc10 := e25 _ _ hc10
        replace hu11 := e25 _ _ hu11
        replace ht11 := e25 _ _ ht11
        replace hc11 := e25 _ _ hc11
        replace hu12 := e25 _ _ hu12
        replace ht12 := e25 _ _ ht12
        replace hc12 := e25 _ _ hc12
        replace hq := PairsAt.grow e25 hq
        refine ⟨small' (by simp), fun t13 nt13 => ?_⟩
        have e26 : Same G25 (upd G25 t13 (.tup [.ref u13])) := same_new nt13
        have ht13 : (upd G25 t13 (.tup [.ref u13])) t13 = some (.tup [.ref u13]) := upd_same
        have qt13 : p ≠ t13 := dd25.2.ne_none nt13
        generalize upd G25 t13 (.tup [.ref u13]) = G26 at e26 ht13 ⊢
        have dd26 := dd25.same e26
        replace hpr := e26 _ _ hpr
        replace hl0 := e26 _ _ hl0
        replace ht5 := e26 _ _ ht5
        replace hc5 := e26 _ _ hc5
        replace hu6 := e26 _ _ hu6
        replace ht6 := e26 _ _ ht6
        replace hc6 := e26 _ _ hc6
        replace hu7 := e26 _ _ hu7
        replace ht7 := e26 _ _ ht7
        replace hc7 := e26 _ _ hc7
        replace hu8 := e26 _ _ hu8
        replace ht8 := e26 _ _ ht8
        replace hc8 := e26 _ _ hc8
        replace hu9 := e26 _ _ hu9
        replace ht9 := e26 _ _ ht9
        replace hc9 := e26 _ _ hc9
        replace hu10 := e26 _ _ hu10
        replace ht10 := e26 _ _ ht10
        replace hc10 := e26 _ _ hc10
        replace hu11 := e26 _ _ hu11
        replace ht11 := e26 _ _ ht11
        replace hc11 := e26 _ _ hc11
        replace hu12 := e26 _ _ hu12
        replace ht12 := e26 _ _ ht12
        replace hc12 := e26 _ _ hc12
        replace hu13 := e26 _ _ hu13
        replace hq := PairsAt.grow e26 hq
        refine ⟨pr, t13, pl, [.ref u13], rfl, rfl, .inl (.inl hpr), .inl (.inl ht13), small' (len_one lp), fun z => absurd z (pne), fun _ z => absurd z (List.cons_ne_nil _ _), fun _ _ c13 nc13 => ?_⟩
        have e27 : Same G26 (upd G26 c13 (.tup (pl ++ [.ref u13]))) := same_new nc13
        have hc13 : (upd G26 c13 (.tup (pl ++ [.ref u13]))) c13 = some (.tup (pl ++ [.ref u13])) := upd_same
        have qc13 : p ≠ c13 := dd26.2.ne_none nc13
        generalize upd G26 c13 (.tup (pl ++ [.ref u13])) = G27 at e27 hc13 ⊢
        have dd27 := dd26.same e27
        replace hpr := e27 _ _ hpr
        replace hl0 := e27 _ _ hl0
        replace ht5 := e27 _ _ ht5
        replace hc5 := e27 _ _ hc5
        replace hu6 := e27 _ _ hu6
        replace ht6 := e27 _ _ ht6
        replace hc6 := e27 _ _ hc6
        replace hu7 := e27 _ _ hu7
        replace ht7 := e27 _ _ ht7
        replace hc7 := e27 _ _ hc7
        replace hu8 := e27 _ _ hu8
        replace ht8 := e27 _ _ ht8
        replace hc8 := e27 _ _ hc8
        replace hu9 := e27 _ _ hu9
        replace ht9 := e27 _ _ ht9
        replace hc9 := e27 _ _ hc9
        replace hu10 := e27 _ _ hu10
        replace ht10 := e27 _ _ ht10
        replace hc10 := e27 _ _ hc10
        replace hu11 := e27 _ _ hu11
        replace ht11 := e27 _ _ ht11
        replace hc11 := e27 _ _ hc11
        replace hu12 := e27 _ _ hu12
        replace ht12 := e27 _ _ ht12
        replace hc12 := e27 _ _ hc12
        replace hu13 := e27 _ _ hu13
        replace ht13 := e27 _ _ ht13
        replace hq := PairsAt.grow e27 hq
        refine ⟨small' (by simp), fun t14 nt14 => ?_⟩
        have e28 : Same G27 (upd G27 t14 (.tup [.non])) := same_new nt14
        have ht14 : (upd G27 t14 (.tup [.non])) t14 = some (.tup [.non]) := upd_same
        have qt14 : p ≠ t14 := dd27.2.ne_none nt14
        generalize upd G27 t14 (.tup [.non]) = G28 at e28 ht14 ⊢
        have dd28 := dd27.same e28
        replace hpr := e28 _ _ hpr
        replace hl0 := e28 _ _ hl0
        replace ht5 := e28 _ _ ht5
        replace hc5 := e28 _ _ hc5
        replace hu6 := e28 _ _ hu6
        replace ht6 := e28 _ _ ht6
        replace hc6 := e28 _ _ hc6
        replace hu7 := e28 _ _ hu7
        replace ht7 := e28 _ _ ht7
        replace hc7 := e28 _ _ hc7
        replace hu8 := e28 _ _ hu8
        replace ht8 := e28 _ _ ht8
        replace hc8 := e28 _ _ hc8
        replace hu9 := e28 _ _ hu9
        replace ht9 := e28 _ _ ht9
        replace hc9 := e28 _ _ hc9
        replace hu10 := e28 _ _ hu10
        replace ht10 := e28 _ _ ht10
        replace hc10 := e28 _ _ hc10
        replace hu11 := e28 _ _ hu11
        replace ht11 := e28 _ _ ht11
        replace hc11 := e28 _ _ hc11
        replace hu12 := e28 _ _ hu12
        replace ht12 := e28 _ _ ht12
        replace hc12 := e28 _ _ hc12
        replace hu13 := e28 _ _ hu13
        replace ht13 := e28 _ _ ht13
        replace hc13 := e28 _ _ hc13
        replace hq := PairsAt.grow e28 hq
        refine ⟨.ref pr, rfl, ?_⟩
        refine ⟨small' (by simp), fun u15 nu15 => ?_⟩
        have e29 : Same G28 (upd G28 u15 (.tup [.str "0", .int 0])) := same_new nu15
        have hu15 : (upd G28 u15 (.tup [.str "0", .int 0])) u15 = some (.tup [.str "0", .int 0]) := upd_same
        have qu15 : p ≠ u15 := dd28.2.ne_none nu15
        generalize upd G28 u15 (.tup [.str "0", .int 0]) = G29 at e29 hu15 ⊢
        have dd29 := dd28.same e29
        replace hpr := e29 _ _ hpr
        replace hl0 := e29 _ _ hl0
        replace ht5 := e29 _ _ ht5
        replace hc5 := e29 _ _ hc5
        replace hu6 := e29 _ _ hu6
        replace ht6 := e29 _ _ ht6
        replace hc6 := e29 _ _ hc6
        replace hu7 := e29 _ _ hu7
        replace ht7 := e29 _ _ ht7
        replace hc7 := e29 _ _ hc7
        replace hu8 := e29 _ _ hu8
        replace ht8 := e29 _ _ ht8
        replace hc8 := e29 _ _ hc8
        replace hu9 := e29 _ _ hu9
        replace ht9 := e29 _ _ ht9
        replace hc9 := e29 _ _ hc9
        replace hu10 := e29 _ _ hu10
        replace ht10 := e29 _ _ ht10
        replace hc10 := e29 _ _ hc10
        replace hu11 := e29 _ _ hu11
        replace ht11 := e29 _ _ ht11
        replace hc11 := e29 _ _ hc11
        replace hu12 := e29 _ _ hu12
        replace ht12 := e29 _ _ ht12
        replace hc12 := e29 _ _ hc12
        replace hu13 := e29 _ _ hu13
        replace ht13 := e29 _ _ ht13
        replace hc13 := e29 _ _ hc13
        replace ht14 := e29 _ _ ht14
        replace hq := PairsAt.grow e29 hq
        refine ⟨small' (by simp), fun t15 nt15 => ?_⟩
        have e30 : Same G29 (upd G29 t15 (.tup [.ref u15])) := same_new nt15
        have ht15 : (upd G29 t15 (.tup [.ref u15])) t15 = some (.tup [.ref u15]) := upd_same
        have qt15 : p ≠ t15 := dd29.2.ne_none nt15
        generalize upd G29 t15 (.tup [.ref u15]) = G30 at e30 ht15 ⊢
        have dd30 := dd29.same e30
        replace hpr := e30 _ _ hpr
        replace hl0 := e30 _ _ hl0
        replace ht5 := e30 _ _ ht5
        replace hc5 := e30 _ _ hc5
        replace hu6 := e30 _ _ hu6
        replace ht6 := e30 _ _ ht6
        replace hc6 := e30 _ _ hc6
        replace hu7 := e30 _ _ hu7
        replace ht7 := e30 _ _ ht7
        replace hc7 := e30 _ _ hc7
        replace hu8 := e30 _ _ hu8
        replace ht8 := e30 _ _ ht8
        replace hc8 := e30 _ _ hc8
        replace hu9 := e30 _ _ hu9
        replace ht9 := e30 _ _ ht9
        replace hc9 := e30 _ _ hc9
        replace hu10 := e30 _ _ hu10
        replace ht10 := e30 _ _ ht10
        replace hc10 := e30 _ _ hc10
        replace hu11 := e30 _ _ hu11
        replace ht11 := e30 _ _ ht11
        replace hc11 := e30 _ _ hc11
        replace hu12 := e30 _ _ hu12
        replace ht12 := e30 _ _ ht12
        replace hc12 := e30 _ _ hc12
        replace hu13 := e30 _ _ hu13
        replace ht13 := e30 _ _ ht13
        replace hc13 := e30 _ _ hc13
        replace ht14 := e30 _ _ ht14
        replace hu15 := e30 _ _ hu15
        replace hq := PairsAt.grow e30 hq
        refine ⟨pr, t15, pl, [.ref u15], rfl, rfl, .inl (.inl hpr), .inl (.inl ht15), small' (len_one lp), fun z => absurd z (pne), fun _ z => absurd z (List.cons_ne_nil _ _), fun _ _ c15 nc15 => ?_⟩
        have e31 : Same G30 (upd G30 c15 (.tup (pl ++ [.ref u15]))) := same_new nc15
        have hc15 : (upd G30 c15 (.tup (pl ++ [.ref u15]))) c15 = some (.tup (pl ++ [.ref u15])) := upd_same
        have qc15 : p ≠ c15 := dd30.2.ne_none nc15
        generalize upd G30 c15 (.tup (pl ++ [.ref u15])) = G31 at e31 hc15 ⊢
        have dd31 := dd30.same e31
        replace hpr := e31 _ _ hpr
        replace hl0 := e31 _ _ hl0
        replace ht5 := e31 _ _ ht5
        replace hc5 := e31 _ _ hc5
        replace hu6 := e31 _ _ hu6
        replace ht6 := e31 _ _ ht6
        replace hc6 := e31 _ _ hc6
        replace hu7 := e31 _ _ hu7
        replace ht7 := e31 _ _ ht7
        replace hc7 := e31 _ _ hc7
        replace hu8 := e31 _ _ hu8
        replace ht8 := e31 _ _ ht8
        replace hc8 := e31 _ _ hc8
        replace hu9 := e31 _ _ hu9
        replace ht9 := e31 _ _ ht9
        replace hc9 := e31 _ _ hc9
        replace hu10 := e31 _ _ hu10
        replace ht10 := e31 _ _ ht10
        replace hc10 := e31 _ _ hc10
        replace hu11 := e31 _ _ hu11
        replace ht11 := e31 _ _ ht11
        replace hc11 := e31 _ _ hc11
        replace hu12 := e31 _ _ hu12
        replace ht12 := e31 _ _ ht12
        replace hc12 := e31 _ _ hc12
        replace hu13 := e31 _ _ hu13
        replace ht13 := e31 _ _ ht13
        replace hc13 := e31 _ _ hc13
        replace ht14 := e31 _ _ ht14
        replace hu15 := e31 _ _ hu15
        replace ht15 := e31 _ _ ht15
        replace hq := PairsAt.grow e31 hq
        refine ⟨.ref pr, rfl, ?_⟩
        refine ⟨small' (by simp), fun u16 nu16 => ?_⟩
        have e32 : Same G31 (upd G31 u16 (.tup [.int 0, .non])) := same_new nu16
        have hu16 : (upd G31 u16 (.tup [.int 0, .non])) u16 = some (.tup [.int 0, .non]) := upd_same
        have qu16 : p ≠ u16 := dd31.2.ne_none nu16
        generalize upd G31 u16 (.tup [.int 0, .non]) = G32 at e32 hu16 ⊢
        have dd32 := dd31.same e32
        replace hpr := e32 _ _ hpr
        replace hl0 := e32 _ _ hl0
        replace ht5 := e32 _ _ ht5
        replace hc5 := e32 _ _ hc5
        replace hu6 := e32 _ _ hu6
        replace ht6 := e32 _ _ ht6
        replace hc6 := e32 _ _ hc6
        replace hu7 := e32 _ _ hu7
        replace ht7 := e32 _ _ ht7
        replace hc7 := e32 _ _ hc7
        replace hu8 := e32 _ _ hu8
        replace ht8 := e32 _ _ ht8
        replace hc8 := e32 _ _ hc8
        replace hu9 := e32 _ _ hu9
        replace ht9 := e32 _ _ ht9
        replace hc9 := e32 _ _ hc9
        replace hu10 := e32 _ _ hu10
        replace ht10 := e32 _ _ ht10
        replace hc10 := e32 _ _ hc10
        replace hu11 := e32 _ _ hu11
        replace ht11 := e32 _ _ ht11
        replace hc11 := e32 _ _ hc11
        replace hu12 := e32 _ _ hu12
        replace ht12 := e32 _ _ ht12
        replace hc12 := e32 _ _ hc12
        replace hu13 := e32 _ _ hu13
        replace ht13 := e32 _ _ ht13
        replace hc13 := e32 _ _ hc13
        replace ht14 := e32 _ _ ht14
        replace hu15 := e32 _ _ hu15
        replace ht15 := e32 _ _ ht15
        replace hc15 := e32 _ _ hc15
        replace hq := PairsAt.grow e32 hq
        refine ⟨small' (by simp), fun t16 nt16 => ?_⟩
        have e33 : Same G32 (upd G32 t16 (.tup [.ref u16])) := same_new nt16
        have ht16 : (upd G32 t16 (.tup [.ref u16])) t16 = some (.tup [.ref u16]) := upd_same
        have qt16 : p ≠ t16 := dd32.2.ne_none nt16
        generalize upd G32 t16 (.tup [.ref u16]) = G33 at e33 ht16 ⊢
        have dd33 := dd32.same e33
        replace hpr := e33 _ _ hpr
        replace hl0 := e33 _ _ hl0
        replace ht5 := e33 _ _ ht5
        replace hc5 := e33 _ _ hc5
        replace hu6 := e33 _ _ hu6
        replace ht6 := e33 _ _ ht6
        replace hc6 := e33 _ _ hc6
        replace hu7 := e33 _ _ hu7
        replace ht7 := e33 _ _ ht7
        replace hc7 := e33 _ _ hc7
        replace hu8 := e33 _ _ hu8
        replace ht8 := e33 _ _ ht8
        replace hc8 := e33 _ _ hc8
        replace hu9 := e33 _ _ hu9
        replace ht9 := e33 _ _ ht9
        replace hc9 := e33 _ _ hc9
        replace hu10 := e33 _ _ hu10
        replace ht10 := e33 _ _ ht10
        replace hc10 := e33 _ _ hc10
        replace hu11 := e33 _ _ hu11
        replace ht11 := e33 _ _ ht11
        replace hc11 := e33 _ _ hc11
        replace hu12 := e33 _ _ hu12
        replace ht12 := e33 _ _ ht12
        replace hc12 := e33 _ _ hc12
        replace hu13 := e33 _ _ hu13
        replace ht13 := e33 _ _ ht13
        replace hc13 := e33 _ _ hc13
        replace ht14 := e33 _ _ ht14
        replace hu15 := e33 _ _ hu15
        replace ht15 := e33 _ _ ht15
        replace hc15 := e33 _ _ hc15
        replace hu16 := e33 _ _ hu16
        replace hq := PairsAt.grow e33 hq
        refine ⟨pr, t16, pl, [.ref u16], rfl, rfl, .inl (.inl hpr), .inl (.inl ht16), small' (len_one lp), fun z => absurd z (pne), fun _ z => absurd z (List.cons_ne_nil _ _), fun _ _ c16 nc16 => ?_⟩
        have e34 : Same G33 (upd G33 c16 (.tup (pl ++ [.ref u16]))) := same_new nc16
        have hc16 : (upd G33 c16 (.tup (pl ++ [.ref u16]))) c16 = some (.tup (pl ++ [.ref u16])) := upd_same
        have qc16 : p ≠ c16 := dd33.2.ne_none nc16
        generalize upd G33 c16 (.tup (pl ++ [.ref u16])) = G34 at e34 hc16 ⊢
        have dd34 := dd33.same e34
        replace hpr := e34 _ _ hpr
        replace hl0 := e34 _ _ hl0
        replace ht5 := e34 _ _ ht5
        replace hc5 := e34 _ _ hc5
        replace hu6 := e34 _ _ hu6
        replace ht6 := e34 _ _ ht6
        replace hc6 := e34 _ _ hc6
        replace hu7 := e34 _ _ hu7
        replace ht7 := e34 _ _ ht7
        replace hc7 := e34 _ _ hc7
        replace hu8 := e34 _ _ hu8
        replace ht8 := e34 _ _ ht8
        replace hc8 := e34 _ _ hc8
        replace hu9 := e34 _ _ hu9
        replace ht9 := e34 _ _ ht9
        replace hc9 := e34 _ _ hc9
        replace hu10 := e34 _ _ hu10
        replace ht10 := e34 _ _ ht10
        replace hc10 := e34 _ _ hc10
        replace hu11 := e34 _ _ hu11
        replace ht11 := e34 _ _ ht11
        replace hc11 := e34 _ _ hc11
        replace hu12 := e34 _ _ hu12
        replace ht12 := e34 _ _ ht12
        replace hc12 := e34 _ _ hc12
        replace hu13 := e34 _ _ hu13
        replace ht13 := e34 _ _ ht13
        replace hc13 := e34 _ _ hc13
        replace ht14 := e34 _ _ ht14
        replace hu15 := e34 _ _ hu15
        replace ht15 := e34 _ _ ht15
        replace hc15 := e34 _ _ hc15
        replace hu16 := e34 _ _ hu16
        replace ht16 := e34 _ _ ht16
        replace hq := PairsAt.grow e34 hq
        refine ⟨.ref pr, rfl, ?_⟩
        refine ⟨small' (by simp), fun t17 nt17 => ?_⟩
        have e35 : Same G34 (upd G34 t17 (.tup [.str "00"])) := same_new nt17
        have ht17 : (upd G34 t17 (.tup [.str "00"])) t17 = some (.tup [.str "00"]) := upd_same
        have qt17 : p ≠ t17 := dd34.2.ne_none nt17
        generalize upd G34 t17 (.tup [.str "00"]) = G35 at e35 ht17 ⊢
        have dd35 := dd34.same e35
        replace hpr := e35 _ _ hpr
        replace hl0 := e35 _ _ hl0
        replace ht5 := e35 _ _ ht5
        replace hc5 := e35 _ _ hc5
        replace hu6 := e35 _ _ hu6
        replace ht6 := e35 _ _ ht6
        replace hc6 := e35 _ _ hc6
        replace hu7 := e35 _ _ hu7
        replace ht7 := e35 _ _ ht7
        replace hc7 := e35 _ _ hc7
        replace hu8 := e35 _ _ hu8
        replace ht8 := e35 _ _ ht8
        replace hc8 := e35 _ _ hc8
        replace hu9 := e35 _ _ hu9
        replace ht9 := e35 _ _ ht9
        replace hc9 := e35 _ _ hc9
        replace hu10 := e35 _ _ hu10
        replace ht10 := e35 _ _ ht10
        replace hc10 := e35 _ _ hc10
        replace hu11 := e35 _ _ hu11
        replace ht11 := e35 _ _ ht11
        replace hc11 := e35 _ _ hc11
        replace hu12 := e35 _ _ hu12
        replace ht12 := e35 _ _ ht12
        replace hc12 := e35 _ _ hc12
        replace hu13 := e35 _ _ hu13
        replace ht13 := e35 _ _ ht13
        replace hc13 := e35 _ _ hc13
        replace ht14 := e35 _ _ ht14
        replace hu15 := e35 _ _ hu15
        replace ht15 := e35 _ _ ht15
        replace hc15 := e35 _ _ hc15
        replace hu16 := e35 _ _ hu16
        replace ht16 := e35 _ _ ht16
        replace hc16 := e35 _ _ hc16
        replace hq := PairsAt.grow e35 hq
        refine ⟨pr, t17, pl, [.str "00"], rfl, rfl, .inl (.inl hpr), .inl (.inl ht17), small' (len_one lp), fun z => absurd z (pne), fun _ z => absurd z (List.cons_ne_nil _ _), fun _ _ c17 nc17 => ?_⟩
        have e36 : Same G35 (upd G35 c17 (.tup (pl ++ [.str "00"]))) := same_new nc17
        have hc17 : (upd G35 c17 (.tup (pl ++ [.str "00"]))) c17 = some (.tup (pl ++ [.str "00"])) := upd_same
        have qc17 : p ≠ c17 := dd35.2.ne_none nc17
        generalize upd G35 c17 (.tup (pl ++ [.str "00"])) = G36 at e36 hc17 ⊢
        have dd36 := dd35.same e36
        replace hpr := e36 _ _ hpr
        replace hl0 := e36 _ _ hl0
        replace ht5 := e36 _ _ ht5
        replace hc5 := e36 _ _ hc5
        replace hu6 := e36 _ _ hu6
        replace ht6 := e36 _ _ ht6
        replace hc6 := e36 _ _ hc6
        replace hu7 := e36 _ _ hu7
        replace ht7 := e36 _ _ ht7
        replace hc7 := e36 _ _ hc7
        replace hu8 := e36 _ _ hu8
        replace ht8 := e36 _ _ ht8
        replace hc8 := e36 _ _ hc8
        replace hu9 := e36 _ _ hu9
        replace ht9 := e36 _ _ ht9
        replace hc9 := e36 _ _ hc9
        replace hu10 := e36 _ _ hu10
        replace ht10 := e36 _ _ ht10
        replace hc10 := e36 _ _ hc10
        replace hu11 := e36 _ _ hu11
        replace ht11 := e36 _ _ ht11
        replace hc11 := e36 _ _ hc11
        replace hu12 := e36 _ _ hu12
        replace ht12 := e36 _ _ ht12
        replace hc12 := e36 _ _ hc12
        replace hu13 := e36 _ _ hu13
        replace ht13 := e36 _ _ ht13
        replace hc13 := e36 _ _ hc13
        replace ht14 := e36 _ _ ht14
        replace hu15 := e36 _ _ hu15
        replace ht15 := e36 _ _ ht15
        replace hc15 := e36 _ _ hc15
        replace hu16 := e36 _ _ hu16
        replace ht16 := e36 _ _ ht16
        replace hc16 := e36 _ _ hc16
        replace ht17 := e36 _ _ ht17
        replace hq := PairsAt.grow e36 hq
        refine ⟨.int ts.length, rfl, small' (by simp), fun u18 nu18 => ?_⟩
        have e37 : Same G36 (upd G36 u18 (.tup [.int (ts.length : Int), .int 0])) := same_new nu18
        have hu18 : (upd G36 u18 (.tup [.int (ts.length : Int), .int 0])) u18 = some (.tup [.int (ts.length : Int), .int 0]) := upd_same
        have qu18 : p ≠ u18 := dd36.2.ne_none nu18
        generalize upd G36 u18 (.tup [.int (ts.length : Int), .int 0]) = G37 at e37 hu18 ⊢
        have dd37 := dd36.same e37
        replace hpr := e37 _ _ hpr
        replace hl0 := e37 _ _ hl0
        replace ht5 := e37 _ _ ht5
        replace hc5 := e37 _ _ hc5
        replace hu6 := e37 _ _ hu6
        replace ht6 := e37 _ _ ht6
        replace hc6 := e37 _ _ hc6
        replace hu7 := e37 _ _ hu7
        replace ht7 := e37 _ _ ht7
        replace hc7 := e37 _ _ hc7
        replace hu8 := e37 _ _ hu8
        replace ht8 := e37 _ _ ht8
        replace hc8 := e37 _ _ hc8
        replace hu9 := e37 _ _ hu9
        replace ht9 := e37 _ _ ht9
        replace hc9 := e37 _ _ hc9
        replace hu10 := e37 _ _ hu10
        replace ht10 := e37 _ _ ht10
        replace hc10 := e37 _ _ hc10
        replace hu11 := e37 _ _ hu11
        replace ht11 := e37 _ _ ht11
        replace hc11 := e37 _ _ hc11
        replace hu12 := e37 _ _ hu12
        replace ht12 := e37 _ _ ht12
        replace hc12 := e37 _ _ hc12
        replace hu13 := e37 _ _ hu13
        replace ht13 := e37 _ _ ht13
        replace hc13 := e37 _ _ hc13
        replace ht14 := e37 _ _ ht14
        replace hu15 := e37 _ _ hu15
        replace ht15 := e37 _ _ ht15
        replace hc15 := e37 _ _ hc15
        replace hu16 := e37 _ _ hu16
        replace ht16 := e37 _ _ ht16
        replace hc16 := e37 _ _ hc16
        replace ht17 := e37 _ _ ht17
        replace hc17 := e37 _ _ hc17
        replace hq := PairsAt.grow e37 hq
        refine ⟨small' (by simp), fun t18 nt18 => ?_⟩
        have e38 : Same G37 (upd G37 t18 (.tup [.ref u18])) := same_new nt18
        have ht18 : (upd G37 t18 (.tup [.ref u18])) t18 = some (.tup [.ref u18]) := upd_same
        have qt18 : p ≠ t18 := dd37.2.ne_none nt18
        generalize upd G37 t18 (.tup [.ref u18]) = G38 at e38 ht18 ⊢
        have dd38 := dd37.same e38
        replace hpr := e38 _ _ hpr
        replace hl0 := e38 _ _ hl0
        replace ht5 := e38 _ _ ht5
        replace hc5 := e38 _ _ hc5
        replace hu6 := e38 _ _ hu6
        replace ht6 := e38 _ _ ht6
        replace hc6 := e38 _ _ hc6
        replace hu7 := e38 _ _ hu7
        replace ht7 := e38 _ _ ht7
        replace hc7 := e38 _ _ hc7
        replace hu8 := e38 _ _ hu8
        replace ht8 := e38 _ _ ht8
        replace hc8 := e38 _ _ hc8
        replace hu9 := e38 _ _ hu9
        replace ht9 := e38 _ _ ht9
        replace hc9 := e38 _ _ hc9
        replace hu10 := e38 _ _ hu10
        replace ht10 := e38 _ _ ht10
        replace hc10 := e38 _ _ hc10
        replace hu11 := e38 _ _ hu11
        replace ht11 := e38 _ _ ht11
        replace hc11 := e38 _ _ hc11
        replace hu12 := e38 _ _ hu12
        replace ht12 := e38 _ _ ht12
        replace hc12 := e38 _ _ hc12
        replace hu13 := e38 _ _ hu13
        replace ht13 := e38 _ _ ht13
        replace hc13 := e38 _ _ hc13
        replace ht14 := e38 _ _ ht14
        replace hu15 := e38 _ _ hu15
        replace ht15 := e38 _ _ ht15
        replace hc15 := e38 _ _ hc15
        replace hu16 := e38 _ _ hu16
        replace ht16 := e38 _ _ ht16
        replace hc16 := e38 _ _ hc16
        replace ht17 := e38 _ _ ht17
        replace hc17 := e38 _ _ hc17
        replace hu18 := e38 _ _ hu18
        replace hq := PairsAt.grow e38 hq
        refine ⟨small' (by simp), fun u19 nu19 => ?_⟩
        have e39 : Same G38 (upd G38 u19 (.tup [.int 0, .int 0])) := same_new nu19
        have hu19 : (upd G38 u19 (.tup [.int 0, .int 0])) u19 = some (.tup [.int 0, .int 0]) := upd_same
        have qu19 : p ≠ u19 := dd38.2.ne_none nu19
        generalize upd G38 u19 (.tup [.int 0, .int 0]) = G39 at e39 hu19 ⊢
        have dd39 := dd38.same e39
        replace hpr := e39 _ _ hpr
        replace hl0 := e39 _ _ hl0
        replace ht5 := e39 _ _ ht5
        replace hc5 := e39 _ _ hc5
        replace hu6 := e39 _ _ hu6
        replace ht6 := e39 _ _ ht6
        replace hc6 := e39 _ _ hc6
        replace hu7 := e39 _ _ hu7
        replace ht7 := e39 _ _ ht7
        replace hc7 := e39 _ _ hc7
        replace hu8 := e39 _ _ hu8
        replace ht8 := e39 _ _ ht8
        replace hc8 := e39 _ _ hc8
        replace hu9 := e39 _ _ hu9
        replace ht9 := e39 _ _ ht9
        replace hc9 := e39 _ _ hc9
        replace hu10 := e39 _ _ hu10
        replace ht10 := e39 _ _ ht10
        replace hc10 := e39 _ _ hc10
        replace hu11 := e39 _ _ hu11
        replace ht11 := e39 _ _ ht11
        replace hc11 := e39 _ _ hc11
        replace hu12 := e39 _ _ hu12
        replace ht12 := e39 _ _ ht12
        replace hc12 := e39 _ _ hc12
        replace hu13 := e39 _ _ hu13
        replace ht13 := e39 _ _ ht13
        replace hc13 := e39 _ _ hc13
        replace ht14 := e39 _ _ ht14
        replace hu15 := e39 _ _ hu15
        replace ht15 := e39 _ _ ht15
        replace hc15 := e39 _ _ hc15
        replace hu16 := e39 _ _ hu16
        replace ht16 := e39 _ _ ht16
        replace hc16 := e39 _ _ hc16
        replace ht17 := e39 _ _ ht17
        replace hc17 := e39 _ _ hc17
        replace hu18 := e39 _ _ hu18
        replace ht18 := e39 _ _ ht18
        replace hq := PairsAt.grow e39 hq
        refine ⟨small' (by simp), fun l19 nl19 => ?_⟩
        have e40 : Same G39 (upd G39 l19 (.lst [.ref u19])) := same_new nl19
        have hl19 : (upd G39 l19 (.lst [.ref u19])) l19 = some (.lst [.ref u19]) := upd_same
        have ql19 : p ≠ l19 := dd39.2.ne_none nl19
        generalize upd G39 l19 (.lst [.ref u19]) = G40 at e40 hl19 ⊢
        have dd40 := dd39.same e40
        replace hpr := e40 _ _ hpr
        replace hl0 := e40 _ _ hl0
        replace ht5 := e40 _ _ ht5
        replace hc5 := e40 _ _ hc5
        replace hu6 := e40 _ _ hu6
        replace ht6 := e40 _ _ ht6
        replace hc6 := e40 _ _ hc6
        replace hu7 := e40 _ _ hu7
        replace ht7 := e40 _ _ ht7
        replace hc7 := e40 _ _ hc7
        replace hu8 := e40 _ _ hu8
        replace ht8 := e40 _ _ ht8
        replace hc8 := e40 _ _ hc8
        replace hu9 := e40 _ _ hu9
        replace ht9 := e40 _ _ ht9
        replace hc9 := e40 _ _ hc9
        replace hu10 := e40 _ _ hu10
        replace ht10 := e40 _ _ ht10
        replace hc10 := e40 _ _ hc10
        replace hu11 := e40 _ _ hu11
        replace ht11 := e40 _ _ ht11
        replace hc11 := e40 _ _ hc11
        replace hu12 := e40 _ _ hu12
        replace ht12 := e40 _ _ ht12
        replace hc12 := e40 _ _ hc12
        replace hu13 := e40 _ _ hu13
        replace ht13 := e40 _ _ ht13
        replace hc13 := e40 _ _ hc13
        replace ht14 := e40 _ _ ht14
        replace hu15 := e40 _ _ hu15
        replace ht15 := e40 _ _ ht15
        replace hc15 := e40 _ _ hc15
        replace hu16 := e40 _ _ hu16
        replace ht16 := e40 _ _ ht16
        replace hc16 := e40 _ _ hc16
        replace ht17 := e40 _ _ ht17
        replace hc17 := e40 _ _ hc17
        replace hu18 := e40 _ _ hu18
        replace ht18 := e40 _ _ ht18
        replace hu19 := e40 _ _ hu19
        replace hq := PairsAt.grow e40 hq
        refine ⟨small' (by simp), fun L nL => ?_⟩
        have e41 : Same G40 (upd G40 L (.lst [.ref l0, .non, .int 0, .str "01", .bl true, .ref c5, .ref c6, .ref c7, .ref c8, .ref c9, .ref c10, .ref c11, .ref c12, .ref c13, .ref t14, .ref c15, .ref c16, .ref c17, .ref t18, .ref l19])) := same_new nL
        have hL : (upd G40 L (.lst [.ref l0, .non, .int 0, .str "01", .bl true, .ref c5, .ref c6, .ref c7, .ref c8, .ref c9, .ref c10, .ref c11, .ref c12, .ref c13, .ref t14, .ref c15, .ref c16, .ref c17, .ref t18, .ref l19])) L = some (.lst [.ref l0, .non, .int 0, .str "01", .bl true, .ref c5, .ref c6, .ref c7, .ref c8, .ref c9, .ref c10, .ref c11, .ref c12, .ref c13, .ref t14, .ref c15, .ref c16, .ref c17, .ref t18, .ref l19]) := upd_same
        have qL : p ≠ L := dd40.2.ne_none nL
        generalize upd G40 L (.lst [.ref l0, .non, .int 0, .str "01", .bl true, .ref c5, .ref c6, .ref c7, .ref c8, .ref c9, .ref c10, .ref c11, .ref c12, .ref c13, .ref t14, .ref c15, .ref c16, .ref c17, .ref t18, .ref l19]) = G41 at e41 hL ⊢
        have dd41 := dd40.same e41
        replace hpr := e41 _ _ hpr
        replace hl0 := e41 _ _ hl0
        replace ht5 := e41 _ _ ht5
        replace hc5 := e41 _ _ hc5
        replace hu6 := e41 _ _ hu6
        replace ht6 := e41 _ _ ht6
        replace hc6 := e41 _ _ hc6
        replace hu7 := e41 _ _ hu7
        replace ht7 := e41 _ _ ht7
        replace hc7 := e41 _ _ hc7
        replace hu8 := e41 _ _ hu8
        replace ht8 := e41 _ _ ht8
        replace hc8 := e41 _ _ hc8
        replace hu9 := e41 _ _ hu9
        replace ht9 := e41 _ _ ht9
        replace hc9 := e41 _ _ hc9
        replace hu10 := e41 _ _ hu10
        replace ht10 := e41 _ _ ht10
        replace hc10 := e41 _ _ hc10
        replace hu11 := e41 _ _ hu11
        replace ht11 := e41 _ _ ht11
        replace hc11 := e41 _ _ hc11
        replace hu12 := e41 _ _ hu12
        replace ht12 := e41 _ _ ht12
        replace hc12 := e41 _ _ hc12
        replace hu13 := e41 _ _ hu13
        replace ht13 := e41 _ _ ht13
        replace hc13 := e41 _ _ hc13
        replace ht14 := e41 _ _ ht14
        replace hu15 := e41 _ _ hu15
        replace ht15 := e41 _ _ ht15
        replace hc15 := e41 _ _ hc15
        replace hu16 := e41 _ _ hu16
        replace ht16 := e41 _ _ ht16
        replace hc16 := e41 _ _ hc16
        replace ht17 := e41 _ _ ht17
        replace hc17 := e41 _ _ hc17
        replace hu18 := e41 _ _ hu18
        replace ht18 := e41 _ _ ht18
        replace hu19 := e41 _ _ hu19
        replace hl19 := e41 _ _ hl19
        replace hq := PairsAt.grow e41 hq
        have dpp := dp_pairs (hq.offP dd41.2)
        refine ⟨L, _, _, rfl, dd41, hL, qL, .cons (.lst (.inl (.inl (offP_at ql0 hl0))) (dpp)) (.cons (.non) (.cons (.int _) (.cons (.str _) (.cons (.bl _) (.cons (.tup (.inl (.inl (offP_at qc5 hc5))) (dpAll_app dpp (.cons (.int _) .nil))) (.cons (.tup (.inl (.inl (offP_at qc6 hc6))) (.cons (.tup (.inl (.inl (offP_at qu6 hu6))) (.cons (.int _) (.cons (.int _) (.nil)))) dpp)) (.cons (.tup (.inl (.inl (offP_at qc7 hc7))) (dpAll_app dpp (.cons (.tup (.inl (.inl (offP_at qu7 hu7))) (.cons (.int _) (.cons (.int _) (.nil)))) .nil))) (.cons (.tup (.inl (.inl (offP_at qc8 hc8))) (dpAll_app dpp (.cons (.tup (.inl (.inl (offP_at qu8 hu8))) (.cons (.int _) (.cons (.int _) (.cons (.int _) (.nil))))) .nil))) (.cons (.tup (.inl (.inl (offP_at qc9 hc9))) (.cons (.tup (.inl (.inl (offP_at qu9 hu9))) (.cons (.bl _) (.cons (.int _) (.nil)))) dpp)) (.cons (.tup (.inl (.inl (offP_at qc10 hc10))) (dpAll_app dpp (.cons (.tup (.inl (.inl (offP_at qu10 hu10))) (.cons (.int _) (.cons (.bl _) (.nil)))) .nil))) (.cons (.tup (.inl (.inl (offP_at qc11 hc11))) (dpAll_app dpp (.cons (.lst (.inl (.inl (offP_at qu11 hu11))) (.cons (.int _) (.cons (.int _) (.nil)))) .nil))) (.cons (.tup (.inl (.inl (offP_at qc12 hc12))) (dpAll_app dpp (.cons (.tup (.inl (.inl (offP_at qu12 hu12))) (.cons (.int _) (.nil))) .nil))) (.cons (.tup (.inl (.inl (offP_at qc13 hc13))) (dpAll_app dpp (.cons (.tup (.inl (.inl (offP_at qu13 hu13))) (.nil)) .nil))) (.cons (.tup (.inl (.inl (offP_at qt14 ht14))) (.cons .non .nil)) (.cons (.tup (.inl (.inl (offP_at qc15 hc15))) (dpAll_app dpp (.cons (.tup (.inl (.inl (offP_at qu15 hu15))) (.cons (.str _) (.cons (.int _) (.nil)))) .nil))) (.cons (.tup (.inl (.inl (offP_at qc16 hc16))) (dpAll_app dpp (.cons (.tup (.inl (.inl (offP_at qu16 hu16))) (.cons (.int _) (.cons (.non) (.nil)))) .nil))) (.cons (.tup (.inl (.inl (offP_at qc17 hc17))) (dpAll_app dpp (.cons (.str _) .nil))) (.cons (.tup (.inl (.inl (offP_at qt18 ht18))) (.cons (.tup (.inl (.inl (offP_at qu18 hu18))) (.cons (.int _) (.cons (.int _) (.nil)))) .nil)) (.cons (.lst (.inl (.inl (offP_at ql19 hl19))) (.cons (.tup (.inl (.inl (offP_at qu19 hu19))) (.cons (.int _) (.cons (.int _) (.nil)))) .nil)) (.nil)))))))))))))))))))), rfl, fun d hd => ?_⟩
        simp only [List.mem_cons, List.not_mem_nil, or_false] at hd
        rcases hd with rfl | rfl | rfl | rfl | rfl | rfl | rfl | rfl | rfl | rfl | rfl | rfl | rfl | rfl | rfl | rfl | rfl | rfl | rfl | rfl
        · exact ⟨rfl, trivial⟩
        · exact ⟨rfl, trivial⟩
        · exact ⟨rfl, trivial⟩
        · exact ⟨rfl, trivial⟩
        · exact ⟨rfl, trivial⟩
        · exact ⟨pairs_no (e := .int 0) (List.mem_append_right _ List.mem_cons_self) (rfl), short_app lq (Nat.le_of_ble_eq_true rfl)⟩
        · exact ⟨pairs_no (e := .tuple [.int 0, .int (ts.length : Int)]) (List.mem_cons_self) (pair_no (e := .int (ts.length : Int)) (List.mem_cons_of_mem _ List.mem_cons_self) (below_no (.inr (Int.le_refl _)))), short_con lq (Nat.le_of_ble_eq_true rfl)⟩
        · exact ⟨pairs_no (e := .tuple [.int (-1), .int 0]) (List.mem_append_right _ List.mem_cons_self) (rfl), short_app lq (Nat.le_of_ble_eq_true rfl)⟩
        · exact ⟨pairs_no (e := .tuple [.int 0, .int 0, .int 0]) (List.mem_append_right _ List.mem_cons_self) (pair_len (by decide)), short_app lq (Nat.le_of_ble_eq_true rfl)⟩
        · exact ⟨pairs_no (e := .tuple [.bool true, .int 0]) (List.mem_cons_self) (rfl), short_con lq (Nat.le_of_ble_eq_true rfl)⟩
        · exact ⟨pairs_no (e := .tuple [.int 0, .bool false]) (List.mem_append_right _ List.mem_cons_self) (pair_no (e := .bool false) (List.mem_cons_of_mem _ List.mem_cons_self) rfl), short_app lq (Nat.le_of_ble_eq_true rfl)⟩
        · exact ⟨pairs_no (e := .list [.int 0, .int 0]) (List.mem_append_right _ List.mem_cons_self) (rfl), short_app lq (Nat.le_of_ble_eq_true rfl)⟩
        · exact ⟨pairs_no (e := .tuple [.int 0]) (List.mem_append_right _ List.mem_cons_self) (pair_len (by decide)), short_app lq (Nat.le_of_ble_eq_true rfl)⟩
        · exact ⟨pairs_no (e := .tuple []) (List.mem_append_right _ List.mem_cons_self) (pair_len (by decide)), short_app lq (Nat.le_of_ble_eq_true rfl)⟩
        · exact ⟨pairs_no (e := .none) List.mem_cons_self rfl, short_one (Nat.le_of_ble_eq_true rfl)⟩
        · exact ⟨pairs_no (e := .tuple [.str "0", .int 0]) (List.mem_append_right _ List.mem_cons_self) (rfl), short_app lq (Nat.le_of_ble_eq_true rfl)⟩
        · exact ⟨pairs_no (e := .tuple [.int 0, .none]) (List.mem_append_right _ List.mem_cons_self) (pair_no (e := .none) (List.mem_cons_of_mem _ List.mem_cons_self) rfl), short_app lq (Nat.le_of_ble_eq_true rfl)⟩
        · exact ⟨pairs_no (e := .str "00") (List.mem_append_right _ List.mem_cons_self) (rfl), short_app lq (Nat.le_of_ble_eq_true rfl)⟩
        · exact ⟨pairs_no (e := .tuple [.int (ts.length : Int), .int 0]) List.mem_cons_self (pair_no (e := .int (ts.length : Int)) List.mem_cons_self (below_no (.inr (Int.le_refl _)))), short_one (Nat.le_of_ble_eq_true rfl)⟩
        · exact ⟨rfl, trivial⟩
    obtain ⟨L, us, ds, rfl, d9, hL, qL, hds, lus, bad⟩ := h
    refine ⟨3, rfl, by omega, by omega, ?_⟩
    refine for_range0 (n := (3 : Int).toNat) (fun i σ H' => ∃ y5 y6, σ = [some (.ref p), some (.ref t), some (.ref pr), some (.int ts.length), some (.ref L), y5, y6] ∧ Drawn p H9 H')
      ⟨none, none, rfl, Drawn.refl d9.2⟩ (fun i σ H' lt h => ?_) (fun σ H' h => ?_)
    · obtain ⟨y5, y6, rfl, k⟩ := h
      have i3 : i = 0 ∨ i = 1 ∨ i = 2 := by have : (3 : Int).toNat = 3 := rfl; omega
      have hn : (2 + 3 * (Int.fdiv (i : Int) 2) : Int) = 2 ∨ (2 + 3 * (Int.fdiv (i : Int) 2) : Int) = 5 := by
        rcases i3 with rfl | rfl | rfl
        · exact .inl rfl
        · exact .inl rfl
        · exact .inr rfl
      refine ⟨.ref L, rfl, .ref p, rfl, p, 20, rfl, k.2, by omega, by omega, fun i0 H3 i00 i01 dd ff => ?_⟩
      have kd := k.trans dd
      have hL3 := kd.1 _ _ qL.symm hL
      obtain ⟨v, dv, atv, Dv, mem⟩ := odd_at (dpAll_grow (offP_drawn kd) hds) i00 i01 (by rw [lus]; rfl)
      obtain ⟨bad1, bad2⟩ := bad dv mem
      refine ⟨L, us, i0, v, rfl, rfl, .inl (.inl hL3), atv, ?_⟩
      have dB := d9.trans kd
      refine ⟨.int (i : Int), rfl, (i : Int), 2, rfl, rfl, ⟨by decide, by decide⟩, 3, Int.fdiv (i : Int) 2, rfl, rfl, .inl ⟨by decide, by decide⟩, 2, 3 * Int.fdiv (i : Int) 2, rfl, rfl, .ref t, rfl, v, rfl, 2 + 3 * Int.fdiv (i : Int) 2, t, ts, .non, v, rfl, seqT_drawn hP dB hT, by omega, .inr ⟨hn, .inl ⟨dv, Dv, bad2, bad1, fun L2 H4 s4 hL2 => ?_⟩⟩⟩
      refine ⟨small' (by simp), fun M nM => ?_⟩
      have sM := same_new (o := .lst [.str "not usable", .str "pairs"]) nM
      exact ⟨.ref L2, .ref M, wdD "not usable" "pairs", rfl, dp_grow sM (wd_at hL2), wd_at upd_same, ok_wd _ _, fun H5 s5 => ⟨_, rfl, _, _, rfl, ((kd.same s4).same sM).same s5⟩⟩
    · obtain ⟨y5, y6, rfl, k⟩ := h
      exact q H' (d9.trans k)
end
end K2
set_option Elab.async false
set_option linter.all false
set_option maxRecDepth 100000
set_option maxHeartbeats 2000000
namespace K2
open PySem PySem.Spec PyProof.Rows L2 Ver
theorem uniq_skip {α : Type} [DecidableEq α] : ∀ (A acc : List α), (∀ x ∈ A, x ∈ acc) → uniq acc A = acc
  | [], _, _ => rfl
  | x :: A, acc, h => by
    show uniq (if x ∈ acc then acc else acc ++ [x]) A = acc
    rw [if_pos (h x List.mem_cons_self)]
    exact uniq_skip A acc fun y hy => h y (List.mem_cons_of_mem _ hy)
theorem uniq_fresh {α : Type} [DecidableEq α] : ∀ (B acc : List α), B.Nodup → (∀ x ∈ B, x ∉ acc) → uniq acc B = acc ++ B
  | [], acc, _, _ => (List.append_nil acc).symm
  | x :: B, acc, nd, h => by
    show uniq (if x ∈ acc then acc else acc ++ [x]) B = acc ++ x :: B
    rw [if_neg (h x List.mem_cons_self)]
    have nd2 := List.nodup_cons.mp nd
    rw [uniq_fresh B (acc ++ [x]) nd2.2 (fun y hy z => ?_), List.append_assoc]
    · rfl
    · rcases List.mem_append.mp z with z | z
      · exact h y (List.mem_cons_of_mem _ hy) z
      · rw [List.mem_singleton.mp z] at hy
        exact nd2.1 hy
def gp (l : Nat) (s : Int) (m : Nat) : List (Int × Int) := (List.range (m - l)).map fun (k : Nat) => ((l : Int) + (k : Int), Int.fmod ((l : Int) + (k : Int) + s) m)
theorem gp_mem {l m : Nat} {s t u : Int} : (t, u) ∈ gp l s m ↔ (l : Int) ≤ t ∧ t < m ∧ u = Int.fmod (t + s) m := by
  unfold gp
  rw [List.mem_map]
  constructor
  · rintro ⟨k, hk, e⟩
    have := List.mem_range.mp hk
    have e1 := (Prod.mk.inj e).1
    have e2 := (Prod.mk.inj e).2
    refine ⟨by omega, by omega, ?_⟩
    rw [← e1]
    exact e2.symm
  · rintro ⟨h1, h2, rfl⟩
    refine ⟨(t - l).toNat, List.mem_range.mpr (by omega), ?_⟩
    rw [show (l : Int) + (((t - l).toNat : Nat) : Int) = t by omega]
theorem gp_in {l m : Nat} {s : Int} (m0 : 1 ≤ m) : ∀ q ∈ gp l s m, InM m q := fun ⟨t, u⟩ h => by
  obtain ⟨h1, h2, rfl⟩ := gp_mem.mp h
  have a := Int.fmod_nonneg_of_pos (t + s) (b := (m : Int)) (by omega)
  have b := Int.fmod_lt_of_pos (t + s) (b := (m : Int)) (by omega)
  exact ⟨by show (0 : Int) ≤ t; omega, h2, a, b⟩
theorem fmod_inj {m : Nat} {s i j : Int} (m0 : 1 ≤ m) (i0 : 0 ≤ i) (i1 : i < m) (j0 : 0 ≤ j) (j1 : j < m) (e : Int.fmod (i + s) m = Int.fmod (j + s) m) : i = j := by
  have h1 := Int.mul_fdiv_add_fmod (i + s) m
  have h2 := Int.mul_fdiv_add_fmod (j + s) m
  rw [e] at h1
  have h3 : (m : Int) * (Int.fdiv (i + s) m - Int.fdiv (j + s) m) = i - j := by rw [Int.mul_sub]; omega
  generalize Int.fdiv (i + s) m - Int.fdiv (j + s) m = d at h3
  have : d = 0 := by
    rcases Int.lt_trichotomy d 0 with h | h | h
    · have : (m : Int) * d ≤ (m : Int) * (-1) := Int.mul_le_mul_of_nonneg_left (by omega) (by omega)
      omega
    · exact h
    · have : (m : Int) * 1 ≤ (m : Int) * d := Int.mul_le_mul_of_nonneg_left (by omega) (by omega)
      omega
  rw [this, Int.mul_zero] at h3
  omega
theorem great_cnt {l m : Nat} {s : Int} (m0 : 1 ≤ m) (lm : l ≤ m) : cntB m (barOf m (gp l s m)) = m - l + 1 := by
  have hin := gp_in (l := l) (s := s) m0
  have sq := sqr_of hin
  have bars : ∀ {t u : Int}, 0 ≤ t → t < m → 0 ≤ u → u < m → barG (barOf m (gp l s m)) t u = decide ((t, u) ∈ gp l s m) := fun {t u} a b c d => bar_of hin a b c d
  generalize barOf m (gp l s m) = bar at sq bars
  have row : ∀ i : Nat, i < m → ∃ r, bar[i]? = some r ∧ r.length = m ∧ ∀ u : Nat, u < m → r[u]? = some (decide (((i : Int), (u : Int)) ∈ gp l s m)) := fun i hi => by
    have e := List.getElem?_eq_getElem (show i < bar.length by rw [sq.1]; exact hi)
    have lr := sq.2 _ (List.mem_of_getElem? e)
    refine ⟨_, e, lr, fun u hu => ?_⟩
    have b := bars (t := (i : Int)) (u := (u : Int)) (by omega) (by omega) (by omega) (by omega)
    unfold barG at b
    rw [Int.toNat_natCast, Int.toNat_natCast, e] at b
    have e2 := List.getElem?_eq_getElem (show u < (bar[i]'(by rw [sq.1]; exact hi)).length by omega)
    have b2 : (((bar[i]'(by rw [sq.1]; exact hi))[u]?).getD false) = decide (((i : Int), (u : Int)) ∈ gp l s m) := b
    rw [e2] at b2
    rw [e2]
    exact congrArg some b2
  have low : ∀ x ∈ bar.take l, x ∈ [List.replicate m false] := fun x hx => by
    obtain ⟨i, hi, e⟩ := List.mem_iff_getElem.mp hx
    rw [List.length_take, sq.1] at hi
    rw [List.getElem_take] at e
    obtain ⟨r, er, lr, hr⟩ := row i (by omega)
    rw [List.getElem?_eq_getElem (by rw [sq.1]; omega)] at er
    rw [Option.some.inj er] at e
    subst e
    refine List.mem_singleton.mpr (List.ext_getElem? fun u => ?_)
    by_cases hu : u < m
    · rw [hr u hu, List.getElem?_replicate, if_pos hu, decide_eq_false (fun z => by have := (gp_mem.mp z).1; omega)]
    · rw [List.getElem?_eq_none (by omega), List.getElem?_eq_none (by rw [List.length_replicate]; omega)]
  have at1 : ∀ i : Nat, l ≤ i → i < m → ∀ r, bar[i]? = some r → r[(Int.fmod ((i : Int) + s) m).toNat]? = some true := fun i li im r er => by
    obtain ⟨r2, er2, _, hr⟩ := row i im
    rw [er] at er2
    rw [Option.some.inj er2]
    have a := Int.fmod_nonneg_of_pos ((i : Int) + s) (b := (m : Int)) (by omega)
    have b := Int.fmod_lt_of_pos ((i : Int) + s) (b := (m : Int)) (by omega)
    rw [hr _ (by omega), decide_eq_true (gp_mem.mpr ⟨by omega, by omega, by omega⟩)]
  have nd : (bar.drop l).Nodup := by
    refine List.pairwise_iff_getElem.mpr fun i j hi hj ij e => ?_
    rw [List.length_drop, sq.1] at hi hj
    rw [List.getElem_drop, List.getElem_drop] at e
    have e1 := List.getElem?_eq_getElem (show l + i < bar.length by rw [sq.1]; omega)
    have e2 := List.getElem?_eq_getElem (show l + j < bar.length by rw [sq.1]; omega)
    have t1 := at1 (l + i) (by omega) (by omega) _ e1
    rw [e] at t1
    obtain ⟨r2, er2, _, hr⟩ := row (l + j) (by omega)
    rw [e2] at er2
    rw [Option.some.inj er2] at t1
    have a := Int.fmod_nonneg_of_pos (((l + i : Nat) : Int) + s) (b := (m : Int)) (by omega)
    have b := Int.fmod_lt_of_pos (((l + i : Nat) : Int) + s) (b := (m : Int)) (by omega)
    rw [hr _ (by omega)] at t1
    have t2 := (gp_mem.mp (of_decide_eq_true (Option.some.inj t1))).2.2
    rw [show (((Int.fmod (((l + i : Nat) : Int) + s) m).toNat : Nat) : Int) = Int.fmod (((l + i : Nat) : Int) + s) m by omega] at t2
    have := fmod_inj m0 (by omega) (by omega) (by omega) (by omega) t2
    omega
  have new : ∀ x ∈ bar.drop l, x ∉ [List.replicate m false] := fun x hx z => by
    obtain ⟨i, hi, e⟩ := List.mem_iff_getElem.mp hx
    rw [List.length_drop, sq.1] at hi
    rw [List.getElem_drop] at e
    have t1 := at1 (l + i) (by omega) (by omega) _ (List.getElem?_eq_getElem (show l + i < bar.length by rw [sq.1]; omega))
    rw [e, List.mem_singleton.mp z, List.getElem?_replicate] at t1
    split at t1 <;> cases t1
  unfold cntB
  show (uniq [List.replicate m false] bar).length = m - l + 1
  have ta : bar = bar.take l ++ bar.drop l := (List.take_append_drop l bar).symm
  rw [ta, uniq_app, uniq_skip _ _ low, uniq_fresh _ _ nd new, List.length_append, List.length_drop, sq.1]
  show 1 + (m - l) = m - l + 1
  omega
end K2
set_option Elab.async false
set_option linter.all false
set_option maxRecDepth 100000
set_option maxHeartbeats 4000000
namespace K2
open PySem PySem.Spec PyProof.Rows L2 Ver
section
variable {P : Program} {w : World} {K : PySem.W.Frag} {mg : Str → Option Value} {base : Heap}
def sp__law_great (K : PySem.W.Frag) : Sp := fun vs H Q _ => ∃ p : Addr, vs = [.ref p] ∧ Pool H p ∧ ∀ H', Drawn p H H' → Q (.bl true) H'
theorem ok__law_great (T : Tx K mg) : FnOk P w K mg base CX0 9 T.f__law_great T.d__law_great ["pool"] (sp__law_great K) := by
  refine T.F__law_great.ok sc__law_great (fun vs H Q E h => ?_) (fun cdv A outer s H vs Q E hr h => ?_)
  · obtain ⟨p, rfl, _⟩ := h; rfl
  · obtain ⟨p, rfl, hP, q⟩ := h
    refine ⟨_, (pss_cons (ps_set (i := 1) sc__law_great.nd rfl (Or.inr rfl) pe_str)
    (pss_cons (ps_set (i := 2) sc__law_great.nd rfl (Or.inl rfl) (pe_call (ok__law_pick T) (hr.mono (by decide)) rfl T.g__law_pick T.F__law_pick.kp T.b__law_pick .nil pass0 (pa_cons (pv 0) (pa_cons pe_int pa_nil))))
    (pss_cons (ps_set (i := 3) sc__law_great.nd rfl (Or.inr rfl) (pe_op op_sub (pe_op op_add pe_int (pv 2)) (pe_call (ok__law_pick T) (hr.mono (by decide)) rfl T.g__law_pick T.F__law_pick.kp T.b__law_pick .nil pass0 (pa_cons (pv 0) (pa_cons pe_int pa_nil)))))
    (pss_cons (ps_set (i := 4) sc__law_great.nd rfl (Or.inl rfl) (pe_callTy call_tuple_of (by rfl) T.n_tuple (by decide +kernel) (pa_cons (pe_lc (own := [("k", 9)]) (g := gName 9) (tt := tYes) (by rfl) sc__law_great.nd (pi_range1 rfl T.n_range (pa_cons (pv 3) pa_nil)) (blkOk_by (N := ["pool", "letters", "less", "m", "tokens", "shift", "pairs", "told", "row", "k", "t"]) (sc := defScope s__law_great) (by decide +kernel)) (fun _ _ _ _ _ => (pg_name (i := 9) sc__law_great.nd rfl (Or.inl rfl))) (fun _ _ _ _ _ => pts_nil) (fun _ _ _ _ _ => (pe_op op_add_str (pe_ix ix_str (pv 1) (pe_op op_fdivN (pv 9) pe_int) (fun _ _ => rfl)) (pe_ix ix_str (pv 1) (pe_op op_modN (pe_callTy call_int1 (by rfl) T.n_int (by decide +kernel) (pa_cons (pv 9) pa_nil)) pe_int) (fun _ _ => rfl))))) pa_nil)))
    (pss_cons (ps_set (i := 5) sc__law_great.nd rfl (Or.inr rfl) (pe_op op_mul (pe_call (ok__law_pick T) (hr.mono (by decide)) rfl T.g__law_pick T.F__law_pick.kp T.b__law_pick .nil pass0 (pa_cons (pv 0) (pa_cons pe_int pa_nil))) (pe_call (ok__law_pick T) (hr.mono (by decide)) rfl T.g__law_pick T.F__law_pick.kp T.b__law_pick .nil pass0 (pa_cons (pv 0) (pa_cons (pv 3) pa_nil)))))
    (pss_cons (ps_set (i := 6) sc__law_great.nd rfl (Or.inl rfl) (pe_callTy call_tuple_of (by rfl) T.n_tuple (by decide +kernel) (pa_cons (pe_lc (own := [("t", 10)]) (g := gName 10) (tt := tYes) (by rfl) sc__law_great.nd (pi_range2 rfl T.n_range (pa_cons (pv 2) (pa_cons (pv 3) pa_nil))) (blkOk_by (N := ["pool", "letters", "less", "m", "tokens", "shift", "pairs", "told", "row", "k", "t"]) (sc := defScope s__law_great) (by decide +kernel)) (fun _ _ _ _ _ => (pg_name (i := 10) sc__law_great.nd rfl (Or.inl rfl))) (fun _ _ _ _ _ => pts_nil) (fun _ _ _ _ _ => (pe_tup (pa_cons (pv 10) (pa_cons (pe_op op_modN (pe_callTy call_int1 (by rfl) T.n_int (by decide +kernel) (pa_cons (pe_op op_add (pv 10) (pv 5)) pa_nil)) (pv 3)) pa_nil))))) pa_nil)))
    (pss_cons (ps_set (i := 7) sc__law_great.nd rfl (Or.inl rfl) (pe_call (ok__law_told T) hr rfl T.g__law_told T.F__law_told.kp T.b__law_told .nil pass0 (pa_cons pe_int (pa_cons (pv 4) (pa_cons pe_non (pa_cons (pv 6) pa_nil))))))
    (pss_cons (ps_if (pt_cmpR op_gt (pe_op op_add (pe_op op_sub (pv 3) (pv 2)) pe_int) pe_int (nomark _)) (pss_one (ps_ret (pe_call (ok__law_same T 5) (hr.mono (by decide)) rfl T.g__law_same T.F__law_same.kp T.b__law_same .nil pass0 (pa_cons (pv 7) (pa_cons (pe_lst (pa_cons pe_str (pa_cons pe_str pa_nil))) pa_nil))))) pss_nil)
    (pss_cons (ps_if (pt_not (pt_val (pe_call (ok__law_pairs_right T) hr rfl T.g__law_pairs_right T.F__law_pairs_right.kp T.b__law_pairs_right .nil pass0 (pa_cons (pv 7) (pa_cons (pv 3) (pa_cons (pe_call (ok__law_barred T) (hr.mono (by decide)) rfl T.g__law_barred T.F__law_barred.kp T.b__law_barred .nil pass0 (pa_cons (pv 3) (pa_cons (pv 6) pa_nil))) pa_nil)))))) (pss_one (ps_ret pe_bl)) pss_nil)
    (pss_cons (ps_set (i := 8) sc__law_great.nd rfl (Or.inl rfl) (pe_callTy call_tuple_of (by rfl) T.n_tuple (by decide +kernel) (pa_cons (pe_lc (own := [("k", 9)]) (g := gName 9) (tt := tYes) (by rfl) sc__law_great.nd (pi_range1 rfl T.n_range (pa_cons pe_int pa_nil)) (blkOk_by (N := ["pool", "letters", "less", "m", "tokens", "shift", "pairs", "told", "row", "k", "t"]) (sc := defScope s__law_great) (by decide +kernel)) (fun _ _ _ _ _ => (pg_name (i := 9) sc__law_great.nd rfl (Or.inl rfl))) (fun _ _ _ _ _ => pts_nil) (fun _ _ _ _ _ => (pe_call (ok__law_pick T) (hr.mono (by decide)) rfl T.g__law_pick T.F__law_pick.kp T.b__law_pick .nil pass0 (pa_cons (pv 0) (pa_cons (pv 3) pa_nil))))) pa_nil)))
    (pss_one (ps_ret (pe_call (ok__law_same T 5) (hr.mono (by decide)) rfl T.g__law_same T.F__law_same.kp T.b__law_same .nil pass0 (pa_cons (pe_call (ok__law_told T) hr rfl T.g__law_told T.F__law_told.kp T.b__law_told .nil pass0 (pa_cons pe_int (pa_cons (pv 4) (pa_cons (pv 7) (pa_cons (pv 8) pa_nil))))) (pa_cons (pe_call (ok__law_let T) (hr.mono (by decide)) rfl T.g__law_let T.F__law_let.kp T.b__law_let .nil pass0 (pa_cons (pv 8) (pa_cons (pe_call (ok__law_barred T) (hr.mono (by decide)) rfl T.g__law_barred T.F__law_barred.kp T.b__law_barred .nil pass0 (pa_cons (pv 3) (pa_cons (pv 6) pa_nil))) pa_nil))) pa_nil))))))))))))))), ?_⟩
    refine ⟨.ref p, rfl, p, 4, rfl, hP, by omega, by omega, fun l0 H1 l00 l01 d1 f1 => ?_⟩
    refine ⟨.int l0, rfl, 60, l0, rfl, rfl, .ref p, rfl, p, 2, rfl, d1.2, by omega, by omega, fun l1 H2 l10 l11 d2 f2 => ⟨_, _, rfl, rfl, ?_⟩⟩
    obtain ⟨m, em⟩ : ∃ m : Nat, 60 + l0 - l1 = (m : Int) := ⟨(60 + l0 - l1).toNat, by omega⟩
    obtain ⟨l, rfl⟩ : ∃ l : Nat, l0 = (l : Int) := ⟨l0.toNat, by omega⟩
    have d02 := d1.trans d2
    show tSeq _ _ _ (List.set _ _ (some (V.int (60 + (l : Int) - l1)))) _
    rw [em]
    refine ⟨.int (m : Int), rfl, (m : Int), rfl, by omega, by omega, fun D nD => ?_⟩
    refine comp_range (n := (m : Int).toNat) (i := 9) (fun acc H5 => Same H2 H5) (same_new nD) (fun acc H5 la h hD => ?_) (fun acc H3 la h hD => ?_)
    · have lt8 : 0 ≤ Int.fdiv (acc.length : Int) 8 ∧ Int.fdiv (acc.length : Int) 8 < 8 := by
        rw [Int.fdiv_eq_ediv_of_nonneg _ (by omega)]
        omega
      have md8 := And.intro (Int.fmod_nonneg_of_pos (acc.length : Int) (b := 8) (by omega)) (Int.fmod_lt_of_pos (acc.length : Int) (b := 8) (by omega))
      obtain ⟨c1, ec1⟩ := sign_at (sg := (Str.ofString "abcdefgh")) lt8.1 lt8.2
      obtain ⟨c2, ec2⟩ := sign_at (sg := (Str.ofString "abcdefgh")) md8.1 md8.2
      refine ⟨.str _, rfl, .int (acc.length : Int), rfl, _, _, rfl, rfl, ⟨by decide, by decide⟩, _, _, c1, rfl, rfl, small' (by decide), ec1, ?_⟩
      refine ⟨.str _, rfl, .int (acc.length : Int), rfl, .inl ⟨_, rfl, _, _, rfl, rfl, (by omega : (8 : Int) ≠ 0), _, _, c2, rfl, rfl, small' (by decide), ec2, ?_⟩⟩
      exact ⟨_, _, rfl, rfl, small' (by show 1 + 1 ≤ 100000; decide), turned hD (small (by omega)) (same_upd2 h nD)⟩
    refine ⟨D, _, rfl, .inl ⟨.inl (.inl hD), fun t nt => ?_⟩⟩
    have st := same_new (o := .tup acc) nt
    have ht : (upd H3 t (.tup acc)) t = some (.tup acc) := upd_same
    have d3 := (d02.same h).same st
    generalize upd H3 t (.tup acc) = H4 at st ht d3 ⊢
    have lacc : acc.length = m := by omega
    clear la h hD st nD nt
    refine ⟨.ref p, rfl, p, 2, rfl, d3.2, by omega, by omega, fun s0 H5 s00 s01 d5 f5 => ?_⟩
    have d35 := d3.trans d5
    have p64 : (2 : Int) ^ 64 = 18446744073709551616 := by decide
    refine ⟨.ref p, rfl, .int (m : Int), rfl, p, (m : Int), rfl, d35.2, by omega, by omega, fun s1 H6 s10 s11 d6 f6 => ⟨_, _, rfl, rfl, .inl ⟨by omega, by omega⟩, ?_⟩⟩
    have d6' := d35.trans d6
    have ht6 := tup_drawn d3.2 (d5.trans d6) ht
    refine ⟨.int (l : Int), rfl, .int (m : Int), rfl, (l : Int), (m : Int), rfl, ⟨by omega, by omega, by omega, by omega⟩, fun D2 nD2 => ?_⟩
    have sD2 : Same H6 (upd H6 D2 (.lst [])) := same_new nD2
    refine lc_range (lo := (l : Int)) (n := ((m : Int) - (l : Int)).toNat) (fun i H' => ∃ acc2, acc2.length = i ∧ Same H6 H' ∧ H' D2 = some (.lst acc2) ∧ PairsAt K H' acc2 ((gp l (s0 * s1) m).take i))
      ⟨[], rfl, sD2, upd_same, .nil⟩ (fun i H' lt h => ?_) (fun H7 h => ?_)
    · obtain ⟨acc2, la2, s6, hD2, hp⟩ := h
      refine ⟨wipe_one _ 10 _, yes_on ?_⟩
      refine ⟨.int ((l : Int) + (i : Int)), rfl, .int ((l : Int) + (i : Int)), rfl, .int (s0 * s1), rfl, _, _, rfl, rfl, .inl ⟨_, rfl, .int (m : Int), rfl, _, _, rfl, rfl, (by omega : (m : Int) ≠ 0), small' (by simp), fun a na => ?_⟩⟩
      have sa := same_new (o := .tup [.int ((l : Int) + (i : Int)), .int (Int.fmod ((l : Int) + (i : Int) + s0 * s1) m)]) na
      have ha : (upd H' a (.tup [.int ((l : Int) + (i : Int)), .int (Int.fmod ((l : Int) + (i : Int) + s0 * s1) m)])) a = some (.tup [.int ((l : Int) + (i : Int)), .int (Int.fmod ((l : Int) + (i : Int) + s0 * s1) m)]) := upd_same
      have hDa := sa _ _ hD2
      have aD : a ≠ D2 := fun z => by rw [z, hD2] at na; cases na
      refine ⟨acc2, hDa, small (by omega), acc2 ++ [.ref a], by rw [List.length_append, la2]; rfl, same_upd2 (s6.trans sa) nD2, upd_same, ?_⟩
      have eg : (gp l (s0 * s1) m)[i]? = some ((l : Int) + (i : Int), Int.fmod ((l : Int) + (i : Int) + s0 * s1) m) := by
        unfold gp
        rw [List.getElem?_map, List.getElem?_range (by omega)]
        rfl
      rw [List.take_add_one, eg]
      refine Paired.snoc (PairsAt.keepL (fun b o e ne => ?_) (hp.grow sa)) ⟨a, rfl, ?_⟩
      · rw [upd_ne (fun z => ne acc2 (by rw [z, hDa] at e; exact (Option.some.inj e).symm))]
        exact e
      · rw [upd_ne aD]
        exact ha
    obtain ⟨pl, lpl, s7, hD2, hpl⟩ := h
    have lgp : (gp l (s0 * s1) m).length = m - l := by unfold gp; rw [List.length_map, List.length_range]
    rw [show ((m : Int) - (l : Int)).toNat = (gp l (s0 * s1) m).length by rw [lgp]; omega, List.take_length] at hpl
    refine ⟨D2, _, rfl, .inl ⟨.inl (.inl hD2), fun pr npr => ?_⟩⟩
    have sp := same_new (o := .tup pl) npr
    have hpr : (upd H7 pr (.tup pl)) pr = some (.tup pl) := upd_same
    replace hpl := hpl.grow sp
    have d8 := (d6'.same s7).same sp
    have ht8 := sp _ _ (s7 _ _ ht6)
    generalize upd H7 pr (.tup pl) = H8 at hpr hpl d8 ht8 ⊢
    clear sp npr hD2 s7 nD2 sD2
    have gin := gp_in (l := l) (s := s0 * s1) (m := m) (by omega)
    have cnt := great_cnt (l := l) (s := s0 * s1) (m := m) (by omega) (by omega)
    have sq := sqr_of gin
    refine ⟨.ref t, rfl, .ref pr, rfl, 2, t, acc, .non, .ref pr, rfl, .inl (.inl ht8), by omega, .inr ⟨.inl rfl, .inr ⟨pr, pl, gp l (s0 * s1) m, rfl, .inl (.inl hpr), hpl, by rw [lacc]; exact gin, by omega, fun k L H9 s9 hL => ?_, fun k a H9 s9 hB => ?_⟩⟩⟩
    · rw [lacc, cnt] at k
      refine ⟨.int (m : Int), rfl, .int (l : Int), rfl, _, _, rfl, rfl, _, _, rfl, rfl, _, _, rfl, rfl, _, rfl, ite2 (fun _ => ?_) (fun z => ?_)⟩
      · refine ⟨.ref L, rfl, small' (by simp), fun M nM => ?_⟩
        have sM := same_new (o := .lst [.str "too much", .str "book"]) nM
        exact ⟨.ref L, .ref M, wdD "too much" "book", rfl, dp_grow sM (wd_at hL), wd_at upd_same, ok_wd _ _, fun H5 s5 => q H5 (((d8.same s9).same sM).same s5)⟩
      · exact absurd (decide_eq_true (by omega)) z
    · rw [lacc] at k hB
      generalize hbar0 : barOf m (gp l (s0 * s1) m) = bar at k hB cnt sq
      rw [cnt] at k
      refine ⟨.int (m : Int), rfl, .int (l : Int), rfl, _, _, rfl, rfl, _, _, rfl, rfl, _, _, rfl, rfl, _, rfl, ite2 (fun z => ?_) (fun _ => ?_)⟩
      · have z1 : ((m : Int) - (l : Int)) + 1 > 60 := of_decide_eq_true z
        omega
      have d9 := d8.same s9
      refine ⟨.ref a, rfl, .int (m : Int), rfl, .int (m : Int), rfl, .ref pr, rfl, m, pr, pl, gp l (s0 * s1) m, rfl, by omega, .inl (.inl (s9 _ _ hpr)), hpl.grow s9, gin, fun b1 H10 s10 hb1 => ?_⟩
      rw [hbar0] at hb1
      have po := pairsOk sq (by rw [cnt]; omega)
      refine ⟨a, bkB m bar, m, b1, bar, rfl, hB.grow s10, hb1, sq, by omega, po, fun H11 s11 => ⟨_, rfl, ?_⟩⟩
      have s911 := (s9.trans s10).trans s11
      have d11 := d8.same s911
      refine ⟨3, rfl, by omega, by omega, fun D3 nD3 => ?_⟩
      have pD3 : p ≠ D3 := d11.2.ne_none nD3
      refine comp_range (n := (3 : Int).toNat) (i := 9) (fun acc H5 => Drawn p H11 H5 ∧ ∃ ks : List Int, acc = ks.map V.int ∧ ∀ x ∈ ks, 0 ≤ x ∧ x < (m : Int)) ⟨(Drawn.refl d11.2).same (same_new nD3), [], rfl, by simp⟩ (fun acc H5 la h hD => ?_) (fun acc H12 la h hD => ?_)
      · obtain ⟨d5, ks, rfl, pk⟩ := h
        refine ⟨.ref p, rfl, .int (m : Int), rfl, p, (m : Int), rfl, d5.2, by omega, by omega, fun x H6 x0 x1 d6 f6 => ?_⟩
        refine turned (d6.1 _ _ pD3.symm hD) (small (by have : (3 : Int).toNat = 3 := rfl; omega)) ⟨(d5.trans d6).at nD3 pD3, ks ++ [x], by rw [List.map_append]; rfl, fun z hz => ?_⟩
        rcases List.mem_append.mp hz with hz | hz
        · exact pk z hz
        · rw [List.mem_singleton.mp hz]; exact ⟨x0, x1⟩
      obtain ⟨d12, ks, rfl, pk⟩ := h
      rw [List.length_map] at la
      have k3 : ks.length = 3 := la
      refine ⟨D3, _, rfl, .inl ⟨.inl (.inl hD), fun rw nrw => ?_⟩⟩
      have srw := same_new (o := .tup (ks.map V.int)) nrw
      have hrw : (upd H12 rw (.tup (ks.map V.int))) rw = some (.tup (ks.map V.int)) := upd_same
      have d13 := d12.same srw
      generalize upd H12 rw (.tup (ks.map V.int)) = H13 at hrw d13 ⊢
      clear srw nrw hD nD3 pD3
      have dx : Drawn p H9 H13 := ((Drawn.refl d9.2).same (s10.trans s11)).trans d13
      have d813 := d9.trans dx
      have hB13 : BkAt K H13 a (bkB m bar) := BkAt.drawn d9.2 dx hB
      have dy : Drawn p H8 H13 := ((Drawn.refl d8.2).same s9).trans dx
      have hpr13 := tup_drawn d8.2 dy hpr
      have hpl13 := PairsAt.drawn d8.2 dy hpl
      refine ⟨.ref t, rfl, .ref a, rfl, .ref rw, rfl, 1, t, acc, .ref a, .ref rw, rfl, .inl (.inl (tup_drawn d8.2 dy ht8)), by omega, .inl ⟨.inr (.inl rfl), a, bkB m bar, .tuple (ks.map PyData.int), rfl, hB13, by rw [lacc]; exact po.ok, .tup (.inl (.inl hrw)) (dpAll_ints ks), by show (ks.map PyData.int).length ≤ 1000; rw [List.length_map]; omega, (fun z => absurd (z.symm.trans (row_all (by omega) (by rw [lacc]; exact pk))) (by decide)), fun r2 e2 _ H14 s14 => ?_⟩⟩
      have e3 := row_inj e2
      subst e3
      refine ⟨.ref rw, rfl, .int (m : Int), rfl, .ref pr, rfl, m, pr, pl, gp l (s0 * s1) m, rfl, by omega, .inl (.inl (s14 _ _ hpr13)), hpl13.grow s14, gin, fun b2 H15 s15 hb2 => ?_⟩
      rw [hbar0] at hb2
      refine ⟨rw, ks, b2, bar, m, rfl, .inl (.inl (s15 _ _ (s14 _ _ hrw))), by omega, hb2, sq, pk, ?_⟩
      refine ⟨_, _, .bool (letG bar ks), rfl, ?_, .bl _, trivial, fun H16 s16 => q H16 (d813.same ((s14.trans s15).trans s16))⟩
      rw [show ToldRow 1 (bkB m bar) ks = .bl (finG (bkB m bar) (runG (bookB m bar) 0 ks)) from if_neg (by decide), takes_let sq pk]
      exact .bl _
end
end K2
set_option Elab.async false
set_option linter.all false
set_option maxRecDepth 100000
set_option maxHeartbeats 4000000
namespace K2
open PySem PySem.Spec PyProof.Rows L2 Ver
theorem PairsAt.app {K : PySem.W.Frag} {H : Hp} : ∀ {vs us : List V} {qs ps : List (Int × Int)}, PairsAt K H vs qs → PairsAt K H us ps → PairsAt K H (vs ++ us) (qs ++ ps)
  | _, _, _, _, .nil, h => h
  | _, _, _, _, .cons h1 t, h => .cons h1 (PairsAt.app t h)
theorem PairsAt.rev {K : PySem.W.Frag} {H : Hp} {vs : List V} {qs : List (Int × Int)} (h : PairsAt K H vs qs) : PairsAt K H vs.reverse qs.reverse := by
  induction h with
  | nil => exact .nil
  | cons h1 _ ih =>
    rw [List.reverse_cons, List.reverse_cons]
    exact PairsAt.app ih (.cons h1 .nil)
theorem ok_bk {B : Bk} (h1 : B.fin.length ≤ 100000) (h2 : B.tab.length ≤ 100000) (h3 : ∀ r ∈ B.tab, r.length ≤ 100000) : okD 5 (bkD B) := ⟨by show 3 ≤ 100000; decide, fun e he => by
  simp only [List.mem_cons, List.not_mem_nil, or_false] at he
  rcases he with rfl | rfl | rfl
  · exact trivial
  · refine ⟨by rw [List.length_map]; exact h1, fun e he => ?_⟩
    obtain ⟨i, _, rfl⟩ := List.mem_map.mp he
    exact trivial
  · refine ⟨by rw [List.length_map]; exact h2, fun e he => ?_⟩
    obtain ⟨r, hr, rfl⟩ := List.mem_map.mp he
    refine ⟨by rw [List.length_map]; exact h3 r hr, fun e he => ?_⟩
    obtain ⟨i, _, rfl⟩ := List.mem_map.mp he
    exact trivial⟩
theorem cnt_le {m : Nat} {bar : List (List Bool)} (sq : Sqr m bar) : cntB m bar ≤ m + 1 := by
  have := uniq_len (rowsB m bar) []
  rw [rowsB_size sq] at this
  unfold cntB
  simpa using this
theorem rowsG_ok {m n : Nat} (h : n ≤ 60) : RowsOk m (rowsG m n) := fun r hr => by
  obtain ⟨k, hk, hr⟩ := List.mem_flatMap.mp hr
  have := List.mem_range.mp hk
  obtain ⟨h1, h2⟩ := layG_mem hr
  exact ⟨by omega, h2⟩
theorem rowsOk_app {m : Nat} {a b : List (List Int)} (h1 : RowsOk m a) (h2 : RowsOk m b) : RowsOk m (a ++ b) := fun r hr => (List.mem_append.mp hr).elim (h1 r) (h2 r)
section
variable {P : Program} {w : World} {K : PySem.W.Frag} {mg : Str → Option Value} {base : Heap}
def sp_law (K : PySem.W.Frag) : Sp := fun vs H Q _ => ∃ (a : Addr) (ns : List Int), vs = [.ref a] ∧ SqL K H a (ns.map V.int) ∧ ns.length ≤ 63 ∧ ∀ H', Q (.bl true) H'
theorem ok_law (T : Tx K mg) : FnOk P w K mg base CX0 10 T.f_law T.d_law ["script"] (sp_law K) := by
  refine T.F_law.ok sc_law (fun vs H Q E h => ?_) (fun cdv A outer s H vs Q E hr h => ?_)
  · obtain ⟨a, ns, rfl, _⟩ := h; rfl
  · obtain ⟨a, ns, rfl, hs, hz, q⟩ := h
    refine ⟨_, (pss_cons (ps_set (i := 1) sc_law.nd rfl (Or.inr rfl) (pe_call (ok__law_pool T) (hr.mono (by decide)) rfl T.g__law_pool T.F__law_pool.kp T.b__law_pool .nil pass0 (pa_cons (pv 0) pa_nil)))
    (pss_cons (ps_set (i := 2) sc_law.nd rfl (Or.inl rfl) (pe_call (ok__law_tokens T) (hr.mono (by decide)) rfl T.g__law_tokens T.F__law_tokens.kp T.b__law_tokens .nil pass0 (pa_cons (pv 1) (pa_cons (pe_op op_add pe_int (pe_call (ok__law_pick T) (hr.mono (by decide)) rfl T.g__law_pick T.F__law_pick.kp T.b__law_pick .nil pass0 (pa_cons (pv 1) (pa_cons pe_int pa_nil)))) (pa_cons pe_str (pa_cons pe_int pa_nil))))))
    (pss_cons (ps_set (i := 3) sc_law.nd rfl (Or.inr rfl) (pe_callB call_len_seq (by rfl) T.n_len (by decide +kernel) (pa_cons (pv 2) pa_nil)))
    (pss_cons (ps_set (i := 4) sc_law.nd rfl (Or.inl rfl) (pe_callTy call_tuple_of (by rfl) T.n_tuple (by decide +kernel) (pa_cons (pe_lc (own := [("k", 10)]) (g := gName 10) (tt := tYes) (by rfl) sc_law.nd (pi_range1 rfl T.n_range (pa_cons (pe_op op_add pe_int (pe_call (ok__law_pick T) (hr.mono (by decide)) rfl T.g__law_pick T.F__law_pick.kp T.b__law_pick .nil pass0 (pa_cons (pv 1) (pa_cons pe_int pa_nil)))) pa_nil)) (blkOk_by (N := ["script", "pool", "tokens", "m", "row", "rows", "pairs", "barred", "told", "some", "k"]) (sc := defScope s_law) (by decide +kernel)) (fun _ _ _ _ _ => (pg_name (i := 10) sc_law.nd rfl (Or.inl rfl))) (fun _ _ _ _ _ => pts_nil) (fun _ _ _ _ _ => (pe_call (ok__law_pick T) (hr.mono (by decide)) rfl T.g__law_pick T.F__law_pick.kp T.b__law_pick .nil pass0 (pa_cons (pv 1) (pa_cons (pv 3) pa_nil))))) pa_nil)))
    (C8.pss_cut (ps_set (i := 5) sc_law.nd rfl (Or.inl rfl) (pe_op op_cat (pe_call (ok__law_rows T) (hr.mono (by decide)) rfl T.g__law_rows T.F__law_rows.kp T.b__law_rows .nil pass0 (pa_cons (pv 3) (pa_cons (pe_ifExp (pt_cmpR op_le (pv 3) pe_int (nomark _)) pe_int pe_int) pa_nil))) (pe_lst (pa_cons (pv 4) (pa_cons (pe_slice sl_tupA (pe_op op_repA (pv 4) pe_int) po_none (po_some pe_int)) pa_nil)))))
    (pss_cons (ps_if (PW.pt (pw_or (pt_not (pt_val (pe_call (ok__law_books_right T) hr rfl T.g__law_books_right T.F__law_books_right.kp T.b__law_books_right .nil pass0 (pa_cons (pv 1) (pa_cons (pv 2) (pa_cons (pv 5) pa_nil)))))) (pw_or1 (pt_not (pt_val (pe_call (ok__law_refused_rows T) hr rfl T.g__law_refused_rows T.F__law_refused_rows.kp T.b__law_refused_rows .nil pass0 (pa_cons (pv 1) (pa_cons (pv 2) (pa_cons (pv 4) pa_nil))))))))) (pss_one (ps_ret pe_bl)) pss_nil)
    (pss_cons (ps_set (i := 6) sc_law.nd rfl (Or.inl rfl) (pe_call (ok__law_drawn_pairs T) (hr.mono (by decide)) rfl T.g__law_drawn_pairs T.F__law_drawn_pairs.kp T.b__law_drawn_pairs .nil pass0 (pa_cons (pv 1) (pa_cons (pv 3) pa_nil))))
    (pss_cons (ps_set (i := 7) sc_law.nd rfl (Or.inl rfl) (pe_call (ok__law_barred T) (hr.mono (by decide)) rfl T.g__law_barred T.F__law_barred.kp T.b__law_barred .nil pass0 (pa_cons (pv 3) (pa_cons (pv 6) pa_nil))))
    (pss_cons (ps_set (i := 8) sc_law.nd rfl (Or.inl rfl) (pe_call (ok__law_told T) (hr.mono (by decide)) rfl T.g__law_told T.F__law_told.kp T.b__law_told .nil pass0 (pa_cons pe_int (pa_cons (pv 2) (pa_cons pe_non (pa_cons (pv 6) pa_nil))))))
    (pss_cons (ps_if (pt_not (pt_val (pe_call (ok__law_pairs_right T) (hr.mono (by decide)) rfl T.g__law_pairs_right T.F__law_pairs_right.kp T.b__law_pairs_right .nil pass0 (pa_cons (pv 8) (pa_cons (pv 3) (pa_cons (pv 7) pa_nil)))))) (pss_one (ps_ret pe_bl)) pss_nil)
    (pss_cons (ps_for PassesOwn.never rfl (pi_list (pv 5)) (pg_name (i := 9) sc_law.nd rfl (Or.inl rfl))
    (pss_one (ps_if (pt_not (pt_val (pe_call (ok__law_same T 5) (hr.mono (by decide)) rfl T.g__law_same T.F__law_same.kp T.b__law_same .nil pass0 (pa_cons (pe_call (ok__law_told T) (hr.mono (by decide)) rfl T.g__law_told T.F__law_told.kp T.b__law_told .nil pass0 (pa_cons pe_int (pa_cons (pv 2) (pa_cons (pv 8) (pa_cons (pv 9) pa_nil))))) (pa_cons (pe_call (ok__law_let T) (hr.mono (by decide)) rfl T.g__law_let T.F__law_let.kp T.b__law_let .nil pass0 (pa_cons (pv 9) (pa_cons (pv 7) pa_nil))) pa_nil))))) (pss_one (ps_ret pe_bl)) pss_nil)))
    (pss_cons (ps_if (pt_not (pt_val (pe_call (ok__law_refused_pairs T) hr rfl T.g__law_refused_pairs T.F__law_refused_pairs.kp T.b__law_refused_pairs .nil pass0 (pa_cons (pv 1) (pa_cons (pv 2) (pa_cons (pv 6) pa_nil)))))) (pss_one (ps_ret pe_bl)) pss_nil)
    (pss_cons (ps_if (pt_not (pt_val (pe_call (ok__law_same T 5) (hr.mono (by decide)) rfl T.g__law_same T.F__law_same.kp T.b__law_same .nil pass0 (pa_cons (pe_call (ok__law_told T) (hr.mono (by decide)) rfl T.g__law_told T.F__law_told.kp T.b__law_told .nil pass0 (pa_cons pe_int (pa_cons (pv 2) (pa_cons pe_non (pa_cons (pe_revT (pv 6)) pa_nil))))) (pa_cons (pv 8) pa_nil))))) (pss_one (ps_ret pe_bl)) pss_nil)
    (pss_cons (ps_if (pt_cmpR op_eq (pe_call (ok__law_pick T) (hr.mono (by decide)) rfl T.g__law_pick T.F__law_pick.kp T.b__law_pick .nil pass0 (pa_cons (pv 1) (pa_cons pe_int pa_nil))) pe_int (nomark _)) (pss_one (ps_ret (pe_call (ok__law_great T) hr rfl T.g__law_great T.F__law_great.kp T.b__law_great .nil pass0 (pa_cons (pv 1) pa_nil)))) pss_nil)
    (pss_one (ps_ret pe_bl)))))))))))))))), ?_⟩
    refine ⟨.ref a, rfl, a, ns, rfl, hs, hz, fun p H1 s1 hP => ?_⟩
    clear hs s1
    refine ⟨.ref p, rfl, .ref p, rfl, p, 4, rfl, hP, by omega, by omega, fun r1 H2 r10 r11 d2 f2 => ⟨1, r1, rfl, rfl, p, 1 + r1, _, 3, rfl, d2.2, by decide, by decide, by omega, by omega, by omega, by omega, fun t ts H3 lts d3 ht => ?_⟩⟩
    have m0 : 1 ≤ ts.length := by omega
    have m1 : ts.length ≤ 4 := by omega
    refine ⟨.ref t, rfl, t, ts, rfl, .inr (.inl (.inl ht)), ?_⟩
    have hP3 : Pool H3 p := d3.2
    refine ⟨.ref p, rfl, p, 9, rfl, hP3, by omega, by omega, fun r4 H4 r40 r41 d4 f4 => ⟨1, r4, rfl, rfl, 1 + r4, rfl, by omega, by omega, fun D nD => ?_⟩⟩
    have pD : p ≠ D := d4.2.ne_none nD
    refine comp_range (n := (1 + r4).toNat) (i := 10) (fun acc H5 => Drawn p H4 H5 ∧ ∃ ks : List Int, acc = ks.map V.int ∧ ∀ x ∈ ks, 0 ≤ x ∧ x < (ts.length : Int)) ⟨(Drawn.refl d4.2).same (same_new nD), [], rfl, by simp⟩ (fun acc H5 la h hD => ?_) (fun acc H5 la h hD => ?_)
    · obtain ⟨d5, ks, rfl, pk⟩ := h
      refine ⟨.ref p, rfl, .int (ts.length : Int), rfl, p, _, rfl, d5.2, by omega, by omega, fun x H6 x0 x1 d6 f6 => ?_⟩
      refine turned (d6.1 _ _ pD.symm hD) (small (by omega)) ⟨(d5.trans d6).at nD pD, ks ++ [x], by rw [List.map_append]; rfl, fun z hz => ?_⟩
      rcases List.mem_append.mp hz with hz | hz
      · exact pk z hz
      · rw [List.mem_singleton.mp hz]; exact ⟨x0, x1⟩
    obtain ⟨d5, r, rfl, br⟩ := h
    rw [List.length_map] at la
    refine ⟨D, _, rfl, .inl ⟨.inl (.inl hD), fun rw nrw => ?_⟩⟩
    have srw := same_new (o := .tup (r.map V.int)) nrw
    have hrw : (upd H5 rw (.tup (r.map V.int))) rw = some (.tup (r.map V.int)) := upd_same
    have dA : Drawn p H3 (upd H5 rw (.tup (r.map V.int))) := (d4.trans d5).same srw
    generalize upd H5 rw (.tup (r.map V.int)) = H6 at srw hrw dA ⊢
    clear srw nrw hD nD pD
    have qrw : p ≠ rw := dA.2.ne_tup hrw
    have lr : (r.map V.int).length = r.length := List.length_map ..
    have r1' : 1 ≤ r.length := by omega
    have r9 : r.length ≤ 9 := by omega
    have rne : r.map V.int ≠ [] := fun z => by rw [z] at lr; simp at lr; omega
    refine ⟨fun σ' H' => ∃ (rl : Addr) (us : List V) (rs : List (List Int)), σ' = [some (.ref a), some (.ref p), some (.ref t), some (.int ts.length), some (.ref rw), some (.ref rl), none, none, none, none, none] ∧ Drawn p H6 H' ∧ H' rl = some (.lst us) ∧ p ≠ rl ∧ Rows K H' us rs ∧ us ≠ [] ∧ us.length ≤ 100000 ∧ RowsOk ts.length rs, ?_, fun σ' H7 h => ?_⟩
    · have dB : Drawn p H6 H6 := Drawn.refl dA.2
      refine ⟨.int (ts.length : Int), rfl, .int (ts.length : Int), rfl, _, _, rfl, rfl, _, rfl, ite2 (fun _ => ?_) (fun _ => ?_)⟩
      · refine ⟨ts.length, 3, rfl, by omega, by omega, fun rl us Hr sr nrl hrl hRw => ?_⟩
        have dr := dB.same sr
        replace hrw := sr _ _ hrw
        have qrl : p ≠ rl := dB.2.ne_none nrl
        have lus : us.length ≤ 20000 := by rw [Paired.length hRw]; have := rowsG_len (m := ts.length) m1 3 (by omega); omega
        refine ⟨.ref rw, rfl, .ref rw, rfl, rw, 60, r.map V.int, rfl, rfl, .inl (.inl hrw), rne, by omega, by omega, by omega, fun z => absurd z (by decide), fun _ z0 nz0 => ?_⟩
        have e1 : Same Hr (upd Hr z0 (.tup (List.replicate (60 : Int).toNat (r.map V.int)).flatten)) := same_new nz0
        have hz0 : (upd Hr z0 (.tup (List.replicate (60 : Int).toNat (r.map V.int)).flatten)) z0 = some (.tup (List.replicate (60 : Int).toNat (r.map V.int)).flatten) := upd_same
        have qz0 : p ≠ z0 := dr.2.ne_none nz0
        generalize upd Hr z0 (.tup (List.replicate (60 : Int).toNat (r.map V.int)).flatten) = G1 at e1 hz0 ⊢
        have dd1 := dr.same e1
        replace hrw := e1 _ _ hrw
        replace hrl := e1 _ _ hrl
        replace hRw := hRw.grow e1
        have fl : (List.replicate (60 : Int).toNat (r.map V.int)).flatten = ((List.replicate 60 r).flatten).map V.int := flat_map r
        have ll : (((List.replicate 60 r).flatten).map V.int).length = 60 * r.length := by rw [List.length_map, flat_len]
        rw [fl] at hz0
        refine ⟨60, rfl, z0, _, rfl, .inl (.inl hz0), fun hw => ?_, fun hw z1 nz1 => ?_⟩
        · have hw2 := hw.2
          rw [show (some (60 : Int)) = some ((60 : Nat) : Int) from rfl, HT.sIx_nat, ll] at hw2
          have r1'' : r.length = 1 := by omega
          refine ⟨small' (by simp), fun l2 nl2 => ?_⟩
          have e2 : Same G1 (upd G1 l2 (.lst [.ref rw, .ref z0])) := same_new nl2
          have hl2 : (upd G1 l2 (.lst [.ref rw, .ref z0])) l2 = some (.lst [.ref rw, .ref z0]) := upd_same
          have ql2 : p ≠ l2 := dd1.2.ne_none nl2
          generalize upd G1 l2 (.lst [.ref rw, .ref z0]) = G2 at e2 hl2 ⊢
          have dd2 := dd1.same e2
          replace hrw := e2 _ _ hrw
          replace hrl := e2 _ _ hrl
          replace hz0 := e2 _ _ hz0
          replace hRw := hRw.grow e2
          refine ⟨rl, l2, _, _, rfl, rfl, hrl, hl2, small' (by show us.length + 2 ≤ 100000; omega), fun c nc => ?_⟩
          have e3 : Same G2 (upd G2 c (.lst (us ++ [.ref rw, .ref z0]))) := same_new nc
          have hc : (upd G2 c (.lst (us ++ [.ref rw, .ref z0]))) c = some (.lst (us ++ [.ref rw, .ref z0])) := upd_same
          have qc : p ≠ c := dd2.2.ne_none nc
          generalize upd G2 c (.lst (us ++ [.ref rw, .ref z0])) = G3 at e3 hc ⊢
          have dd3 := dd2.same e3
          replace hrw := e3 _ _ hrw
          replace hrl := e3 _ _ hrl
          replace hz0 := e3 _ _ hz0
          replace hl2 := e3 _ _ hl2
          replace hRw := hRw.grow e3
          refine ⟨c, us ++ [.ref rw, .ref z0], rowsG ts.length 3 ++ [r, ((List.replicate 60 r).flatten)], rfl, dd3, hc, qc, Rows.app hRw (.cons ⟨rw, rfl, hrw⟩ (.cons ⟨z0, rfl, hz0⟩ .nil)), fun z => by simp at z, by rw [List.length_append]; show us.length + 2 ≤ 100000; omega, rowsOk_app (rowsG_ok (by omega)) (fun x hx => ?_)⟩
          rcases List.mem_cons.mp hx with rfl | hx
          · exact ⟨by omega, br⟩
          · rw [List.mem_singleton.mp hx]
            exact ⟨by rw [flat_len]; omega, fun x hx => br x (flat_mem hx)⟩
        · have cz := cut_to (xs := ((List.replicate 60 r).flatten).map V.int) (k := 60) (by rw [ll]; omega)
          have e2 : Same G1 (upd G1 z1 (.tup (cutV (((List.replicate 60 r).flatten).map V.int) none (some 60)))) := same_new nz1
          have hz1 : (upd G1 z1 (.tup (cutV (((List.replicate 60 r).flatten).map V.int) none (some 60)))) z1 = some (.tup (cutV (((List.replicate 60 r).flatten).map V.int) none (some 60))) := upd_same
          have qz1 : p ≠ z1 := dd1.2.ne_none nz1
          generalize upd G1 z1 (.tup (cutV (((List.replicate 60 r).flatten).map V.int) none (some 60))) = G2 at e2 hz1 ⊢
          have dd2 := dd1.same e2
          replace hrw := e2 _ _ hrw
          replace hrl := e2 _ _ hrl
          replace hz0 := e2 _ _ hz0
          replace hRw := hRw.grow e2
          rw [show (some (60 : Int)) = some ((60 : Nat) : Int) from rfl, cz, ← List.map_take] at hz1
          refine ⟨small' (by simp), fun l2 nl2 => ?_⟩
          have e3 : Same G2 (upd G2 l2 (.lst [.ref rw, .ref z1])) := same_new nl2
          have hl2 : (upd G2 l2 (.lst [.ref rw, .ref z1])) l2 = some (.lst [.ref rw, .ref z1]) := upd_same
          have ql2 : p ≠ l2 := dd2.2.ne_none nl2
          generalize upd G2 l2 (.lst [.ref rw, .ref z1]) = G3 at e3 hl2 ⊢
          have dd3 := dd2.same e3
          replace hrw := e3 _ _ hrw
          replace hrl := e3 _ _ hrl
          replace hz0 := e3 _ _ hz0
          replace hz1 := e3 _ _ hz1
          replace hRw := hRw.grow e3
          refine ⟨rl, l2, _, _, rfl, rfl, hrl, hl2, small' (by show us.length + 2 ≤ 100000; omega), fun c nc => ?_⟩
          have e4 : Same G3 (upd G3 c (.lst (us ++ [.ref rw, .ref z1]))) := same_new nc
          have hc : (upd G3 c (.lst (us ++ [.ref rw, .ref z1]))) c = some (.lst (us ++ [.ref rw, .ref z1])) := upd_same
          have qc : p ≠ c := dd3.2.ne_none nc
          generalize upd G3 c (.lst (us ++ [.ref rw, .ref z1])) = G4 at e4 hc ⊢
          have dd4 := dd3.same e4
          replace hrw := e4 _ _ hrw
          replace hrl := e4 _ _ hrl
          replace hz0 := e4 _ _ hz0
          replace hz1 := e4 _ _ hz1
          replace hl2 := e4 _ _ hl2
          replace hRw := hRw.grow e4
          refine ⟨c, us ++ [.ref rw, .ref z1], rowsG ts.length 3 ++ [r, (((List.replicate 60 r).flatten).take 60)], rfl, dd4, hc, qc, Rows.app hRw (.cons ⟨rw, rfl, hrw⟩ (.cons ⟨z1, rfl, hz1⟩ .nil)), fun z => by simp at z, by rw [List.length_append]; show us.length + 2 ≤ 100000; omega, rowsOk_app (rowsG_ok (by omega)) (fun x hx => ?_)⟩
          rcases List.mem_cons.mp hx with rfl | hx
          · exact ⟨by omega, br⟩
          · rw [List.mem_singleton.mp hx]
            exact ⟨by rw [List.length_take]; omega, fun x hx => br x (flat_mem (List.mem_of_mem_take hx))⟩
      · refine ⟨ts.length, 2, rfl, by omega, by omega, fun rl us Hr sr nrl hrl hRw => ?_⟩
        have dr := dB.same sr
        replace hrw := sr _ _ hrw
        have qrl : p ≠ rl := dB.2.ne_none nrl
        have lus : us.length ≤ 20000 := by rw [Paired.length hRw]; have := rowsG_len (m := ts.length) m1 2 (by omega); omega
        refine ⟨.ref rw, rfl, .ref rw, rfl, rw, 60, r.map V.int, rfl, rfl, .inl (.inl hrw), rne, by omega, by omega, by omega, fun z => absurd z (by decide), fun _ z0 nz0 => ?_⟩
        have e1 : Same Hr (upd Hr z0 (.tup (List.replicate (60 : Int).toNat (r.map V.int)).flatten)) := same_new nz0
        have hz0 : (upd Hr z0 (.tup (List.replicate (60 : Int).toNat (r.map V.int)).flatten)) z0 = some (.tup (List.replicate (60 : Int).toNat (r.map V.int)).flatten) := upd_same
        have qz0 : p ≠ z0 := dr.2.ne_none nz0
        generalize upd Hr z0 (.tup (List.replicate (60 : Int).toNat (r.map V.int)).flatten) = G1 at e1 hz0 ⊢
        have dd1 := dr.same e1
        replace hrw := e1 _ _ hrw
        replace hrl := e1 _ _ hrl
        replace hRw := hRw.grow e1
        have fl : (List.replicate (60 : Int).toNat (r.map V.int)).flatten = ((List.replicate 60 r).flatten).map V.int := flat_map r
        have ll : (((List.replicate 60 r).flatten).map V.int).length = 60 * r.length := by rw [List.length_map, flat_len]
        rw [fl] at hz0
        refine ⟨60, rfl, z0, _, rfl, .inl (.inl hz0), fun hw => ?_, fun hw z1 nz1 => ?_⟩
        · have hw2 := hw.2
          rw [show (some (60 : Int)) = some ((60 : Nat) : Int) from rfl, HT.sIx_nat, ll] at hw2
          have r1'' : r.length = 1 := by omega
          refine ⟨small' (by simp), fun l2 nl2 => ?_⟩
          have e2 : Same G1 (upd G1 l2 (.lst [.ref rw, .ref z0])) := same_new nl2
          have hl2 : (upd G1 l2 (.lst [.ref rw, .ref z0])) l2 = some (.lst [.ref rw, .ref z0]) := upd_same
          have ql2 : p ≠ l2 := dd1.2.ne_none nl2
          generalize upd G1 l2 (.lst [.ref rw, .ref z0]) = G2 at e2 hl2 ⊢
          have dd2 := dd1.same e2
          replace hrw := e2 _ _ hrw
          replace hrl := e2 _ _ hrl
          replace hz0 := e2 _ _ hz0
          replace hRw := hRw.grow e2
          refine ⟨rl, l2, _, _, rfl, rfl, hrl, hl2, small' (by show us.length + 2 ≤ 100000; omega), fun c nc => ?_⟩
          have e3 : Same G2 (upd G2 c (.lst (us ++ [.ref rw, .ref z0]))) := same_new nc
          have hc : (upd G2 c (.lst (us ++ [.ref rw, .ref z0]))) c = some (.lst (us ++ [.ref rw, .ref z0])) := upd_same
          have qc : p ≠ c := dd2.2.ne_none nc
          generalize upd G2 c (.lst (us ++ [.ref rw, .ref z0])) = G3 at e3 hc ⊢
          have dd3 := dd2.same e3
          replace hrw := e3 _ _ hrw
          replace hrl := e3 _ _ hrl
          replace hz0 := e3 _ _ hz0
          replace hl2 := e3 _ _ hl2
          replace hRw := hRw.grow e3
          refine ⟨c, us ++ [.ref rw, .ref z0], rowsG ts.length 2 ++ [r, ((List.replicate 60 r).flatten)], rfl, dd3, hc, qc, Rows.app hRw (.cons ⟨rw, rfl, hrw⟩ (.cons ⟨z0, rfl, hz0⟩ .nil)), fun z => by simp at z, by rw [List.length_append]; show us.length + 2 ≤ 100000; omega, rowsOk_app (rowsG_ok (by omega)) (fun x hx => ?_)⟩
          rcases List.mem_cons.mp hx with rfl | hx
          · exact ⟨by omega, br⟩
          · rw [List.mem_singleton.mp hx]
            exact ⟨by rw [flat_len]; omega, fun x hx => br x (flat_mem hx)⟩
        · have cz := cut_to (xs := ((List.replicate 60 r).flatten).map V.int) (k := 60) (by rw [ll]; omega)
          have e2 : Same G1 (upd G1 z1 (.tup (cutV (((List.replicate 60 r).flatten).map V.int) none (some 60)))) := same_new nz1
          have hz1 : (upd G1 z1 (.tup (cutV (((List.replicate 60 r).flatten).map V.int) none (some 60)))) z1 = some (.tup (cutV (((List.replicate 60 r).flatten).map V.int) none (some 60))) := upd_same
          have qz1 : p ≠ z1 := dd1.2.ne_none nz1
          generalize upd G1 z1 (.tup (cutV (((List.replicate 60 r).flatten).map V.int) none (some 60))) = G2 at e2 hz1 ⊢
          have dd2 := dd1.same e2
          replace hrw := e2 _ _ hrw
          replace hrl := e2 _ _ hrl
          replace hz0 := e2 _ _ hz0
          replace hRw := hRw.grow e2
          rw [show (some (60 : Int)) = some ((60 : Nat) : Int) from rfl, cz, ← List.map_take] at hz1
          refine ⟨small' (by simp), fun l2 nl2 => ?_⟩
          have e3 : Same G2 (upd G2 l2 (.lst [.ref rw, .ref z1])) := same_new nl2
          have hl2 : (upd G2 l2 (.lst [.ref rw, .ref z1])) l2 = some (.lst [.ref rw, .ref z1]) := upd_same
          have ql2 : p ≠ l2 := dd2.2.ne_none nl2
          generalize upd G2 l2 (.lst [.ref rw, .ref z1]) = G3 at e3 hl2 ⊢
          have dd3 := dd2.same e3
          replace hrw := e3 _ _ hrw
          replace hrl := e3 _ _ hrl
          replace hz0 := e3 _ _ hz0
          replace hz1 := e3 _ _ hz1
          replace hRw := hRw.grow e3
          refine ⟨rl, l2, _, _, rfl, rfl, hrl, hl2, small' (by show us.length + 2 ≤ 100000; omega), fun c nc => ?_⟩
          have e4 : Same G3 (upd G3 c (.lst (us ++ [.ref rw, .ref z1]))) := same_new nc
          have hc : (upd G3 c (.lst (us ++ [.ref rw, .ref z1]))) c = some (.lst (us ++ [.ref rw, .ref z1])) := upd_same
          have qc : p ≠ c := dd3.2.ne_none nc
          generalize upd G3 c (.lst (us ++ [.ref rw, .ref z1])) = G4 at e4 hc ⊢
          have dd4 := dd3.same e4
          replace hrw := e4 _ _ hrw
          replace hrl := e4 _ _ hrl
          replace hz0 := e4 _ _ hz0
          replace hz1 := e4 _ _ hz1
          replace hl2 := e4 _ _ hl2
          replace hRw := hRw.grow e4
          refine ⟨c, us ++ [.ref rw, .ref z1], rowsG ts.length 2 ++ [r, (((List.replicate 60 r).flatten).take 60)], rfl, dd4, hc, qc, Rows.app hRw (.cons ⟨rw, rfl, hrw⟩ (.cons ⟨z1, rfl, hz1⟩ .nil)), fun z => by simp at z, by rw [List.length_append]; show us.length + 2 ≤ 100000; omega, rowsOk_app (rowsG_ok (by omega)) (fun x hx => ?_)⟩
          rcases List.mem_cons.mp hx with rfl | hx
          · exact ⟨by omega, br⟩
          · rw [List.mem_singleton.mp hx]
            exact ⟨by rw [List.length_take]; omega, fun x hx => br x (flat_mem (List.mem_of_mem_take hx))⟩
    obtain ⟨rl, us, rs, rfl, d7, hrl, prl, hR, une, lus, rok⟩ := h
    have dA7 := dA.trans d7
    have hrw7 := d7.1 _ _ qrw.symm hrw
    have ht7 := tup_drawn hP3 dA7 ht
    have hP7 : Pool H7 p := d7.2
    refine ⟨.ref p, rfl, .ref t, rfl, .ref rl, rfl, p, t, ts, rl, us, rs, rfl, hP7, .inl (.inl ht7), m0, by omega, hrl, prl.symm, hR, une, lus, rok, fun H8 d8 => ⟨_, rfl, ?_⟩⟩
    have ht8 := tup_drawn hP7 d8 ht7
    have hrw8 := d8.1 _ _ qrw.symm hrw7
    refine ⟨.ref p, rfl, .ref t, rfl, .ref rw, rfl, p, t, ts, rw, r, rfl, d8.2, .inl (.inl ht8), m0, by omega, hrw8, r1', r9, fun H9 d9 => ⟨_, rfl, ?_⟩⟩
    have d79 := d8.trans d9
    have ht9 := tup_drawn d8.2 d9 ht8
    refine ⟨.ref p, rfl, .int (ts.length : Int), rfl, p, ts.length, rfl, d9.2, m0, by omega, fun pr pl qs H10 d10 hpr hpl hin lpl => ?_⟩
    have d710 := d79.trans d10
    have ht10 := tup_drawn d9.2 d10 ht9
    have hP10 : Pool H10 p := d10.2
    have sq := sqr_of hin
    generalize hbar0 : barOf ts.length qs = bar at sq
    have few : cntB ts.length bar ≤ 60 := by have := cnt_le sq; omega
    have po := pairsOk sq few
    refine ⟨.int (ts.length : Int), rfl, .ref pr, rfl, ts.length, pr, pl, qs, rfl, by omega, .inl (.inl hpr), hpl, hin, fun b1 H11 s11 hb1 => ?_⟩
    rw [hbar0] at hb1
    refine ⟨.ref t, rfl, .ref pr, rfl, 2, t, ts, .non, .ref pr, rfl, .inl (.inl (s11 _ _ ht10)), by omega, .inr ⟨.inl rfl, .inr ⟨pr, pl, qs, rfl, .inl (.inl (s11 _ _ hpr)), hpl.grow s11, hin, by omega, fun k => absurd k (by rw [hbar0]; omega), fun _ c H12 s12 hB => ?_⟩⟩⟩
    rw [hbar0] at hB
    refine ⟨.ref c, rfl, .int (ts.length : Int), rfl, .ref b1, rfl, c, bkB ts.length bar, ts.length, b1, bar, rfl, hB, hb1.grow s12, sq, by omega, po, fun H13 s13 => ⟨_, rfl, ?_⟩⟩
    have k13 := (s11.trans s12).trans s13
    have k12 := s12.trans s13
    have hB13 := hB.grow s13
    have hb13 := hb1.grow k12
    have ht13 := k13 _ _ ht10
    have hpr13 := k13 _ _ hpr
    have hpl13 := hpl.grow k13
    have d713 := d710.same k13
    have hrl13 : H13 rl = some (.lst us) := d713.1 _ _ prl.symm hrl
    have hR13 := hR.drawn hP7 d713
    refine ⟨.ref rl, rfl, rl, rfl, ⟨_, .inl (.inl hrl13)⟩, ?_⟩
    refine for_list (K := K) (a := rl) (xs := us) (fun i σ H' => ∃ y9, σ = [some (.ref a), some (.ref p), some (.ref t), some (.int ts.length), some (.ref rw), some (.ref rl), some (.ref pr), some (.ref b1), some (.ref c), y9, none] ∧ Same H13 H')
      ⟨none, rfl, Same.refl H13⟩ (fun i σ H' _ h => ?_) (fun i x σ H' ex h => ?_) (fun σ H14 h => ?_)
    · obtain ⟨_, _, k⟩ := h
      exact .inl (.inl (k _ _ hrl13))
    · obtain ⟨y9, rfl, k⟩ := h
      have lti : i < us.length := (List.getElem?_eq_some_iff.mp ex).1
      obtain ⟨sr, er⟩ : ∃ sr, rs[i]? = some sr := ⟨_, List.getElem?_eq_getElem (by rw [← Paired.length hR]; exact lti)⟩
      obtain ⟨px, epx, hpx⟩ := hR13.getT er
      have ex2 : x = .ref px := Option.some.inj (ex.symm.trans epx)
      subst ex2
      obtain ⟨l6, bs⟩ := rok sr (List.mem_of_getElem? er)
      have hpx' := k _ _ hpx
      refine ⟨.ref t, rfl, .ref c, rfl, .ref px, rfl, 1, t, ts, .ref c, .ref px, rfl, .inl (.inl (k _ _ ht13)), by omega, .inl ⟨.inr (.inl rfl), c, bkB ts.length bar, .tuple (sr.map PyData.int), rfl, hB13.grow k, po.ok, .tup (.inl (.inl hpx')) (dpAll_ints sr), by show (sr.map PyData.int).length ≤ 1000; rw [List.length_map]; omega, (fun z => absurd (z.symm.trans (row_all l6 bs)) (by decide)), fun r2 e2 _ Ha sa => ?_⟩⟩
      have e3 := row_inj e2
      subst e3
      have ka := k.trans sa
      refine ⟨.ref px, rfl, .ref b1, rfl, px, sr, b1, bar, ts.length, rfl, .inl (.inl (sa _ _ hpx')), by omega, hb13.grow ka, sq, bs, ?_⟩
      refine ⟨_, _, .bool (letG bar sr), rfl, ?_, .bl _, trivial, fun Hb sb => ⟨_, rfl, _, rfl, ka.trans sb⟩⟩
      rw [show ToldRow 1 (bkB ts.length bar) sr = .bl (finG (bkB ts.length bar) (runG (bookB ts.length bar) 0 sr)) from if_neg (by decide), takes_let sq bs]
      exact .bl _
    · obtain ⟨y9, rfl, k⟩ := h
      have d14 : Drawn p H13 H14 := (Drawn.refl d713.2).same k
      have hpr14 := k _ _ hpr13
      have hpl14 := hpl13.grow k
      have ht14 := k _ _ ht13
      have hB14 := hB13.grow k
      refine ⟨.ref p, rfl, .ref t, rfl, .ref pr, rfl, p, t, ts, pr, pl, qs, rfl, d14.2, .inl (.inl ht14), m0, by omega, hpr14, hpl14, lpl, fun H15 d15 => ⟨_, rfl, ?_⟩⟩
      have hpr15 := tup_drawn d14.2 d15 hpr14
      have hpl15 := PairsAt.drawn d14.2 d15 hpl14
      have ht15 := tup_drawn d14.2 d15 ht14
      have hB15 := BkAt.drawn d14.2 d15 hB14
      refine ⟨.ref t, rfl, .ref pr, rfl, pr, pl, rfl, .inl (.inl hpr15), fun rv nrv => ?_⟩
      have srv := same_new (o := .tup pl.reverse) nrv
      have hrv : (upd H15 rv (.tup pl.reverse)) rv = some (.tup pl.reverse) := upd_same
      generalize upd H15 rv (.tup pl.reverse) = H16 at srv hrv ⊢
      have hin2 : ∀ q ∈ qs.reverse, InM ts.length q := fun q hq => hin q (List.mem_reverse.mp hq)
      have same : barOf ts.length qs.reverse = bar := (bar_same hin fun q => List.mem_reverse).trans hbar0
      refine ⟨5, t, ts, .non, .ref rv, rfl, .inl (.inl (srv _ _ ht15)), by omega, .inr ⟨.inr rfl, .inr ⟨rv, pl.reverse, qs.reverse, rfl, .inl (.inl hrv), (hpl15.grow srv).rev, hin2, by rw [List.length_reverse]; omega, fun k => absurd k (by rw [same]; omega), fun _ c2 H17 s17 hB2 => ?_⟩⟩⟩
      rw [same] at hB2
      have k17 := srv.trans s17
      have cnt := po.few
      refine ⟨.ref c, rfl, .ref c2, .ref c, bkD (bkB ts.length bar), rfl, dp_bk hB2, dp_bk (hB15.grow k17), ok_bk (by rw [po.fin, fins_len]; omega) (by omega) (fun r hr => by have := (po.ok.row r hr).1; omega), fun H18 s18 => ⟨_, rfl, ?_⟩⟩
      have d18 := ((Drawn.refl d15.2).same k17).same s18
      refine ⟨.ref p, rfl, p, 6, rfl, d18.2, by omega, by omega, fun r7 H19 r70 r71 d19 f19 => ⟨rfl, _, rfl, ite2 (fun _ => ?_) (fun _ => ?_)⟩⟩
      · exact ⟨.ref p, rfl, p, rfl, d19.2, fun H' _ => q H'⟩
      · exact q H19
end
end K2
set_option Elab.async false
set_option linter.all false
set_option maxRecDepth 100000
set_option maxHeartbeats 8000000
namespace K2
open PySem PySem.Spec PyProof.Rows L2 Ver
theorem exm_self {K : PySem.W.Frag} {S : Addr} (h1 : PySem.W.subIn K (.ref S) (.type "BaseException") = some true) (h2 : PySem.W.isClsIn K S = true) (h3 : PySem.W.typeIn K (.ref S) = some (.type "type")) (h4 : PySem.W.subIn K (.ref S) (.ref S) = some true) :
    PySem.W.exmOne K (.ref S) (.ref S) = some true := by
  have e1 : (PySem.W.subIn K (.ref S) (.type "BaseException") == some true) = true := by rw [h1] <;> rfl
  have e2 : ((PySem.W.clsIn K S).isSome && PySem.W.typeIn K (.ref S) == some (.type "type")) = true := by
    have h2' : (PySem.W.clsIn K S).isSome = true := h2
    rw [h2', h3] <;> rfl
  show (if (PySem.W.subIn K (.ref S) (.type "BaseException") == some true) = true then (if ((PySem.W.clsIn K S).isSome && PySem.W.typeIn K (.ref S) == some (.type "type")) = true then PySem.W.subIn K (.ref S) (.ref S) else none) else none) = some true
  rw [if_pos e1, if_pos e2]
  exact h4
theorem exm_other {K : PySem.W.Frag} {S D : Addr} (h1 : PySem.W.subIn K (.ref S) (.type "BaseException") = some true) (h2 : PySem.W.isClsIn K S = true) (h3 : PySem.W.typeIn K (.ref S) = some (.type "type")) (h4 : PySem.W.subIn K (.ref D) (.ref S) = some false) :
    PySem.W.exmOne K (.ref D) (.ref S) = some false := by
  have e1 : (PySem.W.subIn K (.ref S) (.type "BaseException") == some true) = true := by rw [h1] <;> rfl
  have e2 : ((PySem.W.clsIn K S).isSome && PySem.W.typeIn K (.ref S) == some (.type "type")) = true := by
    have h2' : (PySem.W.clsIn K S).isSome = true := h2
    rw [h2', h3] <;> rfl
  show (if (PySem.W.subIn K (.ref S) (.type "BaseException") == some true) = true then (if ((PySem.W.clsIn K S).isSome && PySem.W.typeIn K (.ref S) == some (.type "type")) = true then PySem.W.subIn K (.ref D) (.ref S) else none) else none) = some false
  rw [if_pos e1, if_pos e2]
  exact h4

theorem all_mk {l : PySem.W.OpenLaw} {w : World} {K : PySem.W.Frag} {h : Heap} {mg : Str → Option Value} {fa C C1 C2 fI : Addr} (X : K.In h) (G : h.Ns mainGlobals mg) (hfa : mg "law" = some (.ref fa))
    {CX C3 C4 gI : Addr} {nm2 qn2 : Str} {N2 : Addr} {bs2 : List Value} {sn2 : List Str} {sub2 : List Value} {ab2 : Bool} {col2 : Option Bool} {dd2 : Option Addr} {n0 n1 n2 n3 n5 : Option Value} {ocJ dcJ pmJ cdJ ctJ : Value} {odJ anJ : Option Addr} {slJ : Array (Option Value)}
    {nm qn : Str} {N : Addr} {bs : List Value} {sn : List Str} {sub : List Value} {ab : Bool} {col : Option Bool} {dd : Option Addr} {m0 m1 m2 m3 m5 : Option Value} {ocI dcI pmI cdI ctI : Value} {odI anI : Option Addr} {slI : Array (Option Value)}
    {f0 f1 f2 f3 f4 f5 f6 f7 f8 f9 f10 f11 f12 f13 f14 f15 f16 f17 f18 f19 f20 f21 f22 f23 f24 f25 f26 f27 f28 f29 f30 f31 f32 f33 f34 f35 : Addr}
    {od0 an0 od1 an1 od2 an2 od3 an3 od4 an4 od5 an5 od6 an6 od7 an7 od8 an8 od9 an9 od10 an10 od11 an11 od12 an12 od13 an13 od14 an14 od15 an15 od16 an16 od17 an17 od18 an18 od19 an19 od20 an20 od21 an21 od22 an22 od23 an23 od24 an24 od25 an25 od26 an26 od27 an27 od28 an28 od29 an29 od30 an30 od31 an31 od32 an32 od33 an33 od34 an34 od35 an35 : Option Addr}
    {sl0 sl1 sl2 sl3 sl4 sl5 sl6 sl7 sl8 sl9 sl10 sl11 sl12 sl13 sl14 sl15 sl16 sl17 sl18 sl19 sl20 sl21 sl22 sl23 sl24 sl25 sl26 sl27 sl28 sl29 sl30 sl31 sl32 sl33 sl34 sl35 : Array (Option Value)}
    {oc0 kV0 dc0 pm0 cd0 ct0 oc1 kV1 dc1 pm1 cd1 ct1 oc2 kV2 dc2 pm2 cd2 ct2 oc3 kV3 dc3 pm3 cd3 ct3 oc4 kV4 dc4 pm4 cd4 ct4 oc5 kV5 dc5 pm5 cd5 ct5 oc6 kV6 dc6 pm6 cd6 ct6 oc7 kV7 dc7 pm7 cd7 ct7 oc8 kV8 dc8 pm8 cd8 ct8 oc9 kV9 dc9 pm9 cd9 ct9 oc10 kV10 dc10 pm10 cd10 ct10 oc11 kV11 dc11 pm11 cd11 ct11 oc12 kV12 dc12 pm12 cd12 ct12 oc13 kV13 dc13 pm13 cd13 ct13 oc14 kV14 dc14 pm14 cd14 ct14 oc15 kV15 dc15 pm15 cd15 ct15 oc16 kV16 dc16 pm16 cd16 ct16 oc17 kV17 dc17 pm17 cd17 ct17 oc18 kV18 dc18 pm18 cd18 ct18 oc19 kV19 dc19 pm19 cd19 ct19 oc20 kV20 dc20 pm20 cd20 ct20 oc21 kV21 dc21 pm21 cd21 ct21 oc22 kV22 dc22 pm22 cd22 ct22 oc23 kV23 dc23 pm23 cd23 ct23 oc24 kV24 dc24 pm24 cd24 ct24 oc25 kV25 dc25 pm25 cd25 ct25 oc26 kV26 dc26 pm26 cd26 ct26 oc27 kV27 dc27 pm27 cd27 ct27 oc28 kV28 dc28 pm28 cd28 ct28 oc29 kV29 dc29 pm29 cd29 ct29 oc30 kV30 dc30 pm30 cd30 ct30 oc31 kV31 dc31 pm31 cd31 ct31 oc32 kV32 dc32 pm32 cd32 ct32 oc33 kV33 dc33 pm33 cd33 ct33 oc34 kV34 dc34 pm34 cd34 ct34 oc35 kV35 dc35 pm35 cd35 ct35 : Value}
    (aC : PySem.W.nsIn K mainGlobals "NotUsable" = some (some (.ref C)))
    (xL : K.lookup C = some (excClassObj nm qn C N bs [.ref C2, .ref C1, .type "ValueError", .type "Exception", .type "BaseException", .type "object"] true sn sub ab col dd m0 m1 m2 m3 m5 "ValueError.__new__"))
    (sa : PySem.W.findIn K (.ref C) "__setattr__" = some (some (.builtin "object.__setattr__"))) (ga : PySem.W.findIn K (.ref C) "__getattribute__" = some (some (.builtin "BaseException.__getattribute__"))) (gg : PySem.W.findIn K (.ref C) "__getattr__" = some none) (nb : PySem.W.findIn K (.ref C) "word" = some none)
    (iC : PySem.W.findIn K (.ref C) "__init__" = some (some (.ref fI))) (tI : PySem.W.typeIn K (.ref fI) = some (.type "function"))
    (lI : K.lookup fI = some ⟨ocI, odI, .func (PySem.W.fnOf "__init__" "NotUsable.__init__" (PySem.NUsX.iA ⟨8, 17, 8, 21⟩ ⟨8, 23, 8, 27⟩) (PySem.NUsX.iB ⟨9, 8, 9, 12⟩ ⟨9, 8, 9, 17⟩ ⟨9, 20, 9, 24⟩ ⟨9, 8, 9, 24⟩) PySem.NUsX.iS .none .none dcI pmI anI cdI ctI), slI⟩) (cI : PySem.W.codeIn K cdI "NotUsable.__init__" = true)
    (kC : PySem.W.keepIn K (.ref C) = true) (eC : PySem.W.subIn K (.ref C) (.type "BaseException") = some true) (tC : PySem.W.typeIn K (.ref C) = some (.type "type")) (hC : PySem.W.hasDictIn K C = true) (clC : PySem.W.isClsIn K C = true) (sC : PySem.W.subIn K (.ref C) (.ref C) = some true)
    (bC : PySem.W.nsIn K mainGlobals "TooMuch" = some (some (.ref CX)))
    (yL : K.lookup CX = some (excClassObj nm2 qn2 CX N2 bs2 [.ref C4, .ref C3, .type "ValueError", .type "Exception", .type "BaseException", .type "object"] true sn2 sub2 ab2 col2 dd2 n0 n1 n2 n3 n5 "ValueError.__new__"))
    (ta : PySem.W.findIn K (.ref CX) "__setattr__" = some (some (.builtin "object.__setattr__"))) (ha : PySem.W.findIn K (.ref CX) "__getattribute__" = some (some (.builtin "BaseException.__getattribute__"))) (hg : PySem.W.findIn K (.ref CX) "__getattr__" = some none) (ob : PySem.W.findIn K (.ref CX) "what" = some none)
    (jC : PySem.W.findIn K (.ref CX) "__init__" = some (some (.ref gI))) (tJ : PySem.W.typeIn K (.ref gI) = some (.type "function"))
    (lJ : K.lookup gI = some ⟨ocJ, odJ, .func (PySem.W.fnOf "__init__" "TooMuch.__init__" (PySem.TMuX.iA ⟨12, 17, 12, 21⟩ ⟨12, 23, 12, 27⟩) (PySem.TMuX.iB ⟨13, 8, 13, 12⟩ ⟨13, 8, 13, 17⟩ ⟨13, 20, 13, 24⟩ ⟨13, 8, 13, 24⟩) PySem.TMuX.iS .none .none dcJ pmJ anJ cdJ ctJ), slJ⟩) (cJ : PySem.W.codeIn K cdJ "TooMuch.__init__" = true)
    (lC : PySem.W.keepIn K (.ref CX) = true) (fC : PySem.W.subIn K (.ref CX) (.type "BaseException") = some true) (uC : PySem.W.typeIn K (.ref CX) = some (.type "type")) (iD : PySem.W.hasDictIn K CX = true) (dlC : PySem.W.isClsIn K CX = true) (tC2 : PySem.W.subIn K (.ref CX) (.ref CX) = some true) (nC2 : PySem.W.subIn K (.ref CX) (.ref C) = some false)
    (a0 : PySem.W.nsIn K mainGlobals "is_int" = some (some (.ref f0))) (l0 : K.lookup f0 = some ⟨oc0, od0, .func (PySem.W.fnOf "is_int" "is_int" (defArgs s_is_int) (defBody s_is_int) (defScope s_is_int) .none kV0 dc0 pm0 an0 cd0 ct0), sl0⟩) (c0 : PySem.W.codeIn K cd0 "is_int" = true) (k0 : PySem.W.keepIn K (.ref f0) = true)
    (a1 : PySem.W.nsIn K mainGlobals "is_number" = some (some (.ref f1))) (l1 : K.lookup f1 = some ⟨oc1, od1, .func (PySem.W.fnOf "is_number" "is_number" (defArgs s_is_number) (defBody s_is_number) (defScope s_is_number) .none kV1 dc1 pm1 an1 cd1 ct1), sl1⟩) (c1 : PySem.W.codeIn K cd1 "is_number" = true) (k1 : PySem.W.keepIn K (.ref f1) = true)
    (a2 : PySem.W.nsIn K mainGlobals "is_below" = some (some (.ref f2))) (l2 : K.lookup f2 = some ⟨oc2, od2, .func (PySem.W.fnOf "is_below" "is_below" (defArgs s_is_below) (defBody s_is_below) (defScope s_is_below) .none kV2 dc2 pm2 an2 cd2 ct2), sl2⟩) (c2 : PySem.W.codeIn K cd2 "is_below" = true) (k2 : PySem.W.keepIn K (.ref f2) = true)
    (a3 : PySem.W.nsIn K mainGlobals "are_below" = some (some (.ref f3))) (l3 : K.lookup f3 = some ⟨oc3, od3, .func (PySem.W.fnOf "are_below" "are_below" (defArgs s_are_below) (defBody s_are_below) (defScope s_are_below) .none kV3 dc3 pm3 an3 cd3 ct3), sl3⟩) (c3 : PySem.W.codeIn K cd3 "are_below" = true) (k3 : PySem.W.keepIn K (.ref f3) = true)
    (a4 : PySem.W.nsIn K mainGlobals "ask_row" = some (some (.ref f4))) (l4 : K.lookup f4 = some ⟨oc4, od4, .func (PySem.W.fnOf "ask_row" "ask_row" (defArgs s_ask_row) (defBody s_ask_row) (defScope s_ask_row) .none kV4 dc4 pm4 an4 cd4 ct4), sl4⟩) (c4 : PySem.W.codeIn K cd4 "ask_row" = true) (k4 : PySem.W.keepIn K (.ref f4) = true)
    (a5 : PySem.W.nsIn K mainGlobals "least_book" = some (some (.ref f5))) (l5 : K.lookup f5 = some ⟨oc5, od5, .func (PySem.W.fnOf "least_book" "least_book" (defArgs s_least_book) (defBody s_least_book) (defScope s_least_book) .none kV5 dc5 pm5 an5 cd5 ct5), sl5⟩) (c5 : PySem.W.codeIn K cd5 "least_book" = true) (k5 : PySem.W.keepIn K (.ref f5) = true)
    (a6 : PySem.W.nsIn K mainGlobals "_classes_of" = some (some (.ref f6))) (l6 : K.lookup f6 = some ⟨oc6, od6, .func (PySem.W.fnOf "_classes_of" "_classes_of" (defArgs s__classes_of) (defBody s__classes_of) (defScope s__classes_of) .none kV6 dc6 pm6 an6 cd6 ct6), sl6⟩) (c6 : PySem.W.codeIn K cd6 "_classes_of" = true) (k6 : PySem.W.keepIn K (.ref f6) = true)
    (a7 : PySem.W.nsIn K mainGlobals "_parted" = some (some (.ref f7))) (l7 : K.lookup f7 = some ⟨oc7, od7, .func (PySem.W.fnOf "_parted" "_parted" (defArgs s__parted) (defBody s__parted) (defScope s__parted) .none kV7 dc7 pm7 an7 cd7 ct7), sl7⟩) (c7 : PySem.W.codeIn K cd7 "_parted" = true) (k7 : PySem.W.keepIn K (.ref f7) = true)
    (a8 : PySem.W.nsIn K mainGlobals "_first_met" = some (some (.ref f8))) (l8 : K.lookup f8 = some ⟨oc8, od8, .func (PySem.W.fnOf "_first_met" "_first_met" (defArgs s__first_met) (defBody s__first_met) (defScope s__first_met) .none kV8 dc8 pm8 an8 cd8 ct8), sl8⟩) (c8 : PySem.W.codeIn K cd8 "_first_met" = true) (k8 : PySem.W.keepIn K (.ref f8) = true)
    (a9 : PySem.W.nsIn K mainGlobals "pairs_book" = some (some (.ref f9))) (l9 : K.lookup f9 = some ⟨oc9, od9, .func (PySem.W.fnOf "pairs_book" "pairs_book" (defArgs s_pairs_book) (defBody s_pairs_book) (defScope s_pairs_book) .none kV9 dc9 pm9 an9 cd9 ct9), sl9⟩) (c9 : PySem.W.codeIn K cd9 "pairs_book" = true) (k9 : PySem.W.keepIn K (.ref f9) = true)
    (a10 : PySem.W.nsIn K mainGlobals "_are_pairs" = some (some (.ref f10))) (l10 : K.lookup f10 = some ⟨oc10, od10, .func (PySem.W.fnOf "_are_pairs" "_are_pairs" (defArgs s__are_pairs) (defBody s__are_pairs) (defScope s__are_pairs) .none kV10 dc10 pm10 an10 cd10 ct10), sl10⟩) (c10 : PySem.W.codeIn K cd10 "_are_pairs" = true) (k10 : PySem.W.keepIn K (.ref f10) = true)
    (a11 : PySem.W.nsIn K mainGlobals "runs" = some (some (.ref f11))) (l11 : K.lookup f11 = some ⟨oc11, od11, .func (PySem.W.fnOf "runs" "runs" (defArgs s_runs) (defBody s_runs) (defScope s_runs) .none kV11 dc11 pm11 an11 cd11 ct11), sl11⟩) (c11 : PySem.W.codeIn K cd11 "runs" = true) (k11 : PySem.W.keepIn K (.ref f11) = true)
    (a12 : PySem.W.nsIn K mainGlobals "state_after" = some (some (.ref f12))) (l12 : K.lookup f12 = some ⟨oc12, od12, .func (PySem.W.fnOf "state_after" "state_after" (defArgs s_state_after) (defBody s_state_after) (defScope s_state_after) .none kV12 dc12 pm12 an12 cd12 ct12), sl12⟩) (c12 : PySem.W.codeIn K cd12 "state_after" = true) (k12 : PySem.W.keepIn K (.ref f12) = true)
    (a13 : PySem.W.nsIn K mainGlobals "takes" = some (some (.ref f13))) (l13 : K.lookup f13 = some ⟨oc13, od13, .func (PySem.W.fnOf "takes" "takes" (defArgs s_takes) (defBody s_takes) (defScope s_takes) .none kV13 dc13 pm13 an13 cd13 ct13), sl13⟩) (c13 : PySem.W.codeIn K cd13 "takes" = true) (k13 : PySem.W.keepIn K (.ref f13) = true)
    (a14 : PySem.W.nsIn K mainGlobals "free_book" = some (some (.ref f14))) (l14 : K.lookup f14 = some ⟨oc14, od14, .func (PySem.W.fnOf "free_book" "free_book" (defArgs s_free_book) (defBody s_free_book) (defScope s_free_book) .none kV14 dc14 pm14 an14 cd14 ct14), sl14⟩) (c14 : PySem.W.codeIn K cd14 "free_book" = true) (k14 : PySem.W.keepIn K (.ref f14) = true)
    (a15 : PySem.W.nsIn K mainGlobals "_law_pool" = some (some (.ref f15))) (l15 : K.lookup f15 = some ⟨oc15, od15, .func (PySem.W.fnOf "_law_pool" "_law_pool" (defArgs s__law_pool) (defBody s__law_pool) (defScope s__law_pool) .none kV15 dc15 pm15 an15 cd15 ct15), sl15⟩) (c15 : PySem.W.codeIn K cd15 "_law_pool" = true) (k15 : PySem.W.keepIn K (.ref f15) = true)
    (a16 : PySem.W.nsIn K mainGlobals "_law_pick" = some (some (.ref f16))) (l16 : K.lookup f16 = some ⟨oc16, od16, .func (PySem.W.fnOf "_law_pick" "_law_pick" (defArgs s__law_pick) (defBody s__law_pick) (defScope s__law_pick) .none kV16 dc16 pm16 an16 cd16 ct16), sl16⟩) (c16 : PySem.W.codeIn K cd16 "_law_pick" = true) (k16 : PySem.W.keepIn K (.ref f16) = true)
    (a17 : PySem.W.nsIn K mainGlobals "_law_same" = some (some (.ref f17))) (l17 : K.lookup f17 = some ⟨oc17, od17, .func (PySem.W.fnOf "_law_same" "_law_same" (defArgs s__law_same) (defBody s__law_same) (defScope s__law_same) .none kV17 dc17 pm17 an17 cd17 ct17), sl17⟩) (c17 : PySem.W.codeIn K cd17 "_law_same" = true) (k17 : PySem.W.keepIn K (.ref f17) = true)
    (a18 : PySem.W.nsIn K mainGlobals "_law_word" = some (some (.ref f18))) (l18 : K.lookup f18 = some ⟨oc18, od18, .func (PySem.W.fnOf "_law_word" "_law_word" (defArgs s__law_word) (defBody s__law_word) (defScope s__law_word) .none kV18 dc18 pm18 an18 cd18 ct18), sl18⟩) (c18 : PySem.W.codeIn K cd18 "_law_word" = true) (k18 : PySem.W.keepIn K (.ref f18) = true)
    (a19 : PySem.W.nsIn K mainGlobals "_law_tokens" = some (some (.ref f19))) (l19 : K.lookup f19 = some ⟨oc19, od19, .func (PySem.W.fnOf "_law_tokens" "_law_tokens" (defArgs s__law_tokens) (defBody s__law_tokens) (defScope s__law_tokens) .none kV19 dc19 pm19 an19 cd19 ct19), sl19⟩) (c19 : PySem.W.codeIn K cd19 "_law_tokens" = true) (k19 : PySem.W.keepIn K (.ref f19) = true)
    (a20 : PySem.W.nsIn K mainGlobals "_law_rows" = some (some (.ref f20))) (l20 : K.lookup f20 = some ⟨oc20, od20, .func (PySem.W.fnOf "_law_rows" "_law_rows" (defArgs s__law_rows) (defBody s__law_rows) (defScope s__law_rows) .none kV20 dc20 pm20 an20 cd20 ct20), sl20⟩) (c20 : PySem.W.codeIn K cd20 "_law_rows" = true) (k20 : PySem.W.keepIn K (.ref f20) = true)
    (a21 : PySem.W.nsIn K mainGlobals "_law_run" = some (some (.ref f21))) (l21 : K.lookup f21 = some ⟨oc21, od21, .func (PySem.W.fnOf "_law_run" "_law_run" (defArgs s__law_run) (defBody s__law_run) (defScope s__law_run) .none kV21 dc21 pm21 an21 cd21 ct21), sl21⟩) (c21 : PySem.W.codeIn K cd21 "_law_run" = true) (k21 : PySem.W.keepIn K (.ref f21) = true)
    (a22 : PySem.W.nsIn K mainGlobals "_law_told" = some (some (.ref f22))) (l22 : K.lookup f22 = some ⟨oc22, od22, .func (PySem.W.fnOf "_law_told" "_law_told" (defArgs s__law_told) (defBody s__law_told) (defScope s__law_told) .none kV22 dc22 pm22 an22 cd22 ct22), sl22⟩) (c22 : PySem.W.codeIn K cd22 "_law_told" = true) (k22 : PySem.W.keepIn K (.ref f22) = true)
    (a23 : PySem.W.nsIn K mainGlobals "_law_drawn_book" = some (some (.ref f23))) (l23 : K.lookup f23 = some ⟨oc23, od23, .func (PySem.W.fnOf "_law_drawn_book" "_law_drawn_book" (defArgs s__law_drawn_book) (defBody s__law_drawn_book) (defScope s__law_drawn_book) .none kV23 dc23 pm23 an23 cd23 ct23), sl23⟩) (c23 : PySem.W.codeIn K cd23 "_law_drawn_book" = true) (k23 : PySem.W.keepIn K (.ref f23) = true)
    (a24 : PySem.W.nsIn K mainGlobals "_law_books_right" = some (some (.ref f24))) (l24 : K.lookup f24 = some ⟨oc24, od24, .func (PySem.W.fnOf "_law_books_right" "_law_books_right" (defArgs s__law_books_right) (defBody s__law_books_right) (defScope s__law_books_right) .none kV24 dc24 pm24 an24 cd24 ct24), sl24⟩) (c24 : PySem.W.codeIn K cd24 "_law_books_right" = true) (k24 : PySem.W.keepIn K (.ref f24) = true)
    (a25 : PySem.W.nsIn K mainGlobals "_law_refused_rows" = some (some (.ref f25))) (l25 : K.lookup f25 = some ⟨oc25, od25, .func (PySem.W.fnOf "_law_refused_rows" "_law_refused_rows" (defArgs s__law_refused_rows) (defBody s__law_refused_rows) (defScope s__law_refused_rows) .none kV25 dc25 pm25 an25 cd25 ct25), sl25⟩) (c25 : PySem.W.codeIn K cd25 "_law_refused_rows" = true) (k25 : PySem.W.keepIn K (.ref f25) = true)
    (a26 : PySem.W.nsIn K mainGlobals "_law_refused_pairs" = some (some (.ref f26))) (l26 : K.lookup f26 = some ⟨oc26, od26, .func (PySem.W.fnOf "_law_refused_pairs" "_law_refused_pairs" (defArgs s__law_refused_pairs) (defBody s__law_refused_pairs) (defScope s__law_refused_pairs) .none kV26 dc26 pm26 an26 cd26 ct26), sl26⟩) (c26 : PySem.W.codeIn K cd26 "_law_refused_pairs" = true) (k26 : PySem.W.keepIn K (.ref f26) = true)
    (a27 : PySem.W.nsIn K mainGlobals "_law_drawn_pairs" = some (some (.ref f27))) (l27 : K.lookup f27 = some ⟨oc27, od27, .func (PySem.W.fnOf "_law_drawn_pairs" "_law_drawn_pairs" (defArgs s__law_drawn_pairs) (defBody s__law_drawn_pairs) (defScope s__law_drawn_pairs) .none kV27 dc27 pm27 an27 cd27 ct27), sl27⟩) (c27 : PySem.W.codeIn K cd27 "_law_drawn_pairs" = true) (k27 : PySem.W.keepIn K (.ref f27) = true)
    (a28 : PySem.W.nsIn K mainGlobals "_law_barred" = some (some (.ref f28))) (l28 : K.lookup f28 = some ⟨oc28, od28, .func (PySem.W.fnOf "_law_barred" "_law_barred" (defArgs s__law_barred) (defBody s__law_barred) (defScope s__law_barred) .none kV28 dc28 pm28 an28 cd28 ct28), sl28⟩) (c28 : PySem.W.codeIn K cd28 "_law_barred" = true) (k28 : PySem.W.keepIn K (.ref f28) = true)
    (a29 : PySem.W.nsIn K mainGlobals "_law_many" = some (some (.ref f29))) (l29 : K.lookup f29 = some ⟨oc29, od29, .func (PySem.W.fnOf "_law_many" "_law_many" (defArgs s__law_many) (defBody s__law_many) (defScope s__law_many) .none kV29 dc29 pm29 an29 cd29 ct29), sl29⟩) (c29 : PySem.W.codeIn K cd29 "_law_many" = true) (k29 : PySem.W.keepIn K (.ref f29) = true)
    (a30 : PySem.W.nsIn K mainGlobals "_law_shape_right" = some (some (.ref f30))) (l30 : K.lookup f30 = some ⟨oc30, od30, .func (PySem.W.fnOf "_law_shape_right" "_law_shape_right" (defArgs s__law_shape_right) (defBody s__law_shape_right) (defScope s__law_shape_right) .none kV30 dc30 pm30 an30 cd30 ct30), sl30⟩) (c30 : PySem.W.codeIn K cd30 "_law_shape_right" = true) (k30 : PySem.W.keepIn K (.ref f30) = true)
    (a31 : PySem.W.nsIn K mainGlobals "_law_first_met" = some (some (.ref f31))) (l31 : K.lookup f31 = some ⟨oc31, od31, .func (PySem.W.fnOf "_law_first_met" "_law_first_met" (defArgs s__law_first_met) (defBody s__law_first_met) (defScope s__law_first_met) .none kV31 dc31 pm31 an31 cd31 ct31), sl31⟩) (c31 : PySem.W.codeIn K cd31 "_law_first_met" = true) (k31 : PySem.W.keepIn K (.ref f31) = true)
    (a32 : PySem.W.nsIn K mainGlobals "_law_pairs_right" = some (some (.ref f32))) (l32 : K.lookup f32 = some ⟨oc32, od32, .func (PySem.W.fnOf "_law_pairs_right" "_law_pairs_right" (defArgs s__law_pairs_right) (defBody s__law_pairs_right) (defScope s__law_pairs_right) .none kV32 dc32 pm32 an32 cd32 ct32), sl32⟩) (c32 : PySem.W.codeIn K cd32 "_law_pairs_right" = true) (k32 : PySem.W.keepIn K (.ref f32) = true)
    (a33 : PySem.W.nsIn K mainGlobals "_law_let" = some (some (.ref f33))) (l33 : K.lookup f33 = some ⟨oc33, od33, .func (PySem.W.fnOf "_law_let" "_law_let" (defArgs s__law_let) (defBody s__law_let) (defScope s__law_let) .none kV33 dc33 pm33 an33 cd33 ct33), sl33⟩) (c33 : PySem.W.codeIn K cd33 "_law_let" = true) (k33 : PySem.W.keepIn K (.ref f33) = true)
    (a34 : PySem.W.nsIn K mainGlobals "_law_great" = some (some (.ref f34))) (l34 : K.lookup f34 = some ⟨oc34, od34, .func (PySem.W.fnOf "_law_great" "_law_great" (defArgs s__law_great) (defBody s__law_great) (defScope s__law_great) .none kV34 dc34 pm34 an34 cd34 ct34), sl34⟩) (c34 : PySem.W.codeIn K cd34 "_law_great" = true) (k34 : PySem.W.keepIn K (.ref f34) = true)
    (a35 : PySem.W.nsIn K mainGlobals "law" = some (some (.ref f35))) (l35 : K.lookup f35 = some ⟨oc35, od35, .func (PySem.W.fnOf "law" "law" (defArgs s_law) (defBody s_law) (defScope s_law) .none kV35 dc35 pm35 an35 cd35 ct35), sl35⟩) (c35 : PySem.W.codeIn K cd35 "law" = true) (k35 : PySem.W.keepIn K (.ref f35) = true)
    (qROW_LIMIT : ∃ t, PySem.W.nsIn K mainGlobals "ROW_LIMIT" = some (some (.int (60) t)))
    (qBOOK_LIMIT : ∃ t, PySem.W.nsIn K mainGlobals "BOOK_LIMIT" = some (some (.int (60) t)))
    (zall : PySem.W.nsIn K mainGlobals "all" = some none)
    (zbool : PySem.W.nsIn K mainGlobals "bool" = some none)
    (zenumerate : PySem.W.nsIn K mainGlobals "enumerate" = some none)
    (zint : PySem.W.nsIn K mainGlobals "int" = some none)
    (zisinstance : PySem.W.nsIn K mainGlobals "isinstance" = some none)
    (zlen : PySem.W.nsIn K mainGlobals "len" = some none)
    (zlist : PySem.W.nsIn K mainGlobals "list" = some none)
    (zmax : PySem.W.nsIn K mainGlobals "max" = some none)
    (zmin : PySem.W.nsIn K mainGlobals "min" = some none)
    (zrange : PySem.W.nsIn K mainGlobals "range" = some none)
    (zstr : PySem.W.nsIn K mainGlobals "str" = some none)
    (ztuple : PySem.W.nsIn K mainGlobals "tuple" = some none)
    (zzip : PySem.W.nsIn K mainGlobals "zip" = some none)
    : ∃ fd : FuncData, (∀ (s : Shared) (v : Value), BindsTo s fd ⟨[v], []⟩ [("script", v)]) ∧ ∀ base : Heap, K.In base → base.Ns mainGlobals mg → FnOk l.prog w K mg base CX0 10 fa fd ["script"] (sp_law K) := by
  have e := hfa.symm.trans (PySem.W.mg_of X G a35)
  cases e
  have nus : PySem.NUsX.NUsTxt K mg C fI :=
    { gC := PySem.W.mg_of X G aC, cls := ⟨nm, qn, N, bs, _, sn, sub, ab, col, dd, m0, m1, m2, m3, m5, xL, by rfl⟩, sa := sa, ga := ga, gg := gg, noN := nb, iC := iC, tC := tI, kC := kC, exC := eC, tyC := tC, hdC := hC, te := exm_self eC clC tC sC,
      fn := ⟨_, _, _, _, _, _, _, _, _, _, _, _, _, _, lI, cI⟩ }
  have tmu : PySem.TMuX.TMuTxt K mg CX gI :=
    { gC := PySem.W.mg_of X G bC, cls := ⟨nm2, qn2, N2, bs2, _, sn2, sub2, ab2, col2, dd2, n0, n1, n2, n3, n5, yL, by rfl⟩, sa := ta, ga := ha, gg := hg, noN := ob, iC := jC, tC := tJ, kC := lC, exC := fC, tyC := uC, hdC := iD, te := exm_self fC dlC uC tC2,
      fn := ⟨_, _, _, _, _, _, _, _, _, _, _, _, _, _, lJ, cJ⟩ }
  have F0 := fun_mk (st := s_is_int) l0 c0 k0
  have F1 := fun_mk (st := s_is_number) l1 c1 k1
  have F2 := fun_mk (st := s_is_below) l2 c2 k2
  have F3 := fun_mk (st := s_are_below) l3 c3 k3
  have F4 := fun_mk (st := s_ask_row) l4 c4 k4
  have F5 := fun_mk (st := s_least_book) l5 c5 k5
  have F6 := fun_mk (st := s__classes_of) l6 c6 k6
  have F7 := fun_mk (st := s__parted) l7 c7 k7
  have F8 := fun_mk (st := s__first_met) l8 c8 k8
  have F9 := fun_mk (st := s_pairs_book) l9 c9 k9
  have F10 := fun_mk (st := s__are_pairs) l10 c10 k10
  have F11 := fun_mk (st := s_runs) l11 c11 k11
  have F12 := fun_mk (st := s_state_after) l12 c12 k12
  have F13 := fun_mk (st := s_takes) l13 c13 k13
  have F14 := fun_mk (st := s_free_book) l14 c14 k14
  have F15 := fun_mk (st := s__law_pool) l15 c15 k15
  have F16 := fun_mk (st := s__law_pick) l16 c16 k16
  have F17 := fun_mk (st := s__law_same) l17 c17 k17
  have F18 := fun_mk (st := s__law_word) l18 c18 k18
  have F19 := fun_mk (st := s__law_tokens) l19 c19 k19
  have F20 := fun_mk (st := s__law_rows) l20 c20 k20
  have F21 := fun_mk (st := s__law_run) l21 c21 k21
  have F22 := fun_mk (st := s__law_told) l22 c22 k22
  have F23 := fun_mk (st := s__law_drawn_book) l23 c23 k23
  have F24 := fun_mk (st := s__law_books_right) l24 c24 k24
  have F25 := fun_mk (st := s__law_refused_rows) l25 c25 k25
  have F26 := fun_mk (st := s__law_refused_pairs) l26 c26 k26
  have F27 := fun_mk (st := s__law_drawn_pairs) l27 c27 k27
  have F28 := fun_mk (st := s__law_barred) l28 c28 k28
  have F29 := fun_mk (st := s__law_many) l29 c29 k29
  have F30 := fun_mk (st := s__law_shape_right) l30 c30 k30
  have F31 := fun_mk (st := s__law_first_met) l31 c31 k31
  have F32 := fun_mk (st := s__law_pairs_right) l32 c32 k32
  have F33 := fun_mk (st := s__law_let) l33 c33 k33
  have F34 := fun_mk (st := s__law_great) l34 c34 k34
  have F35 := fun_mk (st := s_law) l35 c35 k35
  let T : Tx K mg := {
    f_is_int := _, d_is_int := _, F_is_int := F0, g_is_int := PySem.W.mg_of X G a0, b_is_int := F0.binds (ps := ["thing"]) fun _ _ _ _ _ _ us hl => match us, hl with | [_], _ => rfl
    f_is_number := _, d_is_number := _, F_is_number := F1, g_is_number := PySem.W.mg_of X G a1, b_is_number := F1.binds (ps := ["thing"]) fun _ _ _ _ _ _ us hl => match us, hl with | [_], _ => rfl
    f_is_below := _, d_is_below := _, F_is_below := F2, g_is_below := PySem.W.mg_of X G a2, b_is_below := F2.binds (ps := ["thing", "bound"]) fun _ _ _ _ _ _ us hl => match us, hl with | [_, _], _ => rfl
    f_are_below := _, d_are_below := _, F_are_below := F3, g_are_below := PySem.W.mg_of X G a3, b_are_below := F3.binds (ps := ["thing", "bound"]) fun _ _ _ _ _ _ us hl => match us, hl with | [_, _], _ => rfl
    f_ask_row := _, d_ask_row := _, F_ask_row := F4, g_ask_row := PySem.W.mg_of X G a4, b_ask_row := F4.binds (ps := ["tokens", "row"]) fun _ _ _ _ _ _ us hl => match us, hl with | [_, _], _ => rfl
    f_least_book := _, d_least_book := _, F_least_book := F5, g_least_book := PySem.W.mg_of X G a5, b_least_book := F5.binds (ps := ["table"]) fun _ _ _ _ _ _ us hl => match us, hl with | [_], _ => rfl
    f__classes_of := _, d__classes_of := _, F__classes_of := F6, g__classes_of := PySem.W.mg_of X G a6, b__classes_of := F6.binds (ps := ["table"]) fun _ _ _ _ _ _ us hl => match us, hl with | [_], _ => rfl
    f__parted := _, d__parted := _, F__parted := F7, g__parted := PySem.W.mg_of X G a7, b__parted := F7.binds (ps := ["table", "classes"]) fun _ _ _ _ _ _ us hl => match us, hl with | [_, _], _ => rfl
    f__first_met := _, d__first_met := _, F__first_met := F8, g__first_met := PySem.W.mg_of X G a8, b__first_met := F8.binds (ps := ["table", "classes"]) fun _ _ _ _ _ _ us hl => match us, hl with | [_, _], _ => rfl
    f_pairs_book := _, d_pairs_book := _, F_pairs_book := F9, g_pairs_book := PySem.W.mg_of X G a9, b_pairs_book := F9.binds (ps := ["tokens", "pairs"]) fun _ _ _ _ _ _ us hl => match us, hl with | [_, _], _ => rfl
    f__are_pairs := _, d__are_pairs := _, F__are_pairs := F10, g__are_pairs := PySem.W.mg_of X G a10, b__are_pairs := F10.binds (ps := ["thing", "many"]) fun _ _ _ _ _ _ us hl => match us, hl with | [_, _], _ => rfl
    f_runs := _, d_runs := _, F_runs := F11, g_runs := PySem.W.mg_of X G a11, b_runs := F11.binds (ps := ["tokens", "book", "row"]) fun _ _ _ _ _ _ us hl => match us, hl with | [_, _, _], _ => rfl
    f_state_after := _, d_state_after := _, F_state_after := F12, g_state_after := PySem.W.mg_of X G a12, b_state_after := F12.binds (ps := ["book", "row"]) fun _ _ _ _ _ _ us hl => match us, hl with | [_, _], _ => rfl
    f_takes := _, d_takes := _, F_takes := F13, g_takes := PySem.W.mg_of X G a13, b_takes := F13.binds (ps := ["tokens", "book", "row"]) fun _ _ _ _ _ _ us hl => match us, hl with | [_, _, _], _ => rfl
    f_free_book := _, d_free_book := _, F_free_book := F14, g_free_book := PySem.W.mg_of X G a14, b_free_book := F14.binds (ps := ["tokens"]) fun _ _ _ _ _ _ us hl => match us, hl with | [_], _ => rfl
    f__law_pool := _, d__law_pool := _, F__law_pool := F15, g__law_pool := PySem.W.mg_of X G a15, b__law_pool := F15.binds (ps := ["script"]) fun _ _ _ _ _ _ us hl => match us, hl with | [_], _ => rfl
    f__law_pick := _, d__law_pick := _, F__law_pick := F16, g__law_pick := PySem.W.mg_of X G a16, b__law_pick := F16.binds (ps := ["pool", "many"]) fun _ _ _ _ _ _ us hl => match us, hl with | [_, _], _ => rfl
    f__law_same := _, d__law_same := _, F__law_same := F17, g__law_same := PySem.W.mg_of X G a17, b__law_same := F17.binds (ps := ["told", "due"]) fun _ _ _ _ _ _ us hl => match us, hl with | [_, _], _ => rfl
    f__law_word := _, d__law_word := _, F__law_word := F18, g__law_word := PySem.W.mg_of X G a18, b__law_word := F18.binds (ps := ["pool", "signs", "most"]) fun _ _ _ _ _ _ us hl => match us, hl with | [_, _, _], _ => rfl
    f__law_tokens := _, d__law_tokens := _, F__law_tokens := F19, g__law_tokens := PySem.W.mg_of X G a19, b__law_tokens := F19.binds (ps := ["pool", "many", "signs", "most"]) fun _ _ _ _ _ _ us hl => match us, hl with | [_, _, _, _], _ => rfl
    f__law_rows := _, d__law_rows := _, F__law_rows := F20, g__law_rows := PySem.W.mg_of X G a20, b__law_rows := F20.binds (ps := ["m", "most"]) fun _ _ _ _ _ _ us hl => match us, hl with | [_, _], _ => rfl
    f__law_run := _, d__law_run := _, F__law_run := F21, g__law_run := PySem.W.mg_of X G a21, b__law_run := F21.binds (ps := ["table", "row"]) fun _ _ _ _ _ _ us hl => match us, hl with | [_, _], _ => rfl
    f__law_told := _, d__law_told := _, F__law_told := F22, g__law_told := PySem.W.mg_of X G a22, b__law_told := F22.binds (ps := ["which", "tokens", "book", "thing"]) fun _ _ _ _ _ _ us hl => match us, hl with | [_, _, _, _], _ => rfl
    f__law_drawn_book := _, d__law_drawn_book := _, F__law_drawn_book := F23, g__law_drawn_book := PySem.W.mg_of X G a23, b__law_drawn_book := F23.binds (ps := ["pool", "m"]) fun _ _ _ _ _ _ us hl => match us, hl with | [_, _], _ => rfl
    f__law_books_right := _, d__law_books_right := _, F__law_books_right := F24, g__law_books_right := PySem.W.mg_of X G a24, b__law_books_right := F24.binds (ps := ["pool", "tokens", "rows"]) fun _ _ _ _ _ _ us hl => match us, hl with | [_, _, _], _ => rfl
    f__law_refused_rows := _, d__law_refused_rows := _, F__law_refused_rows := F25, g__law_refused_rows := PySem.W.mg_of X G a25, b__law_refused_rows := F25.binds (ps := ["pool", "tokens", "row"]) fun _ _ _ _ _ _ us hl => match us, hl with | [_, _, _], _ => rfl
    f__law_refused_pairs := _, d__law_refused_pairs := _, F__law_refused_pairs := F26, g__law_refused_pairs := PySem.W.mg_of X G a26, b__law_refused_pairs := F26.binds (ps := ["pool", "tokens", "pairs"]) fun _ _ _ _ _ _ us hl => match us, hl with | [_, _, _], _ => rfl
    f__law_drawn_pairs := _, d__law_drawn_pairs := _, F__law_drawn_pairs := F27, g__law_drawn_pairs := PySem.W.mg_of X G a27, b__law_drawn_pairs := F27.binds (ps := ["pool", "m"]) fun _ _ _ _ _ _ us hl => match us, hl with | [_, _], _ => rfl
    f__law_barred := _, d__law_barred := _, F__law_barred := F28, g__law_barred := PySem.W.mg_of X G a28, b__law_barred := F28.binds (ps := ["m", "pairs"]) fun _ _ _ _ _ _ us hl => match us, hl with | [_, _], _ => rfl
    f__law_many := _, d__law_many := _, F__law_many := F29, g__law_many := PySem.W.mg_of X G a29, b__law_many := F29.binds (ps := ["m", "barred"]) fun _ _ _ _ _ _ us hl => match us, hl with | [_, _], _ => rfl
    f__law_shape_right := _, d__law_shape_right := _, F__law_shape_right := F30, g__law_shape_right := PySem.W.mg_of X G a30, b__law_shape_right := F30.binds (ps := ["told", "m", "count"]) fun _ _ _ _ _ _ us hl => match us, hl with | [_, _, _], _ => rfl
    f__law_first_met := _, d__law_first_met := _, F__law_first_met := F31, g__law_first_met := PySem.W.mg_of X G a31, b__law_first_met := F31.binds (ps := ["table", "count"]) fun _ _ _ _ _ _ us hl => match us, hl with | [_, _], _ => rfl
    f__law_pairs_right := _, d__law_pairs_right := _, F__law_pairs_right := F32, g__law_pairs_right := PySem.W.mg_of X G a32, b__law_pairs_right := F32.binds (ps := ["told", "m", "barred"]) fun _ _ _ _ _ _ us hl => match us, hl with | [_, _, _], _ => rfl
    f__law_let := _, d__law_let := _, F__law_let := F33, g__law_let := PySem.W.mg_of X G a33, b__law_let := F33.binds (ps := ["row", "barred"]) fun _ _ _ _ _ _ us hl => match us, hl with | [_, _], _ => rfl
    f__law_great := _, d__law_great := _, F__law_great := F34, g__law_great := PySem.W.mg_of X G a34, b__law_great := F34.binds (ps := ["pool"]) fun _ _ _ _ _ _ us hl => match us, hl with | [_], _ => rfl
    f_law := _, d_law := _, F_law := F35, g_law := PySem.W.mg_of X G a35, b_law := F35.binds (ps := ["script"]) fun _ _ _ _ _ _ us hl => match us, hl with | [_], _ => rfl
    k_pairs_book := ⟨fun s us ws _ hu hw => match us, hu, ws, hw with | [], _, [_, _], _ => .of_eq rfl, fun _ rz => kwr_pairs_book rz⟩
    k_runs := ⟨fun s us ws _ hu hw => match us, hu, ws, hw with | [], _, [_, _, _], _ => .of_eq rfl, fun _ rz => kwr_runs rz⟩
    k_takes := ⟨fun s us ws _ hu hw => match us, hu, ws, hw with | [], _, [_, _, _], _ => .of_eq rfl, fun _ rz => kwr_takes rz⟩
    k_free_book := ⟨fun s us ws _ hu hw => match us, hu, ws, hw with | [], _, [_], _ => .of_eq rfl, fun _ rz => kwr_free_book rz⟩
    c_ROW_LIMIT := let ⟨t, e⟩ := qROW_LIMIT; ⟨t, PySem.W.mg_of X G e⟩
    c_BOOK_LIMIT := let ⟨t, e⟩ := qBOOK_LIMIT; ⟨t, PySem.W.mg_of X G e⟩
    n_all := PySem.W.mg_none_of X G zall
    n_bool := PySem.W.mg_none_of X G zbool
    n_enumerate := PySem.W.mg_none_of X G zenumerate
    n_int := PySem.W.mg_none_of X G zint
    n_isinstance := PySem.W.mg_none_of X G zisinstance
    n_len := PySem.W.mg_none_of X G zlen
    n_list := PySem.W.mg_none_of X G zlist
    n_max := PySem.W.mg_none_of X G zmax
    n_min := PySem.W.mg_none_of X G zmin
    n_range := PySem.W.mg_none_of X G zrange
    n_str := PySem.W.mg_none_of X G zstr
    n_tuple := PySem.W.mg_none_of X G ztuple
    n_zip := PySem.W.mg_none_of X G zzip
    C_NotUsable := C, I_NotUsable := fI, nus := nus, C_TooMuch := CX, I_TooMuch := gI, tmu := tmu, xTN := exm_other eC clC tC nC2 }
  exact ⟨T.d_law, fun s v => .of_eq rfl, fun base _ _ => ok_law T⟩
end K2
set_option Elab.async false
set_option linter.all false
set_option maxRecDepth 100000
open PySem PySem.W PyProof.Rows
set_option maxHeartbeats 0 in
theorem PySem.Challenge.cw_stillends_k02_whole_books_of_pairs_holds : PySem.Challenge.rw_stillends_k02_whole_books_of_pairs.Holds := by
  w_on; o_law; k_head; (case hw => w_witness2)
  k_fill
  refine L2.walk_of (l := PySem.Challenge.rw_stillends_k02_whole_books_of_pairs) (n := 63) (k := 10) (x := "script") (CX := fun _ => L2.CX0) (sp := fun w => K2.sp_law _) rfl (by decide) rfl ⟨rfl, by decide, by decide⟩ (fun w h Y => PySem.W.kIn_of Y) ?F (fun _ _ a ns hl _ hS => ⟨a, ns, rfl, hS, hl, fun _ => rfl⟩) (fun _ _ _ _ _ h => h)
  case F =>
    intro w mg fa h KX G hmg
    refine' K2.all_mk KX G hmg ?aC ?xL ?sa ?ga ?gg ?nb ?iC ?tI ?lI ?cI ?kC ?eC ?tC ?hC ?clC ?sC ?bC ?yL ?ta ?ha ?hg ?ob ?jC ?tJ ?lJ ?cJ ?lC ?fC ?uC ?iD ?dlC ?tC2 ?nC2 ?a0 ?l0 ?c0 ?k0 ?a1 ?l1 ?c1 ?k1 ?a2 ?l2 ?c2 ?k2 ?a3 ?l3 ?c3 ?k3 ?a4 ?l4 ?c4 ?k4 ?a5 ?l5 ?c5 ?k5 ?a6 ?l6 ?c6 ?k6 ?a7 ?l7 ?c7 ?k7 ?a8 ?l8 ?c8 ?k8 ?a9 ?l9 ?c9 ?k9 ?a10 ?l10 ?c10 ?k10 ?a11 ?l11 ?c11 ?k11 ?a12 ?l12 ?c12 ?k12 ?a13 ?l13 ?c13 ?k13 ?a14 ?l14 ?c14 ?k14 ?a15 ?l15 ?c15 ?k15 ?a16 ?l16 ?c16 ?k16 ?a17 ?l17 ?c17 ?k17 ?a18 ?l18 ?c18 ?k18 ?a19 ?l19 ?c19 ?k19 ?a20 ?l20 ?c20 ?k20 ?a21 ?l21 ?c21 ?k21 ?a22 ?l22 ?c22 ?k22 ?a23 ?l23 ?c23 ?k23 ?a24 ?l24 ?c24 ?k24 ?a25 ?l25 ?c25 ?k25 ?a26 ?l26 ?c26 ?k26 ?a27 ?l27 ?c27 ?k27 ?a28 ?l28 ?c28 ?k28 ?a29 ?l29 ?c29 ?k29 ?a30 ?l30 ?c30 ?k30 ?a31 ?l31 ?c31 ?k31 ?a32 ?l32 ?c32 ?k32 ?a33 ?l33 ?c33 ?k33 ?a34 ?l34 ?c34 ?k34 ?a35 ?l35 ?c35 ?k35 ?qROW_LIMIT ?qBOOK_LIMIT ?zall ?zbool ?zenumerate ?zint ?zisinstance ?zlen ?zlist ?zmax ?zmin ?zrange ?zstr ?ztuple ?zzip
    (case aC => k_is)
    (case xL => k_is)
    (case sa => k_is)
    (case ga => k_is)
    (case gg => k_is)
    (case nb => k_is)
    (case iC => k_is)
    (case tI => k_is)
    (case lI => k_is)
    (case cI => k_is)
    (case kC => k_is)
    (case eC => k_is)
    (case tC => k_is)
    (case hC => k_is)
    (case clC => k_is)
    (case sC => first | rfl | k_is)
    (case bC => k_is)
    (case yL => k_is)
    (case ta => k_is)
    (case ha => k_is)
    (case hg => k_is)
    (case ob => k_is)
    (case jC => k_is)
    (case tJ => k_is)
    (case lJ => k_is)
    (case cJ => k_is)
    (case lC => k_is)
    (case fC => k_is)
    (case uC => k_is)
    (case iD => k_is)
    (case dlC => k_is)
    (case tC2 => first | rfl | k_is)
    (case nC2 => first | rfl | k_is)
    (case a0 => k_is)
    (case l0 => k_is)
    (case c0 => k_is)
    (case k0 => k_is)
    (case a1 => k_is)
    (case l1 => k_is)
    (case c1 => k_is)
    (case k1 => k_is)
    (case a2 => k_is)
    (case l2 => k_is)
    (case c2 => k_is)
    (case k2 => k_is)
    (case a3 => k_is)
    (case l3 => k_is)
    (case c3 => k_is)
    (case k3 => k_is)
    (case a4 => k_is)
    (case l4 => k_is)
    (case c4 => k_is)
    (case k4 => k_is)
    (case a5 => k_is)
    (case l5 => k_is)
    (case c5 => k_is)
    (case k5 => k_is)
    (case a6 => k_is)
    (case l6 => k_is)
    (case c6 => k_is)
    (case k6 => k_is)
    (case a7 => k_is)
    (case l7 => k_is)
    (case c7 => k_is)
    (case k7 => k_is)
    (case a8 => k_is)
    (case l8 => k_is)
    (case c8 => k_is)
    (case k8 => k_is)
    (case a9 => k_is)
    (case l9 => k_is)
    (case c9 => k_is)
    (case k9 => k_is)
    (case a10 => k_is)
    (case l10 => k_is)
    (case c10 => k_is)
    (case k10 => k_is)
    (case a11 => k_is)
    (case l11 => k_is)
    (case c11 => k_is)
    (case k11 => k_is)
    (case a12 => k_is)
    (case l12 => k_is)
    (case c12 => k_is)
    (case k12 => k_is)
    (case a13 => k_is)
    (case l13 => k_is)
    (case c13 => k_is)
    (case k13 => k_is)
    (case a14 => k_is)
    (case l14 => k_is)
    (case c14 => k_is)
    (case k14 => k_is)
    (case a15 => k_is)
    (case l15 => k_is)
    (case c15 => k_is)
    (case k15 => k_is)
    (case a16 => k_is)
    (case l16 => k_is)
    (case c16 => k_is)
    (case k16 => k_is)
    (case a17 => k_is)
    (case l17 => k_is)
    (case c17 => k_is)
    (case k17 => k_is)
    (case a18 => k_is)
    (case l18 => k_is)
    (case c18 => k_is)
    (case k18 => k_is)
    (case a19 => k_is)
    (case l19 => k_is)
    (case c19 => k_is)
    (case k19 => k_is)
    (case a20 => k_is)
    (case l20 => k_is)
    (case c20 => k_is)
    (case k20 => k_is)
    (case a21 => k_is)
    (case l21 => k_is)
    (case c21 => k_is)
    (case k21 => k_is)
    (case a22 => k_is)
    (case l22 => k_is)
    (case c22 => k_is)
    (case k22 => k_is)
    (case a23 => k_is)
    (case l23 => k_is)
    (case c23 => k_is)
    (case k23 => k_is)
    (case a24 => k_is)
    (case l24 => k_is)
    (case c24 => k_is)
    (case k24 => k_is)
    (case a25 => k_is)
    (case l25 => k_is)
    (case c25 => k_is)
    (case k25 => k_is)
    (case a26 => k_is)
    (case l26 => k_is)
    (case c26 => k_is)
    (case k26 => k_is)
    (case a27 => k_is)
    (case l27 => k_is)
    (case c27 => k_is)
    (case k27 => k_is)
    (case a28 => k_is)
    (case l28 => k_is)
    (case c28 => k_is)
    (case k28 => k_is)
    (case a29 => k_is)
    (case l29 => k_is)
    (case c29 => k_is)
    (case k29 => k_is)
    (case a30 => k_is)
    (case l30 => k_is)
    (case c30 => k_is)
    (case k30 => k_is)
    (case a31 => k_is)
    (case l31 => k_is)
    (case c31 => k_is)
    (case k31 => k_is)
    (case a32 => k_is)
    (case l32 => k_is)
    (case c32 => k_is)
    (case k32 => k_is)
    (case a33 => k_is)
    (case l33 => k_is)
    (case c33 => k_is)
    (case k33 => k_is)
    (case a34 => k_is)
    (case l34 => k_is)
    (case c34 => k_is)
    (case k34 => k_is)
    (case a35 => k_is)
    (case l35 => k_is)
    (case c35 => k_is)
    (case k35 => k_is)
    (case qROW_LIMIT => exact ⟨_, by k_is⟩)
    (case qBOOK_LIMIT => exact ⟨_, by k_is⟩)
    (case zall => k_is)
    (case zbool => k_is)
    (case zenumerate => k_is)
    (case zint => k_is)
    (case zisinstance => k_is)
    (case zlen => k_is)
    (case zlist => k_is)
    (case zmax => k_is)
    (case zmin => k_is)
    (case zrange => k_is)
    (case zstr => k_is)
    (case ztuple => k_is)
    (case zzip => k_is)
