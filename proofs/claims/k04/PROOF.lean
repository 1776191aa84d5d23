import PyProof.Rows.All
import Wide.All
import OpenK.AllK
import Wide.FinOn
import HandS.ForMost
import HandS.ForExc
import HandS.CallSlots
import HandS.ExcCtx
import HandS.IsInst
import HandS.Defaults
import HandS.TupAny
import HandS.TupMul
import HandS.Wide
import HandS.Conv
import HandS.Flow
import HandS.Codes
import HandS.Zip
import PySem.Challenge.RW_stillends_k04_whole_tapes
set_option Elab.async false
set_option linter.all false
set_option maxRecDepth 100000
set_option maxHeartbeats 2000000
namespace PySem
namespace NUsX
open PySem.W PySem.Calls PyProof.Rows PySem.HandSPX
def iA (p1 p2 : Pos) : Arguments := { posonlyargs := [], args := [{ arg := "self", annotation := none, pos := p1 }, { arg := "word", annotation := none, pos := p2 }], vararg := none, kwonlyargs := [], kw_defaults := [], kwarg := none, defaults := [] }
def iB (q1 q2 q3 q4 : Pos) : List Stmt := [.Assign [.Attribute (.Name "self" q1) "word" q2] (.Name "word" q3) q4]
def iS : Scope := { kind := .function, names := [(PySem.Str.ofString "self", .local), (PySem.Str.ofString "word", .local)], isGenerator := false, isCoroutine := false, more := [] }
structure NUsTxt (K : Frag) (mg : Str → Option Value) (C fI : Addr) : Prop where
  gC : mg "NotUsable" = some (.ref C)
  cls : ∃ nm q N bs bm sn sub ab col dd k0 k1 k2 k3 k5, K.lookup C = some (excClassObj nm q C N bs bm true sn sub ab col dd k0 k1 k2 k3 k5 "ValueError.__new__") ∧ refsVE bm = true
  sa : findIn K (.ref C) "__setattr__" = some (some (.builtin "object.__setattr__"))
  ga : findIn K (.ref C) "__getattribute__" = some (some (.builtin "BaseException.__getattribute__"))
  gg : findIn K (.ref C) "__getattr__" = some none
  noN : findIn K (.ref C) "word" = some none
  iC : findIn K (.ref C) "__init__" = some (some (.ref fI))
  tC : typeIn K (.ref fI) = some (.type "function")
  kC : keepIn K (.ref C) = true
  exC : subIn K (.ref C) (.type "BaseException") = some true
  tyC : typeIn K (.ref C) = some (.type "type")
  hdC : hasDictIn K C = true
  te : exmOne K (.ref C) (.ref C) = some true
  fn : ∃ (oc : Value) (od : Option Addr) (doc pm : Value) (an : Option Addr) (cdv ct : Value) (osl : Array (Option Value)) (p1 p2 q1 q2 q3 q4 : Pos),
    K.lookup fI = some ⟨oc, od, .func (fnOf "__init__" "NotUsable.__init__" (iA p1 p2) (iB q1 q2 q3 q4) iS .none .none doc pm an cdv ct), osl⟩ ∧ codeIn K cdv "NotUsable.__init__" = true
theorem one_size (v : Value) : [v].length ≤ sizeLine := by
  rw [sizeLine_eq]
  exact (by decide : 1 ≤ 16777216)
theorem kept_but {K : Frag} {h h' : Heap} {x : Addr} (X : K.In h) (hx : K.lookup x = none) (k : ∀ b o, b ≠ x → h.get? b = some o → h'.get? b = some o) : K.In h' := fun a o e =>
  k a o (fun z => by rw [z, hx] at e; cases e) (X a o e)
theorem ldC {M : Model} {s : Shared} {name : Str} {scope : Scope} {L a : Addr} {cd : Value} {m : Str → Option Value} {x : Str} {pos : Pos} {v : Value} {Q : Value → Shared → Prop} {A : Around} {E : Value → Shared → Prop} (hn : s.heap.Ns L m) (hv : m x = some v) (h : Q v s)
    (hk : scope.kind = .function := by rfl) (hl : (envOfC name scope L a cd).kindOf x = some .local := by rfl) (hd : (x == ("__debug__" : Str)) = false := by decide) :
    wpAny M A (eval (.Name x pos) (envOfC name scope L a cd)) Q E s := wpAny_Name (wpAny_loadName_local hk hl hn hv h) hd
structure InitEnd (h h' : Heap) (x C dx t1 : Addr) (v : Value) : Prop where
  keep : ∀ b o, b ≠ x → h.get? b = some o → h'.get? b = some o
  obj : h'.get? x = some { cls := .ref C, dict := some dx, data := .fields #[.ref t1, .none, .none, .none, .bool false, .none] }
  dbig : h.objs.size ≤ dx
  dne : dx ≠ x
  ns : h'.Ns1 dx (fun y => if y = "word" then some v else none)
structure OwnMade (h h' : Heap) (e C d : Addr) (v : Value) : Prop where
  keep : ∀ b o, h.get? b = some o → h'.get? b = some o
  new : h.objs.size ≤ e
  obj : ∃ oe vs, h'.get? e = some oe ∧ oe.cls = .ref C ∧ oe.dict = some d ∧ oe.data = .fields vs ∧ vs[1]? = some .none ∧ vs[2]? = some .none
  dbig : h.objs.size ≤ d
  dne : d ≠ e
  ns : h'.Ns1 d (fun y => if y = "word" then some v else none)
section
variable {prog : Program} {w : World} {A : Around} {E : Value → Shared → Prop} {R : Result → Shared → Prop} {s : Shared} {K : Frag} {mg : Str → Option Value} {C fI : Addr}
theorem nus_init (T : NUsTxt K mg C fI) {x t0 : Addr} {v : Value} (X : K.In s.heap) (hlim : s.heap.NoLimit) (hx : s.heap.get? x = some (excO C t0)) (hnx : K.lookup x = none) (hroom : A.depth < recursionLimit)
    (hq : ∀ h' tk dx, InitEnd s.heap h' x C dx t0 v → R (.ok (.ret .none)) { s with heap := h', toks := tk }) :
    codeAny (model prog w) A (.call (.ref fI) ⟨[.ref x, v], []⟩) R s := by
  obtain ⟨oc, od, doc, pm, an, cdv, ct, osl, p1, p2, q1, q2, q3, q4, ho, hcd⟩ := T.fn
  obtain ⟨nm, q, N, bs, bm, sn, sub, ab, col, dd, k0, k1, k2, k3, k5, hC, hbm⟩ := T.cls
  have hcl : clsIn K C = some { name := nm, bases := bs, mro := .ref C :: bm, ns := N, qualname := q, hasDict := true, slotNames := sn, subclasses := sub, abstract := ab, collection := col, hasDel := false } := by unfold clsIn; rw [hC] <;> rfl
  refine Att.call_fn (binds := [("self", .ref x), ("word", v)]) X hlim ho hcd hroom (BindsTo.of_eq (by first | rfl | with_unfolding_all rfl)) (by first | rfl | decide | with_unfolding_all rfl) (fun s₁ IC => ?_) rfl rfl rfl
  obtain ⟨h₁, tk₁, rfl⟩ := IC.toInCall.same
  have k : ∀ b o, s.heap.get? b = some o → h₁.get? b = some o := IC.toInCall.keep
  have hn := IC.toInCall.ns
  have hxL : s.heap.objs.size ≠ x := Nat.ne_of_gt (Heap.lt_size hx)
  have X₁ : K.In h₁ := X.keeps k
  have hx₁ := k _ _ hx
  show wpAny _ _ (execs _ _) _ _ _
  refine wpAny_execs_cons (plainObj_wpAny_Assign_Attribute ?_)
  refine ldC (v := v) hn (by first | rfl | with_unfolding_all rfl | kernel_rfl) (ldC (v := .ref x) hn (by first | rfl | with_unfolding_all rfl | kernel_rfl) ?_)
  refine set_plain X₁ (ox := excO C t0) (od := none) ⟨hx₁, rfl, rfl, trivial⟩ T.sa ?_
  refine exc_osa X₁ hx₁ hcl (show refsVE (.ref C :: bm) = true from hbm) rfl T.noN (fun h₃ tk₃ dx k₃ dn dne hx₃ hn₃ => ?_)
  show wpAny _ _ (execs _ _) _ _ _
  have z : s.heap.objs.size < h₁.objs.size := hn.lt
  exact wpAny_execs_nil (hq h₃ tk₃ dx ⟨fun b o hb e => k₃ b o hb (k b o e), hx₃, Nat.le_of_lt (Nat.lt_of_lt_of_le z dn), dne, hn₃⟩)
theorem nus_made (T : NUsTxt K mg C fI) {v : Value} (X : K.In s.heap) (hlim : s.heap.NoLimit) (hroom : A.depth + 1 < recursionLimit)
    (hq : ∀ h' tk e d, OwnMade s.heap h' e C d v → R (.ok (.ret (.ref e))) { s with heap := h', toks := tk }) :
    codeAny (model prog w) A (.call (.ref C) ⟨[v], []⟩) R s := by
  obtain ⟨nm, q, N, bs, bm, sn, sub, ab, col, dd, k0, k1, k2, k3, k5, hC, hbm⟩ := T.cls
  obtain ⟨hp, g, dr, tk, os⟩ := s
  have k : ∀ b o, hp.get? b = some o → ((hp.push (kdv_tup [v])).push (excO C hp.objs.size)).get? b = some o := fun b o e => Heap.get?_push_of_some _ (Heap.get?_push_of_some _ e)
  have hget : ((hp.push (kdv_tup [v])).push (excO C hp.objs.size)).get? (hp.objs.size + 1) = some (excO C hp.objs.size) := by heap_get
  have hnx : K.lookup (hp.objs.size + 1) = none := by
    cases e : K.lookup (hp.objs.size + 1) with
    | none => rfl
    | some o =>
      have z : hp.get? (hp.objs.size + 1) = some o := X _ _ e
      exact absurd (Nat.lt_of_succ_lt (Heap.lt_size z)) (Nat.lt_irrefl _)
  refine call_own F.excBase_ValueError (fun X => refsVE_contains X bm hbm) (X _ _ hC) (looks_findIn X T.iC) (fun self => bind_fn X self T.tC) (one_size v) ?_
  refine nus_init (s := ⟨(hp.push (kdv_tup [v])).push (excO C hp.objs.size), g, dr, tk, os⟩) T (X.keeps k) (hlim.keeps k) hget hnx ?_ fun h' tk' dx ⟨k', hx, dn, dne, hns⟩ => ?_
  · show A.depth + 1 < recursionLimit
    exact hroom
  · have old : ∀ b o, hp.get? b = some o → h'.get? b = some o := fun b o e => k' b o (Nat.ne_of_lt (Nat.lt_succ_of_lt (Heap.lt_size e))) (k b o e)
    have z : hp.objs.size + 1 + 1 ≤ dx := by
      first
        | (simpa only [Heap.size_push] using dn)
        | exact dn
        | (have q := dn; rw [Heap.size_push, Heap.size_push] at q; exact q)
    exact ⟨rfl, hq h' tk' (hp.objs.size + 1) dx ⟨old, Nat.le_succ _, ⟨_, _, hx, rfl, rfl, rfl, rfl, rfl⟩, Nat.le_trans (Nat.le_trans (Nat.le_succ _) (Nat.le_succ _)) z, dne, hns⟩⟩
end
end NUsX
end PySem
namespace L2
open PySem PySem.Spec PyProof.Rows
theorem relO_nus {v : V} {v' : Value} (r : RelV v v') (f : Str) : RelO (List.lookup f [(("word" : Str), v)]) (if f = "word" then some v' else none) := by
  by_cases hw : f = "word"
  · subst hw
    rw [if_pos rfl]
    have q : List.lookup ("word" : Str) [(("word" : Str), v)] = some v := by simp [List.lookup]
    rw [q]
    exact r
  · rw [if_neg hw]
    have qw : (f == ("word" : Str)) = false := by simpa using hw
    have q2 : List.lookup f [(("word" : Str), v)] = none := by simp [List.lookup, qw]
    rw [q2]
    trivial
section
variable {X : Cx} {C fI : Addr}
def tMkNus (C : Addr) (ta : TA) : St → Hp → XK → Prop := fun σ H Q => ta σ H fun vs H1 => ∃ v, vs = [v] ∧ ∀ d, H1 d = none → Q (.ref C) (some d) (upd H1 d (.xd [(("word" : Str), v)]))
theorem pmk_nus {a : Expr} {ta : TA} {p pos : Pos} {k : Nat} (T : PySem.NUsX.NUsTxt X.K X.mg C fI) (hr : Room k X.A) (ha : PA X [a] ta) (hg : Gl X "NotUsable" := by rfl)
    (he : starEach (a :: []) X.env = (false, eval a X.env) :: starEach [] X.env := by rfl) (hpl : (backTo pos (starEach [] X.env)).any (·.1) = false := by rfl) :
    PMk X (.Call (.Name "NotUsable" p) [a] [] pos) (tMkNus C ta) := by
  intro pins s σ H Q I h
  refine wpAny_Call_Name_kw (ld_glob I hg T.gC ?_)
  refine PySem.W.callWith_K (h₀ := X.base) I.ok.mod.kin T.kC (thn (ha.run pos pins s σ H _ I h) fun us s1 hh => ?_) he hpl
  obtain ⟨vs, H1, I1, r1, v, ev, q1⟩ := hh
  subst ev
  refine ⟨I1.kIn, ?_⟩
  cases r1 with
  | cons rv rn =>
    rename_i v' us'
    cases rn
    show wpAny _ _ (call (.ref C) [v']) _ _ _
    have hlim := I1.nolimit
    obtain ⟨hp, g, dr, tk, os⟩ := s1
    refine wpAny_call (PySem.NUsX.nus_made T I1.kIn hlim (by have := hr.dp; omega) fun h' tk' e d M => ?_)
    show MkP X pins σ Q (.ref e) ⟨h', g, dr, tk', os⟩
    obtain ⟨oe, fv, hoe, hc, hd, hdat, h1, h2⟩ := M.obj
    have hns := M.ns
    obtain ⟨G', g1, g2⟩ := restrict h' fun b => decide (b ≠ e)
    have gk : ∀ b, b ≠ e → G'.get? b = h'.get? b := fun b hb => g1 b (decide_eq_true hb)
    have ge : G'.get? e = none := g2 e (by simp)
    have old : ∀ b o, hp.get? b = some o → G'.get? b = some o := fun b o q => (gk b (Nat.ne_of_lt (Nat.lt_of_lt_of_le (Heap.lt_size q) M.new))).trans (M.keep b o q)
    have ob : ObjOk X.prog X.w (upd H1 d (.xd [(("word" : Str), v)])) G' d (.xd [(("word" : Str), v)]) :=
      ⟨_, hns.at (fun o q => (gk d M.dne).trans q), fun f => relO_nus rv f⟩
    have J : Inv X pins σ (upd H1 d (.xd [(("word" : Str), v)])) ⟨G', g, dr, tk', os⟩ := I1.laid (t' := tk') old M.dbig ob
    refine ⟨e, oe, fv, ⟨G', g, dr, tk', os⟩, _, .ref C, some d, rfl, J, fun b o q => ?_, ge, hoe, ⟨hc, hd⟩, hdat, h1, ?_, rfl, I1.bare, raises_own T.exC T.tyC, q1 d (I1.hok.fresh M.dbig)⟩
    · by_cases hb : b = e
      · have q' : G'.get? b = some o := q
        rw [hb, ge] at q'; cases q'
      · exact (gk b hb).symm.trans q
    · rw [upd_ne (Ne.symm M.dne)]
      exact I1.hok.fresh M.new
def tRaiseNus (C : Addr) (W : WX) (ta : TA) : TS := fun _ σ H => tMkNus C ta σ H fun cls d H' => W cls d σ H'
theorem ps_raiseNus {a : Expr} {ta : TA} {W : WX} {p pos pos2 : Pos} {k : Nat} (hc : X.calm = true) (T : PySem.NUsX.NUsTxt X.K X.mg C fI) (hr : Room k X.A) (tk : Takes X W) (ha : PA X [a] ta) (hg : Gl X "NotUsable" := by rfl)
    (he : starEach (a :: []) X.env = (false, eval a X.env) :: starEach [] X.env := by rfl) (hpl : (backTo pos (starEach [] X.env)).any (·.1) = false := by rfl) :
    PS X (.Raise (some (.Call (.Name "NotUsable" p) [a] [] pos)) none pos2) (tRaiseNus C W ta) := ps_raise hc tk (pmk_nus T hr ha hg he hpl)
theorem pmkN_nus {a : Expr} {ta : TA} {p pos : Pos} {k : Nat} (T : PySem.NUsX.NUsTxt X.K X.mg C fI) (hr : Room k X.A) (ha : PA X [a] ta) (hg : Gl X "NotUsable" := by rfl)
    (he : starEach (a :: []) X.env = (false, eval a X.env) :: starEach [] X.env := by rfl) (hpl : (backTo pos (starEach [] X.env)).any (·.1) = false := by rfl) :
    L2N.PMk X (.Call (.Name "NotUsable" p) [a] [] pos) (tMkNus C ta) := by
  intro pins s σ H Q I h
  refine wpAny_Call_Name_kw (ld_glob I hg T.gC ?_)
  refine PySem.W.callWith_K (h₀ := X.base) I.ok.mod.kin T.kC (thn (ha.run pos pins s σ H _ I h) fun us s1 hh => ?_) he hpl
  obtain ⟨vs, H1, I1, r1, v, ev, q1⟩ := hh
  subst ev
  refine ⟨I1.kIn, ?_⟩
  cases r1 with
  | cons rv rn =>
    rename_i v' us'
    cases rn
    show wpAny _ _ (call (.ref C) [v']) _ _ _
    have hlim := I1.nolimit
    obtain ⟨hp, g, dr, tk, os⟩ := s1
    refine wpAny_call (PySem.NUsX.nus_made T I1.kIn hlim (by have := hr.dp; omega) fun h' tk' e d M => ?_)
    show L2N.MkP X pins σ Q (.ref e) ⟨h', g, dr, tk', os⟩
    obtain ⟨oe, fv, hoe, hc, hd, hdat, h1, h2⟩ := M.obj
    have hns := M.ns
    obtain ⟨G', g1, g2⟩ := restrict h' fun b => decide (b ≠ e)
    have gk : ∀ b, b ≠ e → G'.get? b = h'.get? b := fun b hb => g1 b (decide_eq_true hb)
    have ge : G'.get? e = none := g2 e (by simp)
    have old : ∀ b o, hp.get? b = some o → G'.get? b = some o := fun b o q => (gk b (Nat.ne_of_lt (Nat.lt_of_lt_of_le (Heap.lt_size q) M.new))).trans (M.keep b o q)
    have ob : ObjOk X.prog X.w (upd H1 d (.xd [(("word" : Str), v)])) G' d (.xd [(("word" : Str), v)]) :=
      ⟨_, hns.at (fun o q => (gk d M.dne).trans q), fun f => relO_nus rv f⟩
    have J : Inv X pins σ (upd H1 d (.xd [(("word" : Str), v)])) ⟨G', g, dr, tk', os⟩ := I1.laid (t' := tk') old M.dbig ob
    refine ⟨e, oe, fv, ⟨G', g, dr, tk', os⟩, _, .ref C, some d, rfl, J, fun b o q => ?_, ge, hoe, ⟨hc, hd, fun vs e => by rw [hdat] at e; cases e; exact h2⟩, hdat, h1, ?_, rfl, I1.bare, raises_own T.exC T.tyC, q1 d (I1.hok.fresh M.dbig)⟩
    · by_cases hb : b = e
      · have q' : G'.get? b = some o := q
        rw [hb, ge] at q'; cases q'
      · exact (gk b hb).symm.trans q
    · rw [upd_ne (Ne.symm M.dne)]
      exact I1.hok.fresh M.new
theorem psN_raiseNus {a : Expr} {ta : TA} {W : WX} {p pos pos2 : Pos} {k : Nat} (hc : X.calm = true) (T : PySem.NUsX.NUsTxt X.K X.mg C fI) (hr : Room k X.A) (tk : L2N.Takes X W) (ha : PA X [a] ta) (hg : Gl X "NotUsable" := by rfl)
    (he : starEach (a :: []) X.env = (false, eval a X.env) :: starEach [] X.env := by rfl) (hpl : (backTo pos (starEach [] X.env)).any (·.1) = false := by rfl) :
    PS X (.Raise (some (.Call (.Name "NotUsable" p) [a] [] pos)) none pos2) (tRaiseNus C W ta) := L2N.ps_raise hc tk (pmkN_nus T hr ha hg he hpl)
def tByNus (C : Addr) (a : Addr) (cls : Value) (d : Option Addr) (te : TE) : TE := fun σ H Q => te σ H fun x H1 => x = .ref a ∧ cls = .ref C ∧ ∃ (dd : Addr) (v : V), d = some dd ∧ H1 dd = some (.xd [(("word" : Str), v)]) ∧ Q v H1
theorem pe_byNus {a : Addr} {oe : Obj} {cls : Value} {d : Option Addr} {pn : List (Addr × Obj)} {e : Expr} {te : TE} {pos : Pos} (T : PySem.NUsX.NUsTxt X.K X.mg C fI) (hz : Zc cls d oe) (hf : ∃ vs, oe.data = .fields vs) (he : PE (X.suite a ((a, oe) :: pn)) e te)
    (hb : attributeBase e "word" X.env (eval e X.env) = eval e X.env := by rfl) :
    PE (X.suite a ((a, oe) :: pn)) (.Attribute e "word" pos) (tByNus C a cls d te) := by
  refine ⟨fun pins s σ H Q I h => ?_⟩
  refine attr_of hb (thn (he.run pins s σ H _ I h) fun u s1 hh => ?_)
  obtain ⟨x, H1, I1, rx, ex, ec, dd, v, ed, ea, q⟩ := hh
  subst ex
  obtain rfl : u = Value.ref a := rx
  subst ec
  subst ed
  obtain ⟨ha, _⟩ := I1.pin (a, oe) (List.mem_append_left _ List.mem_cons_self)
  obtain ⟨vs, hd⟩ := hf
  have hx : ObjOk X.prog X.w H1 s1.heap dd (.xd [(("word" : Str), v)]) := I1.hok dd _ ea
  obtain ⟨mA, hns, hr⟩ := hx
  obtain ⟨od, ho, hl⟩ := lookIn_ns hns
  have l : List.lookup ("word" : Str) [(("word" : Str), v)] = some v := by simp [List.lookup]
  obtain ⟨u, hu, ru⟩ := RelO.some_of (v := v) (o := mA "word") (by rw [← l]; exact hr "word")
  have J : PySem.W.InstAt s1.heap a oe C (some od) := ⟨ha, hz.1, by unfold PySem.W.notCls; rw [hd] <;> rfl, by rw [hz.2]; exact ho⟩
  exact HandSPX.exc_get I1.kIn J T.ga T.gg T.exC (PySem.W.findObj_own T.hdC T.noN rfl (by rw [hl, hu])) (handed_of ru) ⟨v, H1, I1.tok _, ru, q⟩
end
end L2
set_option Elab.async false
set_option linter.all false
set_option maxRecDepth 100000
set_option maxHeartbeats 2000000
namespace Ver
open PySem PySem.Spec PyProof.Rows L2

def kindOfD : PyData → String
  | .none => "NoneType"
  | .bool _ => "bool"
  | .int _ => "int"
  | .str _ => "str"
  | .list _ => "list"
  | .tuple _ => "tuple"
  | .dict _ => "dict"
theorem tyx_of {K : PySem.W.Frag} {H : Hp} {x : V} {d : PyData} (h : Dp K H x d) : TyX K H x (.type (kindOfD d)) := by
  cases h with
  | non => exact .base .non
  | bl b => exact .base (.bl b)
  | int i => exact .base (.int i)
  | str s => exact .base (.str s)
  | lst hs _ =>
    rcases hs with (hs | ⟨o, hs⟩) | ⟨o, its, n, hk, hc, _⟩
    · exact .base (.lst hs)
    · exact .base (.frz hs)
    · exact .kList hk hc
  | tup hs _ =>
    rcases hs with (hs | ⟨o, hs⟩) | ⟨o, its, n, hk, hc, _⟩
    · exact .base (.tup hs)
    · exact .fTuple hs
    · exact .kTuple hk hc
def isaK (n k : String) : Bool := k == n || (n == "int" && k == "bool")
abbrev isaD (n : String) (d : PyData) : Bool := isaK n (kindOfD d)
def kinds7 : List String := ["NoneType", "bool", "int", "str", "list", "tuple", "dict"]
def asked5 : List String := ["int", "bool", "str", "tuple", "list"]
theorem kind_in (d : PyData) : kindOfD d ∈ kinds7 := by cases d <;> simp [kindOfD, kinds7]
theorem kit_all : kinds7.all (fun k => asked5.all fun n => kitB k n == some (isaK n k)) = true := by decide +kernel
theorem kit_asked {K : PySem.W.Frag} {n : String} (h : n ∈ asked5) (d : PyData) : PySem.W.kitOne K (.type (kindOfD d)) (.type n) = some (isaD n d) := by
  have h1 := List.all_eq_true.mp kit_all _ (kind_in d)
  exact kit_ty (eq_of_beq (List.all_eq_true.mp h1 _ h))
def rIsiD (K : PySem.W.Frag) (n : String) : List V → Hp → VK → Prop := fun vs H Q => ∃ x d, vs = [x, .ty n] ∧ Dp K H x d ∧ Q (.bl (isaD n d)) H
section
variable {X : Cx}
theorem cr_isiD {n : String} (hn : n ∈ asked5) : CallR X (.builtin "isinstance") (rIsiD X.K n) := by
  intro pins s σ H xs us Q I r h
  obtain ⟨x, d, rfl, hd, q⟩ := h
  exact call_isi pins s σ H _ us Q I r ⟨x, .ty n, _, _, _, rfl, .ty n, tyx_of hd, kit_asked hn d, q⟩

def tCallKw (sp : Sp) (n : Nat) (gV : List V → List V) (E : L2.St → XK) (tk : TA) : TE := fun σ H Q => tk σ H fun zs H1 => zs.length = n ∧ sp (gV zs) H1 Q (E σ)
variable {CX : CXT} {k : Nat} {f : Addr} {fd : FuncData} {ps ks : List Str} {sp : Sp} {E : L2.St → XK} {x : Str} {p pos : Pos} {kws : List Keyword} {tk : TA} {g : List Value → List Value} {gV : List V → List V}
theorem pe_callKw (F : FnOk X.prog X.w X.K X.mg X.base CX k f fd ps sp) (hr : Room k X.A) (hg : Gl X x) (hm : X.mg x = some (.ref f)) (hk : PySem.W.keepIn X.K (.ref f) = true)
    (hb : KBn X.K fd ps 0 ks (fun _ ws => g ws) (fun _ zs => gV zs)) (hx : ∀ σ, PassesAt CX X σ (E σ)) (hkw : PK X kws tk)
    (hall : (backToKw pos (keywordEach kws X.env)).all (·.1.isSome) = true := by rfl) (hks : (backToKw pos (keywordEach kws X.env)).filterMap (·.1) = ks := by rfl) (hdb : (x == ("__debug__" : Str)) = false := by decide)
    (hpl : ((backTo pos (starEach [] X.env)).any (·.1) || (backToKw pos (keywordEach kws X.env)).any (·.1.isNone)) = false := by rfl) :
    PE X (.Call (.Name x p) [] kws pos) (tCallKw sp ks.length gV E tk) := by
  refine ⟨fun pins s σ H Q I h => ?_⟩
  refine wpAny_Call_Name_kw (ld_glob I hg hm ?_ hdb)
  refine PySem.W.callWith_KW0 (h₀ := X.base) I.ok.mod.kin hk hall ?_ hpl
  refine thn (hkw.run pos pins s σ H _ I h) fun ws s2 ⟨zs, H2, I2, rz, hl, q⟩ => ⟨I2.kIn, ?_⟩
  rw [hks]
  have r2 : Vals (gV zs) (g ws) := hb.rel (vs := []) (us := []) .nil rz
  have hto : BindsTo s2 fd ⟨[], ks.zip ws⟩ (ps.zip (g ws)) := hb.to s2 [] ws I2.kIn rfl (rz.length.symm.trans hl)
  show wpAny _ _ (call (.ref f) [] (ks.zip ws)) _ _ _
  refine wpAny_call (codeAny_mono (F.run X.A X.stack s2 H2 ⟨[], ks.zip ws⟩ (g ws) (gV zs) Q (E σ) hr I2.env0 hto r2 q) fun r s' hq => ?_)
  cases r with
  | error e => exact hx σ pins H2 s2 e s' I2 hq
  | ok fl =>
    cases fl with
    | ret u => exact I2.after hq
    | next => exact False.elim hq
    | brk => exact False.elim hq
    | cont => exact False.elim hq

theorem tuple_mul1 (l : Addr) (items : Array Value) (n : Nat) (dd : Option Addr) (sl : Array (Option Value)) (u : Tok) :
    Meets (Builtin.«tuple.__mul__» ⟨[.ref l, .int 1 u], []⟩) (fun _ R s => s.heap.get? l = some { cls := .type "tuple", dict := dd, data := .seq items n, slots := sl } ∧ R (.ok (.ret (Value.ref l))) s) :=
  .of_wp fun prog w A R s h => by
    obtain ⟨hp, g, d, tk, os⟩ := s
    obtain ⟨hl, h⟩ := h
    have f1 := AutoSeq1.idx_int
    wp_walk using wpAny_loadPart' hl
    exact ⟨_, rfl, h⟩
def rRepA (K : PySem.W.Frag) : R2 := fun x y H Q => ∃ l k xs, x = .ref l ∧ y = .int k ∧ SqT K H l xs ∧ xs ≠ [] ∧ 1 ≤ k ∧ k ≤ 1000 ∧ xs.length ≤ 1000 ∧
  (k = 1 → Q (.ref l) H) ∧ (k ≠ 1 → ∀ p, H p = none → Q (.ref p) (upd H p (.tup (List.replicate k.toNat xs).flatten)))
theorem op_repA : OpR X (binaryOp .Mult) (rRepA X.K) := by
  intro pins s σ H x y v u Q I rx ry h
  obtain ⟨l, k, xs, rfl, rfl, hT, hne, h1, h2, hz, q1, q2⟩ := h
  by_cases h3 : k = 1
  · subst h3
    cases rx
    obtain ⟨t, rfl⟩ := ry
    obtain ⟨its, r, ⟨⟨cls, dd, data, sl⟩, ho, hc, n, hd⟩, hs⟩ := I.tuple hT
    simp only at hc hd
    subst hc hd
    exact wpAny_binaryOp_repeat_ref (T := "tuple") (U := "int") (by decide) ⟨_, ho, rfl⟩ (fun s' => typeIs_int s' 1 t) noFill_tuple_mul F.fills_int_mul F.slot_int_rmul repeat_tuple F.slot_int_index.lookup
      (call_meets F.slot_int_rmul (typeIs_int s 1 t) F.entry_int_rmul (F.args_int_rmul_2 _ _) (int_rmul_tuple 1 t l its.toArray n dd sl)
        ⟨ho, rfl, ⟨_, ho, rfl⟩, call_meets F.slot_tuple_mul ⟨_, ho, rfl⟩ F.entry_tuple_mul (F.args_tuple_mul_2 _ _) (tuple_mul1 l its.toArray n dd sl t) ⟨ho, .ref l, H, I, rfl, q1 rfl⟩⟩)
  · exact op_repT pins s σ H _ _ v u Q I rx ry ⟨l, k, xs, rfl, rfl, hT, hne, by omega, h2, hz, q2 h3⟩
end

theorem seqT_grow {K : PySem.W.Frag} {H H' : Hp} {a : Addr} {xs : List V} (e : Same H H') (h : SqT K H a xs) : SqT K H' a xs := by
  rcases h with (h | ⟨o, h⟩) | h
  · exact .inl (.inl (e _ _ h))
  · exact .inl (.inr ⟨o, e _ _ h⟩)
  · exact .inr h
mutual
theorem dp_grow {K : PySem.W.Frag} {H H' : Hp} (e : Same H H') : ∀ {d : PyData} {v : V}, Dp K H v d → Dp K H' v d
  | .none, _, h => by cases h; exact .non
  | .bool b, _, h => by cases h; exact .bl b
  | .int i, _, h => by cases h; exact .int i
  | .str x, _, h => by cases h; exact .str x
  | .list ds, _, h => by
    cases h with
    | lst hs ha => exact .lst (e.seq hs) (dpAll_grow e ha)
  | .tuple ds, _, h => by
    cases h with
    | tup hs ha => exact .tup (seqT_grow e hs) (dpAll_grow e ha)
  | .dict _, _, h => by cases h
theorem dpAll_grow {K : PySem.W.Frag} {H H' : Hp} (e : Same H H') : ∀ {ds : List PyData} {vs : List V}, DpAll K H vs ds → DpAll K H' vs ds
  | [], _, h => by cases h; exact .nil
  | d :: ds, _, h => by
    cases h with
    | cons h1 h2 => exact .cons (dp_grow e h1) (dpAll_grow e h2)
end
theorem same_new {H : Hp} {p : Addr} {o : HO} (h : H p = none) : Same H (upd H p o) := fun b x e => by
  rw [upd_ne (ne_of_none e h)]
  exact e
end Ver
set_option Elab.async false
set_option linter.all false
set_option maxRecDepth 100000
set_option maxHeartbeats 2000000
namespace Ver
open PySem PySem.Spec PyProof.Rows L2
theorem wipe_one (σ : L2.St) (i : Nat) (v : Option V) : wipe ((wipe σ [i]).set i v) [i] = wipe σ [i] := by
  show (((σ.set i none).set i v).set i none) = σ.set i none
  rw [List.set_set, List.set_set]
def Turned (D : Addr) (S : List V → Hp → Prop) (n : Nat) : VK := fun y H4 => ∃ acc, H4 D = some (.lst acc) ∧ acc.length < sizeLine ∧ ∃ acc2, acc2.length = n + 1 ∧ S acc2 (upd H4 D (.lst (acc ++ [y]))) ∧ (upd H4 D (.lst (acc ++ [y]))) D = some (.lst acc2)
theorem turned {D : Addr} {S : List V → Hp → Prop} {acc : List V} {y : V} {H4 : Hp} (hD : H4 D = some (.lst acc)) (hz : acc.length < sizeLine) (s : S (acc ++ [y]) (upd H4 D (.lst (acc ++ [y])))) : Turned D S acc.length y H4 :=
  ⟨acc, hD, hz, acc ++ [y], by rw [List.length_append]; rfl, s, upd_same⟩
section
variable {K : PySem.W.Frag} {a : Addr} {xs : List V} {i : Nat} {te : TE} {σ : L2.St} {H1 : Hp} {D : Addr} {Qd : Hp → Prop}
theorem comp_tup (S : List V → Hp → Prop) (h0 : S [] (upd H1 D (.lst []))) (hl : ∀ acc H, S acc H → SqT K H a xs)
    (hs : ∀ acc x H, xs[acc.length]? = some x → S acc H → H D = some (.lst acc) → te ((wipe σ [i]).set i (some x)) H (Turned D S acc.length))
    (hd : ∀ acc H, acc.length = xs.length → S acc H → H D = some (.lst acc) → Qd H) :
    ∃ W : Nat → Nat → Hp → Prop, (∃ m, W 0 m (upd H1 D (.lst []))) ∧ ∀ j m H, W j m H →
      ((Itt K a).stop j H ∧ Qd H) ∨ ((Itt K a).go j H ∧ ∃ Nx : Hp → Prop, (∀ H', Nx H' → ∃ m', m' < m ∧ W (j + 1) m' H') ∧ ∀ x H', (Itt K a).yld j H x H' → gName i x (wipe σ [i]) H' fun σ2 H2 => wipe σ2 [i] = wipe σ [i] ∧ tYes σ2 H2 fun b H3 =>
        if b = true then te σ2 H3 fun y H4 => ∃ acc, H4 D = some (.lst acc) ∧ acc.length < sizeLine ∧ Nx (upd H4 D (.lst (acc ++ [y]))) else Nx H3) := by
  refine lc_tup (K := K) (a := a) (xs := xs) (fun n H => ∃ acc, acc.length = n ∧ S acc H ∧ H D = some (.lst acc)) ⟨[], rfl, h0, upd_same⟩ (fun n H _ ⟨acc, _, h, _⟩ => hl acc H h) (fun n x H e ⟨acc, hn, h, hD⟩ => ?_) (fun H ⟨acc, hn, h, hD⟩ => hd acc H hn h hD)
  subst hn
  refine ⟨wipe_one σ i _, ?_⟩
  unfold tYes
  dsimp only
  rw [if_pos rfl]
  exact hs acc x H e h hD
theorem comp_list (S : List V → Hp → Prop) (h0 : S [] (upd H1 D (.lst []))) (hl : ∀ acc H, S acc H → SqL K H a xs)
    (hs : ∀ acc x H, xs[acc.length]? = some x → S acc H → H D = some (.lst acc) → te ((wipe σ [i]).set i (some x)) H (Turned D S acc.length))
    (hd : ∀ acc H, acc.length = xs.length → S acc H → H D = some (.lst acc) → Qd H) :
    ∃ W : Nat → Nat → Hp → Prop, (∃ m, W 0 m (upd H1 D (.lst []))) ∧ ∀ j m H, W j m H →
      ((Itl K a).stop j H ∧ Qd H) ∨ ((Itl K a).go j H ∧ ∃ Nx : Hp → Prop, (∀ H', Nx H' → ∃ m', m' < m ∧ W (j + 1) m' H') ∧ ∀ x H', (Itl K a).yld j H x H' → gName i x (wipe σ [i]) H' fun σ2 H2 => wipe σ2 [i] = wipe σ [i] ∧ tYes σ2 H2 fun b H3 =>
        if b = true then te σ2 H3 fun y H4 => ∃ acc, H4 D = some (.lst acc) ∧ acc.length < sizeLine ∧ Nx (upd H4 D (.lst (acc ++ [y]))) else Nx H3) := by
  refine lc_list (K := K) (a := a) (xs := xs) (fun n H => ∃ acc, acc.length = n ∧ S acc H ∧ H D = some (.lst acc)) ⟨[], rfl, h0, upd_same⟩ (fun n H _ ⟨acc, _, h, _⟩ => hl acc H h) (fun n x H e ⟨acc, hn, h, hD⟩ => ?_) (fun H ⟨acc, hn, h, hD⟩ => hd acc H hn h hD)
  subst hn
  refine ⟨wipe_one σ i _, ?_⟩
  unfold tYes
  dsimp only
  rw [if_pos rfl]
  exact hs acc x H e h hD
theorem comp_range {n : Nat} (S : List V → Hp → Prop) (h0 : S [] (upd H1 D (.lst [])))
    (hs : ∀ acc H, acc.length < n → S acc H → H D = some (.lst acc) → te ((wipe σ [i]).set i (some (.int (acc.length : Int)))) H (Turned D S acc.length))
    (hd : ∀ acc H, acc.length = n → S acc H → H D = some (.lst acc) → Qd H) :
    ∃ W : Nat → Nat → Hp → Prop, (∃ m, W 0 m (upd H1 D (.lst []))) ∧ ∀ j m H, W j m H →
      ((Itr 0 n).stop j H ∧ Qd H) ∨ ((Itr 0 n).go j H ∧ ∃ Nx : Hp → Prop, (∀ H', Nx H' → ∃ m', m' < m ∧ W (j + 1) m' H') ∧ ∀ x H', (Itr 0 n).yld j H x H' → gName i x (wipe σ [i]) H' fun σ2 H2 => wipe σ2 [i] = wipe σ [i] ∧ tYes σ2 H2 fun b H3 =>
        if b = true then te σ2 H3 fun y H4 => ∃ acc, H4 D = some (.lst acc) ∧ acc.length < sizeLine ∧ Nx (upd H4 D (.lst (acc ++ [y]))) else Nx H3) := by
  refine lc_range (lo := 0) (n := n) (fun k H => ∃ acc, acc.length = k ∧ S acc H ∧ H D = some (.lst acc)) ⟨[], rfl, h0, upd_same⟩ (fun k H lt ⟨acc, hn, h, hD⟩ => ?_) (fun H ⟨acc, hn, h, hD⟩ => hd acc H hn h hD)
  subst hn
  rw [Int.zero_add]
  refine ⟨wipe_one σ i _, ?_⟩
  unfold tYes
  dsimp only
  rw [if_pos rfl]
  exact hs acc H lt h hD
end
theorem for_range0 {n : Nat} {g : TG} {tb : TS} {D : Ends} {σ : L2.St} {H : Hp} (Pv : Nat → L2.St → Hp → Prop) (h0 : Pv 0 σ H)
    (hs : ∀ i σ H, i < n → Pv i σ H → g (.int (i : Int)) σ H fun σ2 H2 => tb { D with nx := Pv (i + 1), ct := Pv (i + 1), bk := D.nx } σ2 H2) (hd : ∀ σ H, Pv n σ H → D.nx σ H) :
    ∃ W : Nat → Nat → L2.St → Hp → Prop, (∃ m, W 0 m σ H) ∧ ∀ i m σ H, W i m σ H →
      ((Itr 0 n).stop i H ∧ D.nx σ H) ∨ ((Itr 0 n).go i H ∧ ∃ N : L2.St → Hp → Prop, (∀ σ' H', N σ' H' → ∃ m', m' < m ∧ W (i + 1) m' σ' H') ∧ ∀ x H', (Itr 0 n).yld i H x H' → g x σ H' fun σ2 H2 => tb { D with nx := N, ct := N, bk := D.nx } σ2 H2) :=
  for_range (lo := 0) (n := n) Pv h0 (fun i σ H lt h => by rw [Int.zero_add]; exact hs i σ H lt h) hd
section
variable {X : Cx} {K : PySem.W.Frag}
def rLenQ (K : PySem.W.Frag) : List V → Hp → VK → Prop := fun xs H Q => ∃ p ys, xs = [.ref p] ∧ (SqL K H p ys ∨ SqT K H p ys) ∧ Q (.int ys.length) H
theorem cr_lenK (h : X.K = K) : CallR X (.builtin "len") (rLenQ K) := by
  subst h
  exact call_len_seq
theorem ix_tupK (h : X.K = K) : IxR X (rIxT K) := by
  subst h
  exact ix_tup
theorem ix_listK (h : X.K = K) : IxR X (rIxL K) := by
  subst h
  exact ix_list
end
section
variable {X : Cx} {K : PySem.W.Frag} {tg l : Expr} {tl : TE}
theorem pi_tupK (h : X.K = K) (hl : PE X l tl) : PI X tg l (iTup K tl) := by
  subst h
  exact pi_tup hl
theorem pi_listK (h : X.K = K) (hl : PE X l tl) : PI X tg l (iList K tl) := by
  subst h
  exact pi_list hl
theorem cr_minK (h : X.K = K) (hc : X.calm = true) : CallR X (.builtin "min") (rMin K) := by
  subst h
  exact cr_min hc
end
def lcScope : Expr → Scope
  | .ListComp _ _ sc _ => sc
  | _ => { kind := .function, names := [], isGenerator := false, isCoroutine := false }
def asgVal : Stmt → Expr
  | .Assign _ e _ => e
  | _ => .Constant .none 0 ⟨0, 0, 0, 0⟩
def SameBut1 (p : Addr) (H H' : Hp) : Prop := ∀ b o, b ≠ p → H b = some o → H' b = some o
theorem small {n : Nat} (h : n ≤ 100000) : n < sizeLine := Nat.lt_of_le_of_lt h (by decide)
theorem small' {n : Nat} (h : n ≤ 100000) : n ≤ sizeLine := Nat.le_of_lt (small h)
theorem dpAll_len {K : PySem.W.Frag} {H : Hp} : ∀ {vs : List V} {ds : List PyData}, DpAll K H vs ds → vs.length = ds.length
  | _, [], h => by cases h; rfl
  | _, d :: ds, h => by
    cases h with
    | cons _ t => rw [List.length_cons, List.length_cons, dpAll_len t]
theorem dpAll_get {K : PySem.W.Frag} {H : Hp} : ∀ {vs : List V} {ds : List PyData} {i : Nat} {v : V}, DpAll K H vs ds → vs[i]? = some v → ∃ d, ds[i]? = some d ∧ Dp K H v d
  | _, [], i, v, h, e => by cases h; simp at e
  | _, d :: ds, 0, v, h, e => by
    cases h with
    | cons h1 _ =>
      have e' := Option.some.inj e
      subst e'
      exact ⟨d, rfl, h1⟩
  | _, d :: ds, i + 1, v, h, e => by
    cases h with
    | cons _ t => exact dpAll_get (i := i) t e
theorem dpAll_get' {K : PySem.W.Frag} {H : Hp} : ∀ {vs : List V} {ds : List PyData} {i : Nat} {d : PyData}, DpAll K H vs ds → ds[i]? = some d → ∃ v, vs[i]? = some v ∧ Dp K H v d
  | _, [], i, d, h, e => by cases h; simp at e
  | _, d :: ds, 0, d', h, e => by
    cases h with
    | cons h1 _ =>
      have e' := Option.some.inj e
      subst e'
      exact ⟨_, rfl, h1⟩
  | _, d :: ds, i + 1, d', h, e => by
    cases h with
    | cons _ t => exact dpAll_get' (i := i) t e
theorem dpAll_ints {K : PySem.W.Frag} {H : Hp} : ∀ (ns : List Int), DpAll K H (ns.map V.int) (ns.map PyData.int)
  | [] => .nil
  | n :: ns => .cons (.int n) (dpAll_ints ns)
theorem isa_int (d : PyData) : isaD "int" d = match d with | .int _ => true | .bool _ => true | _ => false := by cases d <;> rfl
theorem isa_bool (d : PyData) : isaD "bool" d = match d with | .bool _ => true | _ => false := by cases d <;> rfl
theorem isa_str (d : PyData) : isaD "str" d = match d with | .str _ => true | _ => false := by cases d <;> rfl
theorem isa_tuple (d : PyData) : isaD "tuple" d = match d with | .tuple _ => true | _ => false := by cases d <;> rfl
theorem isa_list (d : PyData) : isaD "list" d = match d with | .list _ => true | _ => false := by cases d <;> rfl
end Ver
set_option Elab.async false
set_option linter.all false
set_option maxRecDepth 100000
set_option maxHeartbeats 2000000
namespace K4
open PySem PySem.Spec PyProof.Rows L2 Ver
def topS (i : Nat) : Stmt := PySem.Challenge.pw_stillends_k04_whole_tapes.main.body.getD i (.Pass ⟨0, 0, 0, 0⟩)
abbrev s_is_int : Stmt := topS 6
theorem sc_is_int : FnScope ["thing"] ["thing"] (defScope s_is_int) := ⟨rfl, rfl, rfl, by decide +kernel, rfl, by decide +kernel, by decide +kernel⟩
abbrev s_is_number : Stmt := topS 7
theorem sc_is_number : FnScope ["thing"] ["thing"] (defScope s_is_number) := ⟨rfl, rfl, rfl, by decide +kernel, rfl, by decide +kernel, by decide +kernel⟩
abbrev s_is_below : Stmt := topS 11
theorem sc_is_below : FnScope ["thing", "bound"] ["thing", "bound"] (defScope s_is_below) := ⟨rfl, rfl, rfl, by decide +kernel, rfl, by decide +kernel, by decide +kernel⟩
abbrev s_are_below : Stmt := topS 12
theorem sc_are_below : FnScope ["thing", "bound", "part"] ["thing", "bound"] (defScope s_are_below) := ⟨rfl, rfl, rfl, by decide +kernel, rfl, by decide +kernel, by decide +kernel⟩
abbrev s_ask_row : Stmt := topS 13
theorem sc_ask_row : FnScope ["tokens", "row"] ["tokens", "row"] (defScope s_ask_row) := ⟨rfl, rfl, rfl, by decide +kernel, rfl, by decide +kernel, by decide +kernel⟩
abbrev s_ask_short : Stmt := topS 14
theorem sc_ask_short : FnScope ["number", "word"] ["number", "word"] (defScope s_ask_short) := ⟨rfl, rfl, rfl, by decide +kernel, rfl, by decide +kernel, by decide +kernel⟩
abbrev s_ask_below : Stmt := topS 15
theorem sc_ask_below : FnScope ["number", "bound", "word"] ["number", "bound", "word"] (defScope s_ask_below) := ⟨rfl, rfl, rfl, by decide +kernel, rfl, by decide +kernel, by decide +kernel⟩
abbrev s_choice_of : Stmt := topS 17
theorem sc_choice_of : FnScope ["tokens", "writer", "state", "digit", "total", "weights", "_"] ["tokens", "writer", "state", "digit"] (defScope s_choice_of) := ⟨rfl, rfl, rfl, by decide +kernel, rfl, by decide +kernel, by decide +kernel⟩
abbrev s_chosen : Stmt := topS 18
theorem sc_chosen : FnScope ["shares", "digit", "before", "token"] ["shares", "digit"] (defScope s_chosen) := ⟨rfl, rfl, rfl, by decide +kernel, rfl, by decide +kernel, by decide +kernel⟩
abbrev s_says : Stmt := topS 19
theorem sc_says : FnScope ["tokens", "writer", "tape"] ["tokens", "writer", "tape"] (defScope s_says) := ⟨rfl, rfl, rfl, by decide +kernel, rfl, by decide +kernel, by decide +kernel⟩
abbrev s_said : Stmt := topS 20
theorem sc_said : FnScope ["writer", "tape", "_", "weights", "nexts", "row", "state", "digit", "choice"] ["writer", "tape"] (defScope s_said) := ⟨rfl, rfl, rfl, by decide +kernel, rfl, by decide +kernel, by decide +kernel⟩
abbrev s_tapes_of : Stmt := topS 21
theorem sc_tapes_of : FnScope ["tokens", "writer", "row", "budget", "total", "weights", "nexts", "many", "state", "token", "_"] ["tokens", "writer", "row", "budget"] (defScope s_tapes_of) := ⟨rfl, rfl, rfl, by decide +kernel, rfl, by decide +kernel, by decide +kernel⟩
abbrev s_even_writer : Stmt := topS 23
theorem sc_even_writer : FnScope ["tokens", "many"] ["tokens"] (defScope s_even_writer) := ⟨rfl, rfl, rfl, by decide +kernel, rfl, by decide +kernel, by decide +kernel⟩
abbrev s_state_behind : Stmt := topS 24
theorem sc_state_behind : FnScope ["tokens", "writer", "row"] ["tokens", "writer", "row"] (defScope s_state_behind) := ⟨rfl, rfl, rfl, by decide +kernel, rfl, by decide +kernel, by decide +kernel⟩
abbrev s_led_to : Stmt := topS 25
theorem sc_led_to : FnScope ["writer", "state", "row", "nexts", "token"] ["writer", "state", "row"] (defScope s_led_to) := ⟨rfl, rfl, rfl, by decide +kernel, rfl, by decide +kernel, by decide +kernel⟩
abbrev s__law_pool : Stmt := topS 27
theorem sc__law_pool : FnScope ["script", "room", "pool", "cell", "number", "turned"] ["script"] (defScope s__law_pool) := ⟨rfl, rfl, rfl, by decide +kernel, rfl, by decide +kernel, by decide +kernel⟩
abbrev s__law_pick : Stmt := topS 28
theorem sc__law_pick : FnScope ["pool", "many", "number"] ["pool", "many"] (defScope s__law_pick) := ⟨rfl, rfl, rfl, by decide +kernel, rfl, by decide +kernel, by decide +kernel⟩
abbrev s__law_same : Stmt := topS 29
theorem sc__law_same : FnScope ["told", "due", "one", "two"] ["told", "due"] (defScope s__law_same) := ⟨rfl, rfl, rfl, by decide +kernel, rfl, by decide +kernel, by decide +kernel⟩
abbrev s__law_word : Stmt := topS 30
theorem sc__law_word : FnScope ["pool", "signs", "most", "text", "k"] ["pool", "signs", "most"] (defScope s__law_word) := ⟨rfl, rfl, rfl, by decide +kernel, rfl, by decide +kernel, by decide +kernel⟩
abbrev s__law_tokens : Stmt := topS 31
theorem sc__law_tokens : FnScope ["pool", "many", "signs", "most", "row", "k", "word", "turn"] ["pool", "many", "signs", "most"] (defScope s__law_tokens) := ⟨rfl, rfl, rfl, by decide +kernel, rfl, by decide +kernel, by decide +kernel⟩
abbrev s__law_rows : Stmt := topS 32
theorem sc__law_rows : FnScope ["m", "most", "rows", "last", "n", "longer", "row", "t"] ["m", "most"] (defScope s__law_rows) := ⟨rfl, rfl, rfl, by decide +kernel, rfl, by decide +kernel, by decide +kernel⟩
abbrev s__law_writer : Stmt := topS 33
theorem sc__law_writer : FnScope ["pool", "m", "total", "many", "weights", "nexts", "s", "left", "row", "t", "turn"] ["pool", "m", "total", "many"] (defScope s__law_writer) := ⟨rfl, rfl, rfl, by decide +kernel, rfl, by decide +kernel, by decide +kernel⟩
abbrev s__law_choice : Stmt := topS 34
theorem sc__law_choice : FnScope ["weights", "digit", "below", "t"] ["weights", "digit"] (defScope s__law_choice) := ⟨rfl, rfl, rfl, by decide +kernel, rfl, by decide +kernel, by decide +kernel⟩
abbrev s__law_says : Stmt := topS 35
theorem sc__law_says : FnScope ["writer", "tape", "state", "row", "used", "digit", "choice"] ["writer", "tape"] (defScope s__law_says) := ⟨rfl, rfl, rfl, by decide +kernel, rfl, by decide +kernel, by decide +kernel⟩
abbrev s__law_walked : Stmt := topS 36
theorem sc__law_walked : FnScope ["writer", "row", "state", "t"] ["writer", "row"] (defScope s__law_walked) := ⟨rfl, rfl, rfl, by decide +kernel, rfl, by decide +kernel, by decide +kernel⟩
abbrev s__law_choice_told : Stmt := topS 37
theorem sc__law_choice_told : FnScope ["tokens", "writer", "state", "digit", "named", "e"] ["tokens", "writer", "state", "digit", "named"] (defScope s__law_choice_told) := ⟨rfl, rfl, rfl, by decide +kernel, rfl, by decide +kernel, by decide +kernel⟩
abbrev s__law_tape_told : Stmt := topS 38
theorem sc__law_tape_told : FnScope ["tokens", "writer", "tape", "named", "e"] ["tokens", "writer", "tape", "named"] (defScope s__law_tape_told) := ⟨rfl, rfl, rfl, by decide +kernel, rfl, by decide +kernel, by decide +kernel⟩
abbrev s__law_many_told : Stmt := topS 39
theorem sc__law_many_told : FnScope ["tokens", "writer", "row", "budget", "named", "e"] ["tokens", "writer", "row", "budget", "named"] (defScope s__law_many_told) := ⟨rfl, rfl, rfl, by decide +kernel, rfl, by decide +kernel, by decide +kernel⟩
abbrev s__law_state_told : Stmt := topS 40
theorem sc__law_state_told : FnScope ["tokens", "writer", "row", "named", "e"] ["tokens", "writer", "row", "named"] (defScope s__law_state_told) := ⟨rfl, rfl, rfl, by decide +kernel, rfl, by decide +kernel, by decide +kernel⟩
abbrev s__law_choices_right : Stmt := topS 41
theorem sc__law_choices_right : FnScope ["tokens", "writer", "state", "digit", "due"] ["tokens", "writer"] (defScope s__law_choices_right) := ⟨rfl, rfl, rfl, by decide +kernel, rfl, by decide +kernel, by decide +kernel⟩
abbrev s__law_tapes_right : Stmt := topS 42
theorem sc__law_tapes_right : FnScope ["tokens", "writer", "budget", "m", "tape", "tapes", "counts", "said_v", "row", "k"] ["tokens", "writer", "budget"] (defScope s__law_tapes_right) := ⟨rfl, rfl, rfl, by decide +kernel, rfl, by decide +kernel, by decide +kernel⟩
abbrev s__law_great_writer : Stmt := topS 43
theorem sc__law_great_writer : FnScope ["pool", "m", "total", "many", "weights", "nexts", "s", "row", "t"] ["pool", "m"] (defScope s__law_great_writer) := ⟨rfl, rfl, rfl, by decide +kernel, rfl, by decide +kernel, by decide +kernel⟩
abbrev s__law_great_right : Stmt := topS 44
theorem sc__law_great_right : FnScope ["pool", "tokens", "writer", "m", "k", "row", "budget", "due", "digits", "low", "tape", "digit", "weights"] ["pool", "tokens", "writer"] (defScope s__law_great_right) := ⟨rfl, rfl, rfl, by decide +kernel, rfl, by decide +kernel, by decide +kernel⟩
abbrev s__law_refused : Stmt := topS 45
theorem sc__law_refused : FnScope ["pool", "tokens", "writer", "m", "total", "odd", "state", "digit", "told", "last", "named", "row", "budget", "k"] ["pool", "tokens", "writer"] (defScope s__law_refused) := ⟨rfl, rfl, rfl, by decide +kernel, rfl, by decide +kernel, by decide +kernel⟩
abbrev s_law : Stmt := topS 46
theorem sc_law : FnScope ["script", "pool", "tokens", "m", "total", "most", "budget", "writer", "ones", "great", "t"] ["script"] (defScope s_law) := ⟨rfl, rfl, rfl, by decide +kernel, rfl, by decide +kernel, by decide +kernel⟩
def kw_choice_of {α : Type} : List α → List α | [a, b, c, d] => [d, c, b, a] | _ => []
theorem kwr_choice_of {zs : List V} {ws : List Value} (r : Vals zs ws) : Vals (kw_choice_of zs) (kw_choice_of ws) := by
  rcases r with _ | ⟨h0, _ | ⟨h1, _ | ⟨h2, _ | ⟨h3, _ | ⟨hx, hy⟩⟩⟩⟩⟩
  all_goals first | exact .nil | exact .cons h3 (.cons h2 (.cons h1 (.cons h0 (.nil))))
def kw_says {α : Type} : List α → List α | [a, b, c] => [c, b, a] | _ => []
theorem kwr_says {zs : List V} {ws : List Value} (r : Vals zs ws) : Vals (kw_says zs) (kw_says ws) := by
  rcases r with _ | ⟨h0, _ | ⟨h1, _ | ⟨h2, _ | ⟨hx, hy⟩⟩⟩⟩
  all_goals first | exact .nil | exact .cons h2 (.cons h1 (.cons h0 (.nil)))
def kw_tapes_of {α : Type} : List α → List α | [a, b, c, d] => [d, c, b, a] | _ => []
theorem kwr_tapes_of {zs : List V} {ws : List Value} (r : Vals zs ws) : Vals (kw_tapes_of zs) (kw_tapes_of ws) := by
  rcases r with _ | ⟨h0, _ | ⟨h1, _ | ⟨h2, _ | ⟨h3, _ | ⟨hx, hy⟩⟩⟩⟩⟩
  all_goals first | exact .nil | exact .cons h3 (.cons h2 (.cons h1 (.cons h0 (.nil))))
def kw_state_behind {α : Type} : List α → List α | [a, b, c] => [c, b, a] | _ => []
theorem kwr_state_behind {zs : List V} {ws : List Value} (r : Vals zs ws) : Vals (kw_state_behind zs) (kw_state_behind ws) := by
  rcases r with _ | ⟨h0, _ | ⟨h1, _ | ⟨h2, _ | ⟨hx, hy⟩⟩⟩⟩
  all_goals first | exact .nil | exact .cons h2 (.cons h1 (.cons h0 (.nil)))
def kw_even_writer {α : Type} : List α → List α | [a] => [a] | _ => []
theorem kwr_even_writer {zs : List V} {ws : List Value} (r : Vals zs ws) : Vals (kw_even_writer zs) (kw_even_writer ws) := by
  rcases r with _ | ⟨h0, _ | ⟨hx, hy⟩⟩
  all_goals first | exact .nil | exact .cons h0 (.nil)
structure Tx (K : PySem.W.Frag) (mg : Str → Option Value) where
  f_is_int : Addr
  d_is_int : FuncData
  F_is_int : Fun K "is_int" "is_int" s_is_int f_is_int d_is_int
  g_is_int : mg "is_int" = some (.ref f_is_int)
  b_is_int : Binds K d_is_int ["thing"] []
  f_is_number : Addr
  d_is_number : FuncData
  F_is_number : Fun K "is_number" "is_number" s_is_number f_is_number d_is_number
  g_is_number : mg "is_number" = some (.ref f_is_number)
  b_is_number : Binds K d_is_number ["thing"] []
  f_is_below : Addr
  d_is_below : FuncData
  F_is_below : Fun K "is_below" "is_below" s_is_below f_is_below d_is_below
  g_is_below : mg "is_below" = some (.ref f_is_below)
  b_is_below : Binds K d_is_below ["thing", "bound"] []
  f_are_below : Addr
  d_are_below : FuncData
  F_are_below : Fun K "are_below" "are_below" s_are_below f_are_below d_are_below
  g_are_below : mg "are_below" = some (.ref f_are_below)
  b_are_below : Binds K d_are_below ["thing", "bound"] []
  f_ask_row : Addr
  d_ask_row : FuncData
  F_ask_row : Fun K "ask_row" "ask_row" s_ask_row f_ask_row d_ask_row
  g_ask_row : mg "ask_row" = some (.ref f_ask_row)
  b_ask_row : Binds K d_ask_row ["tokens", "row"] []
  f_ask_short : Addr
  d_ask_short : FuncData
  F_ask_short : Fun K "ask_short" "ask_short" s_ask_short f_ask_short d_ask_short
  g_ask_short : mg "ask_short" = some (.ref f_ask_short)
  b_ask_short : Binds K d_ask_short ["number", "word"] []
  f_ask_below : Addr
  d_ask_below : FuncData
  F_ask_below : Fun K "ask_below" "ask_below" s_ask_below f_ask_below d_ask_below
  g_ask_below : mg "ask_below" = some (.ref f_ask_below)
  b_ask_below : Binds K d_ask_below ["number", "bound", "word"] []
  f_choice_of : Addr
  d_choice_of : FuncData
  F_choice_of : Fun K "choice_of" "choice_of" s_choice_of f_choice_of d_choice_of
  g_choice_of : mg "choice_of" = some (.ref f_choice_of)
  b_choice_of : Binds K d_choice_of ["tokens", "writer", "state", "digit"] []
  f_chosen : Addr
  d_chosen : FuncData
  F_chosen : Fun K "chosen" "chosen" s_chosen f_chosen d_chosen
  g_chosen : mg "chosen" = some (.ref f_chosen)
  b_chosen : Binds K d_chosen ["shares", "digit"] []
  f_says : Addr
  d_says : FuncData
  F_says : Fun K "says" "says" s_says f_says d_says
  g_says : mg "says" = some (.ref f_says)
  b_says : Binds K d_says ["tokens", "writer", "tape"] []
  f_said : Addr
  d_said : FuncData
  F_said : Fun K "said" "said" s_said f_said d_said
  g_said : mg "said" = some (.ref f_said)
  b_said : Binds K d_said ["writer", "tape"] []
  f_tapes_of : Addr
  d_tapes_of : FuncData
  F_tapes_of : Fun K "tapes_of" "tapes_of" s_tapes_of f_tapes_of d_tapes_of
  g_tapes_of : mg "tapes_of" = some (.ref f_tapes_of)
  b_tapes_of : Binds K d_tapes_of ["tokens", "writer", "row", "budget"] []
  f_even_writer : Addr
  d_even_writer : FuncData
  F_even_writer : Fun K "even_writer" "even_writer" s_even_writer f_even_writer d_even_writer
  g_even_writer : mg "even_writer" = some (.ref f_even_writer)
  b_even_writer : Binds K d_even_writer ["tokens"] []
  f_state_behind : Addr
  d_state_behind : FuncData
  F_state_behind : Fun K "state_behind" "state_behind" s_state_behind f_state_behind d_state_behind
  g_state_behind : mg "state_behind" = some (.ref f_state_behind)
  b_state_behind : Binds K d_state_behind ["tokens", "writer", "row"] []
  f_led_to : Addr
  d_led_to : FuncData
  F_led_to : Fun K "led_to" "led_to" s_led_to f_led_to d_led_to
  g_led_to : mg "led_to" = some (.ref f_led_to)
  b_led_to : Binds K d_led_to ["writer", "state", "row"] []
  f__law_pool : Addr
  d__law_pool : FuncData
  F__law_pool : Fun K "_law_pool" "_law_pool" s__law_pool f__law_pool d__law_pool
  g__law_pool : mg "_law_pool" = some (.ref f__law_pool)
  b__law_pool : Binds K d__law_pool ["script"] []
  f__law_pick : Addr
  d__law_pick : FuncData
  F__law_pick : Fun K "_law_pick" "_law_pick" s__law_pick f__law_pick d__law_pick
  g__law_pick : mg "_law_pick" = some (.ref f__law_pick)
  b__law_pick : Binds K d__law_pick ["pool", "many"] []
  f__law_same : Addr
  d__law_same : FuncData
  F__law_same : Fun K "_law_same" "_law_same" s__law_same f__law_same d__law_same
  g__law_same : mg "_law_same" = some (.ref f__law_same)
  b__law_same : Binds K d__law_same ["told", "due"] []
  f__law_word : Addr
  d__law_word : FuncData
  F__law_word : Fun K "_law_word" "_law_word" s__law_word f__law_word d__law_word
  g__law_word : mg "_law_word" = some (.ref f__law_word)
  b__law_word : Binds K d__law_word ["pool", "signs", "most"] []
  f__law_tokens : Addr
  d__law_tokens : FuncData
  F__law_tokens : Fun K "_law_tokens" "_law_tokens" s__law_tokens f__law_tokens d__law_tokens
  g__law_tokens : mg "_law_tokens" = some (.ref f__law_tokens)
  b__law_tokens : Binds K d__law_tokens ["pool", "many", "signs", "most"] []
  f__law_rows : Addr
  d__law_rows : FuncData
  F__law_rows : Fun K "_law_rows" "_law_rows" s__law_rows f__law_rows d__law_rows
  g__law_rows : mg "_law_rows" = some (.ref f__law_rows)
  b__law_rows : Binds K d__law_rows ["m", "most"] []
  f__law_writer : Addr
  d__law_writer : FuncData
  F__law_writer : Fun K "_law_writer" "_law_writer" s__law_writer f__law_writer d__law_writer
  g__law_writer : mg "_law_writer" = some (.ref f__law_writer)
  b__law_writer : Binds K d__law_writer ["pool", "m", "total", "many"] []
  f__law_choice : Addr
  d__law_choice : FuncData
  F__law_choice : Fun K "_law_choice" "_law_choice" s__law_choice f__law_choice d__law_choice
  g__law_choice : mg "_law_choice" = some (.ref f__law_choice)
  b__law_choice : Binds K d__law_choice ["weights", "digit"] []
  f__law_says : Addr
  d__law_says : FuncData
  F__law_says : Fun K "_law_says" "_law_says" s__law_says f__law_says d__law_says
  g__law_says : mg "_law_says" = some (.ref f__law_says)
  b__law_says : Binds K d__law_says ["writer", "tape"] []
  f__law_walked : Addr
  d__law_walked : FuncData
  F__law_walked : Fun K "_law_walked" "_law_walked" s__law_walked f__law_walked d__law_walked
  g__law_walked : mg "_law_walked" = some (.ref f__law_walked)
  b__law_walked : Binds K d__law_walked ["writer", "row"] []
  f__law_choice_told : Addr
  d__law_choice_told : FuncData
  F__law_choice_told : Fun K "_law_choice_told" "_law_choice_told" s__law_choice_told f__law_choice_told d__law_choice_told
  g__law_choice_told : mg "_law_choice_told" = some (.ref f__law_choice_told)
  b__law_choice_told : Binds K d__law_choice_told ["tokens", "writer", "state", "digit", "named"] []
  f__law_tape_told : Addr
  d__law_tape_told : FuncData
  F__law_tape_told : Fun K "_law_tape_told" "_law_tape_told" s__law_tape_told f__law_tape_told d__law_tape_told
  g__law_tape_told : mg "_law_tape_told" = some (.ref f__law_tape_told)
  b__law_tape_told : Binds K d__law_tape_told ["tokens", "writer", "tape", "named"] []
  f__law_many_told : Addr
  d__law_many_told : FuncData
  F__law_many_told : Fun K "_law_many_told" "_law_many_told" s__law_many_told f__law_many_told d__law_many_told
  g__law_many_told : mg "_law_many_told" = some (.ref f__law_many_told)
  b__law_many_told : Binds K d__law_many_told ["tokens", "writer", "row", "budget", "named"] []
  f__law_state_told : Addr
  d__law_state_told : FuncData
  F__law_state_told : Fun K "_law_state_told" "_law_state_told" s__law_state_told f__law_state_told d__law_state_told
  g__law_state_told : mg "_law_state_told" = some (.ref f__law_state_told)
  b__law_state_told : Binds K d__law_state_told ["tokens", "writer", "row", "named"] []
  f__law_choices_right : Addr
  d__law_choices_right : FuncData
  F__law_choices_right : Fun K "_law_choices_right" "_law_choices_right" s__law_choices_right f__law_choices_right d__law_choices_right
  g__law_choices_right : mg "_law_choices_right" = some (.ref f__law_choices_right)
  b__law_choices_right : Binds K d__law_choices_right ["tokens", "writer"] []
  f__law_tapes_right : Addr
  d__law_tapes_right : FuncData
  F__law_tapes_right : Fun K "_law_tapes_right" "_law_tapes_right" s__law_tapes_right f__law_tapes_right d__law_tapes_right
  g__law_tapes_right : mg "_law_tapes_right" = some (.ref f__law_tapes_right)
  b__law_tapes_right : Binds K d__law_tapes_right ["tokens", "writer", "budget"] []
  f__law_great_writer : Addr
  d__law_great_writer : FuncData
  F__law_great_writer : Fun K "_law_great_writer" "_law_great_writer" s__law_great_writer f__law_great_writer d__law_great_writer
  g__law_great_writer : mg "_law_great_writer" = some (.ref f__law_great_writer)
  b__law_great_writer : Binds K d__law_great_writer ["pool", "m"] []
  f__law_great_right : Addr
  d__law_great_right : FuncData
  F__law_great_right : Fun K "_law_great_right" "_law_great_right" s__law_great_right f__law_great_right d__law_great_right
  g__law_great_right : mg "_law_great_right" = some (.ref f__law_great_right)
  b__law_great_right : Binds K d__law_great_right ["pool", "tokens", "writer"] []
  f__law_refused : Addr
  d__law_refused : FuncData
  F__law_refused : Fun K "_law_refused" "_law_refused" s__law_refused f__law_refused d__law_refused
  g__law_refused : mg "_law_refused" = some (.ref f__law_refused)
  b__law_refused : Binds K d__law_refused ["pool", "tokens", "writer"] []
  f_law : Addr
  d_law : FuncData
  F_law : Fun K "law" "law" s_law f_law d_law
  g_law : mg "law" = some (.ref f_law)
  b_law : Binds K d_law ["script"] []
  k_choice_of : KBn K d_choice_of ["tokens", "writer", "state", "digit"] 0 ["digit", "state", "writer", "tokens"] (fun _ ws => kw_choice_of ws) (fun _ zs => kw_choice_of zs)
  k_says : KBn K d_says ["tokens", "writer", "tape"] 0 ["tape", "writer", "tokens"] (fun _ ws => kw_says ws) (fun _ zs => kw_says zs)
  k_tapes_of : KBn K d_tapes_of ["tokens", "writer", "row", "budget"] 0 ["budget", "row", "writer", "tokens"] (fun _ ws => kw_tapes_of ws) (fun _ zs => kw_tapes_of zs)
  k_state_behind : KBn K d_state_behind ["tokens", "writer", "row"] 0 ["row", "writer", "tokens"] (fun _ ws => kw_state_behind ws) (fun _ zs => kw_state_behind zs)
  k_even_writer : KBn K d_even_writer ["tokens"] 0 ["tokens"] (fun _ ws => kw_even_writer ws) (fun _ zs => kw_even_writer zs)
  c_END : ∃ t, mg "END" = some (.int (-1) t)
  c_ROW_LIMIT : ∃ t, mg "ROW_LIMIT" = some (.int (60) t)
  c_BUDGET_LIMIT : ∃ t, mg "BUDGET_LIMIT" = some (.int (60) t)
  n_all : mg "all" = none
  n_bool : mg "bool" = none
  n_int : mg "int" = none
  n_isinstance : mg "isinstance" = none
  n_len : mg "len" = none
  n_list : mg "list" = none
  n_max : mg "max" = none
  n_min : mg "min" = none
  n_range : mg "range" = none
  n_str : mg "str" = none
  n_sum : mg "sum" = none
  n_tuple : mg "tuple" = none
  n_zip : mg "zip" = none
  C_NotUsable : Addr
  I_NotUsable : Addr
  nus : PySem.NUsX.NUsTxt K mg C_NotUsable I_NotUsable
end K4
set_option Elab.async false
set_option linter.all false
set_option maxRecDepth 100000
set_option maxHeartbeats 2000000
namespace K4
open PySem PySem.Spec PyProof.Rows L2 Ver
section
variable {P : Program} {w : World} {K : PySem.W.Frag} {mg : Str → Option Value} {base : Heap}
def isIntD : PyData → Bool | .int _ => true | _ => false
def numD : PyData → Bool | .int i => decide (0 ≤ i) | _ => false
def belowD (b : Int) : PyData → Bool | .int i => decide (0 ≤ i) && decide (i < b) | _ => false
def allBelow (b : Int) : PyData → Bool | .tuple ds => ds.all (belowD b) | _ => false
def rowD (n : Nat) : PyData → Bool | .tuple ds => ds.all (belowD n) && decide (ds.length ≤ 60) | _ => false
def lenD : PyData → Nat | .tuple ds => ds.length | .list ds => ds.length | _ => 0
def shortD : PyData → Bool | .int i => decide (0 ≤ i) && decide (i ≤ 60) | _ => false
def Refuses (C : Addr) (E : XK) (H : Hp) (z : Str) : Prop := ∀ H' dd, Same H H' → H' dd = none → E (.ref C) (some dd) (upd H' dd (.xd [("word", .str z)]))

def sp_is_int (K : PySem.W.Frag) : Sp := fun vs H Q _ => ∃ x d, vs = [x] ∧ Dp K H x d ∧ Q (.bl (isIntD d)) H
theorem ok_is_int (T : Tx K mg) : FnOk P w K mg base CX0 1 T.f_is_int T.d_is_int ["thing"] (sp_is_int K) := by
  refine T.F_is_int.ok sc_is_int (fun vs H Q E h => ?_) (fun cdv A outer s H vs Q E hr h => ?_)
  · obtain ⟨x, d, rfl, _⟩ := h; rfl
  · obtain ⟨x, d, rfl, hd, q⟩ := h
    refine ⟨_, (pss_one (ps_ret (pe_and (pe_callB (cr_isiD (n := "int") (by decide)) (by rfl) T.n_isinstance (by decide +kernel) (pa_cons (pv 0) (pa_cons (pe_bltn (v := .ty "int") (by rfl) T.n_int (by decide +kernel) rfl) pa_nil))) (pe_one (pe_not (pe_callB (cr_isiD (n := "bool") (by decide)) (by rfl) T.n_isinstance (by decide +kernel) (pa_cons (pv 0) (pa_cons (pe_bltn (v := .ty "bool") (by rfl) T.n_bool (by decide +kernel) rfl) pa_nil)))))))), ?_⟩
    refine ⟨x, rfl, x, d, rfl, hd, _, rfl, ?_⟩
    rw [isa_int]
    cases d
    case int i => exact ⟨x, rfl, x, .int i, rfl, hd, _, rfl, q⟩
    case bool b => exact ⟨x, rfl, x, .bool b, rfl, hd, _, rfl, q⟩
    all_goals exact q

def sp_is_number (K : PySem.W.Frag) : Sp := fun vs H Q _ => ∃ x d, vs = [x] ∧ Dp K H x d ∧ Q (.bl (numD d)) H
theorem ok_is_number (T : Tx K mg) : FnOk P w K mg base CX0 2 T.f_is_number T.d_is_number ["thing"] (sp_is_number K) := by
  refine T.F_is_number.ok sc_is_number (fun vs H Q E h => ?_) (fun cdv A outer s H vs Q E hr h => ?_)
  · obtain ⟨x, d, rfl, _⟩ := h; rfl
  · obtain ⟨x, d, rfl, hd, q⟩ := h
    refine ⟨_, (pss_one (ps_ret (pe_and (pe_call (ok_is_int T) hr rfl T.g_is_int T.F_is_int.kp T.b_is_int .nil pass0 (pa_cons (pv 0) pa_nil)) (pe_one (pe_cmpR op_ge (pv 0) pe_int (nomark _)))))), ?_⟩
    refine ⟨x, rfl, x, d, rfl, hd, _, rfl, ?_⟩
    cases d
    case int i =>
      cases hd
      exact ⟨.int i, rfl, i, 0, rfl, rfl, q⟩
    all_goals exact q

def sp_is_below (K : PySem.W.Frag) : Sp := fun vs H Q _ => ∃ x d b, vs = [x, .int b] ∧ Dp K H x d ∧ Q (.bl (belowD b d)) H
theorem ok_is_below (T : Tx K mg) : FnOk P w K mg base CX0 3 T.f_is_below T.d_is_below ["thing", "bound"] (sp_is_below K) := by
  refine T.F_is_below.ok sc_is_below (fun vs H Q E h => ?_) (fun cdv A outer s H vs Q E hr h => ?_)
  · obtain ⟨x, d, b, rfl, _⟩ := h; rfl
  · obtain ⟨x, d, b, rfl, hd, q⟩ := h
    refine ⟨_, (pss_one (ps_ret (pe_and (pe_call (ok_is_number T) hr rfl T.g_is_number T.F_is_number.kp T.b_is_number .nil pass0 (pa_cons (pv 0) pa_nil)) (pe_one (pe_cmpR op_lt (pv 0) (pv 1) (nomark _)))))), ?_⟩
    refine ⟨x, rfl, x, d, rfl, hd, _, rfl, ?_⟩
    cases d
    case int i =>
      cases hd
      show if decide (0 ≤ i) = true then _ else _
      refine ite2 (fun e => ⟨.int i, rfl, .int b, rfl, i, b, rfl, rfl, ?_⟩) (fun e => ?_)
      · have q' : Q (.bl (decide (0 ≤ i) && decide (i < b))) H := q
        rw [e, Bool.true_and] at q'
        exact q'
      · have q' : Q (.bl (decide (0 ≤ i) && decide (i < b))) H := q
        rw [Bool.eq_false_iff.mpr e, Bool.false_and] at q'
        exact q'
    all_goals exact q

def sp_are_below (K : PySem.W.Frag) : Sp := fun vs H Q _ => ∃ x d b, vs = [x, .int b] ∧ Dp K H x d ∧ lenD d ≤ 1000 ∧ ∀ H', Same H H' → Q (.bl (allBelow b d)) H'
theorem ok_are_below (T : Tx K mg) : FnOk P w K mg base CX0 4 T.f_are_below T.d_are_below ["thing", "bound"] (sp_are_below K) := by
  refine T.F_are_below.ok sc_are_below (fun vs H Q E h => ?_) (fun cdv A outer s H vs Q E hr h => ?_)
  · obtain ⟨x, d, b, rfl, _⟩ := h; rfl
  · obtain ⟨x, d, b, rfl, hd, hz, q⟩ := h
    refine ⟨_, (pss_one (ps_ret (pe_and (pe_callB (cr_isiD (n := "tuple") (by decide)) (by rfl) T.n_isinstance (by decide +kernel) (pa_cons (pv 0) (pa_cons (pe_bltn (v := .ty "tuple") (by rfl) T.n_tuple (by decide +kernel) rfl) pa_nil))) (pe_one (pe_callB (cr_all rfl) (by rfl) T.n_all (by decide +kernel) (pa_cons (pe_lc (own := [("part", 2)]) (g := gName 2) (tt := tYes) (by rfl) sc_are_below.nd (pi_tup (pv 0)) (blkOk_by (N := ["thing", "bound", "part"]) (sc := defScope s_are_below) (by decide +kernel)) (fun _ _ _ _ _ => (pg_name (i := 2) sc_are_below.nd rfl (Or.inl rfl))) (fun _ _ _ _ _ => pts_nil) (fun _ _ _ _ _ => (pe_call (ok_is_below T) hr rfl T.g_is_below T.F_is_below.kp T.b_is_below .nil pass0 (pa_cons (pv 2) (pa_cons (pv 1) pa_nil))))) pa_nil)))))), ?_⟩
    refine ⟨x, rfl, x, d, rfl, hd, _, rfl, ?_⟩
    rw [isa_tuple]
    cases d
    case tuple ds =>
      obtain ⟨a, xs, rfl, hs, ha⟩ : ∃ a xs, x = .ref a ∧ SqT K H a xs ∧ DpAll K H xs ds := by
        cases hd with
        | tup hs ha => exact ⟨_, _, rfl, hs, ha⟩
      refine ⟨.ref a, rfl, a, rfl, ⟨_, hs⟩, fun D nD => ?_⟩
      have sm : Same H (upd H D (.lst [])) := same_new nD
      refine comp_tup (K := K) (a := a) (xs := xs) (i := 2) (fun acc H' => Same H H' ∧ acc = ((ds.take acc.length).map fun d => V.bl (belowD b d))) ⟨sm, rfl⟩ (fun acc H' h => seqT_grow h.1 hs) (fun acc y H' e h hD => ?_) (fun acc H' e h hD => ?_)
      · obtain ⟨d', e', hd'⟩ := dpAll_get ha e
        refine ⟨y, rfl, .int b, rfl, y, d', b, rfl, dp_grow h.1 hd', ?_⟩
        have lt : acc.length < xs.length := (List.getElem?_eq_some_iff.mp e).1
        refine turned hD (small (by have h1 := dpAll_len ha; have h2 : ds.length ≤ 1000 := hz; omega)) ⟨fun c o ec => ?_, ?_⟩
        · rw [upd_ne (ne_of_none ec nD)]
          exact h.1 c o ec
        · rw [List.length_append, List.length_singleton, List.take_add_one, e', List.map_append, ← h.2]
          rfl
      · refine ⟨D, (ds.map (belowD b)), rfl, .inl (.inl ?_), ?_⟩
        · rw [hD, h.2, e, dpAll_len ha, List.take_length, List.map_map]
          rfl
        · have e2 : (ds.map (belowD b)).all id = ds.all (belowD b) := by rw [List.all_map]; rfl
          rw [e2]
          exact q H' h.1
    all_goals exact q H (Same.refl H)

def sp_ask_row (K : PySem.W.Frag) (C : Addr) : Sp := fun vs H Q E => ∃ t ts x d, vs = [.ref t, x] ∧ SqT K H t ts ∧ Dp K H x d ∧ lenD d ≤ 1000 ∧ (rowD ts.length d = true → ∀ H', Same H H' → Q .non H') ∧ (rowD ts.length d = false → Refuses C E H "row")
theorem ok_ask_row (T : Tx K mg) : FnOk P w K mg base (L2.CX P w) 5 T.f_ask_row T.d_ask_row ["tokens", "row"] (sp_ask_row K T.C_NotUsable) := by
  refine T.F_ask_row.okX sc_ask_row (fun vs H Q E h => ?_) (fun cdv A outer s H vs Q E hr h => ?_)
  · obtain ⟨t, ts, x, d, rfl, _⟩ := h; rfl
  · obtain ⟨t, ts, x, d, rfl, hT, hd, hz, q1, q2⟩ := h
    refine ⟨_, (pss_one (ps_if (PW.pt (pw_or (pt_not (pt_val (pe_call (ok_are_below T) hr rfl T.g_are_below T.F_are_below.kp T.b_are_below .nil pass0 (pa_cons (pv 1) (pa_cons (pe_callB call_len_seq (by rfl) T.n_len (by decide +kernel) (pa_cons (pv 0) pa_nil)) pa_nil))))) (pw_or1 (pt_cmpR op_gt (pe_callB call_len_seq (by rfl) T.n_len (by decide +kernel) (pa_cons (pv 1) pa_nil)) (pe_glob (v := .int (60)) rfl T.c_ROW_LIMIT.choose_spec ⟨_, rfl⟩) (nomark _))))) (pss_one (ps_raiseNus rfl T.nus hr (takes_of rfl rfl rfl rfl) (pa_cons pe_str pa_nil))) pss_nil)), ?_⟩
    refine ⟨x, rfl, .ref t, rfl, t, ts, rfl, .inr hT, x, d, _, rfl, hd, hz, fun H' sm => ?_⟩
    refine ⟨_, rfl, ?_⟩
    have no : rowD ts.length d = false → ∀ H2, Same H H2 → ∀ dd, H2 dd = none → E (.ref T.C_NotUsable) (some dd) (upd H2 dd (.xd [("word", .str "row")])) := fun e H2 s2 dd n => q2 e H2 dd s2 n
    cases d
    case tuple ds =>
      obtain ⟨a, xs, rfl, hs, ha⟩ : ∃ a xs, x = .ref a ∧ SqT K H a xs ∧ DpAll K H xs ds := by
        cases hd with
        | tup hs ha => exact ⟨_, _, rfl, hs, ha⟩
      have el := dpAll_len ha
      show if (!(ds.all (belowD ts.length))) = true then _ else _
      cases e : ds.all (belowD ts.length) with
      | false =>
        have er : rowD ts.length (.tuple ds) = false := by show (ds.all (belowD ts.length) && _) = false; rw [e]; rfl
        exact ⟨_, rfl, fun dd n => no er H' sm dd n⟩
      | true =>
        refine ⟨.ref a, rfl, a, xs, rfl, .inr (seqT_grow sm hs), xs.length, 60, rfl, rfl, _, rfl, ?_⟩
        by_cases h60 : xs.length ≤ 60
        · have er : rowD ts.length (.tuple ds) = true := by show (ds.all (belowD ts.length) && decide (ds.length ≤ 60)) = true; rw [e, ← el, decide_eq_true h60]; rfl
          rw [decide_eq_false (by omega)]
          exact q1 er H' sm
        · have er : rowD ts.length (.tuple ds) = false := by show (ds.all (belowD ts.length) && decide (ds.length ≤ 60)) = false; rw [e, ← el, decide_eq_false h60]; rfl
          rw [decide_eq_true (by omega)]
          exact ⟨_, rfl, fun dd n => no er H' sm dd n⟩
    all_goals exact ⟨_, rfl, fun dd n => no rfl H' sm dd n⟩

def sp_ask_short (K : PySem.W.Frag) (C : Addr) : Sp := fun vs H Q E => ∃ x d z, vs = [x, .str z] ∧ Dp K H x d ∧ (shortD d = true → Q .non H) ∧ (shortD d = false → Refuses C E H z)
theorem ok_ask_short (T : Tx K mg) : FnOk P w K mg base (L2.CX P w) 3 T.f_ask_short T.d_ask_short ["number", "word"] (sp_ask_short K T.C_NotUsable) := by
  refine T.F_ask_short.okX sc_ask_short (fun vs H Q E h => ?_) (fun cdv A outer s H vs Q E hr h => ?_)
  · obtain ⟨x, d, z, rfl, _⟩ := h; rfl
  · obtain ⟨x, d, z, rfl, hd, q1, q2⟩ := h
    refine ⟨_, (pss_one (ps_if (PW.pt (pw_or (pt_not (pt_val (pe_call (ok_is_number T) hr rfl T.g_is_number T.F_is_number.kp T.b_is_number .nil pass0 (pa_cons (pv 0) pa_nil)))) (pw_or1 (pt_cmpR op_gt (pv 0) (pe_glob (v := .int (60)) rfl T.c_BUDGET_LIMIT.choose_spec ⟨_, rfl⟩) (nomark _))))) (pss_one (ps_raiseNus rfl T.nus hr (takes_of rfl rfl rfl rfl) (pa_cons (pv 1) pa_nil))) pss_nil)), ?_⟩
    refine ⟨x, rfl, x, d, rfl, hd, ?_⟩
    refine ⟨_, rfl, ?_⟩
    cases d
    case int i =>
      cases hd
      show if (!(decide (0 ≤ i))) = true then _ else _
      by_cases h0 : 0 ≤ i
      · rw [decide_eq_true h0]
        refine ⟨.int i, rfl, i, 60, rfl, rfl, _, rfl, ?_⟩
        by_cases h60 : i ≤ 60
        · rw [decide_eq_false (by omega)]
          exact q1 (by show (decide (0 ≤ i) && decide (i ≤ 60)) = true; rw [decide_eq_true h0, decide_eq_true h60]; rfl)
        · rw [decide_eq_true (by omega)]
          exact ⟨_, rfl, _, rfl, fun dd n => q2 (by show (decide (0 ≤ i) && decide (i ≤ 60)) = false; rw [decide_eq_false h60, Bool.and_false]) H dd (Same.refl H) n⟩
      · rw [decide_eq_false h0]
        exact ⟨_, rfl, _, rfl, fun dd n => q2 (by show (decide (0 ≤ i) && decide (i ≤ 60)) = false; rw [decide_eq_false h0, Bool.false_and]) H dd (Same.refl H) n⟩
    all_goals exact ⟨_, rfl, _, rfl, fun dd n => q2 rfl H dd (Same.refl H) n⟩

def sp_ask_below (K : PySem.W.Frag) (C : Addr) : Sp := fun vs H Q E => ∃ x d b z, vs = [x, .int b, .str z] ∧ Dp K H x d ∧ (belowD b d = true → Q .non H) ∧ (belowD b d = false → Refuses C E H z)
theorem ok_ask_below (T : Tx K mg) : FnOk P w K mg base (L2.CX P w) 4 T.f_ask_below T.d_ask_below ["number", "bound", "word"] (sp_ask_below K T.C_NotUsable) := by
  refine T.F_ask_below.okX sc_ask_below (fun vs H Q E h => ?_) (fun cdv A outer s H vs Q E hr h => ?_)
  · obtain ⟨x, d, b, z, rfl, _⟩ := h; rfl
  · obtain ⟨x, d, b, z, rfl, hd, q1, q2⟩ := h
    refine ⟨_, (pss_one (ps_if (pt_not (pt_val (pe_call (ok_is_below T) hr rfl T.g_is_below T.F_is_below.kp T.b_is_below .nil pass0 (pa_cons (pv 0) (pa_cons (pv 1) pa_nil))))) (pss_one (ps_raiseNus rfl T.nus hr (takes_of rfl rfl rfl rfl) (pa_cons (pv 2) pa_nil))) pss_nil)), ?_⟩
    refine ⟨x, rfl, .int b, rfl, x, d, b, rfl, hd, ?_⟩
    refine ⟨_, rfl, ?_⟩
    cases e : belowD b d with
    | true => exact q1 e
    | false => exact ⟨_, rfl, _, rfl, fun dd n => q2 e H dd (Same.refl H) n⟩
end
end K4
set_option Elab.async false
set_option linter.all false
set_option maxRecDepth 100000
set_option maxHeartbeats 2000000
namespace K4
open PySem PySem.Spec PyProof.Rows L2 Ver
def choG : Int → Nat → List Int → Int → Int
  | _, _, [], _ => -1
  | acc, i, x :: xs, d => if d < acc + x then (i : Int) else choG (acc + x) (i + 1) xs d
def cho (r : List Int) (d : Int) : Int := choG 0 0 r.dropLast d
theorem sum_take_succ {r : List Int} {i : Nat} {x : Int} (e : r[i]? = some x) : (r.take (i + 1)).sum = (r.take i).sum + x := by
  rw [List.take_add_one, e, List.sum_append]
  simp
theorem choG_step {acc : Int} {i : Nat} {r : List Int} {d x : Int} (e : r[i]? = some x) : choG acc i (r.drop i) d = if d < acc + x then (i : Int) else choG (acc + x) (i + 1) (r.drop (i + 1)) d := by
  obtain ⟨lt, e'⟩ := List.getElem?_eq_some_iff.mp e
  rw [List.drop_eq_getElem_cons lt, e']
  rfl
theorem rowD_ints {n : Nat} {d : PyData} (h : rowD n d = true) : ∃ r : List Int, d = .tuple (r.map PyData.int) ∧ ∀ t ∈ r, 0 ≤ t ∧ t < n := by
  cases d
  case tuple ds =>
    have h' : (ds.all (belowD n) && decide (ds.length ≤ 60)) = true := h
    rw [Bool.and_eq_true] at h'
    have key : ∀ ds : List PyData, ds.all (belowD n) = true → ∃ r : List Int, ds = r.map PyData.int ∧ ∀ t ∈ r, 0 ≤ t ∧ t < n := by
      intro ds
      induction ds with
      | nil => intro _; exact ⟨[], rfl, fun t ht => by simp at ht⟩
      | cons d ds ih =>
        intro e
        rw [List.all_cons, Bool.and_eq_true] at e
        obtain ⟨r, rfl, hr⟩ := ih e.2
        cases d
        case int i =>
          have e1 : (decide (0 ≤ i) && decide (i < (n : Int))) = true := e.1
          rw [Bool.and_eq_true, decide_eq_true_eq, decide_eq_true_eq] at e1
          refine ⟨i :: r, rfl, fun t ht => ?_⟩
          rcases List.mem_cons.mp ht with rfl | ht
          · exact e1
          · exact hr t ht
        all_goals exact absurd e.1 Bool.false_ne_true
    obtain ⟨r, e, hr⟩ := key ds h'.1
    exact ⟨r, by rw [e], hr⟩
  all_goals exact absurd h Bool.false_ne_true
theorem ints_of_dp {K : PySem.W.Frag} {H : Hp} : ∀ {r : List Int} {xs : List V}, DpAll K H xs (r.map PyData.int) → xs = r.map V.int
  | [], _, h => by cases h; rfl
  | t :: r, _, h => by
    cases h with
    | cons h1 h2 =>
      cases h1
      rw [ints_of_dp h2]
      rfl
def IsRow (_ : PySem.W.Frag) (H : Hp) (v : V) (r : List Int) : Prop := ∃ p, v = .ref p ∧ H p = some (.tup (r.map V.int))
abbrev Rows (K : PySem.W.Frag) (H : Hp) (vs : List V) (rs : List (List Int)) : Prop := Paired (IsRow K H) vs rs
structure Wr where
  total : Int
  ws : List (List Int)
  ns : List (List Int)
def WrAt (K : PySem.W.Frag) (H : Hp) (a : Addr) (W : Wr) : Prop := ∃ b c wv nv, SqT K H a [.int W.total, .ref b, .ref c] ∧ SqT K H b wv ∧ Rows K H wv W.ws ∧ SqT K H c nv ∧ Rows K H nv W.ns
theorem Rows.grow {K : PySem.W.Frag} {H H' : Hp} (e : Same H H') : ∀ {vs : List V} {rs : List (List Int)}, Rows K H vs rs → Rows K H' vs rs
  | _, _, .nil => .nil
  | _, _, .cons ⟨p, h1, h2⟩ t => .cons ⟨p, h1, e _ _ h2⟩ (Rows.grow e t)
theorem Rows.getT {K : PySem.W.Frag} {H : Hp} : ∀ {vs : List V} {rs : List (List Int)} {i : Nat} {r : List Int}, Rows K H vs rs → rs[i]? = some r → ∃ p, vs[i]? = some (.ref p) ∧ H p = some (.tup (r.map V.int))
  | _, _, i, r, .nil, e => by simp at e
  | _, _, 0, r, .cons ⟨p, h1, h2⟩ t, e => by
    have e' := Option.some.inj e
    subst e' h1
    exact ⟨p, rfl, h2⟩
  | _, _, i + 1, r, .cons _ t, e => Rows.getT (i := i) t e
theorem Rows.get {K : PySem.W.Frag} {H : Hp} {vs : List V} {rs : List (List Int)} {i : Nat} {r : List Int} (h : Rows K H vs rs) (e : rs[i]? = some r) : ∃ p, vs[i]? = some (.ref p) ∧ SqT K H p (r.map V.int) := by
  obtain ⟨p, h1, h2⟩ := h.getT e
  exact ⟨p, h1, .inl (.inl h2)⟩
theorem WrAt.grow {K : PySem.W.Frag} {H H' : Hp} {a : Addr} {W : Wr} (e : Same H H') (h : WrAt K H a W) : WrAt K H' a W := by
  obtain ⟨b, c, wv, nv, h1, h2, h3, h4, h5⟩ := h
  exact ⟨b, c, wv, nv, seqT_grow e h1, seqT_grow e h2, h3.grow e, seqT_grow e h4, h5.grow e⟩
structure Wr.Ok (W : Wr) (m : Nat) : Prop where
  pos : 1 ≤ W.total
  most : W.total ≤ 2000000
  same : W.ns.length = W.ws.length
  any1 : 1 ≤ W.ws.length
  few : W.ws.length ≤ 12
  few' : m ≤ 12
  row : ∀ r ∈ W.ws, r.length = m + 1 ∧ r.sum = W.total ∧ ∀ x ∈ r, 0 ≤ x
  next : ∀ r ∈ W.ns, r.length = m ∧ ∀ x ∈ r, 0 ≤ x ∧ x < W.ws.length
section
variable {P : Program} {w : World} {K : PySem.W.Frag} {mg : Str → Option Value} {base : Heap}
def sp_chosen (K : PySem.W.Frag) : Sp := fun vs H Q _ => ∃ p r d, vs = [.ref p, .int d] ∧ SqT K H p (r.map V.int) ∧ r ≠ [] ∧ r.length ≤ 1000 ∧ Q (.int (cho r d)) H
theorem ok_chosen (T : Tx K mg) : FnOk P w K mg base CX0 1 T.f_chosen T.d_chosen ["shares", "digit"] (sp_chosen K) := by
  refine T.F_chosen.ok sc_chosen (fun vs H Q E h => ?_) (fun cdv A outer s H vs Q E hr h => ?_)
  · obtain ⟨p, r, d, rfl, _⟩ := h; rfl
  · obtain ⟨p, r, d, rfl, hs, hne, hz, q⟩ := h
    refine ⟨_, (pss_cons (ps_set (i := 2) sc_chosen.nd rfl (Or.inl rfl) pe_int)
    (pss_cons (ps_for PassesOwn.never rfl (pi_range1 rfl T.n_range (pa_cons (pe_op op_sub (pe_callB call_len_seq (by rfl) T.n_len (by decide +kernel) (pa_cons (pv 0) pa_nil)) pe_int) pa_nil)) (pg_name (i := 3) sc_chosen.nd rfl (Or.inl rfl))
    (pss_cons (ps_aug (i := 2) sc_chosen.nd rfl (Or.inl rfl) (pe_ix ix_tup (pv 0) (pv 3) (fun _ _ => rfl)) ip_add)
    (pss_one (ps_if (pt_cmpR op_lt (pv 1) (pv 2) (nomark _)) (pss_one (ps_ret (pv 3))) pss_nil))))
    (pss_one (ps_ret (pe_glob (v := .int (-1)) rfl T.c_END.choose_spec ⟨_, rfl⟩))))), ?_⟩
    have pos : 1 ≤ r.length := by cases r with | nil => exact absurd rfl hne | cons a b => simp
    refine ⟨.ref p, rfl, p, _, rfl, .inr hs, _, _, rfl, rfl, _, rfl, ?_, ?_, ?_⟩
    · rw [List.length_map]; omega
    · rw [List.length_map]; omega
    have en : (((r.map V.int).length : Int) - 1).toNat = r.dropLast.length := by rw [List.length_map, List.length_dropLast]; omega
    rw [en]
    refine for_range0 (n := r.dropLast.length) (fun i σ H' => H' = H ∧ ∃ y, σ = [some (.ref p), some (.int d), some (.int (r.dropLast.take i).sum), y] ∧ choG (r.dropLast.take i).sum i (r.dropLast.drop i) d = cho r d) ⟨rfl, none, rfl, rfl⟩ (fun i σ H' lt h => ?_) (fun σ H' h => ?_)
    · obtain ⟨rfl, y, rfl, e⟩ := h
      have e1 : r.dropLast[i]? = some r.dropLast[i] := List.getElem?_eq_getElem lt
      have e2 : (r.map V.int)[i]? = some (.int r.dropLast[i]) := by
        have lt2 : i < r.length := by rw [List.length_dropLast] at lt; omega
        rw [List.getElem?_map, List.getElem?_eq_getElem lt2, List.getElem_dropLast]
        rfl
      refine ⟨_, rfl, .ref p, rfl, _, rfl, p, _, _, _, rfl, rfl, hs, atI_nat (j := i) e2 , _, _, rfl, rfl, ?_⟩
      refine ⟨.int d, rfl, _, rfl, d, _, rfl, rfl, _, rfl, ?_⟩
      have st := choG_step (acc := (r.dropLast.take i).sum) (d := d) e1
      rw [e] at st
      by_cases lt3 : d < (r.dropLast.take i).sum + r.dropLast[i]
      · rw [decide_eq_true lt3]
        rw [if_pos lt3] at st
        refine ⟨_, rfl, ?_⟩
        have q' := q
        rw [st] at q'
        exact q'
      · rw [decide_eq_false lt3]
        rw [if_neg lt3] at st
        refine ⟨rfl, some (.int (i : Int)), ?_, ?_⟩
        · rw [sum_take_succ e1]
          rfl
        · rw [sum_take_succ e1]
          exact st.symm
    · obtain ⟨rfl, y, rfl, e⟩ := h
      rw [List.drop_length] at e
      have q' := q
      rw [← e] at q'
      exact q'

theorem WrAt.row {K : PySem.W.Frag} {H : Hp} {a : Addr} {W : Wr} (h : WrAt K H a W) : ∃ (b c : Addr) (wv nv : List V), SqT K H a [.int W.total, .ref b, .ref c] ∧ SqT K H b wv ∧ wv.length = W.ws.length ∧ SqT K H c nv ∧ nv.length = W.ns.length ∧
    (∀ (i : Nat) (r : List Int), W.ws[i]? = some r → ∃ p, wv[i]? = some (V.ref p) ∧ SqT K H p (r.map V.int)) ∧ (∀ (i : Nat) (r : List Int), W.ns[i]? = some r → ∃ p, nv[i]? = some (V.ref p) ∧ SqT K H p (r.map V.int)) := by
  obtain ⟨b, c, wv, nv, h1, h2, h3, h4, h5⟩ := h
  exact ⟨b, c, wv, nv, h1, h2, Paired.length h3, h4, Paired.length h5, fun i r e => h3.get e, fun i r e => h5.get e⟩
theorem belowD_int {d : PyData} {b : Int} (h : belowD b d = true) : ∃ i : Int, d = .int i ∧ 0 ≤ i ∧ i < b := by
  cases d
  case int i =>
    have h' : (decide (0 ≤ i) && decide (i < b)) = true := h
    rw [Bool.and_eq_true, decide_eq_true_eq, decide_eq_true_eq] at h'
    exact ⟨i, rfl, h'.1, h'.2⟩
  all_goals exact absurd h Bool.false_ne_true
def wsAt (W : Wr) (s : Int) : List Int := (W.ws[s.toNat]?).getD []
def nsAt (W : Wr) (s : Int) : List Int := (W.ns[s.toNat]?).getD []
theorem Wr.Ok.atW {W : Wr} {m : Nat} (o : W.Ok m) {s : Int} (h0 : 0 ≤ s) (h1 : s < W.ws.length) : W.ws[s.toNat]? = some (wsAt W s) ∧ (wsAt W s).length = m + 1 ∧ (wsAt W s).sum = W.total ∧ ∀ x ∈ wsAt W s, 0 ≤ x := by
  have lt : s.toNat < W.ws.length := by omega
  have e : W.ws[s.toNat]? = some W.ws[s.toNat] := List.getElem?_eq_getElem lt
  have e2 : wsAt W s = W.ws[s.toNat] := by unfold wsAt; rw [e]; rfl
  rw [e2]
  exact ⟨e, o.row _ (List.getElem_mem lt)⟩
theorem Wr.Ok.atN {W : Wr} {m : Nat} (o : W.Ok m) {s : Int} (h0 : 0 ≤ s) (h1 : s < W.ws.length) : W.ns[s.toNat]? = some (nsAt W s) ∧ (nsAt W s).length = m ∧ ∀ x ∈ nsAt W s, 0 ≤ x ∧ x < W.ws.length := by
  have lt : s.toNat < W.ns.length := by have := o.same; omega
  have e : W.ns[s.toNat]? = some W.ns[s.toNat] := List.getElem?_eq_getElem lt
  have e2 : nsAt W s = W.ns[s.toNat] := by unfold nsAt; rw [e]; rfl
  rw [e2]
  exact ⟨e, o.next _ (List.getElem_mem lt)⟩
def nxt (W : Wr) (s t : Int) : Int := ((nsAt W s)[t.toNat]?).getD 0
theorem Wr.Ok.nxt {W : Wr} {m : Nat} (o : W.Ok m) {s t : Int} (h0 : 0 ≤ s) (h1 : s < W.ws.length) (t0 : 0 ≤ t) (t1 : t < m) : (nsAt W s)[t.toNat]? = some (nxt W s t) ∧ 0 ≤ nxt W s t ∧ nxt W s t < W.ws.length := by
  obtain ⟨e, l, al⟩ := o.atN h0 h1
  have lt : t.toNat < (nsAt W s).length := by omega
  have e1 : (nsAt W s)[t.toNat]? = some (nsAt W s)[t.toNat] := List.getElem?_eq_getElem lt
  have e2 : K4.nxt W s t = (nsAt W s)[t.toNat] := by unfold K4.nxt; rw [e1]; rfl
  rw [e2]
  exact ⟨e1, al _ (List.getElem_mem lt)⟩
theorem at_map {r : List Int} {i x : Int} (h0 : 0 ≤ i) (e : r[i.toNat]? = some x) : atI (r.map V.int) i = some (.int x) := by
  have e0 : i = ((i.toNat : Nat) : Int) := by omega
  rw [e0]
  exact atI_nat (j := i.toNat) (by rw [List.getElem?_map, e]; rfl)
theorem at_ref {xs : List V} {i : Int} {p : Addr} (h0 : 0 ≤ i) (e : xs[i.toNat]? = some (.ref p)) : atI xs i = some (.ref p) := by
  have e0 : i = ((i.toNat : Nat) : Int) := by omega
  rw [e0]
  exact atI_nat (j := i.toNat) e

def sp_choice_of (K : PySem.W.Frag) (C : Addr) : Sp := fun vs H Q E => ∃ t a W m x d y e, vs = [t, .ref a, x, y] ∧ WrAt K H a W ∧ W.Ok m ∧ Dp K H x d ∧ Dp K H y e ∧
  (belowD W.ws.length d = false → Refuses C E H "state") ∧ (belowD W.ws.length d = true → belowD W.total e = false → Refuses C E H "digit") ∧
  (∀ s i : Int, d = .int s → e = .int i → belowD W.ws.length d = true → belowD W.total e = true → Q (.int (cho (wsAt W s) i)) H)
theorem ok_choice_of (T : Tx K mg) : FnOk P w K mg base (L2.CX P w) 5 T.f_choice_of T.d_choice_of ["tokens", "writer", "state", "digit"] (sp_choice_of K T.C_NotUsable) := by
  refine T.F_choice_of.okX sc_choice_of (fun vs H Q E h => ?_) (fun cdv A outer s H vs Q E hr h => ?_)
  · obtain ⟨t, a, W, m, x, d, y, e, rfl, _⟩ := h; rfl
  · obtain ⟨t, a, W, m, x, d, y, e, rfl, hW, hok, hd, he, q1, q2, q3⟩ := h
    refine ⟨_, (pss_cons (ps_asg (pv 1) (pg_tup (by rfl) (pgs_cons (pg_name (i := 4) sc_choice_of.nd rfl (Or.inl rfl)) (pgs_cons (pg_name (i := 5) sc_choice_of.nd rfl (Or.inl rfl)) (pgs_cons (pg_name (i := 6) sc_choice_of.nd rfl (Or.inl rfl)) pgs_nil)))))
    (pss_cons (ps_expr (pe_call (ok_ask_below T) hr rfl T.g_ask_below T.F_ask_below.kp T.b_ask_below .nil (passes_call (takes_of rfl rfl rfl rfl) (fun _ _ _ _ h => h)) (pa_cons (pv 2) (pa_cons (pe_callB call_len_seq (by rfl) T.n_len (by decide +kernel) (pa_cons (pv 5) pa_nil)) (pa_cons pe_str pa_nil)))))
    (pss_cons (ps_expr (pe_call (ok_ask_below T) hr rfl T.g_ask_below T.F_ask_below.kp T.b_ask_below .nil (passes_call (takes_of rfl rfl rfl rfl) (fun _ _ _ _ h => h)) (pa_cons (pv 3) (pa_cons (pv 4) (pa_cons pe_str pa_nil)))))
    (pss_one (ps_ret (pe_call (ok_chosen T) (hr.mono (by decide)) rfl T.g_chosen T.F_chosen.kp T.b_chosen .nil pass0 (pa_cons (pe_ix ix_tup (pv 5) (pv 2) (fun _ _ => rfl)) (pa_cons (pv 3) pa_nil)))))))), ?_⟩
    obtain ⟨b, c, wv, nv, s1, s2, l1, s3, l2, g1, g2⟩ := hW.row
    refine ⟨.ref a, rfl, a, _, rfl, s1, rfl, .int W.total, _, rfl, .ref b, _, rfl, .ref c, _, rfl, rfl, ?_⟩
    refine ⟨x, rfl, .ref b, rfl, b, wv, rfl, .inr s2, x, d, _, _, rfl, hd, fun k1 => ?_, fun k1 => ?_⟩
    · refine ⟨y, rfl, .int W.total, rfl, y, e, _, _, rfl, he, fun k2 => ?_, fun k2 => ?_⟩
      · rw [l1] at k1
        obtain ⟨s, rfl, hs0, hs1⟩ := belowD_int k1
        obtain ⟨i, rfl, hi0, hi1⟩ := belowD_int k2
        cases hd
        cases he
        obtain ⟨e1, el, es, en⟩ := hok.atW hs0 hs1
        obtain ⟨p, ep, hp⟩ := g1 _ _ e1
        refine ⟨.ref b, rfl, .int s, rfl, b, wv, s, _, rfl, rfl, s2, at_ref hs0 ep, .int i, rfl, p, wsAt W s, i, rfl, hp, ?_, ?_, q3 s i rfl rfl k1 k2⟩
        · intro z; rw [z] at el; simp at el
        · have := hok.few'; omega
      · rw [l1] at k1
        exact fun H' dd sm n => q2 k1 k2 H' dd sm n
    · rw [l1] at k1
      exact fun H' dd sm n => q1 k1 H' dd sm n

def ledG (W : Wr) : Int → List Int → Int
  | s, [] => s
  | s, t :: r => ledG W (nxt W s t) r
theorem ledG_step {W : Wr} {s t : Int} {r : List Int} {i : Nat} (e : r[i]? = some t) : ledG W s (r.drop i) = ledG W (nxt W s t) (r.drop (i + 1)) := by
  obtain ⟨lt, e'⟩ := List.getElem?_eq_some_iff.mp e
  rw [List.drop_eq_getElem_cons lt, e']
  rfl
def sp_led_to (K : PySem.W.Frag) : Sp := fun vs H Q _ => ∃ a W m s p r, vs = [.ref a, .int s, .ref p] ∧ WrAt K H a W ∧ W.Ok m ∧ 0 ≤ s ∧ s < W.ws.length ∧ SqT K H p (r.map V.int) ∧ (∀ t : Int, t ∈ r → 0 ≤ t ∧ t < (m : Int)) ∧ Q (.int (ledG W s r)) H
theorem ok_led_to (T : Tx K mg) : FnOk P w K mg base CX0 1 T.f_led_to T.d_led_to ["writer", "state", "row"] (sp_led_to K) := by
  refine T.F_led_to.ok sc_led_to (fun vs H Q E h => ?_) (fun cdv A outer s H vs Q E hr h => ?_)
  · obtain ⟨a, W, m, s, p, r, rfl, _⟩ := h; rfl
  · obtain ⟨a, W, m, s0, p, r, rfl, hW, hok, h0, h1, hp, hr2, q⟩ := h
    refine ⟨_, (pss_cons (ps_set (i := 3) sc_led_to.nd rfl (Or.inl rfl) (pe_ix ix_tup (pv 0) pe_int (fun _ _ => rfl)))
    (pss_cons (ps_for PassesOwn.never rfl (pi_tup (pv 2)) (pg_name (i := 4) sc_led_to.nd rfl (Or.inl rfl))
    (pss_one (ps_set (i := 1) sc_led_to.nd rfl (Or.inl rfl) (pe_ix ix_tup (pe_ix ix_tup (pv 3) (pv 1) (fun _ _ => rfl)) (pv 4) (fun _ _ => rfl)))))
    (pss_one (ps_ret (pv 1))))), ?_⟩
    obtain ⟨b, c, wv, nv, s1, s2, l1, s3, l2, g1, g2⟩ := hW.row
    refine ⟨.ref a, rfl, a, _, 2, .ref c, rfl, rfl, s1, rfl, ?_⟩
    refine ⟨.ref p, rfl, p, rfl, ⟨_, hp⟩, ?_⟩
    refine for_tup (K := K) (a := p) (xs := r.map V.int) (fun i σ H' => H' = H ∧ ∃ s y, σ = [some (.ref a), some (.int s), some (.ref p), some (.ref c), y] ∧ 0 ≤ s ∧ s < W.ws.length ∧ ledG W s (r.drop i) = ledG W s0 r) ⟨rfl, s0, none, rfl, h0, h1, rfl⟩ (fun i σ H' _ h => by rw [h.1]; exact hp) (fun i x σ H' ex h => ?_) (fun σ H' h => ?_)
    · obtain ⟨rfl, s, y, rfl, k0, k1, e⟩ := h
      rw [List.getElem?_map] at ex
      cases et : r[i]? with
      | none => rw [et] at ex; cases ex
      | some t =>
        rw [et] at ex
        have ex' : V.int t = x := Option.some.inj ex
        subst ex'
        obtain ⟨t0, t1⟩ := hr2 t (List.mem_of_getElem? et)
        obtain ⟨e1, _, _⟩ := hok.atN k0 k1
        obtain ⟨pn, epn, hpn⟩ := g2 _ _ e1
        obtain ⟨e3, n0, n1⟩ := hok.nxt k0 k1 t0 t1
        refine ⟨.ref c, rfl, .int s, rfl, c, nv, s, _, rfl, rfl, s3, at_ref k0 epn, .int t, rfl, pn, _, t, _, rfl, rfl, hpn, at_map t0 e3, ?_⟩
        refine ⟨rfl, nxt W s t, some (.int t), rfl, n0, n1, ?_⟩
        rw [← ledG_step et]
        exact e
    · obtain ⟨rfl, s, y, rfl, k0, k1, e⟩ := h
      rw [List.length_map, List.drop_length] at e
      have e' : s = ledG W s0 r := e
      refine ⟨.int s, rfl, ?_⟩
      rw [e']
      exact q

def sp_state_behind (K : PySem.W.Frag) (C : Addr) : Sp := fun vs H Q E => ∃ t ts a W x d, vs = [.ref t, .ref a, x] ∧ SqT K H t ts ∧ WrAt K H a W ∧ W.Ok ts.length ∧ Dp K H x d ∧ lenD d ≤ 1000 ∧
  (rowD ts.length d = false → Refuses C E H "row") ∧ (∀ r : List Int, d = .tuple (r.map PyData.int) → rowD ts.length d = true → ∀ H', Same H H' → Q (.int (ledG W 0 r)) H')
theorem ok_state_behind (T : Tx K mg) : FnOk P w K mg base (L2.CX P w) 6 T.f_state_behind T.d_state_behind ["tokens", "writer", "row"] (sp_state_behind K T.C_NotUsable) := by
  refine T.F_state_behind.okX sc_state_behind (fun vs H Q E h => ?_) (fun cdv A outer s H vs Q E hr h => ?_)
  · obtain ⟨t, ts, a, W, x, d, rfl, _⟩ := h; rfl
  · obtain ⟨t, ts, a, W, x, d, rfl, hT, hW, hok, hd, hz, q1, q2⟩ := h
    refine ⟨_, (pss_cons (ps_expr (pe_call (ok_ask_row T) hr rfl T.g_ask_row T.F_ask_row.kp T.b_ask_row .nil (passes_call (takes_of rfl rfl rfl rfl) (fun _ _ _ _ h => h)) (pa_cons (pv 0) (pa_cons (pv 2) pa_nil))))
    (pss_one (ps_ret (pe_call (ok_led_to T) (hr.mono (by decide)) rfl T.g_led_to T.F_led_to.kp T.b_led_to .nil pass0 (pa_cons (pv 1) (pa_cons pe_int (pa_cons (pv 2) pa_nil))))))), ?_⟩
    refine ⟨.ref t, rfl, x, rfl, t, ts, x, d, rfl, hT, hd, hz, fun k H' sm => ?_, fun k => ?_⟩
    · obtain ⟨r, rfl, hr2⟩ := rowD_ints k
      obtain ⟨p, xs, rfl, hp, ha⟩ : ∃ p xs, x = .ref p ∧ SqT K H p xs ∧ DpAll K H xs (r.map PyData.int) := by
        cases hd with
        | tup hs ha => exact ⟨_, _, rfl, hs, ha⟩
      have ex := ints_of_dp ha
      subst ex
      refine ⟨.ref a, rfl, .ref p, rfl, a, W, ts.length, 0, p, r, rfl, hW.grow sm, hok, by omega, by have := hok.any1; omega, seqT_grow sm hp, hr2, q2 r rfl k H' sm⟩
    · exact fun H' dd sm n => q1 k H' dd sm n
end
end K4
set_option Elab.async false
set_option linter.all false
set_option maxRecDepth 100000
set_option maxHeartbeats 2000000
namespace K4
open PySem PySem.Spec PyProof.Rows L2 Ver
theorem choG_in : ∀ (xs : List Int) (acc : Int) (i : Nat) (d : Int), choG acc i xs d = -1 ∨ ((i : Int) ≤ choG acc i xs d ∧ choG acc i xs d < i + xs.length)
  | [], _, _, _ => .inl rfl
  | x :: xs, acc, i, d => by
    unfold choG
    split
    · right
      rw [List.length_cons]
      omega
    · rcases choG_in xs (acc + x) (i + 1) d with h | h
      · exact .inl h
      · right
        rw [List.length_cons]
        omega
theorem cho_in {r : List Int} {m : Nat} (hl : r.length = m + 1) (d : Int) : cho r d = -1 ∨ (0 ≤ cho r d ∧ cho r d < m) := by
  have h := choG_in r.dropLast 0 0 d
  rw [List.length_dropLast, hl] at h
  show choG 0 0 r.dropLast d = -1 ∨ (0 ≤ choG 0 0 r.dropLast d ∧ choG 0 0 r.dropLast d < m)
  omega
def sayG (W : Wr) : Int → List Int → List Int × Bool
  | _, [] => ([], false)
  | s, d :: r => if cho (wsAt W s) d = -1 then ([], true) else (cho (wsAt W s) d :: (sayG W (nxt W s (cho (wsAt W s) d)) r).1, (sayG W (nxt W s (cho (wsAt W s) d)) r).2)
def usedG (p : List Int × Bool) : Int := p.1.length + (if p.2 = true then 1 else 0)
def saidD (p : List Int × Bool) : PyData := .tuple [.tuple (p.1.map PyData.int), .bool p.2, .int (usedG p)]
def tapeD (t : Int) : PyData → Bool | .tuple ds => ds.all (belowD t) && (decide (1 ≤ ds.length) && decide (ds.length ≤ 61)) | _ => false
theorem sayG_end {W : Wr} {s d : Int} {r : List Int} (h : cho (wsAt W s) d = -1) : sayG W s (d :: r) = ([], true) := by
  show (if cho (wsAt W s) d = -1 then _ else _) = _
  rw [if_pos h]
theorem sayG_on {W : Wr} {s d : Int} {r : List Int} (h : cho (wsAt W s) d ≠ -1) : sayG W s (d :: r) = (cho (wsAt W s) d :: (sayG W (nxt W s (cho (wsAt W s) d)) r).1, (sayG W (nxt W s (cho (wsAt W s) d)) r).2) := by
  show (if cho (wsAt W s) d = -1 then _ else _) = _
  rw [if_neg h]
theorem tapeD_ints {t : Int} {d : PyData} (h : tapeD t d = true) : ∃ r : List Int, d = .tuple (r.map PyData.int) ∧ 1 ≤ r.length ∧ r.length ≤ 61 ∧ ∀ x ∈ r, 0 ≤ x ∧ x < t := by
  cases d
  case tuple ds =>
    have h' : (ds.all (belowD t) && (decide (1 ≤ ds.length) && decide (ds.length ≤ 61))) = true := h
    rw [Bool.and_eq_true, Bool.and_eq_true, decide_eq_true_eq, decide_eq_true_eq] at h'
    have key : ∀ ds : List PyData, ds.all (belowD t) = true → ∃ r : List Int, ds = r.map PyData.int ∧ ∀ x ∈ r, 0 ≤ x ∧ x < t := by
      intro ds
      induction ds with
      | nil => intro _; exact ⟨[], rfl, fun t ht => by simp at ht⟩
      | cons d ds ih =>
        intro e
        rw [List.all_cons, Bool.and_eq_true] at e
        obtain ⟨r, rfl, hr⟩ := ih e.2
        obtain ⟨i, rfl, i0, i1⟩ := belowD_int e.1
        refine ⟨i :: r, rfl, fun t ht => ?_⟩
        rcases List.mem_cons.mp ht with rfl | ht
        · exact ⟨i0, i1⟩
        · exact hr t ht
    obtain ⟨r, e, hr⟩ := key ds h'.1
    subst e
    rw [List.length_map] at h'
    exact ⟨r, rfl, h'.2.1, h'.2.2, hr⟩
  all_goals exact absurd h Bool.false_ne_true
theorem said_at {K : PySem.W.Frag} {H : Hp} {p q : Addr} {row : List Int} {b : Bool} {n : Int} (hp : H p = some (.tup [.ref q, .bl b, .int n])) (hq : H q = some (.tup (row.map V.int))) (hn : n = usedG (row, b)) : Dp K H (.ref p) (saidD (row, b)) := by
  subst hn
  exact .tup (.inl (.inl hp)) (.cons (.tup (.inl (.inl hq)) (dpAll_ints row)) (.cons (.bl b) (.cons (.int _) .nil)))
section
variable {P : Program} {w : World} {K : PySem.W.Frag} {mg : Str → Option Value} {base : Heap}
def sp_said (K : PySem.W.Frag) : Sp := fun vs H Q _ => ∃ a W m p r, vs = [.ref a, .ref p] ∧ WrAt K H a W ∧ W.Ok m ∧ SqT K H p (r.map V.int) ∧ r.length ≤ 61 ∧ (∀ v H', Same H H' → Dp K H' v (saidD (sayG W 0 r)) → Q v H')
theorem ok_said (T : Tx K mg) : FnOk P w K mg base CX0 2 T.f_said T.d_said ["writer", "tape"] (sp_said K) := by
  refine T.F_said.ok sc_said (fun vs H Q E h => ?_) (fun cdv A outer s H vs Q E hr h => ?_)
  · obtain ⟨a, W, m, p, r, rfl, _⟩ := h; rfl
  · obtain ⟨a, W, m, p, r, rfl, hW, hok, hp, n2, qq⟩ := h
    refine ⟨_, (pss_cons (ps_asg (pv 0) (pg_tup (by rfl) (pgs_cons (pg_name (i := 2) sc_said.nd rfl (Or.inl rfl)) (pgs_cons (pg_name (i := 3) sc_said.nd rfl (Or.inl rfl)) (pgs_cons (pg_name (i := 4) sc_said.nd rfl (Or.inl rfl)) pgs_nil)))))
    (pss_cons (ps_set (i := 5) sc_said.nd rfl (Or.inl rfl) (pe_lst pa_nil))
    (pss_cons (ps_set (i := 6) sc_said.nd rfl (Or.inl rfl) pe_int)
    (pss_cons (ps_for PassesOwn.never rfl (pi_tup (pv 1)) (pg_name (i := 7) sc_said.nd rfl (Or.inl rfl))
    (pss_cons (ps_set (i := 8) sc_said.nd rfl (Or.inl rfl) (pe_call (ok_chosen T) hr rfl T.g_chosen T.F_chosen.kp T.b_chosen .nil pass0 (pa_cons (pe_ix ix_tup (pv 3) (pv 6) (fun _ _ => rfl)) (pa_cons (pv 7) pa_nil))))
    (pss_cons (ps_if (pt_cmpR op_eq (pv 8) (pe_glob (v := .int (-1)) rfl T.c_END.choose_spec ⟨_, rfl⟩) (nomark _)) (pss_one (ps_ret (pe_tup (pa_cons (pe_callTy call_tuple_of (by rfl) T.n_tuple (by decide +kernel) (pa_cons (pv 5) pa_nil)) (pa_cons pe_bl (pa_cons (pe_op op_add (pe_callB call_len_seq (by rfl) T.n_len (by decide +kernel) (pa_cons (pv 5) pa_nil)) pe_int) pa_nil)))))) pss_nil)
    (pss_cons (ps_expr (pe_bm PySem.F.plainAttrs_list PySem.F.slot_list_append PySem.F.type_list_append mt_append (pv 5) (pa_cons (pv 8) pa_nil)))
    (pss_one (ps_set (i := 6) sc_said.nd rfl (Or.inl rfl) (pe_ix ix_tup (pe_ix ix_tup (pv 4) (pv 6) (fun _ _ => rfl)) (pv 8) (fun _ _ => rfl))))))))
    (pss_one (ps_ret (pe_tup (pa_cons (pe_callTy call_tuple_of (by rfl) T.n_tuple (by decide +kernel) (pa_cons (pv 5) pa_nil)) (pa_cons pe_bl (pa_cons (pe_callB call_len_seq (by rfl) T.n_len (by decide +kernel) (pa_cons (pv 5) pa_nil)) pa_nil)))))))))), ?_⟩
    obtain ⟨b, c, wv, nv, s1, s2, l1, s3, l2, g1, g2⟩ := hW.row
    refine ⟨.ref a, rfl, a, _, rfl, s1, rfl, .int W.total, _, rfl, .ref b, _, rfl, .ref c, _, rfl, rfl, ?_⟩
    refine ⟨Nat.zero_le _, fun L nL => ?_⟩
    have sL : Same H (upd H L (.lst [])) := same_new nL
    have nHL : H L = none := nL
    refine ⟨.ref p, rfl, p, rfl, ⟨_, seqT_grow (sL) hp⟩, ?_⟩
    refine for_tup (K := K) (a := p) (xs := r.map V.int) (fun i σ H' => ∃ s y8 y9 acc, σ = [some (.ref a), some (.ref p), some (.int W.total), some (.ref b), some (.ref c), some (.ref L), some (.int s), y8, y9] ∧ 0 ≤ s ∧ s < W.ws.length ∧
        Same H H' ∧ H' L = some (.lst (List.map V.int acc)) ∧ acc.length = i ∧ (acc ++ (sayG W s (r.drop i)).1, (sayG W s (r.drop i)).2) = sayG W 0 r)
      ⟨0, none, none, [], rfl, by omega, by have := hok.any1; omega, sL, upd_same, rfl, rfl⟩ (fun i σ H' _ h => ?_) (fun i x σ H' ex h => ?_) (fun σ H' h => ?_)
    · obtain ⟨_, _, _, _, _, _, _, sm', _⟩ := h
      exact seqT_grow sm' hp
    · obtain ⟨s, y8, y9, acc, rfl, k0, k1, sm', hL, el, e⟩ := h
      rw [List.getElem?_map] at ex
      cases et : r[i]? with
      | none => rw [et] at ex; cases ex
      | some d =>
        rw [et] at ex
        have ex' : V.int d = x := Option.some.inj ex
        subst ex'
        obtain ⟨lt, et'⟩ := List.getElem?_eq_some_iff.mp et
        rw [List.drop_eq_getElem_cons lt, et'] at e
        obtain ⟨ew, lw, sw, pw⟩ := hok.atW k0 k1
        obtain ⟨pp, epp, hpp⟩ := g1 _ _ ew
        refine ⟨.ref b, rfl, .int s, rfl, b, wv, s, _, rfl, rfl, seqT_grow sm' s2, at_ref k0 epp, .int d, rfl, pp, wsAt W s, d, rfl, seqT_grow sm' hpp, ?_, ?_, ?_⟩
        · intro z; rw [z] at lw; simp at lw
        · have := hok.few'; omega
        refine ⟨.int (cho (wsAt W s) d), rfl, rfl, _, rfl, ite2 (fun z => ?_) (fun z => ?_)⟩
        · have z1 : cho (wsAt W s) d = -1 := V.int.inj (of_decide_eq_true z)
          rw [sayG_end z1, List.append_nil] at e
          refine ⟨.ref L, rfl, L, _, rfl, .inl ⟨.inl (.inl hL), fun l nl => ?_⟩⟩
          have hL2 : (upd H' l (.tup (acc.map V.int))) L = some (.lst (acc.map V.int)) := by rw [upd_ne (ne_of_none hL nl)]; exact hL
          refine ⟨.ref L, rfl, L, _, rfl, .inl (.inl (.inl hL2)), _, _, rfl, rfl, small' (by simp), fun q nq => ?_⟩
          refine qq _ _ ((sm'.trans (same_new nl)).trans (same_new nq)) ?_
          rw [← e]
          refine said_at (q := l) upd_same ?_ ?_
          · rw [upd_ne (ne_of_none upd_same nq)]
            exact upd_same
          · show ((acc.map V.int).length : Int) + 1 = (acc.length : Int) + 1
            rw [List.length_map]
        · have z1 : cho (wsAt W s) d ≠ -1 := fun z2 => z (by rw [z2]; rfl)
          rw [sayG_on z1] at e
          rcases cho_in lw d with z2 | ⟨c0, c1⟩
          · exact absurd z2 z1
          obtain ⟨en, ln, an⟩ := hok.atN k0 k1
          obtain ⟨pn, epn, hpn⟩ := g2 _ _ en
          obtain ⟨en3, n0', n1'⟩ := hok.nxt k0 k1 c0 c1
          refine ⟨.ref L, rfl, .inl ⟨rfl, _, .inl (.inl hL)⟩, .int (cho (wsAt W s) d), rfl, L, _, _, rfl, rfl, hL, small (by rw [List.length_map]; omega), ?_⟩
          have sm2 : Same H (upd H' L (.lst (acc.map V.int ++ [.int (cho (wsAt W s) d)]))) := fun b' o' eb => by
            rw [upd_ne (ne_of_none eb nHL)]
            exact sm' b' o' eb
          refine ⟨.ref c, rfl, .int s, rfl, c, nv, s, _, rfl, rfl, seqT_grow sm2 s3, at_ref k0 epn, .int (cho (wsAt W s) d), rfl, pn, _, _, _, rfl, rfl, seqT_grow sm2 hpn, at_map c0 en3, ?_⟩
          refine ⟨nxt W s (cho (wsAt W s) d), some (.int d), some (.int (cho (wsAt W s) d)), acc ++ [cho (wsAt W s) d], rfl, n0', n1', sm2, ?_, ?_, ?_⟩
          · rw [upd_same, List.map_append]
            rfl
          · rw [List.length_append, el]
            rfl
          · rw [List.append_assoc]
            exact e
    · obtain ⟨s, y8, y9, acc, rfl, k0, k1, sm', hL, el, e⟩ := h
      rw [List.length_map, List.drop_length] at e
      have e' : (acc ++ [], false) = sayG W 0 r := e
      rw [List.append_nil] at e'
      rw [List.length_map] at el
      refine ⟨.ref L, rfl, L, _, rfl, .inl ⟨.inl (.inl hL), fun l nl => ?_⟩⟩
      have hL2 : (upd H' l (.tup (acc.map V.int))) L = some (.lst (acc.map V.int)) := by rw [upd_ne (ne_of_none hL nl)]; exact hL
      refine ⟨.ref L, rfl, L, _, rfl, .inl (.inl (.inl hL2)), small' (by simp), fun q nq => ?_⟩
      refine qq _ _ ((sm'.trans (same_new nl)).trans (same_new nq)) ?_
      rw [← e']
      refine said_at (q := l) upd_same ?_ ?_
      · rw [upd_ne (ne_of_none upd_same nq)]
        exact upd_same
      · show ((acc.map V.int).length : Int) = (acc.length : Int) + 0
        rw [List.length_map, Int.add_zero]
def sp_says (K : PySem.W.Frag) (C : Addr) : Sp := fun vs H Q E => ∃ t a W m x d, vs = [t, .ref a, x] ∧ WrAt K H a W ∧ W.Ok m ∧ Dp K H x d ∧ lenD d ≤ 1000 ∧
  (tapeD W.total d = false → Refuses C E H "tape") ∧ (∀ r : List Int, d = .tuple (r.map PyData.int) → tapeD W.total d = true → ∀ v H', Same H H' → Dp K H' v (saidD (sayG W 0 r)) → Q v H')
theorem ok_says (T : Tx K mg) : FnOk P w K mg base (L2.CX P w) 5 T.f_says T.d_says ["tokens", "writer", "tape"] (sp_says K T.C_NotUsable) := by
  refine T.F_says.okX sc_says (fun vs H Q E h => ?_) (fun cdv A outer s H vs Q E hr h => ?_)
  · obtain ⟨t, a, W, m, x, d, rfl, _⟩ := h; rfl
  · obtain ⟨t, a, W, m, x, d, rfl, hW, hok, hd, hz, q1, q2⟩ := h
    refine ⟨_, (pss_cons (ps_if (PW.pt (pw_or (pt_not (pt_val (pe_call (ok_are_below T) hr rfl T.g_are_below T.F_are_below.kp T.b_are_below .nil pass0 (pa_cons (pv 2) (pa_cons (pe_ix ix_tup (pv 1) pe_int (fun _ _ => rfl)) pa_nil))))) (pw_or1 (pt_not (pt_chain op_le op_le pe_int (pe_callB call_len_seq (by rfl) T.n_len (by decide +kernel) (pa_cons (pv 2) pa_nil)) (pe_op op_add (pe_glob (v := .int (60)) rfl T.c_BUDGET_LIMIT.choose_spec ⟨_, rfl⟩) pe_int)))))) (pss_one (ps_raiseNus rfl T.nus hr (takes_of rfl rfl rfl rfl) (pa_cons pe_str pa_nil))) pss_nil)
    (pss_one (ps_ret (pe_call (ok_said T) (hr.mono (by decide)) rfl T.g_said T.F_said.kp T.b_said .nil pass0 (pa_cons (pv 1) (pa_cons (pv 2) pa_nil)))))), ?_⟩
    obtain ⟨b, c, wv, nv, s1, s2, l1, s3, l2, g1, g2⟩ := hW.row
    refine ⟨x, rfl, .ref a, rfl, a, _, 0, .int W.total, rfl, rfl, s1, rfl, x, d, _, rfl, hd, hz, fun H1 sm => ?_⟩
    refine ⟨_, rfl, ?_⟩
    have no : tapeD W.total d = false → ∀ dd, H1 dd = none → E (.ref T.C_NotUsable) (some dd) (upd H1 dd (.xd [("word", .str "tape")])) := fun e dd n => q1 e H1 dd sm n
    cases e0 : tapeD W.total d with
    | false =>
      have no' := no e0
      cases d
      case tuple ds =>
        obtain ⟨p, xs, rfl, hp, ha⟩ : ∃ p xs, x = .ref p ∧ SqT K H p xs ∧ DpAll K H xs ds := by
          cases hd with
          | tup hs ha => exact ⟨_, _, rfl, hs, ha⟩
        have el := dpAll_len ha
        have e0' : (ds.all (belowD W.total) && (decide (1 ≤ ds.length) && decide (ds.length ≤ 61))) = false := e0
        show if (!(ds.all (belowD W.total))) = true then _ else _
        cases e : ds.all (belowD W.total) with
        | false => exact ⟨_, rfl, fun dd n => no' dd n⟩
        | true =>
          rw [e, Bool.true_and] at e0'
          refine ⟨.ref p, rfl, p, xs, rfl, .inr (seqT_grow sm hp), 1, _, rfl, rfl, _, rfl, ?_⟩
          by_cases h1 : 1 ≤ xs.length
          · rw [decide_eq_true (show (1 : Int) ≤ (xs.length : Int) by omega)]
            rw [decide_eq_true (show 1 ≤ ds.length by omega), Bool.true_and, decide_eq_false_iff_not] at e0'
            refine ⟨60, 1, rfl, rfl, _, _, rfl, rfl, _, rfl, ?_⟩
            rw [decide_eq_false (show ¬ ((xs.length : Int) ≤ 60 + 1) by omega)]
            exact ⟨_, rfl, fun dd n => no' dd n⟩
          · rw [decide_eq_false (show ¬ (1 : Int) ≤ (xs.length : Int) by omega)]
            exact ⟨_, rfl, _, rfl, fun dd n => no' dd n⟩
      all_goals exact ⟨_, rfl, fun dd n => no' dd n⟩
    | true =>
      obtain ⟨r, rfl, n1, n2, hr2⟩ := tapeD_ints e0
      obtain ⟨p, xs, rfl, hp, ha⟩ : ∃ p xs, x = .ref p ∧ SqT K H p xs ∧ DpAll K H xs (r.map PyData.int) := by
        cases hd with
        | tup hs ha => exact ⟨_, _, rfl, hs, ha⟩
      have ex := ints_of_dp ha
      subst ex
      have eA : (r.map PyData.int).all (belowD W.total) = true := by
        have h' : ((r.map PyData.int).all (belowD W.total) && _) = true := e0
        exact (Bool.and_eq_true_iff.mp h').1
      show if (!((r.map PyData.int).all (belowD W.total))) = true then _ else _
      rw [eA]
      refine ⟨.ref p, rfl, p, _, rfl, .inr (seqT_grow sm hp), 1, _, rfl, rfl, _, rfl, ?_⟩
      rw [decide_eq_true (show (1 : Int) ≤ ((r.map V.int).length : Int) by rw [List.length_map]; omega)]
      refine ⟨60, 1, rfl, rfl, _, _, rfl, rfl, _, rfl, ?_⟩
      rw [decide_eq_true (show ((r.map V.int).length : Int) ≤ 60 + 1 by rw [List.length_map]; omega)]
      exact ⟨.ref a, rfl, .ref p, rfl, a, W, m, p, r, rfl, hW.grow sm, hok, seqT_grow sm hp, n2, fun v H' s2 hv => q2 r rfl e0 v H' (sm.trans s2) hv⟩

end
end K4
set_option Elab.async false
set_option linter.all false
set_option maxRecDepth 100000
set_option maxHeartbeats 2000000
namespace K4
open PySem PySem.Spec PyProof.Rows L2 Ver
theorem le_sum : ∀ {r : List Int} {x : Int}, (∀ y ∈ r, 0 ≤ y) → x ∈ r → x ≤ r.sum
  | [], x, _, h => by simp at h
  | y :: r, x, hp, h => by
    rw [List.sum_cons]
    have pr : ∀ z ∈ r, 0 ≤ z := fun z hz => hp z (List.mem_cons_of_mem _ hz)
    have sp : 0 ≤ r.sum := sum_pos pr
    have y0 := hp y List.mem_cons_self
    rcases List.mem_cons.mp h with rfl | h
    · omega
    · have := le_sum pr h
      omega
where sum_pos : ∀ {r : List Int}, (∀ y ∈ r, 0 ≤ y) → 0 ≤ r.sum
  | [], _ => by simp
  | y :: r, hp => by
    rw [List.sum_cons]
    have := sum_pos (r := r) (fun z hz => hp z (List.mem_cons_of_mem _ hz))
    have := hp y List.mem_cons_self
    omega
def wtAt (W : Wr) (s t : Int) : Int := ((wsAt W s)[t.toNat]?).getD 0
def wtEnd (W : Wr) (s : Int) : Int := ((wsAt W s).getLast?).getD 0
def prG (W : Wr) : Int → Int → List Int → Int
  | s, acc, [] => acc * wtEnd W s
  | s, acc, t :: r => prG W (nxt W s t) (acc * wtAt W s t) r
def manyG (W : Wr) (r : List Int) (n : Int) : Int := if (r.length : Int) > n then 0 else prG W 0 1 r * W.total ^ (n - r.length).toNat
theorem Wr.Ok.wt {W : Wr} {m : Nat} (o : W.Ok m) {s t : Int} (h0 : 0 ≤ s) (h1 : s < W.ws.length) (t0 : 0 ≤ t) (t1 : t ≤ m) : (wsAt W s)[t.toNat]? = some (wtAt W s t) ∧ 0 ≤ wtAt W s t ∧ wtAt W s t ≤ 2000000 := by
  obtain ⟨_, l, sm, al⟩ := o.atW h0 h1
  have lt : t.toNat < (wsAt W s).length := by omega
  have e1 : (wsAt W s)[t.toNat]? = Option.some (wsAt W s)[t.toNat] := List.getElem?_eq_getElem lt
  have e2 : wtAt W s t = (wsAt W s)[t.toNat] := by unfold wtAt; rw [e1]; rfl
  rw [e2]
  have h3 := le_sum al (List.getElem_mem lt)
  have h4 := o.most
  exact ⟨e1, al _ (List.getElem_mem lt), by omega⟩
theorem Wr.Ok.wend {W : Wr} {m : Nat} (o : W.Ok m) {s : Int} (h0 : 0 ≤ s) (h1 : s < W.ws.length) : atI ((wsAt W s).map V.int) (-1) = Option.some (.int (wtEnd W s)) ∧ 0 ≤ wtEnd W s ∧ wtEnd W s ≤ 2000000 ∧ wtEnd W s = wtAt W s m := by
  obtain ⟨_, l, sm, al⟩ := o.atW h0 h1
  have ne : wsAt W s ≠ [] := by intro z; rw [z] at l; simp at l
  have e1 : (wsAt W s).getLast? = Option.some ((wsAt W s).getLast ne) := List.getLast?_eq_getLast ne
  have e2 : wtEnd W s = (wsAt W s).getLast ne := by unfold wtEnd; rw [e1]; rfl
  have h3 := le_sum al (List.getLast_mem ne)
  have h4 := o.most
  refine ⟨?_, by rw [e2]; exact al _ (List.getLast_mem ne), by omega, ?_⟩
  · rw [e2]
    have e3 : (wsAt W s).map V.int = ((wsAt W s).dropLast.map V.int) ++ [.int ((wsAt W s).getLast ne)] := by
      rw [← List.map_singleton, ← List.map_append, List.dropLast_concat_getLast]
    rw [e3]
    exact atI_last _ _
  · unfold wtEnd wtAt
    rw [List.getLast?_eq_getElem?, l, Int.toNat_natCast]
    rfl
theorem prG_step {W : Wr} {s acc t : Int} {r : List Int} {i : Nat} (e : r[i]? = some t) : prG W s acc (r.drop i) = prG W (nxt W s t) (acc * wtAt W s t) (r.drop (i + 1)) := by
  obtain ⟨lt, e'⟩ := List.getElem?_eq_some_iff.mp e
  rw [List.drop_eq_getElem_cons lt, e']
  rfl
theorem shortD_int {d : PyData} (h : shortD d = true) : ∃ i : Int, d = .int i ∧ 0 ≤ i ∧ i ≤ 60 := by
  cases d
  case int i =>
    have h' : (decide (0 ≤ i) && decide (i ≤ 60)) = true := h
    rw [Bool.and_eq_true, decide_eq_true_eq, decide_eq_true_eq] at h'
    exact ⟨i, rfl, h'.1, h'.2⟩
  all_goals exact absurd h Bool.false_ne_true
theorem rep_one {α : Type} (n : Nat) (x : α) : (List.replicate n [x]).flatten = List.replicate n x := by
  induction n with
  | zero => rfl
  | succ n ih => rw [List.replicate_succ, List.flatten_cons, ih, List.replicate_succ]; rfl
theorem dp_rep {K : PySem.W.Frag} {H : Hp} (n : Nat) (i : Int) : DpAll K H (List.replicate n (.int i)) (List.replicate n (.int i)) := by
  induction n with
  | zero => exact .nil
  | succ n ih => rw [List.replicate_succ, List.replicate_succ]; exact .cons (.int i) ih
section
variable {P : Program} {w : World} {K : PySem.W.Frag} {mg : Str → Option Value} {base : Heap}
def sp_tapes_of (K : PySem.W.Frag) (C : Addr) : Sp := fun vs H Q E => ∃ t ts a W x d y e, vs = [.ref t, .ref a, x, y] ∧ SqT K H t ts ∧ WrAt K H a W ∧ W.Ok ts.length ∧ Dp K H x d ∧ lenD d ≤ 1000 ∧ Dp K H y e ∧
  (rowD ts.length d = false → Refuses C E H "row") ∧ (rowD ts.length d = true → shortD e = false → Refuses C E H "budget") ∧
  (∀ (r : List Int) (n : Int), d = .tuple (r.map PyData.int) → e = .int n → rowD ts.length d = true → shortD e = true → ∀ H', Same H H' → Q (.int (manyG W r n)) H')
theorem ok_tapes_of (T : Tx K mg) : FnOk P w K mg base (L2.CX P w) 6 T.f_tapes_of T.d_tapes_of ["tokens", "writer", "row", "budget"] (sp_tapes_of K T.C_NotUsable) := by
  refine T.F_tapes_of.okX sc_tapes_of (fun vs H Q E h => ?_) (fun cdv A outer s H vs Q E hr h => ?_)
  · obtain ⟨t, ts, a, W, x, d, y, e, rfl, _⟩ := h; rfl
  · obtain ⟨t, ts, a, W, x, d, y, e, rfl, hT, hW, hok, hd, hz, he, q1, q2, q3⟩ := h
    refine ⟨_, (pss_cons (ps_expr (pe_call (ok_ask_row T) hr rfl T.g_ask_row T.F_ask_row.kp T.b_ask_row .nil (passes_call (takes_of rfl rfl rfl rfl) (fun _ _ _ _ h => h)) (pa_cons (pv 0) (pa_cons (pv 2) pa_nil))))
    (pss_cons (ps_expr (pe_call (ok_ask_short T) (hr.mono (by decide)) rfl T.g_ask_short T.F_ask_short.kp T.b_ask_short .nil (passes_call (takes_of rfl rfl rfl rfl) (fun _ _ _ _ h => h)) (pa_cons (pv 3) (pa_cons pe_str pa_nil))))
    (pss_cons (ps_if (pt_cmpR op_gt (pe_callB call_len_seq (by rfl) T.n_len (by decide +kernel) (pa_cons (pv 2) pa_nil)) (pv 3) (nomark _)) (pss_one (ps_ret pe_int)) pss_nil)
    (pss_cons (ps_asg (pv 1) (pg_tup (by rfl) (pgs_cons (pg_name (i := 4) sc_tapes_of.nd rfl (Or.inl rfl)) (pgs_cons (pg_name (i := 5) sc_tapes_of.nd rfl (Or.inl rfl)) (pgs_cons (pg_name (i := 6) sc_tapes_of.nd rfl (Or.inl rfl)) pgs_nil)))))
    (pss_cons (ps_set (i := 7) sc_tapes_of.nd rfl (Or.inl rfl) pe_int)
    (pss_cons (ps_set (i := 8) sc_tapes_of.nd rfl (Or.inl rfl) pe_int)
    (pss_cons (ps_for (passes_of rfl) rfl (pi_tup (pv 2)) (pg_name (i := 9) sc_tapes_of.nd rfl (Or.inl rfl))
    (pss_cons (ps_aug (i := 7) sc_tapes_of.nd rfl (Or.inl rfl) (pe_ix ix_tup (pe_ix ix_tup (pv 5) (pv 8) (fun _ _ => rfl)) (pv 9) (fun _ _ => rfl)) iop_mul)
    (pss_one (ps_set (i := 8) sc_tapes_of.nd rfl (Or.inl rfl) (pe_ix ix_tup (pe_ix ix_tup (pv 6) (pv 8) (fun _ _ => rfl)) (pv 9) (fun _ _ => rfl))))))
    (pss_cons (ps_aug (i := 7) sc_tapes_of.nd rfl (Or.inl rfl) (pe_ix ix_tup (pe_ix ix_tup (pv 5) (pv 8) (fun _ _ => rfl)) (pe_glob (v := .int (-1)) rfl T.c_END.choose_spec ⟨_, rfl⟩) (fun _ _ => rfl)) iop_mul)
    (pss_cons (ps_for (passes_of rfl) rfl (pi_range1 rfl T.n_range (pa_cons (pe_op op_sub (pv 3) (pe_callB call_len_seq (by rfl) T.n_len (by decide +kernel) (pa_cons (pv 2) pa_nil))) pa_nil)) (pg_name (i := 10) sc_tapes_of.nd rfl (Or.inl rfl))
    (pss_one (ps_aug (i := 7) sc_tapes_of.nd rfl (Or.inl rfl) (pv 4) iop_mul)))
    (pss_one (ps_ret (pv 7)))))))))))), ?_⟩
    refine ⟨.ref t, rfl, x, rfl, t, ts, x, d, rfl, hT, hd, hz, fun k H1 sm => ?_, fun k => ?_⟩
    rotate_left
    · exact fun H' dd sm n => q1 k H' dd sm n
    refine ⟨y, rfl, y, e, _, rfl, dp_grow sm he, fun k2 => ?_, fun k2 H' dd sm2 n => q2 k k2 H' dd (sm.trans sm2) n⟩
    obtain ⟨r, rfl, hr2⟩ := rowD_ints k
    obtain ⟨n, rfl, hn0, hn1⟩ := shortD_int k2
    cases he
    obtain ⟨p, xs, rfl, hp, ha⟩ : ∃ p xs, x = .ref p ∧ SqT K H p xs ∧ DpAll K H xs (r.map PyData.int) := by
      cases hd with
      | tup hs ha => exact ⟨_, _, rfl, hs, ha⟩
    have ex := ints_of_dp ha
    subst ex
    have q := q3 r n rfl rfl k k2 H1 sm
    have hp1 := seqT_grow sm hp
    obtain ⟨b, c, wv, nv, s1, s2, l1, s3, l2, g1, g2⟩ := (hW.grow sm).row
    refine ⟨.ref p, rfl, p, _, rfl, .inr hp1, .int n, rfl, _, n, rfl, rfl, _, rfl, ite2 (fun z => ?_) (fun z => ?_)⟩
    · have z1 := of_decide_eq_true z
      rw [List.length_map] at z1
      have e0 : manyG W r n = 0 := by unfold manyG; rw [if_pos z1]
      rw [e0] at q
      exact q
    · have z1 : ¬ ((r.length : Int) > n) := fun z2 => z (decide_eq_true (by rw [List.length_map]; exact z2))
      refine ⟨.ref a, rfl, a, _, rfl, s1, rfl, .int W.total, _, rfl, .ref b, _, rfl, .ref c, _, rfl, rfl, ?_⟩
      refine ⟨.ref p, rfl, p, rfl, ⟨_, hp1⟩, ?_⟩
      refine for_tup (K := K) (a := p) (xs := r.map V.int) (fun i σ H' => H' = H1 ∧ ∃ s acc y9 y10, σ = [some (.ref t), some (.ref a), some (.ref p), some (.int n), some (.int W.total), some (.ref b), some (.ref c), some (.int acc), some (.int s), y9, y10] ∧ 0 ≤ s ∧ s < W.ws.length ∧
          prG W s acc (r.drop i) = prG W 0 1 r)
        ⟨rfl, 0, 1, none, none, rfl, by omega, by have := hok.any1; omega, rfl⟩ (fun i σ H' _ h => by rw [h.1]; exact hp1) (fun i x σ H' ex h => ?_) (fun σ H' h => ?_)
      · obtain ⟨rfl, s, acc, y9, y10, rfl, k0, k1, e⟩ := h
        rw [List.getElem?_map] at ex
        cases et : r[i]? with
        | none => rw [et] at ex; cases ex
        | some d =>
          rw [et] at ex
          have ex' : V.int d = x := Option.some.inj ex
          subst ex'
          obtain ⟨t0, t1⟩ := hr2 d (List.mem_of_getElem? et)
          obtain ⟨ew, lw, sw, pw⟩ := hok.atW k0 k1
          obtain ⟨pp, epp, hpp⟩ := g1 _ _ ew
          obtain ⟨en, ln, an⟩ := hok.atN k0 k1
          obtain ⟨pn, epn, hpn⟩ := g2 _ _ en
          obtain ⟨en3, n0', n1'⟩ := hok.nxt k0 k1 t0 t1
          obtain ⟨ewt, w0, w1⟩ := hok.wt k0 k1 t0 (Int.le_of_lt t1)
          refine ⟨.int acc, rfl, .ref b, rfl, .int s, rfl, b, wv, s, _, rfl, rfl, s2, at_ref k0 epp, .int d, rfl, pp, _, d, _, rfl, rfl, hpp, at_map t0 ewt, acc, _, rfl, rfl, .inr ⟨by omega, by omega⟩, ?_⟩
          refine ⟨.ref c, rfl, .int s, rfl, c, nv, s, _, rfl, rfl, s3, at_ref k0 epn, .int d, rfl, pn, _, d, _, rfl, rfl, hpn, at_map t0 en3, ?_⟩
          refine ⟨rfl, nxt W s d, acc * wtAt W s d, some (.int d), y10, rfl, n0', n1', ?_⟩
          rw [← prG_step et]
          exact e
      · obtain ⟨rfl, s, acc, y9, y10, rfl, k0, k1, e⟩ := h
        rw [List.length_map, List.drop_length] at e
        have e' : acc * wtEnd W s = prG W 0 1 r := e
        obtain ⟨ew, lw, sw, pw⟩ := hok.atW k0 k1
        obtain ⟨pp, epp, hpp⟩ := g1 _ _ ew
        obtain ⟨ee, w0, w1, _⟩ := hok.wend k0 k1
        refine ⟨.int acc, rfl, .ref b, rfl, .int s, rfl, b, wv, s, _, rfl, rfl, s2, at_ref k0 epp, pp, _, -1, _, rfl, rfl, hpp, ee, acc, _, rfl, rfl, .inr ⟨by omega, by omega⟩, ?_⟩
        refine ⟨.int n, rfl, .ref p, rfl, p, _, rfl, .inr hp1, n, _, rfl, rfl, _, rfl, ?_, ?_, ?_⟩
        · rw [List.length_map]; omega
        · rw [List.length_map]; omega
        refine for_range0 (n := (n - ((r.map V.int).length : Int)).toNat) (fun i σ H2 => H2 = H' ∧ ∃ y10, σ = [some (.ref t), some (.ref a), some (.ref p), some (.int n), some (.int W.total), some (.ref b), some (.ref c), some (.int (prG W 0 1 r * W.total ^ i)), some (.int s), y9, y10])
          ⟨rfl, y10, by rw [Int.pow_zero, Int.mul_one, ← e']; rfl⟩ (fun i σ H' lt h => ?_) (fun σ H' h => ?_)
        · obtain ⟨rfl, z10, rfl⟩ := h
          have t1 := hok.pos
          have t2 := hok.most
          refine ⟨.int (prG W 0 1 r * W.total ^ i), rfl, .int W.total, rfl, _, _, rfl, rfl, .inr ⟨by omega, by omega⟩, rfl, some (.int (i : Int)), ?_⟩
          rw [Int.pow_succ, ← Int.mul_assoc]
          rfl
        · obtain ⟨rfl, z10, rfl⟩ := h
          refine ⟨_, rfl, ?_⟩
          have e0 : manyG W r n = prG W 0 1 r * W.total ^ (n - ((r.map V.int).length : Int)).toNat := by
            unfold manyG
            rw [if_neg z1, List.length_map]
          rw [e0] at q
          exact q

def sp_even_writer (K : PySem.W.Frag) : Sp := fun vs H Q _ => ∃ t ts, vs = [.ref t] ∧ SqT K H t ts ∧ 1 ≤ ts.length ∧ ts.length ≤ 12 ∧
  ∀ v H', Same H H' → Dp K H' v (.tuple [.int (ts.length + 1), .tuple [.tuple (List.replicate (ts.length + 1) (.int 1))], .tuple [.tuple (List.replicate ts.length (.int 0))]]) → Q v H'
theorem ok_even_writer (T : Tx K mg) : FnOk P w K mg base CX0 1 T.f_even_writer T.d_even_writer ["tokens"] (sp_even_writer K) := by
  refine T.F_even_writer.ok sc_even_writer (fun vs H Q E h => ?_) (fun cdv A outer s H vs Q E hr h => ?_)
  · obtain ⟨t, ts, rfl, _⟩ := h; rfl
  · obtain ⟨t, ts, rfl, hT, n1, n2, q⟩ := h
    refine ⟨_, (pss_cons (ps_set (i := 1) sc_even_writer.nd rfl (Or.inl rfl) (pe_callB call_len_seq (by rfl) T.n_len (by decide +kernel) (pa_cons (pv 0) pa_nil)))
    (pss_one (ps_ret (pe_tup (pa_cons (pe_op op_add (pv 1) pe_int) (pa_cons (pe_tup (pa_cons (pe_op op_repA (pe_tup (pa_cons pe_int pa_nil)) (pe_op op_add (pv 1) pe_int)) pa_nil)) (pa_cons (pe_tup (pa_cons (pe_op op_repA (pe_tup (pa_cons pe_int pa_nil)) (pv 1)) pa_nil)) pa_nil))))))), ?_⟩
    refine ⟨.ref t, rfl, t, ts, rfl, .inr hT, ?_⟩
    refine ⟨.int ts.length, rfl, _, _, rfl, rfl, ?_⟩
    refine ⟨small' (by decide), fun p1 np1 => ?_⟩
    refine ⟨.int ts.length, rfl, _, _, rfl, rfl, ?_⟩
    have s1 : Same H (upd H p1 (.tup [.int 1])) := same_new np1
    refine ⟨p1, _, [.int 1], rfl, rfl, .inl (.inl upd_same), by simp, by omega, by omega, by simp, fun z => absurd z (by omega), fun _ p2 np2 => ?_⟩
    refine ⟨small' (by simp), fun p3 np3 => ?_⟩
    refine ⟨small' (by simp), fun p4 np4 => ?_⟩
    have e1 : ((ts.length : Int) + 1).toNat = ts.length + 1 := by omega
    generalize hH2 : upd (upd H p1 (.tup [.int 1])) p2 (.tup (List.replicate ((ts.length : Int) + 1).toNat [V.int 1]).flatten) = H2 at np3 np4 ⊢
    have t2 : H2 p2 = some (.tup (List.replicate (ts.length + 1) (V.int 1))) := by
      rw [← hH2, upd_same, e1, rep_one]
    have s2 : Same H H2 := by rw [← hH2]; exact s1.trans (same_new np2)
    generalize hH3 : upd H2 p3 (.tup [.ref p2]) = H3 at np4 ⊢
    have s3 : Same H2 H3 := by rw [← hH3]; exact same_new np3
    have t3 : H3 p3 = some (.tup [.ref p2]) := by rw [← hH3]; exact upd_same
    generalize hH4 : upd H3 p4 (.tup [.int 0]) = H4
    have s4 : Same H3 H4 := by rw [← hH4]; exact same_new np4
    have t4 : H4 p4 = some (.tup [.int 0]) := by rw [← hH4]; exact upd_same
    have go : ∀ z H5, Same H4 H5 → H5 z = some (.tup (List.replicate ts.length (V.int 0))) → ∀ p6, H5 p6 = none → ∀ p7, (upd H5 p6 (.tup [.ref z])) p7 = none → Q (.ref p7) (upd (upd H5 p6 (.tup [.ref z])) p7 (.tup [.int ((ts.length : Int) + 1), .ref p3, .ref p6])) := fun z H5 s5 tz p6 np6 p7 np7 => by
      have s6 : Same H5 (upd H5 p6 (.tup [.ref z])) := same_new np6
      have s7 := same_new (o := .tup [.int ((ts.length : Int) + 1), .ref p3, .ref p6]) np7
      refine q _ _ (((((s2.trans s3).trans s4).trans s5).trans s6).trans s7) ?_
      refine .tup (.inl (.inl upd_same)) (.cons (.int _) (.cons ?_ (.cons ?_ .nil)))
      · refine .tup (.inl (.inl (s7 _ _ (s6 _ _ (s5 _ _ (s4 _ _ t3)))))) (.cons ?_ .nil)
        exact .tup (.inl (.inl (s7 _ _ (s6 _ _ (s5 _ _ (s4 _ _ (s3 _ _ t2))))))) (dp_rep _ _)
      · refine .tup (.inl (.inl (s7 _ _ upd_same))) (.cons ?_ .nil)
        exact .tup (.inl (.inl (s7 _ _ (s6 _ _ tz)))) (dp_rep _ _)
    refine ⟨.int ts.length, rfl, p4, _, [.int 0], rfl, rfl, .inl (.inl t4), by simp, by omega, by omega, by simp, fun z => ?_, fun z p5 np5 => ?_⟩
    · have z1 : ts.length = 1 := by omega
      refine ⟨small' (by simp), fun p6 np6 => ⟨small' (by simp), fun p7 np7 => ?_⟩⟩
      exact go p4 H4 (Same.refl _) (by rw [t4, z1]; rfl) p6 np6 p7 np7
    · refine ⟨small' (by simp), fun p6 np6 => ⟨small' (by simp), fun p7 np7 => ?_⟩⟩
      exact go p5 _ (same_new np5) (by rw [upd_same, Int.toNat_natCast, rep_one]) p6 np6 p7 np7
end
end K4
set_option Elab.async false
set_option linter.all false
set_option maxRecDepth 100000
set_option maxHeartbeats 2000000
namespace K4
open PySem PySem.Spec PyProof.Rows L2 Ver
def okD : Nat → PyData → Prop
  | n + 1, .tuple ds => ds.length ≤ 100000 ∧ ∀ e ∈ ds, okD n e
  | n + 1, .list ds => ds.length ≤ 100000 ∧ ∀ e ∈ ds, okD n e
  | _, .none => True
  | _, .bool _ => True
  | _, .int _ => True
  | _, .str _ => True
  | _, _ => False
section
variable {P : Program} {w : World} {K : PySem.W.Frag} {mg : Str → Option Value} {base : Heap}
def sp__law_same (n : Nat) (K : PySem.W.Frag) : Sp := fun vs H Q _ => ∃ x y d, vs = [x, y] ∧ Dp K H x d ∧ Dp K H y d ∧ okD n d ∧ ∀ H', Same H H' → Q (.bl true) H'
theorem ok__law_same (T : Tx K mg) : ∀ n, FnOk P w K mg base CX0 (n + 1) T.f__law_same T.d__law_same ["told", "due"] (sp__law_same n K)
  | 0 => by
    refine T.F__law_same.ok sc__law_same (fun vs H Q E h => ?_) (fun cdv A outer s H vs Q E hr h => ?_)
    · obtain ⟨x, y, d, rfl, _⟩ := h; rfl
    obtain ⟨x, y, d, rfl, hx, hy, ho, q⟩ := h
    refine ⟨_, (pss_cons (ps_if (pt_cmpR op_isN (pv 1) pe_non (nomark _)) (pss_one (ps_ret (pe_cmpR op_isN (pv 0) pe_non (nomark _)))) pss_nil)
    (pss_cons (ps_if (pt_val (pe_callB (cr_isiD (n := "bool") (by decide)) (by rfl) T.n_isinstance (by decide +kernel) (pa_cons (pv 1) (pa_cons (pe_bltn (v := .ty "bool") (by rfl) T.n_bool (by decide +kernel) rfl) pa_nil)))) (pss_one (ps_ret (pe_and (pe_callB (cr_isiD (n := "bool") (by decide)) (by rfl) T.n_isinstance (by decide +kernel) (pa_cons (pv 0) (pa_cons (pe_bltn (v := .ty "bool") (by rfl) T.n_bool (by decide +kernel) rfl) pa_nil))) (pe_one (pe_cmpR op_eq (pv 0) (pv 1) (nomark _)))))) pss_nil)
    (pss_cons (ps_if (pt_val (pe_callB (cr_isiD (n := "int") (by decide)) (by rfl) T.n_isinstance (by decide +kernel) (pa_cons (pv 1) (pa_cons (pe_bltn (v := .ty "int") (by rfl) T.n_int (by decide +kernel) rfl) pa_nil)))) (pss_one (ps_ret (pe_and (pe_callB (cr_isiD (n := "int") (by decide)) (by rfl) T.n_isinstance (by decide +kernel) (pa_cons (pv 0) (pa_cons (pe_bltn (v := .ty "int") (by rfl) T.n_int (by decide +kernel) rfl) pa_nil))) (pe_and (pe_not (pe_callB (cr_isiD (n := "bool") (by decide)) (by rfl) T.n_isinstance (by decide +kernel) (pa_cons (pv 0) (pa_cons (pe_bltn (v := .ty "bool") (by rfl) T.n_bool (by decide +kernel) rfl) pa_nil)))) (pe_one (pe_cmpR op_eq (pv 0) (pv 1) (nomark _))))))) pss_nil)
    (pss_cons (ps_if (pt_val (pe_callB (cr_isiD (n := "str") (by decide)) (by rfl) T.n_isinstance (by decide +kernel) (pa_cons (pv 1) (pa_cons (pe_bltn (v := .ty "str") (by rfl) T.n_str (by decide +kernel) rfl) pa_nil)))) (pss_one (ps_ret (pe_and (pe_callB (cr_isiD (n := "str") (by decide)) (by rfl) T.n_isinstance (by decide +kernel) (pa_cons (pv 0) (pa_cons (pe_bltn (v := .ty "str") (by rfl) T.n_str (by decide +kernel) rfl) pa_nil))) (pe_one (pe_cmpR op_eq (pv 0) (pv 1) (nomark _)))))) pss_nil)
    (pss_cons (ps_if (pt_val (pe_callB (cr_isiD (n := "tuple") (by decide)) (by rfl) T.n_isinstance (by decide +kernel) (pa_cons (pv 1) (pa_cons (pe_bltn (v := .ty "tuple") (by rfl) T.n_tuple (by decide +kernel) rfl) pa_nil)))) (pss_one (ps_if (PW.pt (pw_or (pt_not (pt_val (pe_callB (cr_isiD (n := "tuple") (by decide)) (by rfl) T.n_isinstance (by decide +kernel) (pa_cons (pv 0) (pa_cons (pe_bltn (v := .ty "tuple") (by rfl) T.n_tuple (by decide +kernel) rfl) pa_nil))))) (pw_or1 (pt_cmpR op_ne (pe_callB call_len_seq (by rfl) T.n_len (by decide +kernel) (pa_cons (pv 0) pa_nil)) (pe_callB call_len_seq (by rfl) T.n_len (by decide +kernel) (pa_cons (pv 1) pa_nil)) (nomark _))))) (pss_one (ps_ret pe_bl)) pss_nil)) (pss_one (ps_if (PW.pt (pw_or (pt_not (pt_val (pe_callB (cr_isiD (n := "list") (by decide)) (by rfl) T.n_isinstance (by decide +kernel) (pa_cons (pv 0) (pa_cons (pe_bltn (v := .ty "list") (by rfl) T.n_list (by decide +kernel) rfl) pa_nil))))) (pw_or1 (pt_cmpR op_ne (pe_callB call_len_seq (by rfl) T.n_len (by decide +kernel) (pa_cons (pv 0) pa_nil)) (pe_callB call_len_seq (by rfl) T.n_len (by decide +kernel) (pa_cons (pv 1) pa_nil)) (nomark _))))) (pss_one (ps_ret pe_bl)) pss_nil)))
    (pss_cons ps_never
    (pss_one (ps_ret pe_bl)))))))), ?_⟩
    have q := q H (Same.refl H)
    refine ⟨y, rfl, rfl, _, rfl, ?_⟩
    cases d
    case none =>
      cases hx
      cases hy
      exact ⟨.non, rfl, rfl, q⟩
    case bool b =>
      cases hx
      cases hy
      refine ⟨.bl b, rfl, .bl b, .bool b, rfl, .bl b, _, rfl, ?_⟩
      refine ⟨.bl b, rfl, .bl b, .bool b, rfl, .bl b, _, rfl, ?_⟩
      refine ⟨.bl b, rfl, .bl b, rfl, rfl, ?_⟩
      rw [decide_eq_true rfl]
      exact q
    case int i =>
      cases hx
      cases hy
      refine ⟨.int i, rfl, .int i, .int i, rfl, .int i, _, rfl, ?_⟩
      refine ⟨.int i, rfl, .int i, .int i, rfl, .int i, _, rfl, ?_⟩
      refine ⟨.int i, rfl, .int i, .int i, rfl, .int i, _, rfl, ?_⟩
      refine ⟨.int i, rfl, .int i, .int i, rfl, .int i, _, rfl, _, rfl, ?_⟩
      refine ⟨.int i, rfl, .int i, rfl, rfl, ?_⟩
      rw [decide_eq_true rfl]
      exact q
    case str z =>
      cases hx
      cases hy
      refine ⟨.str z, rfl, .str z, .str z, rfl, .str z, _, rfl, ?_⟩
      refine ⟨.str z, rfl, .str z, .str z, rfl, .str z, _, rfl, ?_⟩
      refine ⟨.str z, rfl, .str z, .str z, rfl, .str z, _, rfl, ?_⟩
      refine ⟨.str z, rfl, .str z, .str z, rfl, .str z, _, rfl, ?_⟩
      refine ⟨.str z, rfl, .str z, rfl, rfl, ?_⟩
      rw [decide_eq_true rfl]
      exact q
    all_goals exact ho.elim
  | n + 1 => by
    have IH := ok__law_same T n
    refine T.F__law_same.ok sc__law_same (fun vs H Q E h => ?_) (fun cdv A outer s H vs Q E hr h => ?_)
    · obtain ⟨x, y, d, rfl, _⟩ := h; rfl
    obtain ⟨x, y, d, rfl, hx, hy, ho, q⟩ := h
    refine ⟨_, (pss_cons (ps_if (pt_cmpR op_isN (pv 1) pe_non (nomark _)) (pss_one (ps_ret (pe_cmpR op_isN (pv 0) pe_non (nomark _)))) pss_nil)
    (pss_cons (ps_if (pt_val (pe_callB (cr_isiD (n := "bool") (by decide)) (by rfl) T.n_isinstance (by decide +kernel) (pa_cons (pv 1) (pa_cons (pe_bltn (v := .ty "bool") (by rfl) T.n_bool (by decide +kernel) rfl) pa_nil)))) (pss_one (ps_ret (pe_and (pe_callB (cr_isiD (n := "bool") (by decide)) (by rfl) T.n_isinstance (by decide +kernel) (pa_cons (pv 0) (pa_cons (pe_bltn (v := .ty "bool") (by rfl) T.n_bool (by decide +kernel) rfl) pa_nil))) (pe_one (pe_cmpR op_eq (pv 0) (pv 1) (nomark _)))))) pss_nil)
    (pss_cons (ps_if (pt_val (pe_callB (cr_isiD (n := "int") (by decide)) (by rfl) T.n_isinstance (by decide +kernel) (pa_cons (pv 1) (pa_cons (pe_bltn (v := .ty "int") (by rfl) T.n_int (by decide +kernel) rfl) pa_nil)))) (pss_one (ps_ret (pe_and (pe_callB (cr_isiD (n := "int") (by decide)) (by rfl) T.n_isinstance (by decide +kernel) (pa_cons (pv 0) (pa_cons (pe_bltn (v := .ty "int") (by rfl) T.n_int (by decide +kernel) rfl) pa_nil))) (pe_and (pe_not (pe_callB (cr_isiD (n := "bool") (by decide)) (by rfl) T.n_isinstance (by decide +kernel) (pa_cons (pv 0) (pa_cons (pe_bltn (v := .ty "bool") (by rfl) T.n_bool (by decide +kernel) rfl) pa_nil)))) (pe_one (pe_cmpR op_eq (pv 0) (pv 1) (nomark _))))))) pss_nil)
    (pss_cons (ps_if (pt_val (pe_callB (cr_isiD (n := "str") (by decide)) (by rfl) T.n_isinstance (by decide +kernel) (pa_cons (pv 1) (pa_cons (pe_bltn (v := .ty "str") (by rfl) T.n_str (by decide +kernel) rfl) pa_nil)))) (pss_one (ps_ret (pe_and (pe_callB (cr_isiD (n := "str") (by decide)) (by rfl) T.n_isinstance (by decide +kernel) (pa_cons (pv 0) (pa_cons (pe_bltn (v := .ty "str") (by rfl) T.n_str (by decide +kernel) rfl) pa_nil))) (pe_one (pe_cmpR op_eq (pv 0) (pv 1) (nomark _)))))) pss_nil)
    (pss_cons (ps_if (pt_val (pe_callB (cr_isiD (n := "tuple") (by decide)) (by rfl) T.n_isinstance (by decide +kernel) (pa_cons (pv 1) (pa_cons (pe_bltn (v := .ty "tuple") (by rfl) T.n_tuple (by decide +kernel) rfl) pa_nil)))) (pss_one (ps_if (PW.pt (pw_or (pt_not (pt_val (pe_callB (cr_isiD (n := "tuple") (by decide)) (by rfl) T.n_isinstance (by decide +kernel) (pa_cons (pv 0) (pa_cons (pe_bltn (v := .ty "tuple") (by rfl) T.n_tuple (by decide +kernel) rfl) pa_nil))))) (pw_or1 (pt_cmpR op_ne (pe_callB call_len_seq (by rfl) T.n_len (by decide +kernel) (pa_cons (pv 0) pa_nil)) (pe_callB call_len_seq (by rfl) T.n_len (by decide +kernel) (pa_cons (pv 1) pa_nil)) (nomark _))))) (pss_one (ps_ret pe_bl)) pss_nil)) (pss_one (ps_if (PW.pt (pw_or (pt_not (pt_val (pe_callB (cr_isiD (n := "list") (by decide)) (by rfl) T.n_isinstance (by decide +kernel) (pa_cons (pv 0) (pa_cons (pe_bltn (v := .ty "list") (by rfl) T.n_list (by decide +kernel) rfl) pa_nil))))) (pw_or1 (pt_cmpR op_ne (pe_callB call_len_seq (by rfl) T.n_len (by decide +kernel) (pa_cons (pv 0) pa_nil)) (pe_callB call_len_seq (by rfl) T.n_len (by decide +kernel) (pa_cons (pv 1) pa_nil)) (nomark _))))) (pss_one (ps_ret pe_bl)) pss_nil)))
    (pss_cons (ps_for PassesOwn.never rfl (RZ.pi_zipA (by rfl) T.n_zip (pa_cons (pv 0) (pa_cons (pv 1) pa_nil))) (pg_tup (by rfl) (pgs_cons (pg_name (i := 2) sc__law_same.nd rfl (Or.inl rfl)) (pgs_cons (pg_name (i := 3) sc__law_same.nd rfl (Or.inl rfl)) pgs_nil)))
    (pss_one (ps_if (pt_not (pt_val (pe_call IH hr rfl T.g__law_same T.F__law_same.kp T.b__law_same .nil pass0 (pa_cons (pv 2) (pa_cons (pv 3) pa_nil))))) (pss_one (ps_ret pe_bl)) pss_nil)))
    (pss_one (ps_ret pe_bl)))))))), ?_⟩
    have q0 := q H (Same.refl H)
    refine ⟨y, rfl, rfl, _, rfl, ?_⟩
    cases d
    case none =>
      cases hx
      cases hy
      exact ⟨.non, rfl, rfl, q0⟩
    case bool b =>
      cases hx
      cases hy
      refine ⟨.bl b, rfl, .bl b, .bool b, rfl, .bl b, _, rfl, ?_⟩
      refine ⟨.bl b, rfl, .bl b, .bool b, rfl, .bl b, _, rfl, ?_⟩
      refine ⟨.bl b, rfl, .bl b, rfl, rfl, ?_⟩
      rw [decide_eq_true rfl]
      exact q0
    case int i =>
      cases hx
      cases hy
      refine ⟨.int i, rfl, .int i, .int i, rfl, .int i, _, rfl, ?_⟩
      refine ⟨.int i, rfl, .int i, .int i, rfl, .int i, _, rfl, ?_⟩
      refine ⟨.int i, rfl, .int i, .int i, rfl, .int i, _, rfl, ?_⟩
      refine ⟨.int i, rfl, .int i, .int i, rfl, .int i, _, rfl, _, rfl, ?_⟩
      refine ⟨.int i, rfl, .int i, rfl, rfl, ?_⟩
      rw [decide_eq_true rfl]
      exact q0
    case str z =>
      cases hx
      cases hy
      refine ⟨.str z, rfl, .str z, .str z, rfl, .str z, _, rfl, ?_⟩
      refine ⟨.str z, rfl, .str z, .str z, rfl, .str z, _, rfl, ?_⟩
      refine ⟨.str z, rfl, .str z, .str z, rfl, .str z, _, rfl, ?_⟩
      refine ⟨.str z, rfl, .str z, .str z, rfl, .str z, _, rfl, ?_⟩
      refine ⟨.str z, rfl, .str z, rfl, rfl, ?_⟩
      rw [decide_eq_true rfl]
      exact q0
    case tuple ds =>
      obtain ⟨a, xs, rfl, hs, ha⟩ : ∃ a xs, x = .ref a ∧ SqT K H a xs ∧ DpAll K H xs ds := by
        cases hx with
        | tup hs ha => exact ⟨_, _, rfl, hs, ha⟩
      obtain ⟨b, ys, rfl, hs2, ha2⟩ : ∃ b ys, y = .ref b ∧ SqT K H b ys ∧ DpAll K H ys ds := by
        cases hy with
        | tup hs ha => exact ⟨_, _, rfl, hs, ha⟩
      obtain ⟨hl, hds⟩ := ho
      have el : xs.length = ys.length := (dpAll_len ha).trans (dpAll_len ha2).symm
      have hx' : Dp K H (.ref a) (.tuple ds) := .tup hs ha
      have hy' : Dp K H (.ref b) (.tuple ds) := .tup hs2 ha2
      refine ⟨.ref b, rfl, .ref b, _, rfl, hy', _, rfl, ?_⟩
      refine ⟨.ref b, rfl, .ref b, _, rfl, hy', _, rfl, ?_⟩
      refine ⟨.ref b, rfl, .ref b, _, rfl, hy', _, rfl, ?_⟩
      refine ⟨.ref b, rfl, .ref b, _, rfl, hy', _, rfl, ?_⟩
      refine ⟨.ref a, rfl, .ref a, _, rfl, hx', _, rfl, ?_⟩
      refine ⟨.ref a, rfl, a, xs, rfl, .inr hs, .ref b, rfl, b, ys, rfl, .inr hs2, rfl, _, rfl, ?_⟩
      rw [decide_eq_true (show V.int (xs.length : Int) = V.int (ys.length : Int) by rw [el])]
      refine ⟨.ref a, rfl, .ref b, rfl, a, b, xs, ys, rfl, .inr ⟨hs, hs2, ?_⟩⟩
      refine RZ.for_zipT (K := K) (a := a) (b := b) (xs := xs) (ys := ys) el (fun i σ H' => Same H H' ∧ ∃ y2 y3, σ = [some (.ref a), some (.ref b), y2, y3]) ⟨Same.refl H, none, none, rfl⟩ (fun i σ H' h => ⟨seqT_grow h.1 hs, seqT_grow h.1 hs2⟩)
        (fun i u v Tp σ H' eu ev h nT => ?_) (fun σ H' h => q H' h.1)
      obtain ⟨sm, y2, y3, rfl⟩ := h
      refine ⟨Tp, [u, v], rfl, .inl (.inl upd_same), rfl, u, [v], rfl, v, [], rfl, rfl, ?_⟩
      have sT := same_new (o := .tup [u, v]) nT
      obtain ⟨e, ee, hu⟩ := dpAll_get ha eu
      obtain ⟨e', ee', hv⟩ := dpAll_get ha2 ev
      have eq : e = e' := Option.some.inj (ee.symm.trans ee')
      subst eq
      refine ⟨u, rfl, v, rfl, u, v, e, rfl, dp_grow (sm.trans sT) hu, dp_grow (sm.trans sT) hv, hds e (List.mem_of_getElem? ee), fun H2 s2 => ?_⟩
      exact ⟨_, rfl, (sm.trans sT).trans s2, some u, some v, rfl⟩
    case list ds =>
      obtain ⟨a, xs, rfl, hs, ha⟩ : ∃ a xs, x = .ref a ∧ SqL K H a xs ∧ DpAll K H xs ds := by
        cases hx with
        | lst hs ha => exact ⟨_, _, rfl, hs, ha⟩
      obtain ⟨b, ys, rfl, hs2, ha2⟩ : ∃ b ys, y = .ref b ∧ SqL K H b ys ∧ DpAll K H ys ds := by
        cases hy with
        | lst hs ha => exact ⟨_, _, rfl, hs, ha⟩
      obtain ⟨hl, hds⟩ := ho
      have el : xs.length = ys.length := (dpAll_len ha).trans (dpAll_len ha2).symm
      have hx' : Dp K H (.ref a) (.list ds) := .lst hs ha
      have hy' : Dp K H (.ref b) (.list ds) := .lst hs2 ha2
      refine ⟨.ref b, rfl, .ref b, _, rfl, hy', _, rfl, ?_⟩
      refine ⟨.ref b, rfl, .ref b, _, rfl, hy', _, rfl, ?_⟩
      refine ⟨.ref b, rfl, .ref b, _, rfl, hy', _, rfl, ?_⟩
      refine ⟨.ref b, rfl, .ref b, _, rfl, hy', _, rfl, ?_⟩
      refine ⟨.ref a, rfl, .ref a, _, rfl, hx', _, rfl, ?_⟩
      refine ⟨.ref a, rfl, a, xs, rfl, .inl hs, .ref b, rfl, b, ys, rfl, .inl hs2, rfl, _, rfl, ?_⟩
      rw [decide_eq_true (show V.int (xs.length : Int) = V.int (ys.length : Int) by rw [el])]
      refine ⟨.ref a, rfl, .ref b, rfl, a, b, xs, ys, rfl, .inl ⟨hs, hs2, ?_⟩⟩
      refine RZ.for_zipL (K := K) (a := a) (b := b) (xs := xs) (ys := ys) el (fun i σ H' => Same H H' ∧ ∃ y2 y3, σ = [some (.ref a), some (.ref b), y2, y3]) ⟨Same.refl H, none, none, rfl⟩ (fun i σ H' h => ⟨Same.seq h.1 hs, Same.seq h.1 hs2⟩)
        (fun i u v Tp σ H' eu ev h nT => ?_) (fun σ H' h => q H' h.1)
      obtain ⟨sm, y2, y3, rfl⟩ := h
      refine ⟨Tp, [u, v], rfl, .inl (.inl upd_same), rfl, u, [v], rfl, v, [], rfl, rfl, ?_⟩
      have sT := same_new (o := .tup [u, v]) nT
      obtain ⟨e, ee, hu⟩ := dpAll_get ha eu
      obtain ⟨e', ee', hv⟩ := dpAll_get ha2 ev
      have eq : e = e' := Option.some.inj (ee.symm.trans ee')
      subst eq
      refine ⟨u, rfl, v, rfl, u, v, e, rfl, dp_grow (sm.trans sT) hu, dp_grow (sm.trans sT) hv, hds e (List.mem_of_getElem? ee), fun H2 s2 => ?_⟩
      exact ⟨_, rfl, (sm.trans sT).trans s2, some u, some v, rfl⟩
    all_goals exact ho.elim
end
end K4
set_option Elab.async false
set_option linter.all false
set_option maxRecDepth 100000
set_option maxHeartbeats 2000000
namespace K4
open PySem PySem.Spec PyProof.Rows L2 Ver
section
variable {P : Program} {w : World} {K : PySem.W.Frag} {mg : Str → Option Value} {base : Heap}
def Pool (H : Hp) (p : Addr) : Prop := ∃ ns : List Int, ns ≠ [] ∧ ns.length ≤ 1000 ∧ H p = some (.lst (ns.map V.int))
def Drawn (p : Addr) (H H' : Hp) : Prop := (∀ b o, b ≠ p → H b = some o → H' b = some o) ∧ Pool H' p
theorem Drawn.refl {p : Addr} {H : Hp} (h : Pool H p) : Drawn p H H := ⟨fun _ _ _ e => e, h⟩
theorem Drawn.trans {p : Addr} {H H1 H2 : Hp} (a : Drawn p H H1) (b : Drawn p H1 H2) : Drawn p H H2 := ⟨fun c o h e => b.1 c o h (a.1 c o h e), b.2⟩
theorem Drawn.same {p : Addr} {H H1 H2 : Hp} (a : Drawn p H H1) (b : Same H1 H2) : Drawn p H H2 := ⟨fun c o h e => b c o (a.1 c o h e), by
  obtain ⟨ns, h1, h2, h3⟩ := a.2
  exact ⟨ns, h1, h2, b _ _ h3⟩⟩
theorem Drawn.at {p L : Addr} {H H1 : Hp} {o : HO} (a : Drawn p H H1) (nL : H L = none) (pL : p ≠ L) : Drawn p H (upd H1 L o) := ⟨fun b x h e => by
  rw [upd_ne (ne_of_none e nL)]
  exact a.1 b x h e, by
  obtain ⟨ns, h1, h2, h3⟩ := a.2
  exact ⟨ns, h1, h2, by rw [upd_ne pL]; exact h3⟩⟩
theorem Pool.same {p : Addr} {H H1 : Hp} (a : Pool H p) (b : Same H H1) : Pool H1 p := ((Drawn.refl a).same b).2
theorem set_ne {α : Type} {l : List α} {i : Nat} {x : α} (h : l ≠ []) : l.set i x ≠ [] := fun z => by
  have := congrArg List.length z
  rw [List.length_set] at this
  exact h (List.eq_nil_of_length_eq_zero this)
theorem atI_zero {xs : List V} {x : V} (h : xs[0]? = some x) : atI xs 0 = some x := atI_nat (j := 0) h
def sp__law_pick (K : PySem.W.Frag) : Sp := fun vs H Q _ => ∃ p m, vs = [.ref p, .int m] ∧ Pool H p ∧ 1 ≤ m ∧ m ≤ 1000000000 ∧ ∀ r H', 0 ≤ r → r < m → Drawn p H H' → (∀ b, H b = none → H' b = none) → Q (.int r) H'
theorem ok__law_pick (T : Tx K mg) : FnOk P w K mg base CX0 1 T.f__law_pick T.d__law_pick ["pool", "many"] (sp__law_pick K) := by
  refine T.F__law_pick.ok sc__law_pick (fun vs H Q E h => ?_) (fun cdv A outer s H vs Q E hr h => ?_)
  · obtain ⟨p, m, rfl, _⟩ := h; rfl
  · obtain ⟨p, m, rfl, ⟨ns, ne, hl, hp⟩, m0, m1, q⟩ := h
    refine ⟨_, (C8.pss_cut (ps_if (PW.pt (pw_and (pt_cmpR op_gt (pe_callB call_len_seq (by rfl) T.n_len (by decide +kernel) (pa_cons (pv 0) pa_nil)) pe_int (nomark _)) (pw_and1 (pt_cmpR op_eq (pe_ix ix_list (pv 0) (pe_un un_neg pe_int) (fun _ _ => rfl)) pe_int (nomark _))))) (pss_one (ps_expr (pe_bm0 PySem.F.plainAttrs_list PySem.F.slot_list_pop PySem.F.type_list_pop mt_pop (pv 0)))) pss_nil)
    (pss_cons (ps_if (pt_cmpR op_gt (pe_callB call_len_seq (by rfl) T.n_len (by decide +kernel) (pa_cons (pv 0) pa_nil)) pe_int (nomark _)) (pss_cons (ps_set (i := 2) sc__law_pick.nd rfl (Or.inl rfl) (pe_callTy call_int1 (by rfl) T.n_int (by decide +kernel) (pa_cons (pe_ix ix_list (pv 0) (pe_un un_neg pe_int) (fun _ _ => rfl)) pa_nil)))
    (pss_cons (ps_asg (pe_op op_fdivN (pv 2) (pv 1)) (pg_sub (pv 0) (pe_un un_neg pe_int) set_list))
    (pss_one (ps_ret (pe_op op_modN (pv 2) (pv 1)))))) pss_nil)
    (pss_cons (ps_asg (pe_op op_modN (pe_callTy call_int1 (by rfl) T.n_int (by decide +kernel) (pa_cons (pe_op op_mul (pe_ix ix_list (pv 0) pe_int (fun _ _ => rfl)) pe_int) pa_nil)) pe_int) (pg_sub (pv 0) pe_int set_list))
    (pss_one (ps_ret (pe_op op_modN (pe_callTy call_int1 (by rfl) T.n_int (by decide +kernel) (pa_cons (pe_op op_fdivN (pe_ix ix_list (pv 0) pe_int (fun _ _ => rfl)) pe_int) pa_nil)) (pv 1))))))), ?_⟩
    have fm : ∀ i : Int, 0 ≤ i.fmod m ∧ i.fmod m < m := fun i => ⟨Int.fmod_nonneg_of_pos _ (by omega), Int.fmod_lt_of_pos _ (by omega)⟩
    refine ⟨fun σ' H' => σ' = [some (.ref p), some (.int m), none] ∧ (∀ b, H b = none → H' b = none) ∧ (∀ b o, b ≠ p → H b = some o → H' b = some o) ∧ Pool H' p, ?_, fun σ' H1 h => ?_⟩
    · have stay : ([some (.ref p), some (.int m), none] : L2.St) = [some (.ref p), some (.int m), none] ∧ (∀ b, H b = none → H b = none) ∧ (∀ b o, b ≠ p → H b = some o → H b = some o) ∧ Pool H p := ⟨rfl, fun _ e => e, fun _ _ _ e => e, ⟨ns, ne, hl, hp⟩⟩
      refine ⟨.ref p, rfl, p, _, rfl, .inl (.inl (.inl hp)), _, _, rfl, rfl, _, rfl, ite2 (fun z => ?_) (fun z => stay)⟩
      have z1 := of_decide_eq_true z
      rw [List.length_map] at z1
      have e3 : ns = ns.dropLast ++ [ns.getLast ne] := (List.dropLast_concat_getLast ne).symm
      have el : atI (ns.map V.int) (-1) = some (.int (ns.getLast ne)) := by
        rw [show ns.map V.int = ns.dropLast.map V.int ++ [.int (ns.getLast ne)] by rw [← List.map_singleton, ← List.map_append, ← e3]]
        exact atI_last _ _
      refine ⟨.ref p, rfl, _, rfl, p, _, -1, _, rfl, rfl, .inl (.inl hp), el, rfl, _, rfl, ite2 (fun z2 => ?_) (fun z2 => stay)⟩
      refine ⟨.ref p, rfl, .inl ⟨rfl, _, .inl (.inl hp)⟩, p, _, .int (ns.getLast ne), rfl, rfl, hp, ?_, ?_⟩
      · rw [List.length_map, List.getElem?_map, ← List.getLast?_eq_getElem?, List.getLast?_eq_getLast ne]
        rfl
      · refine ⟨rfl, fun b e => ?_, fun b o hb e => ?_, ns.dropLast, ?_, ?_, ?_⟩
        · by_cases hb : b = p
          · rw [hb, hp] at e; cases e
          · rw [upd_ne hb]; exact e
        · rw [upd_ne hb]; exact e
        · intro z3
          have := congrArg List.length z3
          rw [List.length_dropLast, List.length_nil] at this
          omega
        · rw [List.length_dropLast]; omega
        · rw [upd_same, List.map_dropLast]
    · obtain ⟨rfl, hf, hk, ns, ne, hl, hp⟩ := h
      have back : ∀ {H2 : Hp} {ns2 : List Int}, ns2 ≠ [] → ns2.length ≤ 1000 → H2 = upd H1 p (.lst (ns2.map V.int)) → Drawn p H H2 ∧ ∀ b, H b = none → H2 b = none := fun {H2 ns2} n2 l2 e2 => by
        subst e2
        refine ⟨⟨fun b o hb e => ?_, ns2, n2, l2, upd_same⟩, fun b e => ?_⟩
        · rw [upd_ne hb]; exact hk b o hb e
        · have e1 := hf b e
          by_cases hb : b = p
          · rw [hb, hp] at e1; cases e1
          · rw [upd_ne hb]; exact e1
      refine ⟨.ref p, rfl, p, _, rfl, .inl (.inl (.inl hp)), _, _, rfl, rfl, _, rfl, ite2 (fun z => ?_) (fun z => ?_)⟩
      · have z1 := of_decide_eq_true z
        rw [List.length_map] at z1
        have e3 : ns = ns.dropLast ++ [ns.getLast ne] := (List.dropLast_concat_getLast ne).symm
        have el : atI (ns.map V.int) (-1) = some (.int (ns.getLast ne)) := by
          rw [show ns.map V.int = ns.dropLast.map V.int ++ [.int (ns.getLast ne)] by rw [← List.map_singleton, ← List.map_append, ← e3]]
          exact atI_last _ _
        have ix : ixN (ns.map V.int).length (-1) = some (ns.length - 1) := by
          unfold ixN
          rw [if_neg (by omega), if_pos (by rw [List.length_map]; omega), List.length_map]
          congr 1
          omega
        refine ⟨.ref p, rfl, _, rfl, p, _, -1, _, rfl, rfl, .inl (.inl hp), el, .inl ⟨_, rfl, ?_⟩⟩
        refine ⟨.int (ns.getLast ne), rfl, .int m, rfl, _, m, rfl, rfl, ⟨by omega, by omega⟩, ?_⟩
        refine ⟨.ref p, rfl, 1, rfl, p, _, -1, _, rfl, rfl, hp, ix, ?_⟩
        refine ⟨.int (ns.getLast ne), rfl, .int m, rfl, _, m, rfl, rfl, by omega, ?_⟩
        obtain ⟨f1, f2⟩ := fm (ns.getLast ne)
        obtain ⟨b1, b2⟩ := back (H2 := upd H1 p (.lst ((ns.map V.int).set (ns.length - 1) (.int ((ns.getLast ne).fdiv m))))) (ns2 := ns.set (ns.length - 1) ((ns.getLast ne).fdiv m)) (set_ne ne) (by rw [List.length_set]; exact hl) (by rw [List.map_set])
        exact q _ _ f1 f2 b1 b2
      · have e0 : ∃ x, ns[0]? = some x := by
          cases ns with
          | nil => exact absurd rfl ne
          | cons x r => exact ⟨x, rfl⟩
        obtain ⟨x0, ex0⟩ := e0
        have ex1 : (ns.map V.int)[0]? = some (.int x0) := by rw [List.getElem?_map, ex0]; rfl
        have pos : 0 < (ns.map V.int).length := by
          rw [List.length_map]
          cases ns with
          | nil => exact absurd rfl ne
          | cons x r => simp
        have ix : ixN (ns.map V.int).length 0 = some 0 := by
          unfold ixN
          rw [if_pos (by omega), if_pos (by omega)]
          rfl
        refine ⟨.ref p, rfl, p, _, 0, _, rfl, rfl, .inl (.inl hp), atI_zero ex1, _, _, rfl, rfl, .inr ⟨by omega, by omega⟩, .inl ⟨_, rfl, _, _, rfl, rfl, by omega, ?_⟩⟩
        have es : (ns.map V.int).set 0 (.int ((x0 * 62089).fmod 2305843009213693951)) = (ns.set 0 ((x0 * 62089).fmod 2305843009213693951)).map V.int := (List.map_set ..).symm
        have ex2 : ((ns.map V.int).set 0 (.int ((x0 * 62089).fmod 2305843009213693951)))[0]? = some (.int ((x0 * 62089).fmod 2305843009213693951)) := List.getElem?_set_self pos
        refine ⟨.ref p, rfl, p, _, 0, 0, rfl, rfl, hp, ix, ?_⟩
        refine ⟨.ref p, rfl, p, _, 0, _, rfl, rfl, .inl (.inl upd_same), atI_zero ex2, _, _, rfl, rfl, ⟨by omega, by omega⟩, .inl ⟨_, rfl, .int m, rfl, _, m, rfl, rfl, by omega, ?_⟩⟩
        obtain ⟨b1, b2⟩ := back (H2 := upd H1 p (.lst ((ns.map V.int).set 0 (.int ((x0 * 62089).fmod 2305843009213693951))))) (ns2 := ns.set 0 ((x0 * 62089).fmod 2305843009213693951)) (set_ne ne) (by rw [List.length_set]; exact hl) (by rw [es])
        obtain ⟨f1, f2⟩ := fm (((x0 * 62089).fmod 2305843009213693951).fdiv 24593)
        exact q _ _ f1 f2 b1 b2
end
end K4
set_option Elab.async false
set_option linter.all false
set_option maxRecDepth 100000
set_option maxHeartbeats 2000000
namespace K4
open PySem PySem.Spec PyProof.Rows L2 Ver
theorem seqT_drawn {K : PySem.W.Frag} {H H' : Hp} {p b : Addr} {xs : List V} (hp : Pool H p) (d : Drawn p H H') (h : SqT K H b xs) : SqT K H' b xs := by
  obtain ⟨ns, _, _, e⟩ := hp
  rcases h with (h | ⟨o, h⟩) | h
  · exact .inl (.inl (d.1 b _ (ne_of h e (by intro z; cases z)) h))
  · exact .inl (.inr ⟨o, d.1 b _ (ne_of h e (by intro z; cases z)) h⟩)
  · exact .inr h
theorem lst_drawn {H H' : Hp} {p b : Addr} {xs : List V} (d : Drawn p H H') (hb : b ≠ p) (h : H b = some (.lst xs)) : H' b = some (.lst xs) := d.1 b _ hb h
theorem Pool.ne_none {H : Hp} {p b : Addr} (hp : Pool H p) (h : H b = none) : p ≠ b := by
  obtain ⟨ns, _, _, e⟩ := hp
  exact ne_of_none e h
section
variable {P : Program} {w : World} {K : PySem.W.Frag} {mg : Str → Option Value} {base : Heap}
def sp__law_pool (K : PySem.W.Frag) : Sp := fun vs H Q _ => ∃ (a : Addr) (ns : List Int), vs = [.ref a] ∧ SqL K H a (ns.map V.int) ∧ ns.length ≤ 63 ∧ ∀ p H', Same H H' → Pool H' p → Q (.ref p) H'
theorem ok__law_pool (T : Tx K mg) : FnOk P w K mg base CX0 1 T.f__law_pool T.d__law_pool ["script"] (sp__law_pool K) := by
  refine T.F__law_pool.ok sc__law_pool (fun vs H Q E h => ?_) (fun cdv A outer s H vs Q E hr h => ?_)
  · obtain ⟨a, ns, rfl, _⟩ := h; rfl
  · obtain ⟨a, ns, rfl, hs, hz, q⟩ := h
    refine ⟨_, (pss_cons (ps_set (i := 1) sc__law_pool.nd rfl (Or.inl rfl) (pe_op op_mulW (pe_op op_mulW (pe_op op_mulW (pe_op op_pow pe_int pe_int) (pe_op op_pow pe_int pe_int)) (pe_op op_pow pe_int pe_int)) (pe_op op_pow pe_int pe_int)))
    (pss_cons (ps_set (i := 2) sc__law_pool.nd rfl (Or.inl rfl) (pe_lst (pa_cons pe_int pa_nil)))
    (pss_cons (ps_for PassesOwn.never rfl (pi_list (pv 0)) (pg_name (i := 3) sc__law_pool.nd rfl (Or.inl rfl))
    (pss_cons (ps_set (i := 4) sc__law_pool.nd rfl (Or.inl rfl) (pe_callTy call_int1 (by rfl) T.n_int (by decide +kernel) (pa_cons (pv 3) pa_nil)))
    (C8.pss_cut (ps_set (i := 5) sc__law_pool.nd rfl (Or.inl rfl) (pe_ifExp (pt_cmpR op_ge (pv 4) pe_int (nomark _)) (pv 4) (pe_op op_sub pe_int (pe_op op_mul pe_int (pv 4)))))
    (pss_cons (ps_asg (pe_op op_modN (pe_callTy call_int1 (by rfl) T.n_int (by decide +kernel) (pa_cons (pe_op op_add (pe_op op_add (pe_op op_mul (pe_ix ix_list (pv 2) pe_int (fun _ _ => rfl)) pe_int) (pe_op op_mul (pv 5) pe_int)) pe_int) pa_nil)) pe_int) (pg_sub (pv 2) pe_int set_list))
    (pss_one (ps_if (pt_cmpR op_ge (pv 5) (pe_op op_pow pe_int pe_int) (nomark _)) (pss_one (ps_expr (pe_bm PySem.F.plainAttrs_list PySem.F.slot_list_append PySem.F.type_list_append mt_append (pv 2) (pa_cons (pe_op op_modN (pe_callTy call_int1 (by rfl) T.n_int (by decide +kernel) (pa_cons (pv 5) pa_nil)) (pv 1)) pa_nil)))) pss_nil))))))
    (pss_one (ps_ret (pv 2)))))), ?_⟩
    refine ⟨_, _, rfl, rfl, ⟨by decide, by decide, by decide⟩, _, _, rfl, rfl, ⟨by decide, by decide, by decide⟩, _, _, rfl, rfl, by unfold CMulW; decide +kernel, ?_⟩
    refine ⟨_, _, rfl, rfl, ⟨by decide, by decide, by decide⟩, _, _, rfl, rfl, by unfold CMulW; decide +kernel, ?_⟩
    refine ⟨_, _, rfl, rfl, ⟨by decide, by decide, by decide⟩, _, _, rfl, rfl, by unfold CMulW; decide +kernel, ?_⟩
    refine ⟨small' (by simp), fun p np => ?_⟩
    refine ⟨.ref a, rfl, a, rfl, ⟨_, (same_new np).seq hs⟩, ?_⟩
    refine for_list (K := K) (a := a) (xs := ns.map V.int) (fun i σ H' => ∃ room y3 y4 y5 ms, σ = [some (.ref a), some (.int room), some (.ref p), y3, y4, y5] ∧ room ≠ 0 ∧ (∀ b o, H b = some o → H' b = some o) ∧ ms ≠ [] ∧ ms.length ≤ 1 + i ∧ H' p = some (.lst (List.map V.int ms)))
      ⟨_, none, none, none, [0], rfl, by decide +kernel, same_new np, by simp, by simp, upd_same⟩ (fun i σ H' _ h => ?_) (fun i x σ H' ex h => ?_) (fun σ H' h => ?_)
    · obtain ⟨_, _, _, _, _, _, _, sm, _⟩ := h
      exact Same.seq sm hs
    · obtain ⟨room, y3, y4, y5, ms, rfl, r0, sm, mn, ml, hp⟩ := h
      have lt : i < ns.length := by
        have := (List.getElem?_eq_some_iff.mp ex).1
        rw [List.length_map] at this
        exact this
      rw [List.getElem?_map] at ex
      obtain ⟨c, rfl⟩ : ∃ c, x = V.int c := by
        cases e : ns[i]? with
        | none => rw [e] at ex; cases ex
        | some c => rw [e] at ex; exact ⟨c, (Option.some.inj ex).symm⟩
      refine ⟨.int c, rfl, .inl ⟨c, rfl, ?_⟩⟩
      refine ⟨fun σ2 H2 => H2 = H' ∧ ∃ tn, σ2 = [some (.ref a), some (.int room), some (.ref p), some (.int c), some (.int c), some (.int tn)], ?_, fun σ2 H2 h2 => ?_⟩
      · refine ⟨.int c, rfl, c, 0, rfl, rfl, _, rfl, ite2 (fun z => ?_) (fun z => ?_)⟩
        · exact ⟨.int c, rfl, rfl, c, rfl⟩
        · exact ⟨.int c, rfl, _, _, rfl, rfl, .inl ⟨by omega, by omega⟩, _, _, rfl, rfl, rfl, _, rfl⟩
      obtain ⟨rfl, tn, rfl⟩ := h2
      obtain ⟨x0, ex0⟩ : ∃ x, ms[0]? = some x := by
        cases ms with
        | nil => exact absurd rfl mn
        | cons x r => exact ⟨x, rfl⟩
      have ex1 : (ms.map V.int)[0]? = some (.int x0) := by rw [List.getElem?_map, ex0]; rfl
      have pos : 0 < (ms.map V.int).length := by
        rw [List.length_map]
        cases ms with
        | nil => exact absurd rfl mn
        | cons x r => simp
      have ix : ixN (ms.map V.int).length 0 = some 0 := by
        unfold ixN
        rw [if_pos (by omega), if_pos (by omega)]
        rfl
      have npH : H p = none := np
      refine ⟨.ref p, rfl, p, _, 0, _, rfl, rfl, .inl (.inl hp), atI_zero ex1, _, _, rfl, rfl, .inr ⟨by omega, by omega⟩, .int tn, rfl, _, _, rfl, rfl, .inr ⟨by omega, by omega⟩, _, _, rfl, rfl, _, _, rfl, rfl, .inl ⟨_, rfl, _, _, rfl, rfl, by omega, ?_⟩⟩
      refine ⟨.ref p, rfl, p, _, 0, 0, rfl, rfl, hp, ix, ?_⟩
      refine ⟨.int tn, rfl, _, _, rfl, rfl, ⟨by decide, by decide, by decide⟩, tn, _, rfl, rfl, _, rfl, ite2 (fun z => ?_) (fun z => ?_)⟩
      · refine ⟨.ref p, rfl, .inl ⟨rfl, _, .inl (.inl upd_same)⟩, .int tn, rfl, .inl ⟨tn, rfl, .int room, rfl, tn, room, rfl, rfl, r0, ?_⟩⟩
        refine ⟨p, _, _, rfl, rfl, upd_same, small (by rw [List.length_set, List.length_map]; omega), ?_⟩
        refine ⟨room, some (.int c), some (.int c), some (.int tn), ms.set 0 ((x0 * 6700417 + tn * 74959 + 9973).fmod 2305843009213693951) ++ [tn.fmod room], rfl, r0, fun b o e => ?_, by simp, ?_, ?_⟩
        · have hb : b ≠ p := ne_of_none e npH
          rw [upd_ne hb, upd_ne hb]
          exact sm b o e
        · rw [List.length_append, List.length_set, List.length_singleton]; omega
        · rw [upd_same, List.map_append, List.map_set]
          rfl
      · refine ⟨room, some (.int c), some (.int c), some (.int tn), ms.set 0 ((x0 * 6700417 + tn * 74959 + 9973).fmod 2305843009213693951), rfl, r0, fun b o e => ?_, set_ne mn, ?_, ?_⟩
        · rw [upd_ne (ne_of_none e npH)]
          exact sm b o e
        · rw [List.length_set]; omega
        · rw [upd_same, List.map_set]
    · obtain ⟨room, y3, y4, y5, ms, rfl, r0, sm, mn, ml, hp⟩ := h
      rw [List.length_map] at ml
      exact ⟨.ref p, rfl, q p H' sm ⟨ms, mn, by omega, hp⟩⟩
end
end K4
set_option Elab.async false
set_option linter.all false
set_option maxRecDepth 100000
set_option maxHeartbeats 2000000
namespace K4
open PySem PySem.Spec PyProof.Rows L2 Ver
theorem Drawn.pool {p : Addr} {H H' : Hp} (d : Drawn p H H') : Pool H' p := d.2
theorem sign_at {sg : Str} {i : Int} (h0 : 0 ≤ i) (h1 : i < sg.length) : ∃ c, atI sg.cps.toList i = some c := by
  have lt : i.toNat < sg.cps.toList.length := by
    have e : sg.cps.toList.length = sg.length := by rw [Array.length_toList]; rfl
    omega
  have e0 : i = ((i.toNat : Nat) : Int) := by omega
  rw [e0]
  exact ⟨sg.cps.toList[i.toNat], atI_nat (j := i.toNat) (List.getElem?_eq_getElem lt)⟩
theorem flat_strs : ∀ ws : List Str, (ws.map V.str).all flatV = true
  | [] => rfl
  | _ :: ws => by rw [List.map_cons, List.all_cons, flat_strs ws]; rfl
section
variable {P : Program} {w : World} {K : PySem.W.Frag} {mg : Str → Option Value} {base : Heap}
def sp__law_word (K : PySem.W.Frag) : Sp := fun vs H Q _ => ∃ (p : Addr) (sg : Str) (m : Int), vs = [.ref p, .str sg, .int m] ∧ Pool H p ∧ 1 ≤ sg.length ∧ sg.length ≤ 100 ∧ 1 ≤ m ∧ m ≤ 100 ∧
  ∀ (z : Str) H', 1 ≤ z.length → z.length ≤ m → Drawn p H H' → (∀ b, H b = none → H' b = none) → Q (.str z) H'
theorem ok__law_word (T : Tx K mg) : FnOk P w K mg base CX0 2 T.f__law_word T.d__law_word ["pool", "signs", "most"] (sp__law_word K) := by
  refine T.F__law_word.ok sc__law_word (fun vs H Q E h => ?_) (fun cdv A outer s H vs Q E hr h => ?_)
  · obtain ⟨p, sg, m, rfl, _⟩ := h; rfl
  · obtain ⟨p, sg, m, rfl, hP, g0, g1, m0, m1, q⟩ := h
    refine ⟨_, (pss_cons (ps_set (i := 3) sc__law_word.nd rfl (Or.inl rfl) pe_str)
    (pss_cons (ps_for PassesOwn.never rfl (pi_range1 rfl T.n_range (pa_cons (pe_op op_add pe_int (pe_call (ok__law_pick T) hr rfl T.g__law_pick T.F__law_pick.kp T.b__law_pick .nil pass0 (pa_cons (pv 0) (pa_cons (pv 2) pa_nil)))) pa_nil)) (pg_name (i := 4) sc__law_word.nd rfl (Or.inl rfl))
    (pss_one (ps_set (i := 3) sc__law_word.nd rfl (Or.inl rfl) (pe_op op_add_str (pv 3) (pe_ix ix_str (pv 1) (pe_call (ok__law_pick T) hr rfl T.g__law_pick T.F__law_pick.kp T.b__law_pick .nil pass0 (pa_cons (pv 0) (pa_cons (pe_callB call_len (by rfl) T.n_len (by decide +kernel) (pa_cons (pv 1) pa_nil)) pa_nil))) (fun _ _ => rfl))))))
    (pss_one (ps_ret (pv 3))))), ?_⟩
    refine ⟨.ref p, rfl, .int m, rfl, p, m, rfl, hP, m0, by omega, fun r H1 r0 r1 d1 f1 => ⟨1, r, rfl, rfl, _, rfl, by omega, by omega, ?_⟩⟩
    refine for_range0 (n := (1 + r).toNat) (fun i σ H' => ∃ z y, σ = [some (.ref p), some (.str sg), some (.int m), some (.str z), y] ∧ z.length = i ∧ Drawn p H H' ∧ (∀ b, H b = none → H' b = none))
      ⟨_, none, rfl, rfl, d1, f1⟩ (fun i σ H' lt h => ?_) (fun σ H' h => ?_)
    · obtain ⟨z, y, rfl, el, d, f⟩ := h
      refine ⟨.str z, rfl, .str sg, rfl, .ref p, rfl, .str sg, rfl, .str sg, sg.length, rfl, ⟨small' (by omega), rfl⟩, p, sg.length, rfl, d.2, by omega, by omega, fun j H2 j0 j1 d2 f2 => ?_⟩
      obtain ⟨c, ec⟩ := sign_at j0 j1
      refine ⟨sg, j, c, rfl, rfl, small' (by omega), ec, z, _, rfl, rfl, small' (by show z.length + 1 ≤ 100000; omega), ?_⟩
      refine ⟨z ++ ⟨#[c]⟩, some (.int (i : Int)), rfl, ?_, d.trans d2, fun b e => f2 b (f b e)⟩
      rw [Str.length_append, el]
      rfl
    · obtain ⟨z, y, rfl, el, d, f⟩ := h
      exact ⟨.str z, rfl, q z H' (by omega) (by omega) d f⟩

def sp__law_tokens (K : PySem.W.Frag) : Sp := fun vs H Q _ => ∃ (p : Addr) (n : Int) (sg : Str) (m : Int), vs = [.ref p, .int n, .str sg, .int m] ∧ Pool H p ∧ 1 ≤ sg.length ∧ sg.length ≤ 100 ∧ 1 ≤ m ∧ m ≤ 100 ∧ 0 ≤ n ∧ n ≤ 100 ∧
  ∀ (t : Addr) (ts : List V) H', (ts.length : Int) = n → Drawn p H H' → H' t = some (.tup ts) → Q (.ref t) H'
theorem ok__law_tokens (T : Tx K mg) : FnOk P w K mg base CX0 3 T.f__law_tokens T.d__law_tokens ["pool", "many", "signs", "most"] (sp__law_tokens K) := by
  refine T.F__law_tokens.ok sc__law_tokens (fun vs H Q E h => ?_) (fun cdv A outer s H vs Q E hr h => ?_)
  · obtain ⟨p, n, sg, m, rfl, _⟩ := h; rfl
  · obtain ⟨p, n, sg, m, rfl, hP, g0, g1, m0, m1, n0, n1, q⟩ := h
    refine ⟨_, (pss_cons (ps_set (i := 4) sc__law_tokens.nd rfl (Or.inl rfl) (pe_lst pa_nil))
    (pss_cons (ps_for PassesOwn.never rfl (pi_range1 rfl T.n_range (pa_cons (pv 1) pa_nil)) (pg_name (i := 5) sc__law_tokens.nd rfl (Or.inl rfl))
    (pss_cons (ps_set (i := 6) sc__law_tokens.nd rfl (Or.inl rfl) (pe_call (ok__law_word T) hr rfl T.g__law_word T.F__law_word.kp T.b__law_word .nil pass0 (pa_cons (pv 0) (pa_cons (pv 2) (pa_cons (pv 3) pa_nil)))))
    (pss_cons (ps_for PassesOwn.never rfl (pi_range1 rfl T.n_range (pa_cons (pv 1) pa_nil)) (pg_name (i := 7) sc__law_tokens.nd rfl (Or.inl rfl))
    (pss_one (ps_if (pt_cmpR op_in_seq (pv 6) (pv 4) (by rfl)) (pss_one (ps_set (i := 6) sc__law_tokens.nd rfl (Or.inl rfl) (pe_op op_add_str (pv 6) (pe_ix ix_str (pv 2) (pe_op op_sub (pv 7) (pe_op op_mul (pe_op op_fdivN (pv 7) (pe_callB call_len (by rfl) T.n_len (by decide +kernel) (pa_cons (pv 2) pa_nil))) (pe_callB call_len (by rfl) T.n_len (by decide +kernel) (pa_cons (pv 2) pa_nil)))) (fun _ _ => rfl))))) pss_nil)))
    (pss_one (ps_expr (pe_bm PySem.F.plainAttrs_list PySem.F.slot_list_append PySem.F.type_list_append mt_append (pv 4) (pa_cons (pv 6) pa_nil)))))))
    (pss_one (ps_ret (pe_callTy call_tuple_of (by rfl) T.n_tuple (by decide +kernel) (pa_cons (pv 4) pa_nil)))))), ?_⟩
    refine ⟨Nat.zero_le _, fun L nL => ?_⟩
    have pL : p ≠ L := hP.ne_none nL
    have s0 := same_new (o := .lst []) nL
    refine ⟨.int n, rfl, n, rfl, by omega, by omega, ?_⟩
    refine for_range0 (n := n.toNat) (fun i σ H' => ∃ ws y5 y6 y7, σ = [some (.ref p), some (.int n), some (.str sg), some (.int m), some (.ref L), y5, y6, y7] ∧ List.length ws = i ∧ Drawn p H H' ∧ H' L = some (.lst (List.map V.str ws)))
      ⟨[], none, none, none, rfl, rfl, (Drawn.refl hP).same s0, upd_same⟩ (fun i σ H' lt h => ?_) (fun σ H' h => ?_)
    · obtain ⟨ws, y5, y6, y7, rfl, el, d, hL⟩ := h
      refine ⟨.ref p, rfl, .str sg, rfl, .int m, rfl, p, sg, m, rfl, d.2, g0, g1, m0, m1, fun z H1 z0 z1 d1 f1 => ?_⟩
      have hL1 : H1 L = some (.lst (ws.map V.str)) := d1.1 L _ pL.symm hL
      refine ⟨.int n, rfl, n, rfl, by omega, by omega, ?_⟩
      refine for_range0 (n := n.toNat) (fun j σ H2 => H2 = H1 ∧ ∃ z y7, σ = [some (.ref p), some (.int n), some (.str sg), some (.int m), some (.ref L), some (.int (i : Int)), some (.str z), y7] ∧ z.length ≤ 100 + j) ⟨rfl, z, y7, rfl, by omega⟩ (fun j σ H2 lt2 h => ?_) (fun σ H2 h => ?_)
      · obtain ⟨rfl, z, y7, rfl, zl⟩ := h
        refine ⟨.str z, rfl, .ref L, rfl, L, _, rfl, .inl (.inl (.inl hL1)), rfl, flat_strs ws, _, rfl, ?_⟩
        cases eb : inV (.str z) (ws.map V.str) with
        | false => exact ⟨rfl, z, some (.int (j : Int)), rfl, by omega⟩
        | true =>
          have sg0 : ((sg.length : Nat) : Int) ≠ 0 := by omega
          have em := Int.fmod_def (j : Int) ((sg.length : Nat) : Int)
          have em2 : ((j : Int).fdiv ((sg.length : Nat) : Int)) * ((sg.length : Nat) : Int) = ((sg.length : Nat) : Int) * ((j : Int).fdiv ((sg.length : Nat) : Int)) := Int.mul_comm _ _
          have em0 := Int.fmod_nonneg_of_pos (j : Int) (b := ((sg.length : Nat) : Int)) (by omega)
          have em1 := Int.fmod_lt_of_pos (j : Int) (b := ((sg.length : Nat) : Int)) (by omega)
          obtain ⟨c, ec⟩ := sign_at (sg := sg) (i := (j : Int) - ((j : Int).fdiv ((sg.length : Nat) : Int)) * ((sg.length : Nat) : Int)) (by omega) (by omega)
          refine ⟨.str z, rfl, .str sg, rfl, .int (j : Int), rfl, .int (j : Int), rfl, .str sg, rfl, .str sg, sg.length, rfl, ⟨small' (by omega), rfl⟩, _, _, rfl, rfl, ⟨sg0, by omega⟩, ?_⟩
          refine ⟨.str sg, rfl, .str sg, sg.length, rfl, ⟨small' (by omega), rfl⟩, _, _, rfl, rfl, .inr ⟨by omega, by omega⟩, _, _, rfl, rfl, sg, _, c, rfl, rfl, small' (by omega), ec, z, _, rfl, rfl, small' (by show z.length + 1 ≤ 100000; omega), ?_⟩
          refine ⟨rfl, z ++ ⟨#[c]⟩, some (.int (j : Int)), rfl, ?_⟩
          rw [Str.length_append]
          show z.length + 1 ≤ 100 + (j + 1)
          omega
      · obtain ⟨rfl, z, y7, rfl, zl⟩ := h
        refine ⟨.ref L, rfl, .inl ⟨rfl, _, .inl (.inl hL1)⟩, .str z, rfl, L, _, _, rfl, rfl, hL1, small (by rw [List.length_map]; omega), ?_⟩
        refine ⟨ws ++ [z], some (.int (i : Int)), some (.str z), y7, rfl, ?_, ?_, ?_⟩
        · rw [List.length_append, el]; rfl
        · exact (d.trans d1).at nL pL
        · rw [upd_same, List.map_append]; rfl
    · obtain ⟨ws, y5, y6, y7, rfl, el, d, hL⟩ := h
      refine ⟨.ref L, rfl, L, _, rfl, .inl ⟨.inl (.inl hL), fun t nt => ?_⟩⟩
      exact q t _ _ (by rw [List.length_map]; omega) (d.same (same_new nt)) upd_same
end
end K4
set_option Elab.async false
set_option linter.all false
set_option maxRecDepth 100000
set_option maxHeartbeats 2000000
namespace K4
open PySem PySem.Spec PyProof.Rows L2 Ver
theorem seqT_upd {K : PySem.W.Frag} {H : Hp} {L p : Addr} {ys xs : List V} {o : HO} (hL : H L = some (.lst ys)) (h : SqT K H p xs) : SqT K (upd H L o) p xs := by
  rcases h with (h | ⟨u, h⟩) | h
  · refine .inl (.inl ?_)
    rw [upd_ne (ne_of h hL (by intro z; cases z))]
    exact h
  · refine .inl (.inr ⟨u, ?_⟩)
    rw [upd_ne (ne_of h hL (by intro z; cases z))]
    exact h
  · exact .inr h
theorem tup_upd {H : Hp} {L p : Addr} {ys xs : List V} {o : HO} (hL : H L = some (.lst ys)) (h : H p = some (.tup xs)) : upd H L o p = some (.tup xs) := by
  rw [upd_ne (ne_of h hL (by intro z; cases z))]
  exact h
theorem Rows.upd {K : PySem.W.Frag} {H : Hp} {L : Addr} {ys : List V} {o : HO} (hL : H L = some (.lst ys)) : ∀ {vs : List V} {rs : List (List Int)}, Rows K H vs rs → Rows K (upd H L o) vs rs
  | _, _, .nil => .nil
  | _, _, .cons ⟨p, h1, h2⟩ t => .cons ⟨p, h1, tup_upd hL h2⟩ (Rows.upd hL t)
theorem Rows.app {K : PySem.W.Frag} {H : Hp} : ∀ {vs us : List V} {rs qs : List (List Int)}, Rows K H vs rs → Rows K H us qs → Rows K H (vs ++ us) (rs ++ qs)
  | _, _, _, _, .nil, h => h
  | _, _, _, _, .cons h1 t, h => .cons h1 (Rows.app t h)
theorem same_upd2 {H H1 : Hp} {L : Addr} {o : HO} (s : Same H H1) (n : H L = none) : Same H (upd H1 L o) := fun b x e => by
  rw [upd_ne (ne_of_none e n)]
  exact s b x e
def extG (m : Nat) (r : List Int) : List (List Int) := (List.range m).map fun t => r ++ [((t : Nat) : Int)]
def layG (m : Nat) : Nat → List (List Int)
  | 0 => [[]]
  | n + 1 => (layG m n).flatMap (extG m)
def rowsG (m n : Nat) : List (List Int) := (List.range (n + 1)).flatMap (layG m)
theorem rowsG_succ (m n : Nat) : rowsG m (n + 1) = rowsG m n ++ layG m (n + 1) := by
  unfold rowsG
  rw [List.range_succ, List.flatMap_append, List.flatMap_singleton]
theorem layG_len (m : Nat) : ∀ n, (layG m n).length = m ^ n
  | 0 => rfl
  | n + 1 => by
    show ((layG m n).flatMap (extG m)).length = m ^ (n + 1)
    rw [List.length_flatMap, Nat.pow_succ, ← layG_len m n]
    generalize layG m n = l
    induction l with
    | nil => simp
    | cons a l ih =>
      rw [List.map_cons, List.sum_cons, ih, List.length_cons]
      have : (extG m a).length = m := by unfold extG; rw [List.length_map, List.length_range]
      rw [this, Nat.succ_mul, Nat.add_comm]
theorem layG_mem {m : Nat} : ∀ {n : Nat} {r : List Int}, r ∈ layG m n → r.length = n ∧ ∀ t ∈ r, 0 ≤ t ∧ t < (m : Int)
  | 0, r, h => by
    rw [List.mem_singleton.mp h]
    exact ⟨rfl, fun t ht => by simp at ht⟩
  | n + 1, r, h => by
    obtain ⟨a, ha, hr⟩ := List.mem_flatMap.mp (show r ∈ (layG m n).flatMap (extG m) from h)
    obtain ⟨t, ht, rfl⟩ := List.mem_map.mp (show r ∈ (List.range m).map fun t => a ++ [((t : Nat) : Int)] from hr)
    obtain ⟨l, al⟩ := layG_mem ha
    refine ⟨by rw [List.length_append, l]; rfl, fun u hu => ?_⟩
    rcases List.mem_append.mp hu with hu | hu
    · exact al u hu
    · rw [List.mem_singleton.mp hu]
      have := List.mem_range.mp ht
      omega
theorem pow_le {m n : Nat} (hm : m ≤ 4) (hn : n ≤ 6) : m ^ n ≤ 4096 := by
  have h1 : m ^ n ≤ 4 ^ n := Nat.pow_le_pow_left hm n
  have h2 : 4 ^ n ≤ 4 ^ 6 := Nat.pow_le_pow_right (by decide) hn
  have h3 : 4 ^ 6 = 4096 := by decide
  omega
theorem rowsG_len {m : Nat} (hm : m ≤ 4) : ∀ n, n ≤ 6 → (rowsG m n).length ≤ 4096 * (n + 1)
  | 0, _ => by
    have : (rowsG m 0).length = 1 := rfl
    omega
  | n + 1, h => by
    rw [rowsG_succ, List.length_append, layG_len]
    have h1 := rowsG_len hm n (by omega)
    have h2 := pow_le hm h
    omega
section
variable {P : Program} {w : World} {K : PySem.W.Frag} {mg : Str → Option Value} {base : Heap}
def sp__law_rows (K : PySem.W.Frag) : Sp := fun vs H Q _ => ∃ m n : Nat, vs = [.int m, .int n] ∧ m ≤ 4 ∧ n ≤ 6 ∧ ∀ p us H', Same H H' → H p = none → H' p = some (.lst us) → Rows K H' us (rowsG m n) → Q (.ref p) H'
theorem ok__law_rows (T : Tx K mg) : FnOk P w K mg base CX0 1 T.f__law_rows T.d__law_rows ["m", "most"] (sp__law_rows K) := by
  refine T.F__law_rows.ok sc__law_rows (fun vs H Q E h => ?_) (fun cdv A outer s H vs Q E hr h => ?_)
  · obtain ⟨m, n, rfl, _⟩ := h; rfl
  · obtain ⟨m, n, rfl, hm, hn, q⟩ := h
    refine ⟨_, (pss_cons (ps_set (i := 2) sc__law_rows.nd rfl (Or.inl rfl) (pe_lst (pa_cons (pe_tup pa_nil) pa_nil)))
    (pss_cons (ps_set (i := 3) sc__law_rows.nd rfl (Or.inl rfl) (pe_lst (pa_cons (pe_tup pa_nil) pa_nil)))
    (pss_cons (ps_for PassesOwn.never rfl (pi_range1 rfl T.n_range (pa_cons (pv 1) pa_nil)) (pg_name (i := 4) sc__law_rows.nd rfl (Or.inl rfl))
    (pss_cons (ps_set (i := 5) sc__law_rows.nd rfl (Or.inl rfl) (pe_lst pa_nil))
    (pss_cons (ps_for PassesOwn.never rfl (pi_list (pv 3)) (pg_name (i := 6) sc__law_rows.nd rfl (Or.inl rfl))
    (pss_one (ps_for PassesOwn.never rfl (pi_range1 rfl T.n_range (pa_cons (pv 0) pa_nil)) (pg_name (i := 7) sc__law_rows.nd rfl (Or.inl rfl))
    (pss_one (ps_expr (pe_bm PySem.F.plainAttrs_list PySem.F.slot_list_append PySem.F.type_list_append mt_append (pv 5) (pa_cons (pe_op op_catA (pv 6) (pe_tup (pa_cons (pv 7) pa_nil))) pa_nil)))))))
    (pss_cons (ps_expr (pe_bm PySem.F.plainAttrs_list PySem.F.slot_list_extend PySem.F.type_list_extend mt_extend (pv 2) (pa_cons (pv 5) pa_nil)))
    (pss_one (ps_set (i := 3) sc__law_rows.nd rfl (Or.inl rfl) (pv 5)))))))
    (pss_one (ps_ret (pv 2)))))), ?_⟩
    refine ⟨Nat.zero_le _, fun e1 ne1 => ⟨small' (by simp), fun R nR => ?_⟩⟩
    refine ⟨Nat.zero_le _, fun e2 ne2 => ⟨small' (by simp), fun L nL => ?_⟩⟩
    have a1 : Same H (upd H e1 (.tup [])) := same_new ne1
    have nRH : H R = none := a1.free nR
    have a2 := same_new (o := .lst [.ref e1]) nR
    have a3 := same_new (o := .tup []) ne2
    have nLH : H L = none := ((a1.trans a2).trans a3).free nL
    have a4 := same_new (o := .lst [.ref e2]) nL
    have RL : R ≠ L := ne_of_none (a3 R _ upd_same) nL
    refine ⟨.int n, rfl, n, rfl, by omega, by omega, ?_⟩
    refine for_range0 (n := ((n : Nat) : Int).toNat) (fun i σ H' => ∃ (L : Addr) (vr vl : List V) (y4 y5 y6 y7 : Option V), σ = [some (.int m), some (.int n), some (.ref R), some (.ref L), y4, y5, y6, y7] ∧ Same H H' ∧ H L = none ∧ R ≠ L ∧ H' R = some (.lst vr) ∧ H' L = some (.lst vl) ∧ Rows K H' vr (rowsG m i) ∧ Rows K H' vl (layG m i))
      ⟨L, [.ref e1], [.ref e2], none, none, none, none, rfl, ((a1.trans a2).trans a3).trans a4, nLH, RL, a4 _ _ (a3 _ _ upd_same), upd_same, ?_, ?_⟩ (fun i σ H' lt h => ?_) (fun σ H' h => ?_)
    · exact .cons ⟨e1, rfl, a4 _ _ (a3 _ _ (a2 _ _ upd_same))⟩ .nil
    · exact .cons ⟨e2, rfl, a4 _ _ upd_same⟩ .nil
    · obtain ⟨L, vr, vl, y4, y5, y6, y7, rfl, sm, nLH, RL, hR, hL, gR, gL⟩ := h
      have ltn : i < n := by omega
      refine ⟨Nat.zero_le _, fun G nG => ?_⟩
      have nGH : H G = none := sm.free nG
      have RG : R ≠ G := ne_of_none hR nG
      have LG : L ≠ G := ne_of_none hL nG
      have b1 := same_new (o := .lst []) nG
      refine ⟨.ref L, rfl, L, rfl, ⟨_, .inl (.inl (b1 _ _ hL))⟩, ?_⟩
      refine for_list (K := K) (a := L) (xs := vl) (fun j σ H2 => ∃ (vg : List V) (y6 y7 : Option V), σ = [some (.int m), some (.int n), some (.ref R), some (.ref L), some (.int (i : Int)), some (.ref G), y6, y7] ∧ Same H H2 ∧ H2 R = some (.lst vr) ∧ H2 L = some (.lst vl) ∧ H2 G = some (.lst vg) ∧ Rows K H2 vr (rowsG m i) ∧ Rows K H2 vl (layG m i) ∧ Rows K H2 vg (((layG m i).take j).flatMap (extG m)))
        ⟨[], y6, y7, rfl, sm.trans b1, b1 _ _ hR, b1 _ _ hL, upd_same, gR.grow b1, gL.grow b1, .nil⟩ (fun j σ H2 _ h => ?_) (fun j x σ H2 ex h => ?_) (fun σ H2 h => ?_)
      · obtain ⟨_, _, _, _, _, _, hL2, _⟩ := h
        exact .inl (.inl hL2)
      · obtain ⟨vg, y6, y7, rfl, sm2, hR2, hL2, hG2, gR2, gL2, gG2⟩ := h
        have ltj : j < vl.length := (List.getElem?_eq_some_iff.mp ex).1
        have el : vl.length = m ^ i := (Paired.length gL).trans (layG_len m i)
        obtain ⟨r, er⟩ : ∃ r, (layG m i)[j]? = some r := ⟨_, List.getElem?_eq_getElem (by rw [← Paired.length gL]; exact ltj)⟩
        obtain ⟨pr, epr, hpr⟩ := gL2.get er
        have ex2 : x = .ref pr := Option.some.inj (ex.symm.trans epr)
        subst ex2
        have lg : vg.length ≤ 4096 * 4 := by
          have h1 := Paired.length gG2
          have h2 : (((layG m i).take j).flatMap (extG m)).length = ((layG m i).take j).length * m := by
            rw [List.length_flatMap]
            generalize (layG m i).take j = l
            induction l with
            | nil => simp
            | cons a l ih =>
              have : (extG m a).length = m := by unfold extG; rw [List.length_map, List.length_range]
              rw [List.map_cons, List.sum_cons, ih, List.length_cons, this, Nat.succ_mul, Nat.add_comm]
          have h3 : ((layG m i).take j).length ≤ 4096 := by
            rw [List.length_take, layG_len]
            have := pow_le hm (show i ≤ 6 by omega)
            omega
          have h4 : ((layG m i).take j).length * m ≤ 4096 * 4 := Nat.mul_le_mul h3 hm
          omega
        refine ⟨.int m, rfl, m, rfl, by omega, by omega, ?_⟩
        refine for_range0 (n := ((m : Nat) : Int).toNat) (fun t σ H3 => ∃ (vt : List V) (y7 : Option V), σ = [some (.int m), some (.int n), some (.ref R), some (.ref L), some (.int (i : Int)), some (.ref G), some (.ref pr), y7] ∧ Same H H3 ∧ H3 R = some (.lst vr) ∧ H3 L = some (.lst vl) ∧ H3 G = some (.lst vt) ∧ Rows K H3 vr (rowsG m i) ∧ Rows K H3 vl (layG m i) ∧ SqT K H3 pr (r.map V.int) ∧
            Rows K H3 vt (((layG m i).take j).flatMap (extG m) ++ (List.range t).map fun k => r ++ [((k : Nat) : Int)]) ∧ vt.length = vg.length + t)
          ⟨vg, y7, rfl, sm2, hR2, hL2, hG2, gR2, gL2, hpr, by rw [List.range_zero, List.map_nil, List.append_nil]; exact gG2, rfl⟩ (fun t σ H3 lt3 h => ?_) (fun σ H3 h => ?_)
        · obtain ⟨vt, y7, rfl, sm3, hR3, hL3, hG3, gR3, gL3, hp3, gt3, lt4⟩ := h
          refine ⟨.ref G, rfl, .inl ⟨rfl, _, .inl (.inl hG3)⟩, .ref pr, rfl, .int (t : Int), rfl, small' (by simp), fun c nc => ?_⟩
          have c1 := same_new (o := .tup [.int (t : Int)]) nc
          have fin : ∀ z H4, Same H3 H4 → H4 z = some (.tup ((r ++ [((t : Nat) : Int)]).map V.int)) → ∃ (vt' : List V) (y7 : Option V), ([some (.int m), some (.int n), some (.ref R), some (.ref L), some (.int (i : Int)), some (.ref G), some (.ref pr), some (.int (t : Int))] : L2.St) = [some (.int m), some (.int n), some (.ref R), some (.ref L), some (.int (i : Int)), some (.ref G), some (.ref pr), y7] ∧
              Same H (upd H4 G (.lst (vt ++ [.ref z]))) ∧ (upd H4 G (.lst (vt ++ [.ref z]))) R = some (.lst vr) ∧ (upd H4 G (.lst (vt ++ [.ref z]))) L = some (.lst vl) ∧ (upd H4 G (.lst (vt ++ [.ref z]))) G = some (.lst vt') ∧ Rows K (upd H4 G (.lst (vt ++ [.ref z]))) vr (rowsG m i) ∧ Rows K (upd H4 G (.lst (vt ++ [.ref z]))) vl (layG m i) ∧
              SqT K (upd H4 G (.lst (vt ++ [.ref z]))) pr (r.map V.int) ∧ Rows K (upd H4 G (.lst (vt ++ [.ref z]))) vt' (((layG m i).take j).flatMap (extG m) ++ (List.range (t + 1)).map fun k => r ++ [((k : Nat) : Int)]) ∧ vt'.length = vg.length + (t + 1) := fun z H4 s4 hz => by
            have hG4 := s4 _ _ hG3
            refine ⟨vt ++ [.ref z], some (.int (t : Int)), rfl, same_upd2 (sm3.trans s4) nGH, ?_, ?_, upd_same, (gR3.grow s4).upd hG4, (gL3.grow s4).upd hG4, seqT_upd hG4 (seqT_grow s4 hp3), ?_, ?_⟩
            · rw [upd_ne RG]; exact s4 _ _ hR3
            · rw [upd_ne LG]; exact s4 _ _ hL3
            · rw [List.range_succ, List.map_append, List.map_singleton, ← List.append_assoc]
              exact ((gt3.grow s4).upd hG4).app (.cons ⟨z, rfl, tup_upd hG4 hz⟩ .nil)
            · rw [List.length_append, lt4]; rfl
          have szt : vt.length < sizeLine := small (by omega)
          refine ⟨pr, c, r.map V.int, [.int (t : Int)], rfl, rfl, seqT_grow c1 hp3, .inl (.inl upd_same), ?_, fun er => ?_, fun _ z => ?_, fun nr _ d nd => ?_⟩
          · have := (layG_mem (List.mem_of_getElem? er)).1
            rw [List.length_map, this]
            exact small' (by show i + 1 ≤ 100000; omega)
          · have hGc := c1 _ _ hG3
            refine ⟨G, vt, .ref c, rfl, rfl, hGc, szt, ?_⟩
            refine fin c _ c1 ?_
            rw [List.map_append, er]
            exact upd_same
          · cases z
          · have d1 := same_new (o := .tup (r.map V.int ++ [.int (t : Int)])) nd
            have hGd := d1 _ _ (c1 _ _ hG3)
            refine ⟨G, vt, .ref d, rfl, rfl, hGd, szt, ?_⟩
            refine fin d _ (c1.trans d1) ?_
            rw [List.map_append]
            exact upd_same
        · obtain ⟨vt, y7, rfl, sm3, hR3, hL3, hG3, gR3, gL3, hp3, gt3, lt4⟩ := h
          refine ⟨vt, some (.ref pr), y7, rfl, sm3, hR3, hL3, hG3, gR3, gL3, ?_⟩
          have e5 : ((layG m i).take (j + 1)).flatMap (extG m) = ((layG m i).take j).flatMap (extG m) ++ (List.range ((m : Nat) : Int).toNat).map fun k => r ++ [((k : Nat) : Int)] := by
            rw [List.take_add_one, er, List.flatMap_append, Int.toNat_natCast]
            show _ = _ ++ extG m r
            simp
          rw [e5]
          exact gt3
      · obtain ⟨vg, y6, y7, rfl, sm2, hR2, hL2, hG2, gR2, gL2, gG2⟩ := h
        have el : vl.length = (layG m i).length := Paired.length gL
        rw [el, List.take_length] at gG2
        have gG3 : Rows K H2 vg (layG m (i + 1)) := gG2
        refine ⟨.ref R, rfl, .inl ⟨rfl, _, .inl (.inl hR2)⟩, .ref G, rfl, R, G, vr, vg, rfl, rfl, hR2, hG2, ?_, ?_⟩
        · have h1 := Paired.length gR
          have h2 := rowsG_len hm i (by omega)
          have h3 := Paired.length gG3
          rw [layG_len] at h3
          have h4 := pow_le hm (show i + 1 ≤ 6 by omega)
          refine small' ?_
          omega
        · refine ⟨.ref G, rfl, ?_⟩
          refine ⟨G, vr ++ vg, vg, some (.int (i : Int)), some (.ref G), y6, y7, rfl, same_upd2 sm2 nRH, nGH, RG, upd_same, ?_, ?_, gG3.upd hR2⟩
          · rw [upd_ne RG.symm]; exact hG2
          · rw [rowsG_succ]
            exact (gR2.upd hR2).app (gG3.upd hR2)
    · obtain ⟨L, vr, vl, y4, y5, y6, y7, rfl, sm, nLH, RL, hR, hL, gR, gL⟩ := h
      rw [Int.toNat_natCast] at gR
      exact ⟨.ref R, rfl, q R vr H' sm nRH hR gR⟩
end
end K4
set_option Elab.async false
set_option linter.all false
set_option maxRecDepth 100000
set_option maxHeartbeats 2000000
namespace K4
open PySem PySem.Spec PyProof.Rows L2 Ver
theorem cut_from {xs : List V} {k : Nat} (h : k ≤ xs.length) : cutV xs (some (k : Int)) none = xs.drop k := by
  unfold cutV
  rw [HT.sIx_nat, HT.sIx_none, Nat.min_eq_left h]
  exact List.take_of_length_le (by rw [List.length_drop]; omega)
theorem cut_to {xs : List V} {k : Nat} (h : k ≤ xs.length) : cutV xs none (some (k : Int)) = xs.take k := by
  unfold cutV
  rw [HT.sIx_none, HT.sIx_nat, Nat.min_eq_left h]
  show (xs.drop 0).take (k - 0) = xs.take k
  rw [List.drop_zero, Nat.sub_zero]
theorem tup_drawn {H H' : Hp} {p a : Addr} {xs : List V} (hp : Pool H p) (d : Drawn p H H') (h : H a = some (.tup xs)) : H' a = some (.tup xs) := by
  obtain ⟨ns, _, _, e⟩ := hp
  exact d.1 a _ (ne_of h e (by intro z; cases z)) h
theorem Rows.drawn {K : PySem.W.Frag} {H H' : Hp} {p : Addr} (hp : Pool H p) (d : Drawn p H H') : ∀ {vs : List V} {rs : List (List Int)}, Rows K H vs rs → Rows K H' vs rs
  | _, _, .nil => .nil
  | _, _, .cons ⟨a, h1, h2⟩ t => .cons ⟨a, h1, tup_drawn hp d h2⟩ (Rows.drawn hp d t)
theorem WrAt.drawn {K : PySem.W.Frag} {H H' : Hp} {p a : Addr} {W : Wr} (hp : Pool H p) (d : Drawn p H H') (h : WrAt K H a W) : WrAt K H' a W := by
  obtain ⟨b, c, wv, nv, h1, h2, h3, h4, h5⟩ := h
  exact ⟨b, c, wv, nv, seqT_drawn hp d h1, seqT_drawn hp d h2, h3.drawn hp d, seqT_drawn hp d h4, h5.drawn hp d⟩
section
variable {P : Program} {w : World} {K : PySem.W.Frag} {mg : Str → Option Value} {base : Heap}
def sp__law_writer (K : PySem.W.Frag) : Sp := fun vs H Q _ => ∃ (p : Addr) (m n : Nat) (tot : Int), vs = [.ref p, .int m, .int tot, .int n] ∧ Pool H p ∧ 1 ≤ m ∧ m ≤ 12 ∧ 1 ≤ tot ∧ tot ≤ 2000000 ∧ 1 ≤ n ∧ n ≤ 12 ∧
  ∀ (a : Addr) (W : Wr) H', W.total = tot → W.ws.length = n → W.Ok m → Drawn p H H' → WrAt K H' a W → Q (.ref a) H'
theorem ok__law_writer (T : Tx K mg) : FnOk P w K mg base CX0 2 T.f__law_writer T.d__law_writer ["pool", "m", "total", "many"] (sp__law_writer K) := by
  refine T.F__law_writer.ok sc__law_writer (fun vs H Q E h => ?_) (fun cdv A outer s H vs Q E hr h => ?_)
  · obtain ⟨p, m, n, tot, rfl, _⟩ := h; rfl
  · obtain ⟨p, m, n, tot, rfl, hP, m0, m1, t0, t1, n0, n1, q⟩ := h
    refine ⟨_, (pss_cons (ps_set (i := 4) sc__law_writer.nd rfl (Or.inl rfl) (pe_lst pa_nil))
    (pss_cons (ps_set (i := 5) sc__law_writer.nd rfl (Or.inl rfl) (pe_lst pa_nil))
    (pss_cons (ps_for PassesOwn.never rfl (pi_range1 rfl T.n_range (pa_cons (pv 3) pa_nil)) (pg_name (i := 6) sc__law_writer.nd rfl (Or.inl rfl))
    (pss_cons (ps_set (i := 7) sc__law_writer.nd rfl (Or.inl rfl) (pv 2))
    (pss_cons (ps_set (i := 8) sc__law_writer.nd rfl (Or.inl rfl) (pe_lst pa_nil))
    (pss_cons (ps_for PassesOwn.never rfl (pi_range1 rfl T.n_range (pa_cons (pv 1) pa_nil)) (pg_name (i := 9) sc__law_writer.nd rfl (Or.inl rfl))
    (pss_cons (ps_expr (pe_bm PySem.F.plainAttrs_list PySem.F.slot_list_append PySem.F.type_list_append mt_append (pv 8) (pa_cons (pe_call (ok__law_pick T) hr rfl T.g__law_pick T.F__law_pick.kp T.b__law_pick .nil pass0 (pa_cons (pv 0) (pa_cons (pe_op op_add (pv 7) pe_int) pa_nil))) pa_nil)))
    (pss_one (ps_set (i := 7) sc__law_writer.nd rfl (Or.inl rfl) (pe_op op_sub (pv 7) (pe_ix ix_list (pv 8) (pe_un un_neg pe_int) (fun _ _ => rfl)))))))
    (pss_cons (ps_expr (pe_bm PySem.F.plainAttrs_list PySem.F.slot_list_append PySem.F.type_list_append mt_append (pv 8) (pa_cons (pv 7) pa_nil)))
    (pss_cons (ps_set (i := 10) sc__law_writer.nd rfl (Or.inl rfl) (pe_call (ok__law_pick T) hr rfl T.g__law_pick T.F__law_pick.kp T.b__law_pick .nil pass0 (pa_cons (pv 0) (pa_cons (pe_op op_add (pv 1) pe_int) pa_nil))))
    (pss_cons (ps_expr (pe_bm PySem.F.plainAttrs_list PySem.F.slot_list_append PySem.F.type_list_append mt_append (pv 4) (pa_cons (pe_callTy call_tuple_of (by rfl) T.n_tuple (by decide +kernel) (pa_cons (pe_op op_cat (pe_slice sl_list (pv 8) (po_some (pv 10)) po_none) (pe_slice sl_list (pv 8) po_none (po_some (pv 10)))) pa_nil)) pa_nil)))
    (pss_one (ps_expr (pe_bm PySem.F.plainAttrs_list PySem.F.slot_list_append PySem.F.type_list_append mt_append (pv 5) (pa_cons (pe_callTy call_tuple_of (by rfl) T.n_tuple (by decide +kernel) (pa_cons (pe_lc (own := [("t", 9)]) (g := gName 9) (tt := tYes) (by rfl) sc__law_writer.nd (pi_range1 rfl T.n_range (pa_cons (pv 1) pa_nil)) (blkOk_by (N := ["pool", "m", "total", "many", "weights", "nexts", "s", "left", "row", "t", "turn"]) (sc := defScope s__law_writer) (by decide +kernel)) (fun _ _ _ _ _ => (pg_name (i := 9) sc__law_writer.nd rfl (Or.inl rfl))) (fun _ _ _ _ _ => pts_nil) (fun _ _ _ _ _ => (pe_call (ok__law_pick T) hr rfl T.g__law_pick T.F__law_pick.kp T.b__law_pick .nil pass0 (pa_cons (pv 0) (pa_cons (pv 3) pa_nil))))) pa_nil)) pa_nil)))))))))))
    (pss_one (ps_ret (pe_tup (pa_cons (pv 2) (pa_cons (pe_callTy call_tuple_of (by rfl) T.n_tuple (by decide +kernel) (pa_cons (pv 4) pa_nil)) (pa_cons (pe_callTy call_tuple_of (by rfl) T.n_tuple (by decide +kernel) (pa_cons (pv 5) pa_nil)) pa_nil))))))))), ?_⟩
    refine ⟨Nat.zero_le _, fun A nA => ⟨Nat.zero_le _, fun B nB => ?_⟩⟩
    have pA : p ≠ A := hP.ne_none nA
    have a1 := same_new (o := .lst []) nA
    have nBH : H B = none := a1.free nB
    have pB : p ≠ B := hP.ne_none nBH
    have AB : A ≠ B := ne_of_none upd_same nB
    have a2 := same_new (o := .lst []) nB
    refine ⟨.int n, rfl, n, rfl, by omega, by omega, ?_⟩
    refine for_range0 (n := ((n : Nat) : Int).toNat) (fun i σ H' => ∃ (va vb : List V) (ws ns : List (List Int)) (y6 y7 y8 y9 y10 : Option V), σ = [some (.ref p), some (.int m), some (.int tot), some (.int n), some (.ref A), some (.ref B), y6, y7, y8, y9, y10] ∧ Drawn p H H' ∧ H' A = some (.lst va) ∧ H' B = some (.lst vb) ∧
        Rows K H' va ws ∧ Rows K H' vb ns ∧ ws.length = i ∧ ns.length = i ∧ (∀ r ∈ ws, r.length = m + 1 ∧ r.sum = tot ∧ ∀ x ∈ r, 0 ≤ x) ∧ (∀ r ∈ ns, r.length = m ∧ ∀ x ∈ r, 0 ≤ x ∧ x < (n : Int)))
      ⟨[], [], [], [], none, none, none, none, none, rfl, (Drawn.refl hP).same (a1.trans a2), a2 _ _ upd_same, upd_same, .nil, .nil, rfl, rfl, by simp, by simp⟩ (fun i σ H' lt h => ?_) (fun σ H' h => ?_)
    · obtain ⟨va, vb, ws, ns, y6, y7, y8, y9, y10, rfl, d, hA, hB, gA, gB, lw, ln, pw, pn⟩ := h
      refine ⟨.int tot, rfl, Nat.zero_le _, fun R nR => ?_⟩
      have s1 := same_new (o := .lst []) nR
      have pR : p ≠ R := d.2.ne_none nR
      have AR : A ≠ R := ne_of_none hA nR
      have BR : B ≠ R := ne_of_none hB nR
      have hP' : Pool H' p := d.2
      refine ⟨.int m, rfl, m, rfl, by omega, by omega, ?_⟩
      refine for_range0 (n := ((m : Nat) : Int).toNat) (fun j σ H2 => ∃ (row : List Int) (left : Int) (y9 : Option V), σ = [some (.ref p), some (.int m), some (.int tot), some (.int n), some (.ref A), some (.ref B), some (.int (i : Int)), some (.int left), some (.ref R), y9, y10] ∧ Drawn p H' H2 ∧ H2 R = some (.lst (List.map V.int row)) ∧ row.length = j ∧ row.sum = tot - left ∧ 0 ≤ left ∧ left ≤ tot ∧ ∀ x ∈ row, 0 ≤ x)
        ⟨[], tot, y9, rfl, (Drawn.refl hP').same s1, upd_same, rfl, by simp, by omega, by omega, by simp⟩ (fun j σ H2 lt2 h => ?_) (fun σ H2 h => ?_)
      · obtain ⟨row, left, y9, rfl, d2, hR, lr, sr, l0, l1, pr⟩ := h
        refine ⟨.ref R, rfl, .inl ⟨rfl, _, .inl (.inl hR)⟩, .ref p, rfl, .int left, rfl, _, _, rfl, rfl, p, left + 1, rfl, d2.2, by omega, by omega, fun x H3 x0 x1 d3 f3 => ?_⟩
        have hR3 : H3 R = some (.lst (row.map V.int)) := d3.1 _ _ pR.symm hR
        refine ⟨R, _, .int x, rfl, rfl, hR3, small (by rw [List.length_map]; omega), ?_⟩
        refine ⟨.int left, rfl, .ref R, rfl, _, rfl, R, row.map V.int ++ [.int x], -1, .int x, rfl, rfl, .inl (.inl upd_same), atI_last _ _, left, x, rfl, rfl, ?_⟩
        refine ⟨row ++ [x], left - x, some (.int (j : Int)), rfl, (d2.trans d3).at nR pR, ?_, ?_, ?_, by omega, by omega, fun z hz => ?_⟩
        · rw [upd_same, List.map_append]; rfl
        · rw [List.length_append, lr]; rfl
        · rw [List.sum_append, sr]; simp; omega
        · rcases List.mem_append.mp hz with hz | hz
          · exact pr z hz
          · rw [List.mem_singleton.mp hz]; exact x0
      · obtain ⟨row, left, y9, rfl, d2, hR, lr, sr, l0, l1, pr⟩ := h
        rw [Int.toNat_natCast] at lr
        refine ⟨.ref R, rfl, .inl ⟨rfl, _, .inl (.inl hR)⟩, .int left, rfl, R, _, _, rfl, rfl, hR, small (by rw [List.length_map]; omega), ?_⟩
        generalize hH3 : upd H2 R (.lst (row.map V.int ++ [.int left])) = H3
        have d3 : Drawn p H' H3 := by rw [← hH3]; exact d2.at nR pR
        have hR3 : H3 R = some (.lst ((row ++ [left]).map V.int)) := by rw [← hH3, upd_same, List.map_append]; rfl
        generalize hrow : row ++ [left] = full at hR3
        have lf : full.length = m + 1 := by rw [← hrow, List.length_append, lr]; rfl
        have sf : full.sum = tot := by rw [← hrow, List.sum_append, sr]; simp
        have pf : ∀ x ∈ full, 0 ≤ x := fun z hz => by
          rw [← hrow] at hz
          rcases List.mem_append.mp hz with hz | hz
          · exact pr z hz
          · rw [List.mem_singleton.mp hz]; exact l0
        refine ⟨.ref p, rfl, .int m, rfl, _, _, rfl, rfl, p, (m : Int) + 1, rfl, d3.2, by omega, by omega, fun k H4 k0 k1 d4 f4 => ?_⟩
        have hR4 := d4.1 _ _ pR.symm hR3
        have hA3 : H3 A = some (.lst va) := d3.1 _ _ pA.symm hA
        have hA4 : H4 A = some (.lst va) := d4.1 _ _ pA.symm hA3
        have hB4 : H4 B = some (.lst vb) := d4.1 _ _ pB.symm (d3.1 _ _ pB.symm hB)
        obtain ⟨k', rfl⟩ : ∃ k' : Nat, k = (k' : Int) := ⟨k.toNat, by omega⟩
        have hk : k' ≤ (full.map V.int).length := by rw [List.length_map]; omega
        refine ⟨.ref A, rfl, .inl ⟨rfl, _, .inl (.inl hA4)⟩, ?_⟩
        refine ⟨.ref R, rfl, .int (k' : Int), rfl, _, rfl, R, _, rfl, .inl (.inl hR4), fun c1 nc1 => ?_⟩
        have e1 := same_new (o := .lst (cutV (full.map V.int) (some (k' : Int)) none)) nc1
        refine ⟨.ref R, rfl, .int (k' : Int), rfl, _, rfl, R, _, rfl, .inl (.inl (e1 _ _ hR4)), fun c2 nc2 => ?_⟩
        have e2 := same_new (o := .lst (cutV (full.map V.int) none (some (k' : Int)))) nc2
        refine ⟨c1, c2, _, _, rfl, rfl, e2 _ _ upd_same, upd_same, ?_, fun c3 nc3 => ?_⟩
        · rw [cut_from hk, cut_to hk, List.length_drop, List.length_take, List.length_map]
          exact small' (by omega)
        have e3 := same_new (o := .lst (cutV (full.map V.int) (some (k' : Int)) none ++ cutV (full.map V.int) none (some (k' : Int)))) nc3
        refine ⟨c3, _, rfl, .inl ⟨.inl (.inl upd_same), fun c4 nc4 => ?_⟩⟩
        have e4 := same_new (o := .tup (cutV (full.map V.int) (some (k' : Int)) none ++ cutV (full.map V.int) none (some (k' : Int)))) nc4
        have e14 : Same H4 _ := ((e1.trans e2).trans e3).trans e4
        generalize hH8 : upd _ c4 (.tup (cutV (full.map V.int) (some (k' : Int)) none ++ cutV (full.map V.int) none (some (k' : Int)))) = H8 at e14
        have t8 : H8 c4 = some (.tup ((full.drop k' ++ full.take k').map V.int)) := by
          rw [List.map_append, List.map_drop, List.map_take, ← cut_from hk, ← cut_to hk, ← hH8]
          exact upd_same
        have hA8 := e14 _ _ hA4
        have lva : va.length = i := (Paired.length gA).trans lw
        have lvb : vb.length = i := (Paired.length gB).trans ln
        refine ⟨A, va, .ref c4, rfl, rfl, hA8, small (by omega), ?_⟩
        have d8 : Drawn p H' H8 := (d3.trans d4).same e14
        have nAH' : ∀ b o, H' b = some o → b ≠ p → H8 b = some o := fun b o e hb => d8.1 b o hb e
        have gA8 := gA.drawn hP' d8
        have gB8 := gB.drawn hP' d8
        have hB8 := e14 _ _ hB4
        generalize hH9 : upd H8 A (.lst (va ++ [.ref c4])) = H9
        have hA9 : H9 A = some (.lst (va ++ [.ref c4])) := by rw [← hH9]; exact upd_same
        have hB9 : H9 B = some (.lst vb) := by rw [← hH9, upd_ne AB.symm]; exact hB8
        have gA9 : Rows K H9 (va ++ [.ref c4]) (ws ++ [full.drop k' ++ full.take k']) := by
          rw [← hH9]
          exact (gA8.upd hA8).app (.cons ⟨c4, rfl, tup_upd hA8 t8⟩ .nil)
        have gB9 : Rows K H9 vb ns := by rw [← hH9]; exact gB8.upd hA8
        have d9 : Drawn p H H9 := by rw [← hH9]; exact (d.trans d8).at nA pA
        refine ⟨.ref B, rfl, .inl ⟨rfl, _, .inl (.inl hB9)⟩, ?_⟩
        refine ⟨.int m, rfl, m, rfl, by omega, by omega, fun D nD => ?_⟩
        have pD : p ≠ D := d9.2.ne_none nD
        have BD : B ≠ D := ne_of_none hB9 nD
        have AD : A ≠ D := ne_of_none hA9 nD
        refine comp_range (n := ((m : Nat) : Int).toNat) (i := 9) (fun acc H5 => Drawn p H9 H5 ∧ ∃ ks : List Int, acc = ks.map V.int ∧ ∀ x ∈ ks, 0 ≤ x ∧ x < (n : Int)) ⟨(Drawn.refl d9.2).same (same_new nD), [], rfl, by simp⟩ (fun acc H5 la h hD => ?_) (fun acc H5 la h hD => ?_)
        · obtain ⟨d5, ks, rfl, pk⟩ := h
          refine ⟨.ref p, rfl, .int n, rfl, p, n, rfl, d5.2, by omega, by omega, fun x H6 x0 x1 d6 f6 => ?_⟩
          refine turned (d6.1 _ _ pD.symm hD) (small (by omega)) ⟨(d5.trans d6).at nD pD, ks ++ [x], by rw [List.map_append]; rfl, fun z hz => ?_⟩
          rcases List.mem_append.mp hz with hz | hz
          · exact pk z hz
          · rw [List.mem_singleton.mp hz]; exact ⟨x0, x1⟩
        · obtain ⟨d5, ks, rfl, pk⟩ := h
          rw [List.length_map, Int.toNat_natCast] at la
          refine ⟨D, _, rfl, .inl ⟨.inl (.inl hD), fun c5 nc5 => ?_⟩⟩
          have e5 := same_new (o := .tup (ks.map V.int)) nc5
          have d10 := d5.same e5
          have hB10 := d10.1 _ _ pB.symm hB9
          refine ⟨B, vb, .ref c5, rfl, rfl, hB10, small (by omega), ?_⟩
          refine ⟨va ++ [.ref c4], vb ++ [.ref c5], ws ++ [full.drop k' ++ full.take k'], ns ++ [ks], some (.int (i : Int)), some (.int left), some (.ref R), y9, some (.int (k' : Int)), rfl, (d9.trans d10).at nBH pB, ?_, upd_same, ?_, ?_, ?_, ?_, fun r hr => ?_, fun r hr => ?_⟩
          · rw [upd_ne AB]
            exact d10.1 _ _ pA.symm hA9
          · exact (gA9.drawn d9.2 d10).upd hB10
          · exact ((gB9.drawn d9.2 d10).upd hB10).app (.cons ⟨c5, rfl, tup_upd hB10 upd_same⟩ .nil)
          · rw [List.length_append, lw]; rfl
          · rw [List.length_append, ln]; rfl
          · rcases List.mem_append.mp hr with hr | hr
            · exact pw r hr
            · rw [List.mem_singleton.mp hr]
              refine ⟨?_, ?_, fun x hx => ?_⟩
              · rw [List.length_append, List.length_drop, List.length_take]; omega
              · rw [List.sum_append, Int.add_comm, ← List.sum_append, List.take_append_drop, sf]
              · rcases List.mem_append.mp hx with hx | hx
                · exact pf x (List.mem_of_mem_drop hx)
                · exact pf x (List.mem_of_mem_take hx)
          · rcases List.mem_append.mp hr with hr | hr
            · exact pn r hr
            · rw [List.mem_singleton.mp hr]
              exact ⟨la, pk⟩
    · obtain ⟨va, vb, ws, ns, y6, y7, y8, y9, y10, rfl, d, hA, hB, gA, gB, lw, ln, pw, pn⟩ := h
      rw [Int.toNat_natCast] at lw ln
      refine ⟨.int tot, rfl, .ref A, rfl, A, _, rfl, .inl ⟨.inl (.inl hA), fun b nb => ?_⟩⟩
      have e1 := same_new (o := .tup va) nb
      refine ⟨.ref B, rfl, B, _, rfl, .inl ⟨.inl (.inl (e1 _ _ hB)), fun c nc => ⟨small' (by simp), fun a na => ?_⟩⟩⟩
      have e2 := same_new (o := .tup vb) nc
      have e3 := same_new (o := .tup [.int tot, .ref b, .ref c]) na
      refine q a ⟨tot, ws, ns⟩ _ rfl lw ?_ (d.same ((e1.trans e2).trans e3)) ⟨b, c, va, vb, .inl (.inl upd_same), .inl (.inl (e3 _ _ (e2 _ _ upd_same))), gA.grow ((e1.trans e2).trans e3), .inl (.inl (e3 _ _ upd_same)), gB.grow ((e1.trans e2).trans e3)⟩
      exact ⟨t0, t1, by show ns.length = ws.length; omega, by show 1 ≤ ws.length; omega, by show ws.length ≤ 12; omega, m1, pw, fun r hr => by
        have := pn r hr
        show r.length = m ∧ ∀ x ∈ r, 0 ≤ x ∧ x < ((ws.length : Nat) : Int)
        rw [lw]
        exact this⟩
end
end K4
set_option Elab.async false
set_option linter.all false
set_option maxRecDepth 100000
set_option maxHeartbeats 2000000
namespace K4
open PySem PySem.Spec PyProof.Rows L2 Ver
section
variable {P : Program} {w : World} {K : PySem.W.Frag} {mg : Str → Option Value} {base : Heap}
def sp__law_choice (K : PySem.W.Frag) : Sp := sp_chosen K
theorem ok__law_choice (T : Tx K mg) : FnOk P w K mg base CX0 1 T.f__law_choice T.d__law_choice ["weights", "digit"] (sp__law_choice K) := by
  refine T.F__law_choice.ok sc__law_choice (fun vs H Q E h => ?_) (fun cdv A outer s H vs Q E hr h => ?_)
  · obtain ⟨p, r, d, rfl, _⟩ := h; rfl
  · obtain ⟨p, r, d, rfl, hs, hne, hz, q⟩ := h
    refine ⟨_, (pss_cons (ps_set (i := 2) sc__law_choice.nd rfl (Or.inl rfl) pe_int)
    (pss_cons (ps_for PassesOwn.never rfl (pi_range1 rfl T.n_range (pa_cons (pe_op op_sub (pe_callB call_len_seq (by rfl) T.n_len (by decide +kernel) (pa_cons (pv 0) pa_nil)) pe_int) pa_nil)) (pg_name (i := 3) sc__law_choice.nd rfl (Or.inl rfl))
    (pss_cons (ps_set (i := 2) sc__law_choice.nd rfl (Or.inl rfl) (pe_op op_add (pv 2) (pe_ix ix_tup (pv 0) (pv 3) (fun _ _ => rfl))))
    (pss_one (ps_if (pt_cmpR op_lt (pv 1) (pv 2) (nomark _)) (pss_one (ps_ret (pv 3))) pss_nil))))
    (pss_one (ps_ret (pe_un un_neg pe_int))))), ?_⟩
    have pos : 1 ≤ r.length := by cases r with | nil => exact absurd rfl hne | cons a b => simp
    refine ⟨.ref p, rfl, p, _, rfl, .inr hs, _, _, rfl, rfl, _, rfl, ?_, ?_, ?_⟩
    · rw [List.length_map]; omega
    · rw [List.length_map]; omega
    have en : (((r.map V.int).length : Int) - 1).toNat = r.dropLast.length := by rw [List.length_map, List.length_dropLast]; omega
    rw [en]
    refine for_range0 (n := r.dropLast.length) (fun i σ H' => H' = H ∧ ∃ y, σ = [some (.ref p), some (.int d), some (.int (r.dropLast.take i).sum), y] ∧ choG (r.dropLast.take i).sum i (r.dropLast.drop i) d = cho r d) ⟨rfl, none, rfl, rfl⟩ (fun i σ H' lt h => ?_) (fun σ H' h => ?_)
    · obtain ⟨rfl, y, rfl, e⟩ := h
      have e1 : r.dropLast[i]? = some r.dropLast[i] := List.getElem?_eq_getElem lt
      have e2 : (r.map V.int)[i]? = some (.int r.dropLast[i]) := by
        have lt2 : i < r.length := by rw [List.length_dropLast] at lt; omega
        rw [List.getElem?_map, List.getElem?_eq_getElem lt2, List.getElem_dropLast]
        rfl
      refine ⟨_, rfl, .ref p, rfl, _, rfl, p, _, _, _, rfl, rfl, hs, atI_nat (j := i) e2, _, _, rfl, rfl, ?_⟩
      refine ⟨.int d, rfl, _, rfl, d, _, rfl, rfl, _, rfl, ?_⟩
      have st := choG_step (acc := (r.dropLast.take i).sum) (d := d) e1
      rw [e] at st
      by_cases lt3 : d < (r.dropLast.take i).sum + r.dropLast[i]
      · rw [decide_eq_true lt3]
        rw [if_pos lt3] at st
        refine ⟨_, rfl, ?_⟩
        have q' := q
        rw [st] at q'
        exact q'
      · rw [decide_eq_false lt3]
        rw [if_neg lt3] at st
        refine ⟨rfl, some (.int (i : Int)), ?_, ?_⟩
        · rw [sum_take_succ e1]
          rfl
        · rw [sum_take_succ e1]
          exact st.symm
    · obtain ⟨rfl, y, rfl, e⟩ := h
      rw [List.drop_length] at e
      have q' := q
      rw [← e] at q'
      exact ⟨_, rfl, q'⟩

def sp__law_says (K : PySem.W.Frag) : Sp := fun vs H Q _ => ∃ (a p : Addr) (W : Wr) (m : Nat) (r : List Int), vs = [.ref a, .ref p] ∧ WrAt K H a W ∧ W.Ok m ∧ SqT K H p (r.map V.int) ∧ r.length ≤ 100 ∧
  ∀ b c H', Same H H' → H' b = some (.tup [.ref c, .bl (sayG W 0 r).2, .int (usedG (sayG W 0 r))]) → H' c = some (.tup ((sayG W 0 r).1.map V.int)) → Q (.ref b) H'
theorem ok__law_says (T : Tx K mg) : FnOk P w K mg base CX0 2 T.f__law_says T.d__law_says ["writer", "tape"] (sp__law_says K) := by
  refine T.F__law_says.ok sc__law_says (fun vs H Q E h => ?_) (fun cdv A outer s H vs Q E hr h => ?_)
  · obtain ⟨a, p, W, m, r, rfl, _⟩ := h; rfl
  · obtain ⟨a, p, W, m, r, rfl, hW, hok, hp, hz, q⟩ := h
    refine ⟨_, (pss_cons (ps_set (i := 2) sc__law_says.nd rfl (Or.inl rfl) pe_int)
    (pss_cons (ps_set (i := 3) sc__law_says.nd rfl (Or.inl rfl) (pe_tup pa_nil))
    (pss_cons (ps_set (i := 4) sc__law_says.nd rfl (Or.inl rfl) pe_int)
    (pss_cons (ps_for PassesOwn.never rfl (pi_tup (pv 1)) (pg_name (i := 5) sc__law_says.nd rfl (Or.inl rfl))
    (pss_cons (ps_set (i := 4) sc__law_says.nd rfl (Or.inl rfl) (pe_op op_add (pv 4) pe_int))
    (pss_cons (ps_set (i := 6) sc__law_says.nd rfl (Or.inl rfl) (pe_call (ok__law_choice T) hr rfl T.g__law_choice T.F__law_choice.kp T.b__law_choice .nil pass0 (pa_cons (pe_ix ix_tup (pe_ix ix_tup (pv 0) pe_int (fun _ _ => rfl)) (pv 2) (fun _ _ => rfl)) (pa_cons (pv 5) pa_nil))))
    (pss_cons (ps_if (pt_cmpR op_eq (pv 6) (pe_un un_neg pe_int) (nomark _)) (pss_one (ps_ret (pe_tup (pa_cons (pv 3) (pa_cons pe_bl (pa_cons (pv 4) pa_nil)))))) pss_nil)
    (pss_cons (ps_set (i := 3) sc__law_says.nd rfl (Or.inl rfl) (pe_op op_catA (pv 3) (pe_tup (pa_cons (pv 6) pa_nil))))
    (pss_one (ps_set (i := 2) sc__law_says.nd rfl (Or.inl rfl) (pe_ix ix_tup (pe_ix ix_tup (pe_ix ix_tup (pv 0) pe_int (fun _ _ => rfl)) (pv 2) (fun _ _ => rfl)) (pv 6) (fun _ _ => rfl)))))))))
    (pss_one (ps_ret (pe_tup (pa_cons (pv 3) (pa_cons pe_bl (pa_cons (pv 4) pa_nil)))))))))), ?_⟩
    obtain ⟨b, c, wv, nv, s1, s2, l1, s3, l2, g1, g2⟩ := hW.row
    refine ⟨Nat.zero_le _, fun R0 nR0 => ?_⟩
    have a0 := same_new (o := .tup []) nR0
    refine ⟨.ref p, rfl, p, rfl, ⟨_, seqT_grow a0 hp⟩, ?_⟩
    refine for_tup (K := K) (a := p) (xs := r.map V.int) (fun i σ H' => ∃ (s : Int) (R : Addr) (acc : List Int) (y5 y6 : Option V), σ = [some (.ref a), some (.ref p), some (.int s), some (.ref R), some (.int (i : Int)), y5, y6] ∧ 0 ≤ s ∧ s < W.ws.length ∧
        Same H H' ∧ H' R = some (.tup (acc.map V.int)) ∧ acc.length = i ∧ (acc ++ (sayG W s (r.drop i)).1, (sayG W s (r.drop i)).2) = sayG W 0 r)
      ⟨0, R0, [], none, none, rfl, by omega, by have := hok.any1; omega, a0, upd_same, rfl, rfl⟩ (fun i σ H' _ h => ?_) (fun i x σ H' ex h => ?_) (fun σ H' h => ?_)
    · obtain ⟨_, _, _, _, _, _, _, _, sm', _⟩ := h
      exact seqT_grow sm' hp
    · obtain ⟨s, R, acc, y5, y6, rfl, k0, k1, sm', hR, el, e⟩ := h
      rw [List.getElem?_map] at ex
      cases et : r[i]? with
      | none => rw [et] at ex; cases ex
      | some d =>
        rw [et] at ex
        have ex' : V.int d = x := Option.some.inj ex
        subst ex'
        obtain ⟨lt, et'⟩ := List.getElem?_eq_some_iff.mp et
        rw [List.drop_eq_getElem_cons lt, et'] at e
        obtain ⟨ew, lw, sw, pw⟩ := hok.atW k0 k1
        obtain ⟨pp, epp, hpp⟩ := g1 _ _ ew
        refine ⟨.int (i : Int), rfl, _, _, rfl, rfl, ?_⟩
        refine ⟨.ref a, rfl, a, _, 1, .ref b, rfl, rfl, seqT_grow sm' s1, rfl, .int s, rfl, b, wv, s, _, rfl, rfl, seqT_grow sm' s2, at_ref k0 epp, .int d, rfl, pp, wsAt W s, d, rfl, seqT_grow sm' hpp, ?_, ?_, ?_⟩
        · intro z; rw [z] at lw; simp at lw
        · have := hok.few'; omega
        refine ⟨.int (cho (wsAt W s) d), rfl, _, rfl, rfl, _, rfl, ite2 (fun z => ?_) (fun z => ?_)⟩
        · have z1 : cho (wsAt W s) d = -1 := V.int.inj (of_decide_eq_true z)
          rw [sayG_end z1, List.append_nil] at e
          refine ⟨.ref R, rfl, _, rfl, small' (by simp), fun t nt => ?_⟩
          refine q t R _ (sm'.trans (same_new nt)) ?_ ?_
          · rw [upd_same, ← e]
            show _ = some (HO.tup [.ref R, .bl true, .int ((acc.length : Int) + 1)])
            rw [el]
          · rw [upd_ne (ne_of_none hR nt), ← e]; exact hR
        · have z1 : cho (wsAt W s) d ≠ -1 := fun z2 => z (by rw [z2]; rfl)
          rw [sayG_on z1] at e
          rcases cho_in lw d with z2 | ⟨c0, c1⟩
          · exact absurd z2 z1
          obtain ⟨en, ln, an⟩ := hok.atN k0 k1
          obtain ⟨pn, epn, hpn⟩ := g2 _ _ en
          obtain ⟨en3, n0', n1'⟩ := hok.nxt k0 k1 c0 c1
          refine ⟨.ref R, rfl, .int (cho (wsAt W s) d), rfl, small' (by simp), fun t nt => ?_⟩
          have e1 := same_new (o := .tup [.int (cho (wsAt W s) d)]) nt
          have fin : ∀ z H4, Same H H4 → H4 z = some (.tup ((acc ++ [cho (wsAt W s) d]).map V.int)) → SqT K H4 a [.int W.total, .ref b, .ref c] ∧ SqT K H4 c nv ∧ SqT K H4 pn ((nsAt W s).map V.int) := fun z H4 s4 hz => ⟨seqT_grow s4 s1, seqT_grow s4 s3, seqT_grow s4 hpn⟩
          have done : ∀ z H4, Same H H4 → H4 z = some (.tup ((acc ++ [cho (wsAt W s) d]).map V.int)) → ∃ (s_1 : Int) (R : Addr) (acc : List Int) (y5 y6 : Option V), ([some (.ref a), some (.ref p), some (.int (nxt W s (cho (wsAt W s) d))), some (.ref z), some (.int ((i : Int) + 1)), some (.int d), some (.int (cho (wsAt W s) d))] : L2.St) = [some (.ref a), some (.ref p), some (.int s_1), some (.ref R), some (.int ((i + 1 : Nat) : Int)), y5, y6] ∧ 0 ≤ s_1 ∧ s_1 < W.ws.length ∧
              Same H H4 ∧ H4 R = some (.tup (acc.map V.int)) ∧ acc.length = i + 1 ∧ (acc ++ (sayG W s_1 (r.drop (i + 1))).1, (sayG W s_1 (r.drop (i + 1))).2) = sayG W 0 r := fun z H4 s4 hz =>
            ⟨nxt W s (cho (wsAt W s) d), z, acc ++ [cho (wsAt W s) d], some (.int d), some (.int (cho (wsAt W s) d)), by rw [Int.natCast_add]; rfl, n0', n1', s4, hz, by rw [List.length_append, el]; rfl, by rw [List.append_assoc]; exact e⟩
          refine ⟨R, t, acc.map V.int, [.int (cho (wsAt W s) d)], rfl, rfl, .inl (.inl (e1 _ _ hR)), .inl (.inl upd_same), small' (by rw [List.length_map]; show acc.length + 1 ≤ 100000; omega), fun er => ?_, fun _ z => ?_, fun nr _ t2 nt2 => ?_⟩
          · have ea : acc = [] := List.map_eq_nil_iff.mp er
            obtain ⟨f1, f2, f3⟩ := fin t _ (sm'.trans e1) (by rw [ea]; exact upd_same)
            refine ⟨.ref a, rfl, a, _, 2, .ref c, rfl, rfl, f1, rfl, .int s, rfl, c, nv, s, _, rfl, rfl, f2, at_ref k0 epn, .int (cho (wsAt W s) d), rfl, pn, _, _, _, rfl, rfl, f3, at_map c0 en3, ?_⟩
            exact done t _ (sm'.trans e1) (by rw [ea]; exact upd_same)
          · cases z
          · have e2 := same_new (o := .tup (acc.map V.int ++ [.int (cho (wsAt W s) d)])) nt2
            have ht : (upd (upd H' t (.tup [.int (cho (wsAt W s) d)])) t2 (.tup (acc.map V.int ++ [.int (cho (wsAt W s) d)]))) t2 = some (.tup ((acc ++ [cho (wsAt W s) d]).map V.int)) := by
              rw [upd_same, List.map_append]; rfl
            obtain ⟨f1, f2, f3⟩ := fin t2 _ ((sm'.trans e1).trans e2) ht
            refine ⟨.ref a, rfl, a, _, 2, .ref c, rfl, rfl, f1, rfl, .int s, rfl, c, nv, s, _, rfl, rfl, f2, at_ref k0 epn, .int (cho (wsAt W s) d), rfl, pn, _, _, _, rfl, rfl, f3, at_map c0 en3, ?_⟩
            exact done t2 _ ((sm'.trans e1).trans e2) ht
    · obtain ⟨s, R, acc, y5, y6, rfl, k0, k1, sm', hR, el, e⟩ := h
      rw [List.length_map, List.drop_length] at e
      have e' : (acc ++ [], false) = sayG W 0 r := e
      rw [List.append_nil] at e'
      refine ⟨.ref R, rfl, _, rfl, small' (by simp), fun t nt => ?_⟩
      refine q t R _ (sm'.trans (same_new nt)) ?_ ?_
      · rw [upd_same, ← e']
        show _ = some (HO.tup [.ref R, .bl false, .int ((acc.length : Int) + 0)])
        rw [el, Int.add_zero]
      · rw [upd_ne (ne_of_none hR nt), ← e']; exact hR

def sp__law_walked (K : PySem.W.Frag) : Sp := fun vs H Q _ => ∃ (a p : Addr) (W : Wr) (m : Nat) (r : List Int), vs = [.ref a, .ref p] ∧ WrAt K H a W ∧ W.Ok m ∧ SqT K H p (r.map V.int) ∧ (∀ t : Int, t ∈ r → 0 ≤ t ∧ t < (m : Int)) ∧ Q (.int (ledG W 0 r)) H
theorem ok__law_walked (T : Tx K mg) : FnOk P w K mg base CX0 1 T.f__law_walked T.d__law_walked ["writer", "row"] (sp__law_walked K) := by
  refine T.F__law_walked.ok sc__law_walked (fun vs H Q E h => ?_) (fun cdv A outer s H vs Q E hr h => ?_)
  · obtain ⟨a, p, W, m, r, rfl, _⟩ := h; rfl
  · obtain ⟨a, p, W, m, r, rfl, hW, hok, hp, hr2, q⟩ := h
    refine ⟨_, (pss_cons (ps_set (i := 2) sc__law_walked.nd rfl (Or.inl rfl) pe_int)
    (pss_cons (ps_for PassesOwn.never rfl (pi_tup (pv 1)) (pg_name (i := 3) sc__law_walked.nd rfl (Or.inl rfl))
    (pss_one (ps_set (i := 2) sc__law_walked.nd rfl (Or.inl rfl) (pe_ix ix_tup (pe_ix ix_tup (pe_ix ix_tup (pv 0) pe_int (fun _ _ => rfl)) (pv 2) (fun _ _ => rfl)) (pv 3) (fun _ _ => rfl)))))
    (pss_one (ps_ret (pv 2))))), ?_⟩
    obtain ⟨b, c, wv, nv, s1, s2, l1, s3, l2, g1, g2⟩ := hW.row
    refine ⟨.ref p, rfl, p, rfl, ⟨_, hp⟩, ?_⟩
    refine for_tup (K := K) (a := p) (xs := r.map V.int) (fun i σ H' => H' = H ∧ ∃ s y, σ = [some (.ref a), some (.ref p), some (.int s), y] ∧ 0 ≤ s ∧ s < W.ws.length ∧ ledG W s (r.drop i) = ledG W 0 r) ⟨rfl, 0, none, rfl, by omega, by have := hok.any1; omega, rfl⟩ (fun i σ H' _ h => by rw [h.1]; exact hp) (fun i x σ H' ex h => ?_) (fun σ H' h => ?_)
    · obtain ⟨rfl, s, y, rfl, k0, k1, e⟩ := h
      rw [List.getElem?_map] at ex
      cases et : r[i]? with
      | none => rw [et] at ex; cases ex
      | some t =>
        rw [et] at ex
        have ex' : V.int t = x := Option.some.inj ex
        subst ex'
        obtain ⟨t0, t1⟩ := hr2 t (List.mem_of_getElem? et)
        obtain ⟨e1, _, _⟩ := hok.atN k0 k1
        obtain ⟨pn, epn, hpn⟩ := g2 _ _ e1
        obtain ⟨e3, n0, n1⟩ := hok.nxt k0 k1 t0 t1
        refine ⟨.ref a, rfl, a, _, 2, .ref c, rfl, rfl, s1, rfl, .int s, rfl, c, nv, s, _, rfl, rfl, s3, at_ref k0 epn, .int t, rfl, pn, _, t, _, rfl, rfl, hpn, at_map t0 e3, ?_⟩
        refine ⟨rfl, nxt W s t, some (.int t), rfl, n0, n1, ?_⟩
        rw [← ledG_step et]
        exact e
    · obtain ⟨rfl, s, y, rfl, k0, k1, e⟩ := h
      rw [List.length_map, List.drop_length] at e
      have e' : s = ledG W 0 r := e
      refine ⟨.int s, rfl, ?_⟩
      rw [e']
      exact q
end
end K4
set_option Elab.async false
set_option linter.all false
set_option maxRecDepth 100000
set_option maxHeartbeats 2000000
namespace K4
open PySem PySem.Spec PyProof.Rows L2 Ver
def noD (z : Str) : PyData := .list [.str "not usable", .str z]
def choiceD (W : Wr) (d e : PyData) : PyData := if belowD W.ws.length d = false then noD "state" else if belowD W.total e = false then noD "digit" else match d, e with | .int s, .int i => .int (cho (wsAt W s) i) | _, _ => .none
section
variable {P : Program} {w : World} {K : PySem.W.Frag} {mg : Str → Option Value} {base : Heap}
theorem no_at {H : Hp} {L : Addr} {z : Str} (h : H L = some (.lst [.str "not usable", .str z])) : Dp K H (.ref L) (noD z) := .lst (.inl (.inl h)) (.cons (.str _) (.cons (.str _) .nil))
def sp__law_choice_told (K : PySem.W.Frag) : Sp := fun vs H Q _ => ∃ t a W m x d y e b, vs = [t, .ref a, x, y, .bl b] ∧ WrAt K H a W ∧ W.Ok m ∧ Dp K H x d ∧ Dp K H y e ∧ ∀ v H', Same H H' → Dp K H' v (choiceD W d e) → Q v H'
theorem ok__law_choice_told (T : Tx K mg) : FnOk P w K mg base CX0 6 T.f__law_choice_told T.d__law_choice_told ["tokens", "writer", "state", "digit", "named"] (sp__law_choice_told K) := by
  refine T.F__law_choice_told.ok sc__law_choice_told (fun vs H Q E h => ?_) (fun cdv A outer s H vs Q E hr h => ?_)
  · obtain ⟨t, a, W, m, x, d, y, e, b, rfl, _⟩ := h; rfl
  · obtain ⟨t, a, W, m, x, d, y, e, b, rfl, hW, hok, hd, he, q⟩ := h
    refine ⟨_, (pss_one (ps_try_as (i := 5) (Wout := fun _ _ _ _ => False) rfl rfl sc__law_choice_told.nd rfl rfl ⟨rfl, by decide, Or.inl T.nus.gC⟩ takes0
    (fun W pn xe tk _ => (pss_cons (ps_if (pt_val (pv 4)) (pss_one (ps_ret (pe_callKw (ok_choice_of T) hr rfl T.g_choice_of T.F_choice_of.kp T.k_choice_of (fun σ => passAt tk σ) (pk_cons (pv 3) (pk_cons (pv 2) (pk_cons (pv 1) (pk_cons (pv 0) pk_nil))))))) pss_nil)
    (pss_one (ps_ret (pe_callS (ok_choice_of T) hr rfl T.g_choice_of T.F_choice_of.kp T.b_choice_of (fun σ => passAt tk σ) (pa_cons (pv 0) (pa_cons (pv 1) (pa_cons (pv 2) (pa_cons (pv 3) pa_nil)))))))))
    (fun a oe cls d pn hz hf => (pss_one (ps_ret (pe_lst (pa_cons pe_str (pa_cons (pe_byNus T.nus hz hf (pv 5)) pa_nil)))))))), ?_⟩
    have c1 : belowD W.ws.length d = false → choiceD W d e = noD "state" := fun k => by unfold choiceD; rw [if_pos k]
    have c2 : belowD W.ws.length d = true → belowD W.total e = false → choiceD W d e = noD "digit" := fun k k2 => by unfold choiceD; rw [if_neg (by rw [k]; exact Bool.noConfusion), if_pos k2]
    have c3 : ∀ s i : Int, d = .int s → e = .int i → belowD W.ws.length d = true → belowD W.total e = true → choiceD W d e = .int (cho (wsAt W s) i) := fun s i e1 e2 k k2 => by
      unfold choiceD
      rw [if_neg (by rw [k]; exact Bool.noConfusion), if_neg (by rw [k2]; exact Bool.noConfusion), e1, e2]
    refine ⟨.bl b, rfl, b, rfl, ?_⟩
    cases b with
    | true =>
      refine ⟨y, rfl, x, rfl, .ref a, rfl, t, rfl, rfl, t, a, W, m, x, d, y, e, rfl, hW, hok, hd, he, fun k => ?_, fun k k2 => ?_, fun s i e1 e2 k k2 => ?_⟩
      · exact fun H' dd sm n => ⟨true, T.nus.te, fun _ u hu => ⟨.ref u, rfl, rfl, rfl, dd, _, rfl, upd_same, small' (by simp), fun L nL => q _ _ ((sm.trans (same_new n)).trans (same_new nL)) (by rw [c1 k]; exact no_at upd_same)⟩, fun z => Bool.noConfusion z⟩
      · exact fun H' dd sm n => ⟨true, T.nus.te, fun _ u hu => ⟨.ref u, rfl, rfl, rfl, dd, _, rfl, upd_same, small' (by simp), fun L nL => q _ _ ((sm.trans (same_new n)).trans (same_new nL)) (by rw [c2 k k2]; exact no_at upd_same)⟩, fun z => Bool.noConfusion z⟩
      · exact q _ H (Same.refl H) (by rw [c3 s i e1 e2 k k2]; exact .int _)
    | false =>
      refine ⟨t, rfl, .ref a, rfl, x, rfl, y, rfl, t, a, W, m, x, d, y, e, rfl, hW, hok, hd, he, fun k => ?_, fun k k2 => ?_, fun s i e1 e2 k k2 => ?_⟩
      · exact fun H' dd sm n => ⟨true, T.nus.te, fun _ u hu => ⟨.ref u, rfl, rfl, rfl, dd, _, rfl, upd_same, small' (by simp), fun L nL => q _ _ ((sm.trans (same_new n)).trans (same_new nL)) (by rw [c1 k]; exact no_at upd_same)⟩, fun z => Bool.noConfusion z⟩
      · exact fun H' dd sm n => ⟨true, T.nus.te, fun _ u hu => ⟨.ref u, rfl, rfl, rfl, dd, _, rfl, upd_same, small' (by simp), fun L nL => q _ _ ((sm.trans (same_new n)).trans (same_new nL)) (by rw [c2 k k2]; exact no_at upd_same)⟩, fun z => Bool.noConfusion z⟩
      · exact q _ H (Same.refl H) (by rw [c3 s i e1 e2 k k2]; exact .int _)

def tapeToldD (W : Wr) (d : PyData) (r : List Int) : PyData := if tapeD W.total d = false then noD "tape" else saidD (sayG W 0 r)
def sp__law_tape_told (K : PySem.W.Frag) : Sp := fun vs H Q _ => ∃ t a W m x d b, vs = [t, .ref a, x, .bl b] ∧ WrAt K H a W ∧ W.Ok m ∧ Dp K H x d ∧ lenD d ≤ 1000 ∧ (∀ v H', Same H H' → tapeD W.total d = false → Dp K H' v (noD "tape") → Q v H') ∧
  (∀ r : List Int, d = .tuple (r.map PyData.int) → tapeD W.total d = true → ∀ v H', Same H H' → Dp K H' v (saidD (sayG W 0 r)) → Q v H')
theorem ok__law_tape_told (T : Tx K mg) : FnOk P w K mg base CX0 6 T.f__law_tape_told T.d__law_tape_told ["tokens", "writer", "tape", "named"] (sp__law_tape_told K) := by
  refine T.F__law_tape_told.ok sc__law_tape_told (fun vs H Q E h => ?_) (fun cdv A outer s H vs Q E hr h => ?_)
  · obtain ⟨t, a, W, m, x, d, b, rfl, _⟩ := h; rfl
  · obtain ⟨t, a, W, m, x, d, b, rfl, hW, hok, hd, hz, q1, q2⟩ := h
    refine ⟨_, (pss_one (ps_try_as (i := 4) (Wout := fun _ _ _ _ => False) rfl rfl sc__law_tape_told.nd rfl rfl ⟨rfl, by decide, Or.inl T.nus.gC⟩ takes0
    (fun W pn xe tk _ => (pss_cons (ps_if (pt_val (pv 3)) (pss_one (ps_ret (pe_callKw (ok_says T) hr rfl T.g_says T.F_says.kp T.k_says (fun σ => passAt tk σ) (pk_cons (pv 2) (pk_cons (pv 1) (pk_cons (pv 0) pk_nil)))))) pss_nil)
    (pss_one (ps_ret (pe_callS (ok_says T) hr rfl T.g_says T.F_says.kp T.b_says (fun σ => passAt tk σ) (pa_cons (pv 0) (pa_cons (pv 1) (pa_cons (pv 2) pa_nil))))))))
    (fun a oe cls d pn hz hf => (pss_one (ps_ret (pe_lst (pa_cons pe_str (pa_cons (pe_byNus T.nus hz hf (pv 4)) pa_nil)))))))), ?_⟩
    have no : tapeD W.total d = false → ∀ H' L, Same H H' → H' L = some (.lst [.str "not usable", .str "tape"]) → Q (.ref L) H' := fun k H' L sm hL => q1 _ H' sm k (no_at hL)
    refine ⟨.bl b, rfl, b, rfl, ?_⟩
    cases b with
    | true =>
      refine ⟨x, rfl, .ref a, rfl, t, rfl, rfl, t, a, W, m, x, d, rfl, hW, hok, hd, hz, fun k => ?_, q2⟩
      exact fun H' dd sm n => ⟨true, T.nus.te, fun _ u hu => ⟨.ref u, rfl, rfl, rfl, dd, _, rfl, upd_same, small' (by simp), fun L nL => no k _ L ((sm.trans (same_new n)).trans (same_new nL)) upd_same⟩, fun z => Bool.noConfusion z⟩
    | false =>
      refine ⟨t, rfl, .ref a, rfl, x, rfl, t, a, W, m, x, d, rfl, hW, hok, hd, hz, fun k => ?_, q2⟩
      exact fun H' dd sm n => ⟨true, T.nus.te, fun _ u hu => ⟨.ref u, rfl, rfl, rfl, dd, _, rfl, upd_same, small' (by simp), fun L nL => no k _ L ((sm.trans (same_new n)).trans (same_new nL)) upd_same⟩, fun z => Bool.noConfusion z⟩

def sp__law_many_told (K : PySem.W.Frag) : Sp := fun vs H Q _ => ∃ t ts a W x d y e b, vs = [.ref t, .ref a, x, y, .bl b] ∧ SqT K H t ts ∧ WrAt K H a W ∧ W.Ok ts.length ∧ Dp K H x d ∧ lenD d ≤ 1000 ∧ Dp K H y e ∧
  (rowD ts.length d = false → ∀ v H', Same H H' → Dp K H' v (noD "row") → Q v H') ∧ (rowD ts.length d = true → shortD e = false → ∀ v H', Same H H' → Dp K H' v (noD "budget") → Q v H') ∧
  (∀ (r : List Int) (n : Int), d = .tuple (r.map PyData.int) → e = .int n → rowD ts.length d = true → shortD e = true → ∀ H', Same H H' → Q (.int (manyG W r n)) H')
theorem ok__law_many_told (T : Tx K mg) : FnOk P w K mg base CX0 7 T.f__law_many_told T.d__law_many_told ["tokens", "writer", "row", "budget", "named"] (sp__law_many_told K) := by
  refine T.F__law_many_told.ok sc__law_many_told (fun vs H Q E h => ?_) (fun cdv A outer s H vs Q E hr h => ?_)
  · obtain ⟨t, ts, a, W, x, d, y, e, b, rfl, _⟩ := h; rfl
  · obtain ⟨t, ts, a, W, x, d, y, e, b, rfl, hT, hW, hok, hd, hz, he, q1, q2, q3⟩ := h
    refine ⟨_, (pss_one (ps_try_as (i := 5) (Wout := fun _ _ _ _ => False) rfl rfl sc__law_many_told.nd rfl rfl ⟨rfl, by decide, Or.inl T.nus.gC⟩ takes0
    (fun W pn xe tk _ => (pss_cons (ps_if (pt_val (pv 4)) (pss_one (ps_ret (pe_callKw (ok_tapes_of T) hr rfl T.g_tapes_of T.F_tapes_of.kp T.k_tapes_of (fun σ => passAt tk σ) (pk_cons (pv 3) (pk_cons (pv 2) (pk_cons (pv 1) (pk_cons (pv 0) pk_nil))))))) pss_nil)
    (pss_one (ps_ret (pe_callS (ok_tapes_of T) hr rfl T.g_tapes_of T.F_tapes_of.kp T.b_tapes_of (fun σ => passAt tk σ) (pa_cons (pv 0) (pa_cons (pv 1) (pa_cons (pv 2) (pa_cons (pv 3) pa_nil)))))))))
    (fun a oe cls d pn hz hf => (pss_one (ps_ret (pe_lst (pa_cons pe_str (pa_cons (pe_byNus T.nus hz hf (pv 5)) pa_nil)))))))), ?_⟩
    refine ⟨.bl b, rfl, b, rfl, ?_⟩
    cases b with
    | true =>
      refine ⟨y, rfl, x, rfl, .ref a, rfl, .ref t, rfl, rfl, t, ts, a, W, x, d, y, e, rfl, hT, hW, hok, hd, hz, he, fun k => ?_, fun k k2 => ?_, q3⟩
      · have no : ∀ H' L, Same H H' → H' L = some (.lst [.str "not usable", .str "row"]) → Q (.ref L) H' := fun H' L sm hL => q1 k _ H' sm (no_at hL)
        exact fun H' dd sm n => ⟨true, T.nus.te, fun _ u hu => ⟨.ref u, rfl, rfl, rfl, dd, _, rfl, upd_same, small' (by simp), fun L nL => no _ L ((sm.trans (same_new n)).trans (same_new nL)) upd_same⟩, fun z => Bool.noConfusion z⟩
      · have no : ∀ H' L, Same H H' → H' L = some (.lst [.str "not usable", .str "budget"]) → Q (.ref L) H' := fun H' L sm hL => q2 k k2 _ H' sm (no_at hL)
        exact fun H' dd sm n => ⟨true, T.nus.te, fun _ u hu => ⟨.ref u, rfl, rfl, rfl, dd, _, rfl, upd_same, small' (by simp), fun L nL => no _ L ((sm.trans (same_new n)).trans (same_new nL)) upd_same⟩, fun z => Bool.noConfusion z⟩
    | false =>
      refine ⟨.ref t, rfl, .ref a, rfl, x, rfl, y, rfl, t, ts, a, W, x, d, y, e, rfl, hT, hW, hok, hd, hz, he, fun k => ?_, fun k k2 => ?_, q3⟩
      · have no : ∀ H' L, Same H H' → H' L = some (.lst [.str "not usable", .str "row"]) → Q (.ref L) H' := fun H' L sm hL => q1 k _ H' sm (no_at hL)
        exact fun H' dd sm n => ⟨true, T.nus.te, fun _ u hu => ⟨.ref u, rfl, rfl, rfl, dd, _, rfl, upd_same, small' (by simp), fun L nL => no _ L ((sm.trans (same_new n)).trans (same_new nL)) upd_same⟩, fun z => Bool.noConfusion z⟩
      · have no : ∀ H' L, Same H H' → H' L = some (.lst [.str "not usable", .str "budget"]) → Q (.ref L) H' := fun H' L sm hL => q2 k k2 _ H' sm (no_at hL)
        exact fun H' dd sm n => ⟨true, T.nus.te, fun _ u hu => ⟨.ref u, rfl, rfl, rfl, dd, _, rfl, upd_same, small' (by simp), fun L nL => no _ L ((sm.trans (same_new n)).trans (same_new nL)) upd_same⟩, fun z => Bool.noConfusion z⟩

def sp__law_state_told (K : PySem.W.Frag) : Sp := fun vs H Q _ => ∃ t ts a W x d b, vs = [.ref t, .ref a, x, .bl b] ∧ SqT K H t ts ∧ WrAt K H a W ∧ W.Ok ts.length ∧ Dp K H x d ∧ lenD d ≤ 1000 ∧
  (rowD ts.length d = false → ∀ v H', Same H H' → Dp K H' v (noD "row") → Q v H') ∧ (∀ r : List Int, d = .tuple (r.map PyData.int) → rowD ts.length d = true → ∀ H', Same H H' → Q (.int (ledG W 0 r)) H')
theorem ok__law_state_told (T : Tx K mg) : FnOk P w K mg base CX0 7 T.f__law_state_told T.d__law_state_told ["tokens", "writer", "row", "named"] (sp__law_state_told K) := by
  refine T.F__law_state_told.ok sc__law_state_told (fun vs H Q E h => ?_) (fun cdv A outer s H vs Q E hr h => ?_)
  · obtain ⟨t, ts, a, W, x, d, b, rfl, _⟩ := h; rfl
  · obtain ⟨t, ts, a, W, x, d, b, rfl, hT, hW, hok, hd, hz, q1, q2⟩ := h
    refine ⟨_, (pss_one (ps_try_as (i := 4) (Wout := fun _ _ _ _ => False) rfl rfl sc__law_state_told.nd rfl rfl ⟨rfl, by decide, Or.inl T.nus.gC⟩ takes0
    (fun W pn xe tk _ => (pss_cons (ps_if (pt_val (pv 3)) (pss_one (ps_ret (pe_callKw (ok_state_behind T) hr rfl T.g_state_behind T.F_state_behind.kp T.k_state_behind (fun σ => passAt tk σ) (pk_cons (pv 2) (pk_cons (pv 1) (pk_cons (pv 0) pk_nil)))))) pss_nil)
    (pss_one (ps_ret (pe_callS (ok_state_behind T) hr rfl T.g_state_behind T.F_state_behind.kp T.b_state_behind (fun σ => passAt tk σ) (pa_cons (pv 0) (pa_cons (pv 1) (pa_cons (pv 2) pa_nil))))))))
    (fun a oe cls d pn hz hf => (pss_one (ps_ret (pe_lst (pa_cons pe_str (pa_cons (pe_byNus T.nus hz hf (pv 4)) pa_nil)))))))), ?_⟩
    refine ⟨.bl b, rfl, b, rfl, ?_⟩
    cases b with
    | true =>
      refine ⟨x, rfl, .ref a, rfl, .ref t, rfl, rfl, t, ts, a, W, x, d, rfl, hT, hW, hok, hd, hz, fun k => ?_, q2⟩
      have no : ∀ H' L, Same H H' → H' L = some (.lst [.str "not usable", .str "row"]) → Q (.ref L) H' := fun H' L sm hL => q1 k _ H' sm (no_at hL)
      exact fun H' dd sm n => ⟨true, T.nus.te, fun _ u hu => ⟨.ref u, rfl, rfl, rfl, dd, _, rfl, upd_same, small' (by simp), fun L nL => no _ L ((sm.trans (same_new n)).trans (same_new nL)) upd_same⟩, fun z => Bool.noConfusion z⟩
    | false =>
      refine ⟨.ref t, rfl, .ref a, rfl, x, rfl, t, ts, a, W, x, d, rfl, hT, hW, hok, hd, hz, fun k => ?_, q2⟩
      have no : ∀ H' L, Same H H' → H' L = some (.lst [.str "not usable", .str "row"]) → Q (.ref L) H' := fun H' L sm hL => q1 k _ H' sm (no_at hL)
      exact fun H' dd sm n => ⟨true, T.nus.te, fun _ u hu => ⟨.ref u, rfl, rfl, rfl, dd, _, rfl, upd_same, small' (by simp), fun L nL => no _ L ((sm.trans (same_new n)).trans (same_new nL)) upd_same⟩, fun z => Bool.noConfusion z⟩
end
end K4
set_option Elab.async false
set_option linter.all false
set_option maxRecDepth 100000
set_option maxHeartbeats 2000000
namespace K4
open PySem PySem.Spec PyProof.Rows L2 Ver
section
variable {P : Program} {w : World} {K : PySem.W.Frag} {mg : Str → Option Value} {base : Heap}
def sp__law_choices_right (K : PySem.W.Frag) : Sp := fun vs H Q _ => ∃ t a W m, vs = [t, .ref a] ∧ WrAt K H a W ∧ W.Ok m ∧ ∀ H', Same H H' → Q (.bl true) H'
theorem ok__law_choices_right (T : Tx K mg) : FnOk P w K mg base CX0 7 T.f__law_choices_right T.d__law_choices_right ["tokens", "writer"] (sp__law_choices_right K) := by
  refine T.F__law_choices_right.ok sc__law_choices_right (fun vs H Q E h => ?_) (fun cdv A outer s H vs Q E hr h => ?_)
  · obtain ⟨t, a, W, m, rfl, _⟩ := h; rfl
  · obtain ⟨t, a, W, m, rfl, hW, hok, q⟩ := h
    refine ⟨_, (pss_cons (ps_for PassesOwn.never rfl (pi_range1 rfl T.n_range (pa_cons (pe_callB call_len_seq (by rfl) T.n_len (by decide +kernel) (pa_cons (pe_ix ix_tup (pv 1) pe_int (fun _ _ => rfl)) pa_nil)) pa_nil)) (pg_name (i := 2) sc__law_choices_right.nd rfl (Or.inl rfl))
    (pss_one (ps_for PassesOwn.never rfl (pi_range1 rfl T.n_range (pa_cons (pe_ix ix_tup (pv 1) pe_int (fun _ _ => rfl)) pa_nil)) (pg_name (i := 3) sc__law_choices_right.nd rfl (Or.inl rfl))
    (pss_cons (ps_set (i := 4) sc__law_choices_right.nd rfl (Or.inl rfl) (pe_call (ok__law_choice T) (hr.mono (by decide)) rfl T.g__law_choice T.F__law_choice.kp T.b__law_choice .nil pass0 (pa_cons (pe_ix ix_tup (pe_ix ix_tup (pv 1) pe_int (fun _ _ => rfl)) (pv 2) (fun _ _ => rfl)) (pa_cons (pv 3) pa_nil))))
    (pss_one (ps_if (pt_not (pt_val (pe_call (ok__law_same T 5) hr rfl T.g__law_same T.F__law_same.kp T.b__law_same .nil pass0 (pa_cons (pe_call (ok__law_choice_told T) hr rfl T.g__law_choice_told T.F__law_choice_told.kp T.b__law_choice_told .nil pass0 (pa_cons (pv 0) (pa_cons (pv 1) (pa_cons (pv 2) (pa_cons (pv 3) (pa_cons (pe_cmpR op_eq (pv 3) pe_int (nomark _)) pa_nil)))))) (pa_cons (pv 4) pa_nil))))) (pss_one (ps_ret pe_bl)) pss_nil))))))
    (pss_one (ps_ret pe_bl))), ?_⟩
    obtain ⟨b, c, wv, nv, s1, s2, l1, s3, l2, g1, g2⟩ := hW.row
    have few := hok.few
    have t0 := hok.pos
    have t1 := hok.most
    refine ⟨.ref a, rfl, a, _, 1, .ref b, rfl, rfl, s1, rfl, b, wv, rfl, .inr s2, wv.length, rfl, by omega, by omega, ?_⟩
    refine for_range0 (n := ((wv.length : Nat) : Int).toNat) (fun i σ H' => Same H H' ∧ ∃ y2 y3 y4, σ = [some t, some (.ref a), y2, y3, y4]) ⟨Same.refl H, none, none, none, rfl⟩ (fun i σ H' lt h => ?_) (fun σ H' h => q H' h.1)
    obtain ⟨sm, y2, y3, y4, rfl⟩ := h
    have k1 : ((i : Nat) : Int) < W.ws.length := by omega
    obtain ⟨ew, lw, sw, pw⟩ := hok.atW (s := (i : Int)) (by omega) k1
    obtain ⟨pp, epp, hpp⟩ := g1 _ _ ew
    refine ⟨.ref a, rfl, a, _, 0, .int W.total, rfl, rfl, seqT_grow sm s1, rfl, W.total, rfl, by omega, by omega, ?_⟩
    refine for_range0 (n := W.total.toNat) (fun j σ H2 => Same H H2 ∧ ∃ y3 y4, σ = [some t, some (.ref a), some (.int (i : Int)), y3, y4]) ⟨sm, y3, y4, rfl⟩ (fun j σ H2 lt2 h => ?_) (fun σ H2 h => ⟨h.1, some (.int (i : Int)), h.2⟩)
    obtain ⟨sm2, y3, y4, rfl⟩ := h
    refine ⟨.ref a, rfl, a, _, 1, .ref b, rfl, rfl, seqT_grow sm2 s1, rfl, .int (i : Int), rfl, b, wv, (i : Int), _, rfl, rfl, seqT_grow sm2 s2, at_ref (by omega) epp, .int (j : Int), rfl, pp, wsAt W i, (j : Int), rfl, seqT_grow sm2 hpp, ?_, ?_, ?_⟩
    · intro z; rw [z] at lw; simp at lw
    · have := hok.few'; omega
    have b1 : belowD W.ws.length (.int (i : Int)) = true := by
      show (decide (0 ≤ (i : Int)) && decide ((i : Int) < W.ws.length)) = true
      rw [decide_eq_true (by omega), decide_eq_true k1]; rfl
    have b2 : belowD W.total (.int (j : Int)) = true := by
      show (decide (0 ≤ (j : Int)) && decide ((j : Int) < W.total)) = true
      rw [decide_eq_true (by omega), decide_eq_true (by omega)]; rfl
    have ec : choiceD W (.int (i : Int)) (.int (j : Int)) = .int (cho (wsAt W i) j) := by
      unfold choiceD
      rw [if_neg (by rw [b1]; exact Bool.noConfusion), if_neg (by rw [b2]; exact Bool.noConfusion)]
    refine ⟨t, rfl, .ref a, rfl, .int (i : Int), rfl, .int (j : Int), rfl, .int (j : Int), rfl, rfl, t, a, W, m, _, .int (i : Int), _, .int (j : Int), _, rfl, hW.grow sm2, hok, .int _, .int _, fun v H3 s3' hv => ?_⟩
    rw [ec] at hv
    refine ⟨.int (cho (wsAt W i) j), rfl, v, _, _, rfl, hv, .int _, trivial, fun H4 s4 => ?_⟩
    exact ⟨_, rfl, (sm2.trans s3').trans s4, some (.int (j : Int)), some (.int (cho (wsAt W i) j)), rfl⟩
end
end K4
set_option Elab.async false
set_option linter.all false
set_option maxRecDepth 100000
set_option maxHeartbeats 2000000
namespace K4
def allT (D : Nat) : Nat → List (List Int)
  | 0 => [[]]
  | n + 1 => (List.range D).flatMap fun d => (allT D n).map fun r => ((d : Nat) : Int) :: r
theorem ext_cons (D : Nat) (d : Int) (r : List Int) : extG D (d :: r) = (extG D r).map (d :: ·) := by
  unfold extG
  rw [List.map_map]
  rfl
theorem allT_ext (D : Nat) : ∀ n, (allT D n).flatMap (extG D) = allT D (n + 1)
  | 0 => by
    show [[]].flatMap (extG D) = (List.range D).flatMap fun d => [((d : Nat) : Int) :: []]
    rw [List.flatMap_singleton]
    unfold extG
    rw [← List.map_eq_flatMap]
    rfl
  | n + 1 => by
    show ((List.range D).flatMap fun d => (allT D n).map fun r => ((d : Nat) : Int) :: r).flatMap (extG D) = (List.range D).flatMap fun d => (allT D (n + 1)).map fun r => ((d : Nat) : Int) :: r
    rw [List.flatMap_assoc]
    congr 1
    funext d
    rw [← allT_ext D n, List.flatMap_map, List.map_flatMap]
    congr 1
    funext r
    exact ext_cons D d r
theorem layG_all (D : Nat) : ∀ n, layG D n = allT D n
  | 0 => rfl
  | n + 1 => by
    show (layG D n).flatMap (extG D) = allT D (n + 1)
    rw [layG_all D n, allT_ext]
theorem sum_nonneg {r : List Int} (h : ∀ y ∈ r, 0 ≤ y) : 0 ≤ r.sum := le_sum.sum_pos h
theorem choG_at : ∀ (xs : List Int) (acc : Int) (i : Nat) (d : Int) (j : Nat), (∀ y ∈ xs, 0 ≤ y) → acc ≤ d → j < xs.length →
    (choG acc i xs d = ((i + j : Nat) : Int) ↔ acc + (xs.take j).sum ≤ d ∧ d < acc + (xs.take (j + 1)).sum)
  | [], _, _, _, _, _, _, h => by simp at h
  | x :: xs, acc, i, d, j, hp, ha, hj => by
    have hx := hp x List.mem_cons_self
    have hp' : ∀ y ∈ xs, 0 ≤ y := fun y hy => hp y (List.mem_cons_of_mem _ hy)
    unfold choG
    split
    · rename_i lt
      cases j with
      | zero =>
        simp
        omega
      | succ j =>
        have s0 := sum_nonneg (r := xs.take j) fun y hy => hp' y (List.mem_of_mem_take hy)
        rw [List.take_succ_cons, List.sum_cons]
        constructor
        · intro e; omega
        · rintro ⟨e1, e2⟩; omega
    · rename_i nlt
      cases j with
      | zero =>
        have hin := choG_in xs (acc + x) (i + 1) d
        simp
        constructor
        · intro e; omega
        · rintro ⟨e1, e2⟩; omega
      | succ j =>
        rw [List.length_cons] at hj
        have ih := choG_at xs (acc + x) (i + 1) d j hp' (by omega) (by omega)
        have e3 : i + 1 + j = i + (j + 1) := by omega
        rw [e3] at ih
        rw [ih, List.take_succ_cons, List.take_succ_cons, List.sum_cons, List.sum_cons]
        omega
theorem choG_end : ∀ (xs : List Int) (acc : Int) (i : Nat) (d : Int), (∀ y ∈ xs, 0 ≤ y) → (choG acc i xs d = -1 ↔ acc + xs.sum ≤ d ∨ (xs = [] ))
  | [], _, _, _, _ => by simp [choG]
  | x :: xs, acc, i, d, hp => by
    have hx := hp x List.mem_cons_self
    have hp' : ∀ y ∈ xs, 0 ≤ y := fun y hy => hp y (List.mem_cons_of_mem _ hy)
    have s0 := sum_nonneg hp'
    unfold choG
    rw [List.sum_cons]
    split
    · constructor
      · intro e; omega
      · rintro (e | e)
        · omega
        · cases e
    · rename_i nlt
      rw [choG_end xs (acc + x) (i + 1) d hp']
      constructor
      · rintro (e | e)
        · exact .inl (by omega)
        · subst e; left; simp; omega
      · rintro (e | e)
        · exact .inl (by omega)
        · cases e
theorem count_below : ∀ (D a b : Nat), a ≤ b → b ≤ D → (List.range D).countP (fun d => decide (a ≤ d ∧ d < b)) = b - a
  | 0, a, b, h1, h2 => by
    have : b - a = 0 := by omega
    rw [this]; rfl
  | D + 1, a, b, h1, h2 => by
    rw [List.range_succ, List.countP_append]
    by_cases h3 : b ≤ D
    · rw [count_below D a b h1 h3]
      have : decide (a ≤ D ∧ D < b) = false := decide_eq_false (by omega)
      rw [List.countP_singleton, this]
      rfl
    · have e : b = D + 1 := by omega
      subst e
      by_cases h4 : a ≤ D
      · have e2 : (List.range D).countP (fun d => decide (a ≤ d ∧ d < D + 1)) = (List.range D).countP (fun d => decide (a ≤ d ∧ d < D)) := by
          refine List.countP_congr fun d hd => ?_
          have := List.mem_range.mp hd
          simp only [decide_eq_true_eq]
          omega
        rw [e2, count_below D a D h4 (Nat.le_refl _)]
        have : decide (a ≤ D ∧ D < D + 1) = true := decide_eq_true (by omega)
        rw [List.countP_singleton, this, if_pos rfl]
        omega
      · have e2 : (List.range D).countP (fun d => decide (a ≤ d ∧ d < D + 1)) = 0 := by
          refine List.countP_eq_zero.mpr fun d hd => ?_
          have := List.mem_range.mp hd
          simp only [decide_eq_true_eq]
          omega
        rw [e2]
        have : decide (a ≤ D ∧ D < D + 1) = false := decide_eq_false (by omega)
        rw [List.countP_singleton, this, if_neg Bool.false_ne_true]
        omega
theorem sum_if {α : Type} (p : α → Bool) (X : Nat) : ∀ l : List α, (l.map fun d => if p d = true then X else 0).sum = l.countP p * X
  | [] => by simp
  | a :: l => by
    rw [List.map_cons, List.sum_cons, sum_if p X l, List.countP_cons]
    cases p a with
    | true => simp [Nat.add_mul]; omega
    | false => simp
theorem count_tok {r : List Int} {m t : Nat} {D : Nat} (hl : r.length = m + 1) (hs : r.sum = (D : Int)) (hp : ∀ y ∈ r, 0 ≤ y) (ht : t < m) :
    (((List.range D).countP fun d => decide (cho r ((d : Nat) : Int) = ((t : Nat) : Int)) : Nat) : Int) = (r[t]?).getD 0 := by
  have hd : r.dropLast.length = m := by rw [List.length_dropLast]; omega
  have hpd : ∀ y ∈ r.dropLast, 0 ≤ y := fun y hy => hp y ((List.dropLast_sublist _).subset hy)
  have s0 := sum_nonneg (r := r.dropLast.take t) fun y hy => hpd y (List.mem_of_mem_take hy)
  have lt : t < r.length := by omega
  have e1 : r.dropLast[t]? = some r[t] := by
    rw [List.getElem?_eq_getElem (by omega), List.getElem_dropLast]
  have e2 := sum_take_succ e1
  have x0 := hp _ (List.getElem_mem lt)
  have e3 : (r.dropLast.take (t + 1)).sum ≤ r.sum := by
    have h1 : r.dropLast.take (t + 1) = r.take (t + 1) := by
      rw [List.dropLast_eq_take, List.take_take]
      congr 1
      omega
    rw [h1]
    have h2 : r.sum = (r.take (t + 1)).sum + (r.drop (t + 1)).sum := by rw [← List.sum_append, List.take_append_drop]
    have h3 := sum_nonneg (r := r.drop (t + 1)) fun y hy => hp y (List.mem_of_mem_drop hy)
    omega
  have key : ∀ d : Nat, (decide (cho r ((d : Nat) : Int) = ((t : Nat) : Int))) = decide ((r.dropLast.take t).sum.toNat ≤ d ∧ d < (r.dropLast.take (t + 1)).sum.toNat) := fun d => by
    have h := choG_at r.dropLast 0 0 ((d : Nat) : Int) t hpd (by omega) (by omega)
    rw [Nat.zero_add, Int.zero_add, Int.zero_add] at h
    have h' : (cho r ((d : Nat) : Int) = ((t : Nat) : Int)) ↔ ((r.dropLast.take t).sum.toNat ≤ d ∧ d < (r.dropLast.take (t + 1)).sum.toNat) := by
      refine h.trans ?_
      omega
    exact decide_eq_decide.mpr h'
  have e4 : (fun d : Nat => decide (cho r ((d : Nat) : Int) = ((t : Nat) : Int))) = fun d => decide ((r.dropLast.take t).sum.toNat ≤ d ∧ d < (r.dropLast.take (t + 1)).sum.toNat) := funext key
  rw [e4, count_below D _ _ (by omega) (by omega)]
  rw [List.getElem?_eq_getElem lt]
  show _ = r[t]
  omega
theorem count_end {r : List Int} {m : Nat} {D : Nat} (hl : r.length = m + 1) (hm : 1 ≤ m) (hs : r.sum = (D : Int)) (hp : ∀ y ∈ r, 0 ≤ y) :
    (((List.range D).countP fun d => decide (cho r ((d : Nat) : Int) = -1) : Nat) : Int) = (r.getLast?).getD 0 := by
  have ne : r ≠ [] := by intro z; rw [z] at hl; simp at hl
  have hpd : ∀ y ∈ r.dropLast, 0 ≤ y := fun y hy => hp y ((List.dropLast_sublist _).subset hy)
  have s0 := sum_nonneg hpd
  have e3 : r = r.dropLast ++ [r.getLast ne] := (List.dropLast_concat_getLast ne).symm
  have e5 : r.sum = r.dropLast.sum + r.getLast ne := by
    have h := congrArg List.sum e3
    rw [List.sum_append] at h
    simpa using h
  have x0 := hp _ (List.getLast_mem ne)
  have nd : r.dropLast ≠ [] := by
    intro z
    have := congrArg List.length z
    rw [List.length_dropLast, List.length_nil] at this
    omega
  have key : ∀ d ∈ List.range D, (decide (cho r ((d : Nat) : Int) = -1) = true ↔ decide (r.dropLast.sum.toNat ≤ d ∧ d < D) = true) := fun d hd => by
    have lt := List.mem_range.mp hd
    have h := choG_end r.dropLast 0 0 ((d : Nat) : Int) hpd
    rw [Int.zero_add] at h
    rw [decide_eq_true_eq, decide_eq_true_eq]
    refine h.trans ?_
    constructor
    · rintro (e | e)
      · omega
      · exact absurd e nd
    · rintro ⟨e1, e2⟩
      exact .inl (by omega)
  rw [List.countP_congr key, count_below D _ _ (by omega) (Nat.le_refl _), List.getLast?_eq_getLast ne]
  show _ = r.getLast ne
  omega
def cntS (W : Wr) (s : Int) (l : List (List Int)) (row : List Int) : Nat := l.countP fun tp => decide (sayG W s tp = (row, true))
def fG (W : Wr) : Int → List Int → Nat → Int
  | _, _, 0 => 0
  | s, [], n + 1 => wtEnd W s * W.total ^ n
  | s, t :: r, n + 1 => wtAt W s t * fG W (nxt W s t) r n
theorem allT_len (D : Nat) : ∀ n, (allT D n).length = D ^ n := fun n => by rw [← layG_all, layG_len]
theorem cnt_ok {W : Wr} {m : Nat} (o : W.Ok m) (hm : 1 ≤ m) : ∀ (n : Nat) (s : Int) (row : List Int), 0 ≤ s → s < W.ws.length → (∀ t ∈ row, 0 ≤ t ∧ t < (m : Int)) → ((cntS W s (allT W.total.toNat n) row : Nat) : Int) = fG W s row n
  | 0, s, row, _, _, _ => by
    have : cntS W s (allT W.total.toNat 0) row = 0 := by
      show [[]].countP _ = 0
      rw [List.countP_singleton]
      have e : decide (sayG W s [] = (row, true)) = false := decide_eq_false (fun z => by have := congrArg Prod.snd z; cases this)
      rw [e]
      rfl
    rw [this]
    unfold fG
    rfl
  | n + 1, s, row, s0, s1, hr => by
    obtain ⟨_, lw, sw, pw⟩ := o.atW s0 s1
    have hD : (wsAt W s).sum = ((W.total.toNat : Nat) : Int) := by have := o.pos; omega
    have step : cntS W s (allT W.total.toNat (n + 1)) row = ((List.range W.total.toNat).map fun d => (allT W.total.toNat n).countP fun tp => decide (sayG W s (((d : Nat) : Int) :: tp) = (row, true))).sum := by
      show ((List.range W.total.toNat).flatMap fun d => (allT W.total.toNat n).map fun r => ((d : Nat) : Int) :: r).countP _ = _
      rw [List.countP_flatMap]
      congr 1
      refine List.map_congr_left fun d _ => ?_
      show ((allT W.total.toNat n).map fun r => ((d : Nat) : Int) :: r).countP _ = _
      rw [List.countP_map]
      rfl
    cases row with
    | nil =>
      have e1 : ∀ d : Nat, ((allT W.total.toNat n).countP fun tp => decide (sayG W s (((d : Nat) : Int) :: tp) = ([], true))) = if decide (cho (wsAt W s) ((d : Nat) : Int) = -1) = true then W.total.toNat ^ n else 0 := fun d => by
        by_cases h : cho (wsAt W s) ((d : Nat) : Int) = -1
        · rw [if_pos (decide_eq_true h), ← allT_len]
          refine List.countP_eq_length.mpr fun tp _ => ?_
          rw [sayG_end h]
          rfl
        · rw [if_neg (by rw [decide_eq_false h]; exact Bool.noConfusion)]
          refine List.countP_eq_zero.mpr fun tp _ => ?_
          rw [sayG_on h, decide_eq_true_eq]
          intro z
          have := congrArg Prod.fst z
          cases this
      rw [step, List.map_congr_left fun d _ => e1 d, sum_if]
      have hc := count_end lw hm hD pw
      rw [Int.natCast_mul, hc, Int.natCast_pow]
      have e2 : ((W.total.toNat : Nat) : Int) = W.total := by have := o.pos; omega
      rw [e2]
      rfl
    | cons t row =>
      obtain ⟨t0, t1⟩ := hr t List.mem_cons_self
      have hr' : ∀ u ∈ row, 0 ≤ u ∧ u < (m : Int) := fun u hu => hr u (List.mem_cons_of_mem _ hu)
      obtain ⟨t', rfl⟩ : ∃ t' : Nat, t = (t' : Int) := ⟨t.toNat, by omega⟩
      obtain ⟨_, n0, n1⟩ := o.nxt s0 s1 t0 t1
      have ih := cnt_ok o hm n (nxt W s t') row n0 n1 hr'
      have e1 : ∀ d : Nat, ((allT W.total.toNat n).countP fun tp => decide (sayG W s (((d : Nat) : Int) :: tp) = (((t' : Nat) : Int) :: row, true))) = if decide (cho (wsAt W s) ((d : Nat) : Int) = ((t' : Nat) : Int)) = true then cntS W (nxt W s t') (allT W.total.toNat n) row else 0 := fun d => by
        by_cases h : cho (wsAt W s) ((d : Nat) : Int) = ((t' : Nat) : Int)
        · rw [if_pos (decide_eq_true h)]
          refine List.countP_congr fun tp _ => ?_
          have h1 : cho (wsAt W s) ((d : Nat) : Int) ≠ -1 := by omega
          rw [sayG_on h1, h, decide_eq_true_eq, decide_eq_true_eq]
          constructor
          · intro z
            have z1 := congrArg Prod.fst z
            have z2 := congrArg Prod.snd z
            have z3 := (List.cons.inj z1).2
            exact Prod.ext z3 z2
          · intro z
            rw [z]
        · rw [if_neg (by rw [decide_eq_false h]; exact Bool.noConfusion)]
          refine List.countP_eq_zero.mpr fun tp _ => ?_
          rw [decide_eq_true_eq]
          intro z
          by_cases h1 : cho (wsAt W s) ((d : Nat) : Int) = -1
          · rw [sayG_end h1] at z
            have := congrArg Prod.fst z
            cases this
          · rw [sayG_on h1] at z
            have z1 := congrArg Prod.fst z
            exact h (List.cons.inj z1).1
      rw [step, List.map_congr_left fun d _ => e1 d, sum_if]
      have hc := count_tok (t := t') lw hD pw (by omega)
      rw [Int.natCast_mul, hc, ih]
      show _ = wtAt W s t' * fG W (nxt W s t') row n
      unfold wtAt
      rw [Int.toNat_natCast]
theorem fG_long {W : Wr} : ∀ (row : List Int) (n : Nat) (s : Int), n ≤ row.length → fG W s row n = 0
  | _, 0, _, _ => by unfold fG; rfl
  | [], n + 1, _, h => by simp at h
  | t :: r, n + 1, s, h => by
    show wtAt W s t * fG W (nxt W s t) r n = 0
    rw [fG_long r n _ (by rw [List.length_cons] at h; omega), Int.mul_zero]
theorem prG_fG {W : Wr} : ∀ (row : List Int) (n : Nat) (s acc : Int), row.length ≤ n → prG W s acc row * W.total ^ (n - row.length) = acc * fG W s row (n + 1)
  | [], n, s, acc, _ => by
    show (acc * wtEnd W s) * W.total ^ (n - 0) = acc * (wtEnd W s * W.total ^ n)
    rw [Nat.sub_zero, Int.mul_assoc]
  | t :: r, 0, s, acc, h => by simp at h
  | t :: r, n + 1, s, acc, h => by
    rw [List.length_cons] at h
    have ih := prG_fG (W := W) r n (nxt W s t) (acc * wtAt W s t) (by omega)
    show prG W (nxt W s t) (acc * wtAt W s t) r * W.total ^ (n + 1 - (r.length + 1)) = acc * (wtAt W s t * fG W (nxt W s t) r (n + 1))
    rw [Nat.add_sub_add_right, ih, Int.mul_assoc]
theorem many_cnt {W : Wr} {m : Nat} (o : W.Ok m) (hm : 1 ≤ m) {row : List Int} (hr : ∀ t ∈ row, 0 ≤ t ∧ t < (m : Int)) (n : Nat) : manyG W row n = ((cntS W 0 (layG W.total.toNat (n + 1)) row : Nat) : Int) := by
  rw [layG_all, cnt_ok o hm (n + 1) 0 row (by omega) (by have := o.any1; omega) hr]
  unfold manyG
  split
  · rw [fG_long row (n + 1) 0 (by omega)]
  · have h := prG_fG (W := W) row n 0 1 (by omega)
    rw [Int.one_mul] at h
    rw [← h]
    congr 2
    omega
theorem rows_last (D : Nat) : ∀ n, (rowsG D n).filter (fun r => decide (r.length = n)) = layG D n := fun n => by
  have low : ∀ k, (rowsG D k).filter (fun r => decide (r.length = k + 1)) = [] := fun k => by
    refine List.filter_eq_nil_iff.mpr fun r hr => ?_
    obtain ⟨j, hj, hr'⟩ := List.mem_flatMap.mp (show r ∈ (List.range (k + 1)).flatMap (layG D) from hr)
    have := List.mem_range.mp hj
    have := (layG_mem hr').1
    rw [decide_eq_true_eq]
    omega
  have all : ∀ k, (layG D k).filter (fun r => decide (r.length = k)) = layG D k := fun k => by
    refine List.filter_eq_self.mpr fun r hr => ?_
    exact decide_eq_true (layG_mem hr).1
  cases n with
  | zero => rfl
  | succ n => rw [rowsG_succ, List.filter_append, low, all, List.nil_append]
theorem rows_mem {m n : Nat} {r : List Int} (h : r ∈ rowsG m n) : r.length ≤ n ∧ ∀ t ∈ r, 0 ≤ t ∧ t < (m : Int) := by
  obtain ⟨j, hj, hr'⟩ := List.mem_flatMap.mp (show r ∈ (List.range (n + 1)).flatMap (layG m) from h)
  have := List.mem_range.mp hj
  obtain ⟨h1, h2⟩ := layG_mem hr'
  exact ⟨by omega, h2⟩
end K4
set_option Elab.async false
set_option linter.all false
set_option maxRecDepth 100000
set_option maxHeartbeats 4000000
namespace K4
open PySem PySem.Spec PyProof.Rows L2 Ver
theorem sayG_len {W : Wr} : ∀ (r : List Int) (s : Int), (sayG W s r).1.length ≤ r.length
  | [], s => Nat.le_refl _
  | d :: r, s => by
    by_cases h : cho (wsAt W s) d = -1
    · rw [sayG_end h]; exact Nat.zero_le _
    · rw [sayG_on h]
      have := sayG_len (W := W) r (nxt W s (cho (wsAt W s) d))
      show (cho (wsAt W s) d :: (sayG W (nxt W s (cho (wsAt W s) d)) r).1).length ≤ _
      rw [List.length_cons, List.length_cons]
      omega
theorem ok_ints {n : Nat} (r : List Int) : ∀ e ∈ r.map PyData.int, okD (n + 1) e := fun e he => by
  obtain ⟨i, _, rfl⟩ := List.mem_map.mp he
  exact trivial
theorem okd_said {p : List Int × Bool} (h : p.1.length ≤ 100000) : okD 5 (saidD p) := ⟨by show 3 ≤ 100000; decide, fun e he => by
  rcases List.mem_cons.mp he with rfl | he
  · exact ⟨by rw [List.length_map]; exact h, ok_ints (n := 2) _⟩
  rcases List.mem_cons.mp he with rfl | he
  · exact trivial
  rw [List.mem_singleton.mp he]
  exact trivial⟩
theorem int_inj : ∀ {a b : List Int}, a.map PyData.int = b.map PyData.int → a = b
  | [], [], _ => rfl
  | [], _ :: _, h => by cases h
  | _ :: _, [], h => by cases h
  | x :: a, y :: b, h => by
    have h1 : PyData.int x = PyData.int y := (List.cons.inj h).1
    have h2 := (List.cons.inj h).2
    injection h1 with h3
    rw [h3, int_inj h2]
theorem kV_row (r : List Int) : (r.map Sum.inl : List L2.Key).map kV = r.map V.int := by
  rw [List.map_map]
  rfl
theorem inl_inj {a b : List Int} (h : (a.map Sum.inl : List L2.Key) = b.map Sum.inl) : a = b := by
  induction a generalizing b with
  | nil => cases b with
    | nil => rfl
    | cons _ _ => cases h
  | cons x a ih =>
    cases b with
    | nil => cases h
    | cons y b =>
      have h1 := (List.cons.inj h).1
      have h2 := (List.cons.inj h).2
      rw [ih h2, Sum.inl.inj h1]
theorem tape_all {t : Int} {r : List Int} (h1 : 1 ≤ r.length) (h2 : r.length ≤ 61) (h : ∀ x ∈ r, 0 ≤ x ∧ x < t) : tapeD t (.tuple (r.map PyData.int)) = true := by
  show ((r.map PyData.int).all (belowD t) && (decide (1 ≤ (r.map PyData.int).length) && decide ((r.map PyData.int).length ≤ 61))) = true
  rw [List.length_map, decide_eq_true h1, decide_eq_true h2, Bool.and_true, Bool.and_true, List.all_eq_true]
  intro e he
  obtain ⟨i, hi, rfl⟩ := List.mem_map.mp he
  show (decide (0 ≤ i) && decide (i < t)) = true
  rw [decide_eq_true (h i hi).1, decide_eq_true (h i hi).2]
  rfl
theorem row_all {m : Nat} {r : List Int} (h2 : r.length ≤ 60) (h : ∀ x ∈ r, 0 ≤ x ∧ x < (m : Int)) : rowD m (.tuple (r.map PyData.int)) = true := by
  show ((r.map PyData.int).all (belowD m) && decide ((r.map PyData.int).length ≤ 60)) = true
  rw [List.length_map, decide_eq_true h2, Bool.and_true, List.all_eq_true]
  intro e he
  obtain ⟨i, hi, rfl⟩ := List.mem_map.mp he
  show (decide (0 ≤ i) && decide (i < (m : Int))) = true
  rw [decide_eq_true (h i hi).1, decide_eq_true (h i hi).2]
  rfl
theorem cnt_snoc (W : Wr) (s : Int) (l : List (List Int)) (x row : List Int) : cntS W s (l ++ [x]) row = cntS W s l row + if sayG W s x = (row, true) then 1 else 0 := by
  unfold cntS
  rw [List.countP_append, List.countP_singleton]
  by_cases h : sayG W s x = (row, true)
  · rw [if_pos h, if_pos (decide_eq_true h)]
  · rw [if_neg h, if_neg (by rw [decide_eq_false h]; exact Bool.noConfusion)]
section
variable {P : Program} {w : World} {K : PySem.W.Frag} {mg : Str → Option Value} {base : Heap}
def sp__law_tapes_right (K : PySem.W.Frag) : Sp := fun vs H Q _ => ∃ (t a : Addr) (ts : List V) (W : Wr) (n : Nat), vs = [.ref t, .ref a, .int n] ∧ SqT K H t ts ∧ WrAt K H a W ∧ W.Ok ts.length ∧ 1 ≤ ts.length ∧ ts.length ≤ 4 ∧ W.total ≤ 4 ∧ n ≤ 5 ∧ ∀ H', Same H H' → Q (.bl true) H'
theorem ok__law_tapes_right (T : Tx K mg) : FnOk P w K mg base CX0 8 T.f__law_tapes_right T.d__law_tapes_right ["tokens", "writer", "budget"] (sp__law_tapes_right K) := by
  refine T.F__law_tapes_right.ok sc__law_tapes_right (fun vs H Q E h => ?_) (fun cdv A outer s H vs Q E hr h => ?_)
  · obtain ⟨t, a, ts, W, n, rfl, _⟩ := h; rfl
  · obtain ⟨t, a, ts, W, n, rfl, hT, hW, hok, m0, m1, t4, n5, q⟩ := h
    refine ⟨_, (pss_cons (ps_set (i := 3) sc__law_tapes_right.nd rfl (Or.inr rfl) (pe_callB call_len_seq (by rfl) T.n_len (by decide +kernel) (pa_cons (pv 0) pa_nil)))
    (pss_cons (ps_setLc (i := 5) (own := [("tape", 4)]) (g := gName 4) (tt := _) (by rfl) sc__law_tapes_right.nd rfl rfl (sw_true rfl rfl rfl (by decide +kernel)) (pi_list (pe_call (ok__law_rows T) (hr.mono (by decide)) rfl T.g__law_rows T.F__law_rows.kp T.b__law_rows .nil pass0 (pa_cons (pe_ix ix_tup (pv 1) pe_int (fun _ _ => rfl)) (pa_cons (pe_op op_add (pv 2) pe_int) pa_nil)))) (blkOk_by (N := ["tokens", "writer", "budget", "m", "tape", "tapes", "counts", "said_v", "row", "k"]) (sc := defScope s__law_tapes_right) (by decide +kernel)) (fun _ _ _ _ _ => (pg_name (i := 4) sc__law_tapes_right.nd rfl (Or.inl rfl))) (fun _ _ _ _ _ => (pts_one (pt_cmpR op_eq (pe_callB (cr_lenK (K := K) rfl) (by rfl) T.n_len (by decide +kernel) (pa_cons (pv 4) pa_nil)) (pe_op op_add (pv 2) pe_int) (nomark _)))) (fun _ _ _ _ _ => (pv 4)))
    (pss_cons (ps_set (i := 6) sc__law_tapes_right.nd rfl (Or.inl rfl) pe_dnewT)
    (pss_cons (ps_for PassesOwn.never rfl (pi_list (pv 5)) (pg_name (i := 4) sc__law_tapes_right.nd rfl (Or.inl rfl))
    (pss_cons (ps_set (i := 7) sc__law_tapes_right.nd rfl (Or.inl rfl) (pe_call (ok__law_says T) (hr.mono (by decide)) rfl T.g__law_says T.F__law_says.kp T.b__law_says .nil pass0 (pa_cons (pv 1) (pa_cons (pv 4) pa_nil))))
    (pss_cons (ps_if (pt_not (pt_val (pe_call (ok__law_same T 5) (hr.mono (by decide)) rfl T.g__law_same T.F__law_same.kp T.b__law_same .nil pass0 (pa_cons (pe_call (ok__law_tape_told T) (hr.mono (by decide)) rfl T.g__law_tape_told T.F__law_tape_told.kp T.b__law_tape_told .nil pass0 (pa_cons (pv 0) (pa_cons (pv 1) (pa_cons (pv 4) (pa_cons (pe_cmpR op_eq (pe_ix ix_tup (pv 4) pe_int (fun _ _ => rfl)) pe_int (nomark _)) pa_nil))))) (pa_cons (pv 7) pa_nil))))) (pss_one (ps_ret pe_bl)) pss_nil)
    (pss_one (ps_if (pt_val (pe_ix ix_tup (pv 7) pe_int (fun _ _ => rfl))) (pss_one (ps_dput (hu_of hr) (pv 6) (pe_ix ix_tup (pv 7) pe_int (fun _ _ => rfl)) (pe_op op_add (pe_dget2 (hu_of hr) (pv 6) (pe_ix ix_tup (pv 7) pe_int (fun _ _ => rfl)) pe_int ⟨rfl, rfl, rfl, rfl⟩) pe_int) rfl)) pss_nil)))))
    (pss_cons (ps_for PassesOwn.never rfl (pi_list (pe_op op_cat (pe_call (ok__law_rows T) (hr.mono (by decide)) rfl T.g__law_rows T.F__law_rows.kp T.b__law_rows .nil pass0 (pa_cons (pv 3) (pa_cons (pv 2) pa_nil))) (pe_lst (pa_cons (pe_callTy call_tuple_of (by rfl) T.n_tuple (by decide +kernel) (pa_cons (pe_lc (own := [("k", 9)]) (g := gName 9) (tt := tYes) (by rfl) sc__law_tapes_right.nd (pi_range1 rfl T.n_range (pa_cons (pe_op op_add (pv 2) pe_int) pa_nil)) (blkOk_by (N := ["tokens", "writer", "budget", "m", "tape", "tapes", "counts", "said_v", "row", "k"]) (sc := defScope s__law_tapes_right) (by decide +kernel)) (fun _ _ _ _ _ => (pg_name (i := 9) sc__law_tapes_right.nd rfl (Or.inl rfl))) (fun _ _ _ _ _ => pts_nil) (fun _ _ _ _ _ => (pe_op op_sub (pv 3) pe_int))) pa_nil)) pa_nil)))) (pg_name (i := 8) sc__law_tapes_right.nd rfl (Or.inl rfl))
    (pss_cons (ps_if (pt_not (pt_val (pe_call (ok__law_same T 5) (hr.mono (by decide)) rfl T.g__law_same T.F__law_same.kp T.b__law_same .nil pass0 (pa_cons (pe_call (ok__law_many_told T) hr rfl T.g__law_many_told T.F__law_many_told.kp T.b__law_many_told .nil pass0 (pa_cons (pv 0) (pa_cons (pv 1) (pa_cons (pv 8) (pa_cons (pv 2) (pa_cons (pe_cmpR op_eq (pe_callB call_len_seq (by rfl) T.n_len (by decide +kernel) (pa_cons (pv 8) pa_nil)) pe_int (nomark _)) pa_nil)))))) (pa_cons (pe_dget2 (hu_of hr) (pv 6) (pv 8) pe_int ⟨rfl, rfl, rfl, rfl⟩) pa_nil))))) (pss_one (ps_ret pe_bl)) pss_nil)
    (pss_one (ps_if (pt_not (pt_val (pe_call (ok__law_same T 5) (hr.mono (by decide)) rfl T.g__law_same T.F__law_same.kp T.b__law_same .nil pass0 (pa_cons (pe_call (ok__law_state_told T) hr rfl T.g__law_state_told T.F__law_state_told.kp T.b__law_state_told .nil pass0 (pa_cons (pv 0) (pa_cons (pv 1) (pa_cons (pv 8) (pa_cons (pe_cmpR op_eq (pe_callB call_len_seq (by rfl) T.n_len (by decide +kernel) (pa_cons (pv 8) pa_nil)) pe_int (nomark _)) pa_nil))))) (pa_cons (pe_call (ok__law_walked T) (hr.mono (by decide)) rfl T.g__law_walked T.F__law_walked.kp T.b__law_walked .nil pass0 (pa_cons (pv 1) (pa_cons (pv 8) pa_nil))) pa_nil))))) (pss_one (ps_ret pe_bl)) pss_nil))))
    (pss_one (ps_ret pe_bl))))))), ?_⟩
    obtain ⟨b, c, wv, nv, s1, s2, l1, s3, l2, g1, g2⟩ := hW.row
    have tp := hok.pos
    obtain ⟨D, eD⟩ : ∃ D : Nat, W.total = (D : Int) := ⟨W.total.toNat, by omega⟩
    have eDn : W.total.toNat = D := by omega
    refine ⟨.ref t, rfl, t, ts, rfl, .inr hT, ?_⟩
    refine ⟨.ref a, rfl, a, _, 0, .int W.total, rfl, rfl, s1, rfl, .int n, rfl, _, _, rfl, rfl, D, n + 1, by rw [eD]; rfl, by omega, by omega, fun ra us H1 sm1 nra hra gra => ?_⟩
    refine ⟨ra, rfl, ⟨_, .inl (.inl hra)⟩, fun E0 nE => ?_⟩
    have lus : us.length ≤ 4096 * 7 := by
      rw [Paired.length gra]
      have := rowsG_len (m := D) (by omega) (n + 1) (by omega)
      omega
    refine lc_list (K := K) (a := ra) (xs := us) (fun i H' => ∃ acc, Same H1 H' ∧ H' E0 = some (.lst acc) ∧ acc.length ≤ i ∧ Rows K H' acc (((rowsG D (n + 1)).take i).filter fun r => decide (r.length = n + 1)))
      ⟨[], same_new nE, upd_same, Nat.le_refl _, .nil⟩ (fun i H' _ h => ?_) (fun i x H' ex h => ?_) (fun H2 h => ?_)
    · obtain ⟨_, sm, _⟩ := h
      exact .inl (.inl (sm _ _ hra))
    · obtain ⟨acc, sm, hE, la, ga⟩ := h
      have lti : i < us.length := (List.getElem?_eq_some_iff.mp ex).1
      obtain ⟨r, er⟩ : ∃ r, (rowsG D (n + 1))[i]? = some r := ⟨_, List.getElem?_eq_getElem (by rw [← Paired.length gra]; exact lti)⟩
      obtain ⟨px, epx, hpx⟩ := gra.getT er
      have ex2 : x = .ref px := Option.some.inj (ex.symm.trans epx)
      subst ex2
      refine ⟨wipe_one _ 4 _, ?_⟩
      refine ⟨.ref px, rfl, px, _, rfl, .inr (.inl (.inl (sm _ _ hpx))), .int n, rfl, _, _, rfl, rfl, rfl, _, rfl, ?_⟩
      have tk : ((rowsG D (n + 1)).take (i + 1)).filter (fun r => decide (r.length = n + 1)) = ((rowsG D (n + 1)).take i).filter (fun r => decide (r.length = n + 1)) ++ [r].filter (fun r => decide (r.length = n + 1)) := by
        rw [List.take_add_one, er, List.filter_append]
        rfl
      by_cases hl : r.length = n + 1
      · rw [decide_eq_true (show V.int ((r.map V.int).length : Int) = V.int ((n : Int) + 1) by rw [List.length_map, hl]; rfl)]
        refine ⟨.ref px, rfl, acc, hE, small (by omega), acc ++ [.ref px], same_upd2 sm nE, upd_same, by rw [List.length_append]; show acc.length + 1 ≤ i + 1; omega, ?_⟩
        rw [tk, show [r].filter (fun r => decide (r.length = n + 1)) = [r] by simp [hl]]
        exact (ga.upd hE).app (.cons ⟨px, rfl, tup_upd hE (sm _ _ hpx)⟩ .nil)
      · rw [decide_eq_false (show ¬ V.int ((r.map V.int).length : Int) = V.int ((n : Int) + 1) by
          intro z
          have z1 := V.int.inj z
          rw [List.length_map] at z1
          omega)]
        refine ⟨acc, sm, hE, by omega, ?_⟩
        rw [tk, show [r].filter (fun r => decide (r.length = n + 1)) = [] by simp [hl], List.append_nil]
        exact ga
    obtain ⟨va, sm2, hE2, lva, gva⟩ := h
    have ga2 : Rows K H2 va (layG D (n + 1)) := by
      rw [Paired.length gra, List.take_length, rows_last] at gva
      exact gva
    clear gva
    refine fun C nC => ?_
    have sC := same_new (o := .dT []) nC
    have nCH : H C = none := (sm1.trans sm2).free nC
    have EC : E0 ≠ C := ne_of_none hE2 nC
    refine ⟨.ref E0, rfl, E0, rfl, ⟨_, .inl (.inl (sC _ _ hE2))⟩, ?_⟩
    refine for_list (K := K) (a := E0) (xs := va) (fun i σ H' => ∃ (kvs : List (List L2.Key × V)) (y4 y7 y8 y9 : Option V), σ = [some (.ref t), some (.ref a), some (.int n), some (.int ts.length), y4, some (.ref E0), some (.ref C), y7, y8, y9] ∧ Same H H' ∧ (∀ b o, b ≠ C → H2 b = some o → H' b = some o) ∧ H' C = some (.dT kvs) ∧ kvs.length ≤ i ∧
        ∀ row : List Int, (valV kvs (row.map Sum.inl)).getD (.int 0) = .int (cntS W 0 ((layG D (n + 1)).take i) row))
      ⟨[], none, none, none, none, rfl, (sm1.trans sm2).trans sC, fun b o hb e => by rw [upd_ne hb]; exact e, upd_same, Nat.le_refl _, fun row => rfl⟩ (fun i σ H' _ h => ?_) (fun i x σ H' ex h => ?_) (fun σ H' h => ?_)
    · obtain ⟨_, _, _, _, _, _, _, k2, _⟩ := h
      exact .inl (.inl (k2 _ _ EC hE2))
    · obtain ⟨kvs, y4, y7, y8, y9, rfl, sm, k2, hC, lk, cnt⟩ := h
      have lti : i < va.length := (List.getElem?_eq_some_iff.mp ex).1
      obtain ⟨r, er⟩ : ∃ r, (layG D (n + 1))[i]? = some r := ⟨_, List.getElem?_eq_getElem (by rw [← Paired.length ga2]; exact lti)⟩
      obtain ⟨px, epx, hpx⟩ := ga2.getT er
      have ex2 : x = .ref px := Option.some.inj (ex.symm.trans epx)
      subst ex2
      obtain ⟨lr, br⟩ := layG_mem (List.mem_of_getElem? er)
      have pC : px ≠ C := ne_of_none hpx nC
      have hpx' : H' px = some (.tup (r.map V.int)) := k2 _ _ pC hpx
      refine ⟨.ref a, rfl, .ref px, rfl, a, px, W, ts.length, r, rfl, hW.grow sm, hok, .inl (.inl hpx'), by omega, fun sb sc H3 sm3 hb hc => ?_⟩
      have hx' : tapeD W.total (.tuple (r.map PyData.int)) = true := tape_all (by omega) (by omega) (by rw [eD]; exact br)
      have len5 := sayG_len (W := W) r 0
      obtain ⟨r0, er0⟩ : ∃ r0, r[0]? = some r0 := ⟨_, List.getElem?_eq_getElem (by omega)⟩
      have hp3 := sm3 _ _ hpx'
      refine ⟨.ref t, rfl, .ref a, rfl, .ref px, rfl, .ref px, rfl, px, _, 0, .int r0, rfl, rfl, .inl (.inl hp3), atI_zero (by rw [List.getElem?_map, er0]; rfl), rfl, ?_⟩
      refine ⟨_, a, W, ts.length, _, .tuple (r.map PyData.int), _, rfl, hW.grow (sm.trans sm3), hok, .tup (.inl (.inl hp3)) (dpAll_ints r), by show (r.map PyData.int).length ≤ 1000; rw [List.length_map]; omega, fun v H4 _ k _ => ?_, fun r' er' _ v H4 sm4 hv => ?_⟩
      · rw [hx'] at k; cases k
      have er2 : r' = r := by
        have h1 : r.map PyData.int = r'.map PyData.int := by injection er'
        exact (int_inj h1).symm
      subst er2
      have hb4 := sm4 _ _ hb
      have hc4 := sm4 _ _ hc
      refine ⟨.ref sb, rfl, v, _, _, rfl, hv, said_at hb4 hc4 rfl, okd_said (by omega), fun H5 sm5 => ?_⟩
      refine ⟨_, rfl, ?_⟩
      have hb5 := sm5 _ _ hb4
      have hc5 := sm5 _ _ hc4
      have sm15 := (sm3.trans sm4).trans sm5
      have hC5 := sm15 _ _ hC
      refine ⟨.ref sb, rfl, sb, _, 1, .bl (sayG W 0 r').2, rfl, rfl, .inl (.inl hb5), rfl, _, rfl, ?_⟩
      have tk : (layG D (n + 1)).take (i + 1) = (layG D (n + 1)).take i ++ [r'] := by
        rw [List.take_add_one, er]
        rfl
      cases e2 : (sayG W 0 r').2 with
      | false =>
        refine ⟨kvs, some (.ref px), some (.ref sb), y8, y9, rfl, sm.trans sm15, fun b' o hb' e => sm15 _ _ (k2 b' o hb' e), hC5, by omega, fun row => ?_⟩
        rw [cnt row, tk, cnt_snoc, if_neg (fun z => by rw [z] at e2; cases e2)]
        rfl
      | true =>
        have kk := kV_row (sayG W 0 r').1
        refine ⟨.ref C, rfl, C, rfl, .inr ⟨_, .inl hC5⟩, .ref sb, rfl, sb, _, 0, .ref sc, rfl, rfl, .inl (.inl hb5), rfl, _, DGet.t (k := (sayG W 0 r').1.map Sum.inl) hC5 (by rw [kk]; exact hc5), _, 1, cnt _, rfl, ?_⟩
        refine ⟨.ref C, rfl, .ref sb, rfl, sb, _, 0, .ref sc, rfl, rfl, .inl (.inl hb5), rfl, C, _, rfl, DPut.t (k := (sayG W 0 r').1.map Sum.inl) hC5 (by rw [kk]; exact hc5) (small (by have := Paired.length ga2; rw [layG_len] at this; have := pow_le (m := D) (n := n + 1) (by omega) (by omega); omega)), ?_⟩
        refine ⟨_, some (.ref px), some (.ref sb), y8, y9, rfl, same_upd2 (sm.trans sm15) nCH, fun b' o hb' e => by rw [upd_ne hb']; exact sm15 _ _ (k2 b' o hb' e), upd_same, Nat.le_trans (length_putK _ _ _) (by omega), fun row => ?_⟩
        rw [valV_put, tk, cnt_snoc]
        by_cases hrow : (row.map Sum.inl : List L2.Key) = (sayG W 0 r').1.map Sum.inl
        · have e3 := inl_inj hrow
          have e4 : sayG W 0 r' = ((sayG W 0 r').1, true) := Prod.ext rfl e2
          rw [if_pos hrow, e3, if_pos e4]
          rfl
        · rw [if_neg hrow, cnt row, if_neg (fun z => hrow (by rw [z]))]
          rfl
    · obtain ⟨kvs, y4, y7, y8, y9, rfl, sm, k2, hC, lk, cnt⟩ := h
      rw [Paired.length ga2, List.take_length] at cnt
      refine ⟨.int ts.length, rfl, .int n, rfl, ts.length, n, rfl, m1, by omega, fun rb ub H3 sm3 nrb hrb grb => ?_⟩
      refine ⟨.int n, rfl, _, _, rfl, rfl, _, rfl, by omega, by omega, fun D2 nD2 => ?_⟩
      have d1 := same_new (o := .lst []) nD2
      have rbD : rb ≠ D2 := ne_of_none hrb nD2
      refine comp_range (n := ((n : Int) + 1).toNat) (i := 9) (fun acc H5 => Same H3 H5 ∧ acc = List.replicate acc.length (V.int ((ts.length : Int) - 1))) ⟨d1, rfl⟩ (fun acc H5 la h hD => ?_) (fun acc H5 la h hD => ?_)
      · obtain ⟨s5, ea⟩ := h
        refine ⟨.int ts.length, rfl, _, _, rfl, rfl, turned hD (small (by omega)) ⟨same_upd2 s5 nD2, ?_⟩⟩
        rw [List.length_append, List.length_singleton, List.replicate_succ', ← ea]
      obtain ⟨s5, ea⟩ := h
      have la' : acc.length = n + 1 := by omega
      rw [la'] at ea
      refine ⟨D2, acc, rfl, .inl ⟨.inl (.inl hD), fun tt ntt => ?_⟩⟩
      have t1 := same_new (o := .tup acc) ntt
      refine ⟨small' (by simp), fun L1 nL1 => ?_⟩
      have t2 := same_new (o := .lst [.ref tt]) nL1
      have s35 := (s5.trans t1).trans t2
      refine ⟨rb, L1, ub, [.ref tt], rfl, rfl, s35 _ _ hrb, upd_same, ?_, fun L2 nL2 => ?_⟩
      · have h1 := Paired.length grb
        have h2 := rowsG_len m1 n (by omega)
        refine small' ?_
        show ub.length + 1 ≤ 100000
        omega
      have t3 := same_new (o := .lst (ub ++ [.ref tt])) nL2
      have s36 := s35.trans t3
      generalize hH6 : upd _ L2 (.lst (ub ++ [.ref tt])) = H6 at s36
      have hL2 : H6 L2 = some (.lst (ub ++ [.ref tt])) := by rw [← hH6]; exact upd_same
      have lastRow : acc = (List.replicate (n + 1) ((ts.length : Int) - 1)).map V.int := by rw [List.map_replicate]; exact ea
      have grows : Rows K H6 (ub ++ [.ref tt]) (rowsG ts.length n ++ [List.replicate (n + 1) ((ts.length : Int) - 1)]) := by
        refine (grb.grow s36).app (.cons ⟨tt, rfl, ?_⟩ .nil)
        rw [← lastRow, ← hH6]
        exact t3 _ _ (t2 _ _ upd_same)
      have okRow : ∀ q ∈ rowsG ts.length n ++ [List.replicate (n + 1) ((ts.length : Int) - 1)], q.length ≤ n + 1 ∧ ∀ x ∈ q, 0 ≤ x ∧ x < (ts.length : Int) := fun q hq => by
        rcases List.mem_append.mp hq with hq | hq
        · obtain ⟨h1, h2⟩ := rows_mem hq
          exact ⟨by omega, h2⟩
        · rw [List.mem_singleton.mp hq]
          refine ⟨by rw [List.length_replicate]; exact Nat.le_refl _, fun x hx => ?_⟩
          rw [List.eq_of_mem_replicate hx]
          omega
      have sm6 : Same H H6 := (sm.trans sm3).trans s36
      have hC6 : H6 C = some (.dT kvs) := s36 _ _ (sm3 _ _ hC)
      clear lk
      refine ⟨L2, rfl, ⟨_, .inl (.inl hL2)⟩, ?_⟩
      refine for_list (K := K) (a := L2) (xs := ub ++ [.ref tt]) (fun i σ H' => ∃ (y4 y7 y8 y9 : Option V), σ = [some (.ref t), some (.ref a), some (.int n), some (.int ts.length), y4, some (.ref E0), some (.ref C), y7, y8, y9] ∧ Same H6 H')
        ⟨y4, y7, y8, y9, rfl, Same.refl H6⟩ (fun i σ H' _ h => ?_) (fun i x σ H' ex h => ?_) (fun σ H' h => ?_)
      · obtain ⟨_, _, _, _, _, k⟩ := h
        exact .inl (.inl (k _ _ hL2))
      · obtain ⟨y4, y7, y8, y9, rfl, k⟩ := h
        have lti : i < (ub ++ [V.ref tt]).length := (List.getElem?_eq_some_iff.mp ex).1
        obtain ⟨r, er⟩ : ∃ r, (rowsG ts.length n ++ [List.replicate (n + 1) ((ts.length : Int) - 1)])[i]? = some r := ⟨_, List.getElem?_eq_getElem (by rw [← Paired.length grows]; exact lti)⟩
        obtain ⟨px, epx, hpx⟩ := grows.getT er
        have ex2 : x = .ref px := Option.some.inj (ex.symm.trans epx)
        subst ex2
        obtain ⟨lr, br⟩ := okRow r (List.mem_of_getElem? er)
        have hp' := k _ _ hpx
        have smA := sm6.trans k
        have rd : rowD ts.length (.tuple (r.map PyData.int)) = true := row_all (by omega) br
        have sd : shortD (.int (n : Int)) = true := by
          show (decide (0 ≤ (n : Int)) && decide ((n : Int) ≤ 60)) = true
          rw [decide_eq_true (by omega), decide_eq_true (by omega)]; rfl
        have dpr : ∀ {H' : Hp}, H' px = some (.tup (r.map V.int)) → Dp K H' (.ref px) (.tuple (r.map PyData.int)) := fun h => .tup (.inl (.inl h)) (dpAll_ints r)
        refine ⟨.ref t, rfl, .ref a, rfl, .ref px, rfl, .int n, rfl, .ref px, rfl, px, _, rfl, .inr (.inl (.inl hp')), rfl, ?_⟩
        refine ⟨t, ts, a, W, _, .tuple (r.map PyData.int), _, .int n, _, rfl, seqT_grow smA hT, hW.grow smA, hok, dpr hp', by show (r.map PyData.int).length ≤ 1000; rw [List.length_map]; omega, .int _, fun z => ?_, fun _ z => ?_, fun r' n' er' en' _ _ H7 s7 => ?_⟩
        · rw [rd] at z; cases z
        · rw [sd] at z; cases z
        have e1 : r' = r := by
          have h1 : r.map PyData.int = r'.map PyData.int := by injection er'
          exact (int_inj h1).symm
        have e2 : n' = (n : Int) := by injection en' with h1; exact h1.symm
        subst e1 e2
        have hC7 : H7 C = some (.dT kvs) := s7 _ _ (k _ _ hC6)
        refine ⟨.ref C, rfl, C, rfl, .inr ⟨_, .inl hC7⟩, .ref px, rfl, _, DGet.t (k := r'.map Sum.inl) hC7 (by rw [kV_row]; exact s7 _ _ hp'), ?_⟩
        have ev : ((valV kvs (r'.map Sum.inl)).getD (.int 0)) = .int (manyG W r' n) := by rw [cnt r', many_cnt hok m0 br n, eDn]
        rw [ev]
        refine ⟨_, _, .int (manyG W r' n), rfl, .int _, .int _, trivial, fun H8 s8 => ?_⟩
        refine ⟨_, rfl, ?_⟩
        have s78 := s7.trans s8
        have hp8 := s78 _ _ hp'
        refine ⟨.ref t, rfl, .ref a, rfl, .ref px, rfl, .ref px, rfl, px, _, rfl, .inr (.inl (.inl hp8)), rfl, ?_⟩
        refine ⟨t, ts, a, W, _, .tuple (r'.map PyData.int), _, rfl, seqT_grow (smA.trans s78) hT, hW.grow (smA.trans s78), hok, dpr hp8, by show (r'.map PyData.int).length ≤ 1000; rw [List.length_map]; omega, fun z => ?_, fun r2 er2 _ H9 s9 => ?_⟩
        · rw [rd] at z; cases z
        have e3 : r2 = r' := by
          have h1 : r'.map PyData.int = r2.map PyData.int := by injection er2
          exact (int_inj h1).symm
        subst e3
        have hp9 := s9 _ _ hp8
        refine ⟨.ref a, rfl, .ref px, rfl, a, px, W, ts.length, r2, rfl, hW.grow ((smA.trans s78).trans s9), hok, .inl (.inl hp9), br, ?_⟩
        refine ⟨_, _, .int (ledG W 0 r2), rfl, .int _, .int _, trivial, fun H10 s10 => ?_⟩
        exact ⟨_, rfl, y4, y7, some (.ref px), y9, rfl, ((k.trans s78).trans s9).trans s10⟩
      · obtain ⟨_, _, _, _, _, k⟩ := h
        exact q H' (sm6.trans k)
end
end K4
set_option Elab.async false
set_option linter.all false
set_option maxRecDepth 100000
set_option maxHeartbeats 4000000
namespace K4
open PySem PySem.Spec PyProof.Rows L2 Ver
theorem sum_most {c : Int} : ∀ {l : List Int}, (∀ x ∈ l, x ≤ c) → l.sum ≤ l.length * c
  | [], _ => by simp
  | x :: l, h => by
    have h1 := h x List.mem_cons_self
    have h2 := sum_most (c := c) (l := l) fun y hy => h y (List.mem_cons_of_mem _ hy)
    rw [List.sum_cons, List.length_cons, Int.natCast_add, Int.add_mul]
    omega
theorem sum_least : ∀ {l : List Int}, (∀ x ∈ l, 1 ≤ x) → (l.length : Int) ≤ l.sum
  | [], _ => by simp
  | x :: l, h => by
    have h1 := h x List.mem_cons_self
    have h2 := sum_least (l := l) fun y hy => h y (List.mem_cons_of_mem _ hy)
    rw [List.sum_cons, List.length_cons, Int.natCast_add]
    omega
section
variable {P : Program} {w : World} {K : PySem.W.Frag} {mg : Str → Option Value} {base : Heap}
def Wr.Open (W : Wr) : Prop := ∀ r ∈ W.ws, (r.getLast?).getD 0 < W.total
def sp__law_great_writer (K : PySem.W.Frag) : Sp := fun vs H Q _ => ∃ (p : Addr) (m : Nat), vs = [.ref p, .int m] ∧ Pool H p ∧ 1 ≤ m ∧ m ≤ 7 ∧
  ∀ (a : Addr) (W : Wr) H', W.Ok m → W.Open → Drawn p H H' → WrAt K H' a W → Q (.ref a) H'
theorem ok__law_great_writer (T : Tx K mg) : FnOk P w K mg base CX0 2 T.f__law_great_writer T.d__law_great_writer ["pool", "m"] (sp__law_great_writer K) := by
  refine T.F__law_great_writer.ok sc__law_great_writer (fun vs H Q E h => ?_) (fun cdv A outer s H vs Q E hr h => ?_)
  · obtain ⟨p, m, rfl, _⟩ := h; rfl
  · obtain ⟨p, m, rfl, hP, m0, m1, q⟩ := h
    refine ⟨_, (pss_cons (ps_set (i := 2) sc__law_great_writer.nd rfl (Or.inr rfl) (pe_op op_add (pe_op op_add (pv 1) pe_int) (pe_call (ok__law_pick T) hr rfl T.g__law_pick T.F__law_pick.kp T.b__law_pick .nil pass0 (pa_cons (pv 0) (pa_cons (pe_op op_sub pe_int (pv 1)) pa_nil)))))
    (C8.pss_cut (ps_if (pt_cmpR op_eq (pe_call (ok__law_pick T) hr rfl T.g__law_pick T.F__law_pick.kp T.b__law_pick .nil pass0 (pa_cons (pv 0) (pa_cons pe_int pa_nil))) pe_int (nomark _)) (pss_one (ps_set (i := 2) sc__law_great_writer.nd rfl (Or.inr rfl) (pe_op op_add (pe_op op_add (pv 1) pe_int) (pe_call (ok__law_pick T) hr rfl T.g__law_pick T.F__law_pick.kp T.b__law_pick .nil pass0 (pa_cons (pv 0) (pa_cons (pe_op op_sub (pe_op op_pow pe_int pe_int) (pv 1)) pa_nil)))))) pss_nil)
    (pss_cons (ps_set (i := 3) sc__law_great_writer.nd rfl (Or.inr rfl) (pe_op op_add pe_int (pe_call (ok__law_pick T) hr rfl T.g__law_pick T.F__law_pick.kp T.b__law_pick .nil pass0 (pa_cons (pv 0) (pa_cons pe_int pa_nil)))))
    (pss_cons (ps_set (i := 4) sc__law_great_writer.nd rfl (Or.inl rfl) (pe_lst pa_nil))
    (pss_cons (ps_set (i := 5) sc__law_great_writer.nd rfl (Or.inl rfl) (pe_lst pa_nil))
    (pss_cons (ps_for PassesOwn.never rfl (pi_range1 rfl T.n_range (pa_cons (pv 3) pa_nil)) (pg_name (i := 6) sc__law_great_writer.nd rfl (Or.inl rfl))
    (pss_cons (ps_setLc (i := 7) (own := [("t", 8)]) (g := gName 8) (tt := tYes) (by rfl) sc__law_great_writer.nd rfl rfl (sw_true rfl rfl rfl (by decide +kernel)) (pi_range1 rfl T.n_range (pa_cons (pv 1) pa_nil)) (blkOk_by (N := ["pool", "m", "total", "many", "weights", "nexts", "s", "row", "t"]) (sc := defScope s__law_great_writer) (by decide +kernel)) (fun _ _ _ _ _ => (pg_name (i := 8) sc__law_great_writer.nd rfl (Or.inl rfl))) (fun _ _ _ _ _ => pts_nil) (fun _ _ _ _ _ => (pe_op op_add pe_int (pe_call (ok__law_pick T) hr rfl T.g__law_pick T.F__law_pick.kp T.b__law_pick .nil pass0 (pa_cons (pv 0) (pa_cons (pe_op op_fdivN (pv 2) (pe_op op_add (pv 1) pe_int)) pa_nil))))))
    (pss_cons (ps_expr (pe_bm PySem.F.plainAttrs_list PySem.F.slot_list_append PySem.F.type_list_append mt_append (pv 4) (pa_cons (pe_callTy call_tuple_of (by rfl) T.n_tuple (by decide +kernel) (pa_cons (pe_op op_cat (pv 7) (pe_lst (pa_cons (pe_op op_sub (pv 2) (pe_callB (cr_sum rfl) (by rfl) T.n_sum (by decide +kernel) (pa_cons (pv 7) pa_nil))) pa_nil))) pa_nil)) pa_nil)))
    (pss_one (ps_expr (pe_bm PySem.F.plainAttrs_list PySem.F.slot_list_append PySem.F.type_list_append mt_append (pv 5) (pa_cons (pe_callTy call_tuple_of (by rfl) T.n_tuple (by decide +kernel) (pa_cons (pe_lc (own := [("t", 8)]) (g := gName 8) (tt := tYes) (by rfl) sc__law_great_writer.nd (pi_range1 rfl T.n_range (pa_cons (pv 1) pa_nil)) (blkOk_by (N := ["pool", "m", "total", "many", "weights", "nexts", "s", "row", "t"]) (sc := defScope s__law_great_writer) (by decide +kernel)) (fun _ _ _ _ _ => (pg_name (i := 8) sc__law_great_writer.nd rfl (Or.inl rfl))) (fun _ _ _ _ _ => pts_nil) (fun _ _ _ _ _ => (pe_call (ok__law_pick T) hr rfl T.g__law_pick T.F__law_pick.kp T.b__law_pick .nil pass0 (pa_cons (pv 0) (pa_cons (pv 3) pa_nil))))) pa_nil)) pa_nil)))))))
    (pss_one (ps_ret (pe_tup (pa_cons (pv 2) (pa_cons (pe_callTy call_tuple_of (by rfl) T.n_tuple (by decide +kernel) (pa_cons (pv 4) pa_nil)) (pa_cons (pe_callTy call_tuple_of (by rfl) T.n_tuple (by decide +kernel) (pa_cons (pv 5) pa_nil)) pa_nil)))))))))))), ?_⟩
    refine ⟨.int m, rfl, _, _, rfl, rfl, .ref p, rfl, .int m, rfl, _, _, rfl, rfl, p, 8 - (m : Int), rfl, hP, by omega, by omega, fun r0 H0 r00 r01 d0 f0 => ⟨_, _, rfl, rfl, ?_⟩⟩
    refine ⟨fun σ' H' => ∃ tot : Int, σ' = [some (.ref p), some (.int m), some (.int tot), none, none, none, none, none, none] ∧ (m : Int) + 1 ≤ tot ∧ tot ≤ 1000000 ∧ Drawn p H H', ?_, fun σ' H1 h => ?_⟩
    · refine ⟨.ref p, rfl, p, 2, rfl, d0.2, by omega, by omega, fun r1 H1 r10 r11 d1 f1 => ⟨rfl, _, rfl, ite2 (fun z => ?_) (fun z => ?_)⟩⟩
      · refine ⟨.int m, rfl, _, _, rfl, rfl, .ref p, rfl, _, _, rfl, rfl, ⟨by decide, by decide, by decide⟩, .int m, rfl, _, _, rfl, rfl, p, 10 ^ (6 : Int).toNat - (m : Int), rfl, d1.2, ?_, ?_, fun r2 H2 r20 r21 d2 f2 => ⟨_, _, rfl, rfl, ?_⟩⟩
        · have e6 : (10 : Int) ^ (6 : Int).toNat = 1000000 := by decide
          omega
        · have e6 : (10 : Int) ^ (6 : Int).toNat = 1000000 := by decide
          omega
        · have e6 : (10 : Int) ^ (6 : Int).toNat = 1000000 := by decide
          exact ⟨(m : Int) + 1 + r2, rfl, by omega, by omega, (d0.trans d1).trans d2⟩
      · exact ⟨(m : Int) + 1 + r0, rfl, by omega, by omega, d0.trans d1⟩
    obtain ⟨tot, rfl, t0, t1, dT⟩ := h
    have hP1 := dT.2
    refine ⟨.ref p, rfl, p, 12, rfl, hP1, by omega, by omega, fun r3 H3 r30 r31 d3 f3 => ⟨_, _, rfl, rfl, ?_⟩⟩
    obtain ⟨n, en⟩ : ∃ n : Nat, 1 + r3 = (n : Int) := ⟨(1 + r3).toNat, by omega⟩
    have n0 : 1 ≤ n := by omega
    have n1 : n ≤ 12 := by omega
    have dA := dT.trans d3
    show tSeq _ _ _ (List.set _ _ (some (V.int (1 + r3)))) _
    rw [en]
    refine ⟨Nat.zero_le _, fun A nA => ⟨Nat.zero_le _, fun B nB => ?_⟩⟩
    have hP3 : Pool H3 p := dA.2
    have pA : p ≠ A := hP3.ne_none nA
    have a1 := same_new (o := .lst []) nA
    have nB3 : H3 B = none := a1.free nB
    have pB : p ≠ B := hP3.ne_none nB3
    have AB : A ≠ B := ne_of_none upd_same nB
    have a2 := same_new (o := .lst []) nB
    refine ⟨.int n, rfl, n, rfl, by omega, by omega, ?_⟩
    refine for_range0 (n := ((n : Nat) : Int).toNat) (fun i σ H' => ∃ (va vb : List V) (ws ns : List (List Int)) (y6 y7 y8 : Option V), σ = [some (.ref p), some (.int m), some (.int tot), some (.int n), some (.ref A), some (.ref B), y6, y7, y8] ∧ Drawn p H3 H' ∧ H' A = some (.lst va) ∧ H' B = some (.lst vb) ∧
        Rows K H' va ws ∧ Rows K H' vb ns ∧ ws.length = i ∧ ns.length = i ∧ (∀ r ∈ ws, (r.length = m + 1 ∧ r.sum = tot ∧ ∀ x ∈ r, 0 ≤ x) ∧ (r.getLast?).getD 0 < tot) ∧ (∀ r ∈ ns, r.length = m ∧ ∀ x ∈ r, 0 ≤ x ∧ x < (n : Int)))
      ⟨[], [], [], [], none, none, none, rfl, (Drawn.refl hP3).same (a1.trans a2), a2 _ _ upd_same, upd_same, .nil, .nil, rfl, rfl, by simp, by simp⟩ (fun i σ H' lt h => ?_) (fun σ H' h => ?_)
    · obtain ⟨va, vb, ws, ns, y6, y7, y8, rfl, d, hA, hB, gA, gB, lw, ln, pw, pn⟩ := h
      have hP' : Pool H' p := d.2
      have lva : va.length = i := (Paired.length gA).trans lw
      have lvb : vb.length = i := (Paired.length gB).trans ln
      refine ⟨.int m, rfl, m, rfl, by omega, by omega, fun R nR => ?_⟩
      have pR : p ≠ R := hP'.ne_none nR
      have AR : A ≠ R := ne_of_none hA nR
      have BR : B ≠ R := ne_of_none hB nR
      have q0 : 1 ≤ tot.fdiv ((m : Int) + 1) := by
        rw [Int.fdiv_eq_ediv_of_nonneg _ (by omega)]
        exact Int.le_ediv_of_mul_le (by omega) (by omega)
      have q1 : ((m : Int) + 1) * tot.fdiv ((m : Int) + 1) ≤ tot := by
        have := Int.mul_fdiv_add_fmod tot ((m : Int) + 1)
        have := Int.fmod_nonneg_of_pos tot (b := (m : Int) + 1) (by omega)
        omega
      have q2 : tot.fdiv ((m : Int) + 1) ≤ tot := by
        rw [Int.fdiv_eq_ediv_of_nonneg _ (by omega)]
        exact Int.ediv_le_self _ (by omega)
      refine comp_range (n := ((m : Nat) : Int).toNat) (i := 8) (fun acc H5 => Drawn p H' H5 ∧ ∃ ks : List Int, acc = ks.map V.int ∧ ∀ x ∈ ks, 1 ≤ x ∧ x ≤ tot.fdiv ((m : Int) + 1)) ⟨(Drawn.refl hP').same (same_new nR), [], rfl, by simp⟩ (fun acc H5 la h hR => ?_) (fun acc H2 la h hR => ?_)
      · obtain ⟨d5, ks, rfl, pk⟩ := h
        refine ⟨.ref p, rfl, .int tot, rfl, .int m, rfl, _, _, rfl, rfl, _, _, rfl, rfl, ⟨by omega, by omega⟩, p, _, rfl, d5.2, q0, by omega, fun x H6 x0 x1 d6 f6 => ⟨1, x, rfl, rfl, ?_⟩⟩
        refine turned (d6.1 _ _ pR.symm hR) (small (by omega)) ⟨(d5.trans d6).at nR pR, ks ++ [1 + x], by rw [List.map_append]; rfl, fun z hz => ?_⟩
        rcases List.mem_append.mp hz with hz | hz
        · exact pk z hz
        · rw [List.mem_singleton.mp hz]; omega
      obtain ⟨d2, ks, rfl, pk⟩ := h
      rw [List.length_map, Int.toNat_natCast] at la
      have sks : ks.sum ≤ m * tot.fdiv ((m : Int) + 1) := by
        have h1 := sum_most (c := tot.fdiv ((m : Int) + 1)) (l := ks) fun x hx => (pk x hx).2
        rw [la] at h1
        exact h1
      have skn : (m : Int) ≤ ks.sum := by
        have h1 := sum_least (l := ks) fun x hx => (pk x hx).1
        rw [la] at h1
        exact h1
      have q3 : ((m : Int) + 1) * tot.fdiv ((m : Int) + 1) = m * tot.fdiv ((m : Int) + 1) + tot.fdiv ((m : Int) + 1) := by rw [Int.add_mul, Int.one_mul]
      have hA2 : H2 A = some (.lst va) := d2.1 _ _ pA.symm hA
      refine ⟨.ref A, rfl, .inl ⟨rfl, _, .inl (.inl hA2)⟩, ?_⟩
      refine ⟨.ref R, rfl, .int tot, rfl, .ref R, rfl, R, ks, rfl, .inl (.inl hR), _, _, rfl, rfl, small' (by simp), fun c2 nc2 => ?_⟩
      have e2 := same_new (o := .lst [.int (tot - ks.sum)]) nc2
      refine ⟨R, c2, _, _, rfl, rfl, e2 _ _ hR, upd_same, small' (by rw [List.length_map]; show ks.length + 1 ≤ 100000; omega), fun c3 nc3 => ?_⟩
      have e3 := same_new (o := .lst (ks.map V.int ++ [.int (tot - ks.sum)])) nc3
      refine ⟨c3, _, rfl, .inl ⟨.inl (.inl upd_same), fun c4 nc4 => ?_⟩⟩
      have e4 := same_new (o := .tup (ks.map V.int ++ [.int (tot - ks.sum)])) nc4
      have e14 : Same H2 _ := (e2.trans e3).trans e4
      generalize hH8 : upd _ c4 (.tup (ks.map V.int ++ [.int (tot - ks.sum)])) = H8 at e14
      have t8 : H8 c4 = some (.tup ((ks ++ [tot - ks.sum]).map V.int)) := by
        rw [List.map_append, ← hH8]
        exact upd_same
      have hA8 := e14 _ _ hA2
      refine ⟨A, va, .ref c4, rfl, rfl, hA8, small (by omega), ?_⟩
      have d8 : Drawn p H' H8 := d2.same e14
      have gA8 := gA.drawn hP' d8
      have gB8 := gB.drawn hP' d8
      have hB8 : H8 B = some (.lst vb) := d8.1 _ _ pB.symm hB
      generalize hH9 : upd H8 A (.lst (va ++ [.ref c4])) = H9
      have hA9 : H9 A = some (.lst (va ++ [.ref c4])) := by rw [← hH9]; exact upd_same
      have hB9 : H9 B = some (.lst vb) := by rw [← hH9, upd_ne AB.symm]; exact hB8
      have gA9 : Rows K H9 (va ++ [.ref c4]) (ws ++ [ks ++ [tot - ks.sum]]) := by
        rw [← hH9]
        exact (gA8.upd hA8).app (.cons ⟨c4, rfl, tup_upd hA8 t8⟩ .nil)
      have gB9 : Rows K H9 vb ns := by rw [← hH9]; exact gB8.upd hA8
      have d9 : Drawn p H3 H9 := by rw [← hH9]; exact (d.trans d8).at nA pA
      refine ⟨.ref B, rfl, .inl ⟨rfl, _, .inl (.inl hB9)⟩, ?_⟩
      refine ⟨.int m, rfl, m, rfl, by omega, by omega, fun D nD => ?_⟩
      have pD : p ≠ D := d9.2.ne_none nD
      refine comp_range (n := ((m : Nat) : Int).toNat) (i := 8) (fun acc H5 => Drawn p H9 H5 ∧ ∃ ks : List Int, acc = ks.map V.int ∧ ∀ x ∈ ks, 0 ≤ x ∧ x < (n : Int)) ⟨(Drawn.refl d9.2).same (same_new nD), [], rfl, by simp⟩ (fun acc H5 la h hD => ?_) (fun acc H5 la2 h hD => ?_)
      · obtain ⟨d5, ks, rfl, pk⟩ := h
        refine ⟨.ref p, rfl, .int n, rfl, p, n, rfl, d5.2, by omega, by omega, fun x H6 x0 x1 d6 f6 => ?_⟩
        refine turned (d6.1 _ _ pD.symm hD) (small (by omega)) ⟨(d5.trans d6).at nD pD, ks ++ [x], by rw [List.map_append]; rfl, fun z hz => ?_⟩
        rcases List.mem_append.mp hz with hz | hz
        · exact pk z hz
        · rw [List.mem_singleton.mp hz]; exact ⟨x0, x1⟩
      · obtain ⟨d5, us, rfl, pu⟩ := h
        rw [List.length_map, Int.toNat_natCast] at la2
        refine ⟨D, _, rfl, .inl ⟨.inl (.inl hD), fun c5 nc5 => ?_⟩⟩
        have e5 := same_new (o := .tup (us.map V.int)) nc5
        have d10 := d5.same e5
        have hB10 := d10.1 _ _ pB.symm hB9
        refine ⟨B, vb, .ref c5, rfl, rfl, hB10, small (by omega), ?_⟩
        refine ⟨va ++ [.ref c4], vb ++ [.ref c5], ws ++ [ks ++ [tot - ks.sum]], ns ++ [us], some (.int (i : Int)), some (.ref R), y8, rfl, (d9.trans d10).at nB3 pB, ?_, upd_same, ?_, ?_, ?_, ?_, fun r hr => ?_, fun r hr => ?_⟩
        · rw [upd_ne AB]
          exact d10.1 _ _ pA.symm hA9
        · exact (gA9.drawn d9.2 d10).upd hB10
        · exact ((gB9.drawn d9.2 d10).upd hB10).app (.cons ⟨c5, rfl, tup_upd hB10 upd_same⟩ .nil)
        · rw [List.length_append, lw]; rfl
        · rw [List.length_append, ln]; rfl
        · rcases List.mem_append.mp hr with hr | hr
          · exact pw r hr
          · rw [List.mem_singleton.mp hr]
            refine ⟨⟨?_, ?_, fun x hx => ?_⟩, ?_⟩
            · rw [List.length_append, la]; rfl
            · rw [List.sum_append]; simp; omega
            · rcases List.mem_append.mp hx with hx | hx
              · have := (pk x hx).1; omega
              · rw [List.mem_singleton.mp hx]; omega
            · rw [List.getLast?_concat]
              show tot - ks.sum < tot
              omega
        · rcases List.mem_append.mp hr with hr | hr
          · exact pn r hr
          · rw [List.mem_singleton.mp hr]
            exact ⟨la2, pu⟩
    · obtain ⟨va, vb, ws, ns, y6, y7, y8, rfl, d, hA, hB, gA, gB, lw, ln, pw, pn⟩ := h
      rw [Int.toNat_natCast] at lw ln
      refine ⟨.int tot, rfl, .ref A, rfl, A, _, rfl, .inl ⟨.inl (.inl hA), fun b nb => ?_⟩⟩
      have e1 := same_new (o := .tup va) nb
      refine ⟨.ref B, rfl, B, _, rfl, .inl ⟨.inl (.inl (e1 _ _ hB)), fun c nc => ⟨small' (by simp), fun a na => ?_⟩⟩⟩
      have e2 := same_new (o := .tup vb) nc
      have e3 := same_new (o := .tup [.int tot, .ref b, .ref c]) na
      refine q a ⟨tot, ws, ns⟩ _ ?_ (fun r hr => (pw r hr).2) (dA.trans (d.same ((e1.trans e2).trans e3))) ⟨b, c, va, vb, .inl (.inl upd_same), .inl (.inl (e3 _ _ (e2 _ _ upd_same))), gA.grow ((e1.trans e2).trans e3), .inl (.inl (e3 _ _ upd_same)), gB.grow ((e1.trans e2).trans e3)⟩
      exact ⟨by show 1 ≤ tot; omega, by show tot ≤ 2000000; omega, by show ns.length = ws.length; omega, by show 1 ≤ ws.length; omega, by show ws.length ≤ 12; omega, by omega, fun r hr => (pw r hr).1, fun r hr => by
        have := pn r hr
        show r.length = m ∧ ∀ x ∈ r, 0 ≤ x ∧ x < ((ws.length : Nat) : Int)
        rw [lw]
        exact this⟩
end
end K4
set_option Elab.async false
set_option linter.all false
set_option maxRecDepth 100000
set_option maxHeartbeats 4000000
namespace K4
open PySem PySem.Spec PyProof.Rows L2 Ver
def dG (W : Wr) (s : Int) (row : List Int) : Nat → Int
  | 0 => wtEnd W (ledG W s row)
  | k + 1 => dG W s row k * wtAt W (ledG W s (row.take k)) ((row[k]?).getD 0)
theorem dG_cons (W : Wr) (s t : Int) (r : List Int) : ∀ k, dG W s (t :: r) (k + 1) = wtAt W s t * dG W (nxt W s t) r k
  | 0 => Int.mul_comm _ _
  | k + 1 => by
    have ih := dG_cons W s t r k
    show dG W s (t :: r) (k + 1) * wtAt W (ledG W s ((t :: r).take (k + 1))) (((t :: r)[k + 1]?).getD 0) = wtAt W s t * (dG W (nxt W s t) r k * wtAt W (ledG W (nxt W s t) (r.take k)) ((r[k]?).getD 0))
    rw [ih, Int.mul_assoc]
    rfl
theorem dG_fG (W : Wr) : ∀ (row : List Int) (s : Int) (n : Nat), row.length ≤ n → dG W s row row.length * W.total ^ (n - row.length) = fG W s row (n + 1)
  | [], s, n, _ => rfl
  | t :: r, s, 0, h => by simp at h
  | t :: r, s, n + 1, h => by
    rw [List.length_cons] at h
    have ih := dG_fG W r (nxt W s t) n (by omega)
    show dG W s (t :: r) (r.length + 1) * W.total ^ (n + 1 - (r.length + 1)) = wtAt W s t * fG W (nxt W s t) r (n + 1)
    rw [dG_cons, Nat.add_sub_add_right, ← ih, Int.mul_assoc]
theorem many_dG (W : Wr) (row : List Int) (n : Nat) (h : row.length ≤ n) : manyG W row n = dG W 0 row row.length * W.total ^ (n - row.length) := by
  unfold manyG
  rw [if_neg (by omega), dG_fG W row 0 n h]
  have h2 := prG_fG (W := W) row n 0 1 h
  rw [Int.one_mul] at h2
  rw [← h2]
  congr 2
  omega
theorem led_in {W : Wr} {m : Nat} (o : W.Ok m) : ∀ {r : List Int} {s : Int}, 0 ≤ s → s < W.ws.length → (∀ t ∈ r, 0 ≤ t ∧ t < (m : Int)) → 0 ≤ ledG W s r ∧ ledG W s r < W.ws.length
  | [], s, h0, h1, _ => ⟨h0, h1⟩
  | t :: r, s, h0, h1, h => by
    obtain ⟨t0, t1⟩ := h t List.mem_cons_self
    obtain ⟨_, n0, n1⟩ := o.nxt h0 h1 t0 t1
    show 0 ≤ ledG W (nxt W s t) r ∧ ledG W (nxt W s t) r < W.ws.length
    exact led_in o n0 n1 fun u hu => h u (List.mem_cons_of_mem _ hu)
theorem flat_map {n : Nat} (ks : List Int) : (List.replicate n (ks.map V.int)).flatten = ((List.replicate n ks).flatten).map V.int := by
  rw [List.map_flatten, List.map_replicate]
theorem flat_mem {n : Nat} {ks : List Int} {x : Int} (h : x ∈ (List.replicate n ks).flatten) : x ∈ ks := by
  obtain ⟨l, hl, hx⟩ := List.mem_flatten.mp h
  rw [List.eq_of_mem_replicate hl] at hx
  exact hx
theorem flat_len {n : Nat} (ks : List Int) : ((List.replicate n ks).flatten).length = n * ks.length := by
  rw [List.length_flatten, List.map_replicate, List.sum_replicate_nat]
section
variable {P : Program} {w : World} {K : PySem.W.Frag} {mg : Str → Option Value} {base : Heap}
def sp__law_great_right (K : PySem.W.Frag) : Sp := fun vs H Q _ => ∃ (p t a : Addr) (ts : List V) (W : Wr), vs = [.ref p, .ref t, .ref a] ∧ Pool H p ∧ SqT K H t ts ∧ WrAt K H a W ∧ W.Ok ts.length ∧ W.Open ∧ 1 ≤ ts.length ∧ ∀ H', Drawn p H H' → Q (.bl true) H'
theorem ok__law_great_right (T : Tx K mg) : FnOk P w K mg base CX0 8 T.f__law_great_right T.d__law_great_right ["pool", "tokens", "writer"] (sp__law_great_right K) := by
  refine T.F__law_great_right.ok sc__law_great_right (fun vs H Q E h => ?_) (fun cdv A outer s H vs Q E hr h => ?_)
  · obtain ⟨p, t, a, ts, W, rfl, _⟩ := h; rfl
  · obtain ⟨p, t, a, ts, W, rfl, hP, hT, hW, hok, hop, m0, q⟩ := h
    refine ⟨_, (pss_cons (ps_set (i := 3) sc__law_great_right.nd rfl (Or.inr rfl) (pe_callB call_len_seq (by rfl) T.n_len (by decide +kernel) (pa_cons (pv 1) pa_nil)))
    (pss_cons (ps_set (i := 5) sc__law_great_right.nd rfl (Or.inl rfl) (pe_callTy call_tuple_of (by rfl) T.n_tuple (by decide +kernel) (pa_cons (pe_lc (own := [("k", 4)]) (g := gName 4) (tt := tYes) (by rfl) sc__law_great_right.nd (pi_range1 rfl T.n_range (pa_cons (pe_op op_add pe_int (pe_call (ok__law_pick T) (hr.mono (by decide)) rfl T.g__law_pick T.F__law_pick.kp T.b__law_pick .nil pass0 (pa_cons (pv 0) (pa_cons pe_int pa_nil)))) pa_nil)) (blkOk_by (N := ["pool", "tokens", "writer", "m", "k", "row", "budget", "due", "digits", "low", "tape", "digit", "weights"]) (sc := defScope s__law_great_right) (by decide +kernel)) (fun _ _ _ _ _ => (pg_name (i := 4) sc__law_great_right.nd rfl (Or.inl rfl))) (fun _ _ _ _ _ => pts_nil) (fun _ _ _ _ _ => (pe_call (ok__law_pick T) (hr.mono (by decide)) rfl T.g__law_pick T.F__law_pick.kp T.b__law_pick .nil pass0 (pa_cons (pv 0) (pa_cons (pv 3) pa_nil))))) pa_nil)))
    (C8.pss_cut (ps_set (i := 5) sc__law_great_right.nd rfl (Or.inl rfl) (pe_slice sl_tupA (pe_op op_repA (pv 5) pe_int) po_none (po_some (pe_call (ok__law_pick T) (hr.mono (by decide)) rfl T.g__law_pick T.F__law_pick.kp T.b__law_pick .nil pass0 (pa_cons (pv 0) (pa_cons (pe_ifExp (pt_cmpR op_lt (pe_ix (ix_tupK (K := K) rfl) (pv 2) pe_int (fun _ _ => rfl)) pe_int (nomark _)) pe_int pe_int) pa_nil))))))
    (pss_cons (ps_for PassesOwn.never rfl (pi_list (pe_lst (pa_cons pe_int (pa_cons (pe_callB call_len_seq (by rfl) T.n_len (by decide +kernel) (pa_cons (pv 5) pa_nil)) (pa_cons (pe_callB (call_max2 rfl) (by rfl) T.n_max (by decide +kernel) (pa_cons pe_int (pa_cons (pe_op op_sub (pe_callB call_len_seq (by rfl) T.n_len (by decide +kernel) (pa_cons (pv 5) pa_nil)) pe_int) pa_nil))) (pa_cons (pe_call (ok__law_pick T) (hr.mono (by decide)) rfl T.g__law_pick T.F__law_pick.kp T.b__law_pick .nil pass0 (pa_cons (pv 0) (pa_cons pe_int pa_nil))) (pa_cons (pe_op op_add (pe_op op_add (pe_callB call_len_seq (by rfl) T.n_len (by decide +kernel) (pa_cons (pv 5) pa_nil)) pe_int) (pe_call (ok__law_pick T) (hr.mono (by decide)) rfl T.g__law_pick T.F__law_pick.kp T.b__law_pick .nil pass0 (pa_cons (pv 0) (pa_cons pe_int pa_nil)))) pa_nil))))))) (pg_name (i := 6) sc__law_great_right.nd rfl (Or.inl rfl))
    (pss_cons (ps_set (i := 7) sc__law_great_right.nd rfl (Or.inl rfl) (pe_ix ix_tup (pe_ix ix_tup (pe_ix (ix_tupK (K := K) rfl) (pv 2) pe_int (fun _ _ => rfl)) (pe_call (ok__law_walked T) (hr.mono (by decide)) rfl T.g__law_walked T.F__law_walked.kp T.b__law_walked .nil pass0 (pa_cons (pv 2) (pa_cons (pv 5) pa_nil))) (fun _ _ => rfl)) (pv 3) (fun _ _ => rfl)))
    (pss_cons (ps_for PassesOwn.never rfl (pi_range1 rfl T.n_range (pa_cons (pe_callB call_len_seq (by rfl) T.n_len (by decide +kernel) (pa_cons (pv 5) pa_nil)) pa_nil)) (pg_name (i := 4) sc__law_great_right.nd rfl (Or.inl rfl))
    (pss_one (ps_set (i := 7) sc__law_great_right.nd rfl (Or.inl rfl) (pe_op op_mul (pv 7) (pe_ix ix_tup (pe_ix ix_tup (pe_ix (ix_tupK (K := K) rfl) (pv 2) pe_int (fun _ _ => rfl)) (pe_call (ok__law_walked T) (hr.mono (by decide)) rfl T.g__law_walked T.F__law_walked.kp T.b__law_walked .nil pass0 (pa_cons (pv 2) (pa_cons (pe_slice sl_tupA (pv 5) po_none (po_some (pv 4))) pa_nil))) (fun _ _ => rfl)) (pe_ix ix_tup (pv 5) (pv 4) (fun _ _ => rfl)) (fun _ _ => rfl))))))
    (pss_cons (ps_for PassesOwn.never rfl (pi_range1 rfl T.n_range (pa_cons (pe_op op_sub (pv 6) (pe_callB call_len_seq (by rfl) T.n_len (by decide +kernel) (pa_cons (pv 5) pa_nil))) pa_nil)) (pg_name (i := 4) sc__law_great_right.nd rfl (Or.inl rfl))
    (pss_one (ps_set (i := 7) sc__law_great_right.nd rfl (Or.inl rfl) (pe_op op_mul (pv 7) (pe_ix (ix_tupK (K := K) rfl) (pv 2) pe_int (fun _ _ => rfl))))))
    (C8.pss_cut (ps_if (pt_cmpR op_gt (pe_callB call_len_seq (by rfl) T.n_len (by decide +kernel) (pa_cons (pv 5) pa_nil)) (pv 6) (nomark _)) (pss_one (ps_set (i := 7) sc__law_great_right.nd rfl (Or.inl rfl) pe_int)) pss_nil)
    (pss_cons (ps_if (PW.pt (pw_or (pt_cmpR op_gt (pv 6) pe_int (nomark _)) (pw_or1 (pt_cmpR op_ge (pv 7) (pe_op op_pow pe_int pe_int) (nomark _))))) (pss_one ps_continue) pss_nil)
    (pss_one (ps_if (pt_not (pt_val (pe_call (ok__law_same T 5) (hr.mono (by decide)) rfl T.g__law_same T.F__law_same.kp T.b__law_same .nil pass0 (pa_cons (pe_call (ok__law_many_told T) hr rfl T.g__law_many_told T.F__law_many_told.kp T.b__law_many_told .nil pass0 (pa_cons (pv 1) (pa_cons (pv 2) (pa_cons (pv 5) (pa_cons (pv 6) (pa_cons pe_bl pa_nil)))))) (pa_cons (pv 7) pa_nil))))) (pss_one (ps_ret pe_bl)) pss_nil))))))))
    (pss_cons (ps_if (pt_not (pt_val (pe_call (ok__law_same T 5) (hr.mono (by decide)) rfl T.g__law_same T.F__law_same.kp T.b__law_same .nil pass0 (pa_cons (pe_call (ok__law_state_told T) hr rfl T.g__law_state_told T.F__law_state_told.kp T.b__law_state_told .nil pass0 (pa_cons (pv 1) (pa_cons (pv 2) (pa_cons (pv 5) (pa_cons pe_bl pa_nil))))) (pa_cons (pe_call (ok__law_walked T) (hr.mono (by decide)) rfl T.g__law_walked T.F__law_walked.kp T.b__law_walked .nil pass0 (pa_cons (pv 2) (pa_cons (pv 5) pa_nil))) pa_nil))))) (pss_one (ps_ret pe_bl)) pss_nil)
    (pss_cons (ps_setLc (i := 8) (own := [("k", 4)]) (g := gName 4) (tt := tYes) (by rfl) sc__law_great_right.nd rfl rfl (sw_true rfl rfl rfl (by decide +kernel)) (pi_range1 rfl T.n_range (pa_cons (pe_op op_add pe_int (pe_call (ok__law_pick T) (hr.mono (by decide)) rfl T.g__law_pick T.F__law_pick.kp T.b__law_pick .nil pass0 (pa_cons (pv 0) (pa_cons pe_int pa_nil)))) pa_nil)) (blkOk_by (N := ["pool", "tokens", "writer", "m", "k", "row", "budget", "due", "digits", "low", "tape", "digit", "weights"]) (sc := defScope s__law_great_right) (by decide +kernel)) (fun _ _ _ _ _ => (pg_name (i := 4) sc__law_great_right.nd rfl (Or.inl rfl))) (fun _ _ _ _ _ => pts_nil) (fun _ _ _ _ _ => (pe_call (ok__law_pick T) (hr.mono (by decide)) rfl T.g__law_pick T.F__law_pick.kp T.b__law_pick .nil pass0 (pa_cons (pv 0) (pa_cons (pe_ix (ix_tupK (K := K) rfl) (pv 2) pe_int (fun _ _ => rfl)) pa_nil)))))
    (pss_cons (ps_setLc (i := 9) (own := [("digit", 11)]) (g := gName 11) (tt := tYes) (by rfl) sc__law_great_right.nd rfl rfl (sw_true rfl rfl rfl (by decide +kernel)) (pi_list (pv 8)) (blkOk_by (N := ["pool", "tokens", "writer", "m", "k", "row", "budget", "due", "digits", "low", "tape", "digit", "weights"]) (sc := defScope s__law_great_right) (by decide +kernel)) (fun _ _ _ _ _ => (pg_name (i := 11) sc__law_great_right.nd rfl (Or.inl rfl))) (fun _ _ _ _ _ => pts_nil) (fun _ _ _ _ _ => (pe_op op_modN (pe_callTy call_int1 (by rfl) T.n_int (by decide +kernel) (pa_cons (pv 11) pa_nil)) (pe_op op_sub (pe_ix (ix_tupK (K := K) rfl) (pv 2) pe_int (fun _ _ => rfl)) (pe_callB (cr_minK (K := K) rfl rfl) (by rfl) T.n_min (by decide +kernel) (pa_cons (pe_lc (own := [("weights", 12)]) (g := gName 12) (tt := tYes) (by rfl) sc__law_great_right.nd (pi_tupK (K := K) rfl (pe_ix (ix_tupK (K := K) rfl) (pv 2) pe_int (fun _ _ => rfl))) (blkOk_by (N := ["pool", "tokens", "writer", "m", "k", "row", "budget", "due", "digits", "low", "tape", "digit", "weights"]) (sc := PySem.relabel (lcScope (asgVal ((defBody s__law_great_right).getD 6 (.Pass ⟨0, 0, 0, 0⟩)))) (envOfC "" (defScope s__law_great_right) 0 0 .none)) (by decide +kernel)) (fun _ _ _ _ _ => (pg_name (i := 12) sc__law_great_right.nd rfl (Or.inl rfl))) (fun _ _ _ _ _ => pts_nil) (fun _ _ _ _ _ => (pe_ix (ix_tupK (K := K) rfl) (pv 12) (pv 3) (fun _ _ => rfl)))) pa_nil))))))
    (pss_cons (ps_for PassesOwn.never rfl (pi_list (pe_lst (pa_cons (pe_callTy call_tuple_of (by rfl) T.n_tuple (by decide +kernel) (pa_cons (pe_slice sl_list (pe_op op_rep (pv 8) pe_int) po_none (po_some pe_int)) pa_nil)) (pa_cons (pe_callTy call_tuple_of (by rfl) T.n_tuple (by decide +kernel) (pa_cons (pe_slice sl_list (pe_op op_rep (pv 9) pe_int) po_none (po_some (pe_op op_add pe_int (pe_call (ok__law_pick T) (hr.mono (by decide)) rfl T.g__law_pick T.F__law_pick.kp T.b__law_pick .nil pass0 (pa_cons (pv 0) (pa_cons pe_int pa_nil)))))) pa_nil)) pa_nil)))) (pg_name (i := 10) sc__law_great_right.nd rfl (Or.inl rfl))
    (pss_one (ps_if (pt_not (pt_val (pe_call (ok__law_same T 5) (hr.mono (by decide)) rfl T.g__law_same T.F__law_same.kp T.b__law_same .nil pass0 (pa_cons (pe_call (ok__law_tape_told T) (hr.mono (by decide)) rfl T.g__law_tape_told T.F__law_tape_told.kp T.b__law_tape_told .nil pass0 (pa_cons (pv 1) (pa_cons (pv 2) (pa_cons (pv 10) (pa_cons pe_bl pa_nil))))) (pa_cons (pe_call (ok__law_says T) (hr.mono (by decide)) rfl T.g__law_says T.F__law_says.kp T.b__law_says .nil pass0 (pa_cons (pv 2) (pa_cons (pv 10) pa_nil))) pa_nil))))) (pss_one (ps_ret pe_bl)) pss_nil)))
    (pss_one (ps_ret pe_bl)))))))))), ?_⟩
    have m1 := hok.few'
    obtain ⟨b, c, wv, nv, s1, s2, l1, s3, l2, g1, g2⟩ := hW.row
    refine ⟨.ref t, rfl, t, ts, rfl, .inr hT, ?_⟩
    refine ⟨.ref p, rfl, p, 12, rfl, hP, by omega, by omega, fun r0 H0 r00 r01 d0 f0 => ⟨1, r0, rfl, rfl, _, rfl, by omega, by omega, fun D nD => ?_⟩⟩
    have pD : p ≠ D := d0.2.ne_none nD
    refine comp_range (n := (1 + r0).toNat) (i := 4) (fun acc H5 => Drawn p H0 H5 ∧ ∃ ks : List Int, acc = ks.map V.int ∧ ∀ x ∈ ks, 0 ≤ x ∧ x < (ts.length : Int)) ⟨(Drawn.refl d0.2).same (same_new nD), [], rfl, by simp⟩ (fun acc H5 la h hD => ?_) (fun acc H5 la h hD => ?_)
    · obtain ⟨d5, ks, rfl, pk⟩ := h
      refine ⟨.ref p, rfl, .int ts.length, rfl, p, _, rfl, d5.2, by omega, by omega, fun x H6 x0 x1 d6 f6 => ?_⟩
      refine turned (d6.1 _ _ pD.symm hD) (small (by omega)) ⟨(d5.trans d6).at nD pD, ks ++ [x], by rw [List.map_append]; rfl, fun z hz => ?_⟩
      rcases List.mem_append.mp hz with hz | hz
      · exact pk z hz
      · rw [List.mem_singleton.mp hz]; exact ⟨x0, x1⟩
    obtain ⟨d5, ks, rfl, pk⟩ := h
    rw [List.length_map] at la
    refine ⟨D, _, rfl, .inl ⟨.inl (.inl hD), fun pr0 npr0 => ?_⟩⟩
    have e0 := same_new (o := .tup (ks.map V.int)) npr0
    have d6 := (d0.trans d5).same e0
    generalize hH6 : upd H5 pr0 (.tup (ks.map V.int)) = H6 at d6
    have hpr0 : H6 pr0 = some (.tup (ks.map V.int)) := by rw [← hH6]; exact upd_same
    clear e0 hD hH6
    have kne : ks ≠ [] := by intro z; rw [z] at la; simp at la; omega
    have k12 : ks.length ≤ 12 := by omega
    have k1 : 1 ≤ ks.length := by omega
    refine ⟨fun σ' H' => ∃ (pr : Addr) (r : List Int), σ' = [some (.ref p), some (.ref t), some (.ref a), some (.int ts.length), none, some (.ref pr), none, none, none, none, none, none, none] ∧ Drawn p H H' ∧ SqT K H' pr (r.map V.int) ∧ r.length ≤ 60 ∧ ∀ x ∈ r, 0 ≤ x ∧ x < (ts.length : Int), ?_, fun σ' H7 h => ?_⟩
    · refine ⟨.ref pr0, rfl, pr0, 60, ks.map V.int, rfl, rfl, .inl (.inl hpr0), fun z => kne (List.map_eq_nil_iff.mp z), by omega, by omega, by rw [List.length_map]; omega, fun z => absurd z (by decide), fun _ t60 nt60 => ?_⟩
      have e1 := same_new (o := .tup (List.replicate (60 : Int).toNat (ks.map V.int)).flatten) nt60
      have d7 := d6.same e1
      generalize hH7 : upd H6 t60 (.tup (List.replicate (60 : Int).toNat (ks.map V.int)).flatten) = H7 at d7
      have h60 : H7 t60 = some (.tup (((List.replicate 60 ks).flatten).map V.int)) := by
        rw [← hH7, upd_same, ← flat_map]
        rfl
      have l60 : (((List.replicate 60 ks).flatten).map V.int).length = 60 * ks.length := by rw [List.length_map, flat_len]
      have mid : ∀ (k : Int) (H8 : Hp), 0 ≤ k → k ≤ 60 → Drawn p H7 H8 → ∃ a_1 xs, V.ref t60 = .ref a_1 ∧ SqT K H8 a_1 xs ∧ (HT.sIx xs.length 0 none = 0 ∧ HT.sIx xs.length xs.length (some k) = xs.length → (∃ (pr : Addr) (r : List Int), ([some (.ref p), some (.ref t), some (.ref a), some (.int ts.length), none, some (.ref a_1), none, none, none, none, none, none, none] : L2.St) = [some (.ref p), some (.ref t), some (.ref a), some (.int ts.length), none, some (.ref pr), none, none, none, none, none, none, none] ∧ Drawn p H H8 ∧ SqT K H8 pr (r.map V.int) ∧ r.length ≤ 60 ∧ ∀ x ∈ r, 0 ≤ x ∧ x < (ts.length : Int))) ∧
          (¬ (HT.sIx xs.length 0 none = 0 ∧ HT.sIx xs.length xs.length (some k) = xs.length) → ∀ z, H8 z = none → (∃ (pr : Addr) (r : List Int), ([some (.ref p), some (.ref t), some (.ref a), some (.int ts.length), none, some (.ref z), none, none, none, none, none, none, none] : L2.St) = [some (.ref p), some (.ref t), some (.ref a), some (.int ts.length), none, some (.ref pr), none, none, none, none, none, none, none] ∧ Drawn p H (upd H8 z (.tup (cutV xs none (some k)))) ∧ SqT K (upd H8 z (.tup (cutV xs none (some k)))) pr (r.map V.int) ∧ r.length ≤ 60 ∧ ∀ x ∈ r, 0 ≤ x ∧ x < (ts.length : Int))) := fun k H8 k0 k1' d8 => by
        have h8 := tup_drawn d7.2 d8 h60
        obtain ⟨k', rfl⟩ : ∃ k' : Nat, k = (k' : Int) := ⟨k.toNat, by omega⟩
        refine ⟨t60, _, rfl, .inl (.inl h8), fun hw => ?_, fun hw z nz => ?_⟩
        · have e3 := hw.2
          rw [HT.sIx_nat, l60] at e3
          have l2 : 60 * ks.length ≤ 60 := by omega
          refine ⟨t60, _, rfl, d7.trans d8, .inl (.inl h8), by rw [flat_len]; omega, fun x hx => pk x (flat_mem hx)⟩
        · have hk : k' ≤ (((List.replicate 60 ks).flatten).map V.int).length := by rw [l60]; omega
          refine ⟨z, ((List.replicate 60 ks).flatten).take k', rfl, (d7.trans d8).same (same_new nz), .inl (.inl ?_), ?_, fun x hx => pk x (flat_mem (List.mem_of_mem_take hx))⟩
          · rw [upd_same, cut_to hk, List.map_take]
          · rw [List.length_take]; omega
      refine ⟨.ref p, rfl, .ref a, rfl, a, _, 0, .int W.total, rfl, rfl, seqT_drawn hP d7 s1, rfl, W.total, 9, rfl, rfl, _, rfl, ite2 (fun _ => ?_) (fun _ => ?_)⟩
      · exact ⟨p, 61, rfl, d7.2, by omega, by omega, fun k H8 k0 k1' d8 f8 => ⟨k, rfl, mid k H8 k0 (by omega) d8⟩⟩
      · exact ⟨p, 9, rfl, d7.2, by omega, by omega, fun k H8 k0 k1' d8 f8 => ⟨k, rfl, mid k H8 k0 (by omega) d8⟩⟩
    obtain ⟨pr, r, rfl, d7, hpr, r60, br⟩ := h
    have hP7 : Pool H7 p := d7.2
    have w7 := hW.drawn hP d7
    have t7 := seqT_drawn hP d7 hT
    clear s1 s2 s3 g1 g2 l1 l2
    clear b c wv nv
    obtain ⟨b, c, wv, nv, s1, s2, l1, s3, l2, g1, g2⟩ := w7.row
    obtain ⟨w0, w1⟩ := led_in (W := W) hok (r := r) (s := 0) (by omega) (by have := hok.any1; omega) br
    refine ⟨.ref pr, rfl, pr, _, rfl, .inr hpr, .ref pr, rfl, pr, _, rfl, .inr hpr, _, _, rfl, rfl, _, _, rfl, .ref p, rfl, p, 61, rfl, hP7, by omega, by omega, fun u1 H8 u10 u11 d8 f8 => ?_⟩
    refine ⟨.ref pr, rfl, pr, _, rfl, .inr (seqT_drawn hP7 d8 hpr), _, _, rfl, rfl, .ref p, rfl, p, 2, rfl, d8.2, by omega, by omega, fun u2 H9 u20 u21 d9 f9 => ⟨_, _, rfl, rfl, small' (by simp), fun L nL => ?_⟩⟩
    obtain ⟨bs, ebs, bsp⟩ : ∃ bs : List Int, [V.int 60, V.int ((r.map V.int).length : Int), V.int (if ((r.map V.int).length : Int) - 1 > 0 then ((r.map V.int).length : Int) - 1 else 0), V.int u1, V.int (((r.map V.int).length : Int) + 1 + u2)] = bs.map V.int ∧ ∀ x ∈ bs, 0 ≤ x ∧ x ≤ 1000 := by
      refine ⟨[60, ((r.map V.int).length : Int), (if ((r.map V.int).length : Int) - 1 > 0 then ((r.map V.int).length : Int) - 1 else 0), u1, ((r.map V.int).length : Int) + 1 + u2], rfl, fun x hx => ?_⟩
      rw [List.length_map] at hx
      simp only [List.mem_cons, List.not_mem_nil, or_false] at hx
      rcases hx with rfl | rfl | rfl | rfl | rfl
      · omega
      · omega
      · split <;> omega
      · omega
      · omega
    have d79 := d8.trans d9
    have hL0 := upd_same (H := H9) (a := L) (o := .lst (bs.map V.int))
    have e10 := same_new (o := .lst (bs.map V.int)) nL
    have d710 := d79.same e10
    refine ⟨L, rfl, ⟨_, .inl (.inl upd_same)⟩, ?_⟩
    rw [ebs]
    generalize hH10 : upd H9 L (.lst (bs.map V.int)) = H10 at hL0 e10 d710 ⊢
    have s1' := seqT_drawn hP7 d710 s1
    have s2' := seqT_drawn hP7 d710 s2
    have hpr' := seqT_drawn hP7 d710 hpr
    have t10 := seqT_drawn hP7 d710 t7
    have w10 := w7.drawn hP7 d710
    have g1' : ∀ (i : Nat) (r : List Int), W.ws[i]? = some r → ∃ p, wv[i]? = some (V.ref p) ∧ SqT K H10 p (r.map V.int) := fun i r e => by
      obtain ⟨p', h1, h2⟩ := g1 i r e
      exact ⟨p', h1, seqT_drawn hP7 d710 h2⟩
    have rd : rowD ts.length (.tuple (r.map PyData.int)) = true := row_all r60 br
    refine for_list (K := K) (a := L) (xs := bs.map V.int) (fun i σ H' => ∃ y4 y6 y7, σ = [some (.ref p), some (.ref t), some (.ref a), some (.int ts.length), y4, some (.ref pr), y6, y7, none, none, none, none, none] ∧ Same H10 H')
      ⟨none, none, none, rfl, Same.refl H10⟩ (fun i σ H' _ h => ?_) (fun i x σ H' ex h => ?_) (fun σ H11 h => ?_)
    · obtain ⟨_, _, _, _, k⟩ := h
      exact .inl (.inl (k _ _ hL0))
    · obtain ⟨y4, y6, y7, rfl, k⟩ := h
      obtain ⟨bb, ebb, rfl⟩ : ∃ bb, bs[i]? = some bb ∧ x = V.int bb := by
        rw [List.getElem?_map] at ex
        cases e : bs[i]? with
        | none => rw [e] at ex; cases ex
        | some c => rw [e] at ex; exact ⟨c, rfl, (Option.some.inj ex).symm⟩
      obtain ⟨bb0, bb1⟩ := bsp bb (List.mem_of_getElem? ebb)
      obtain ⟨ew, lw, _, _⟩ := hok.atW w0 w1
      obtain ⟨pp, epp, hpp⟩ := g1' _ _ ew
      obtain ⟨ewt, _, _⟩ := hok.wt w0 w1 (t := ts.length) (by omega) (by omega)
      have eE : wtAt W (ledG W 0 r) ts.length = wtEnd W (ledG W 0 r) := (hok.wend w0 w1).2.2.2.symm
      refine ⟨.ref a, rfl, a, _, 1, .ref b, rfl, rfl, seqT_grow k s1', rfl, .ref a, rfl, .ref pr, rfl, a, pr, W, ts.length, r, rfl, w10.grow k, hok, seqT_grow k hpr', br, b, wv, ledG W 0 r, _, rfl, rfl, seqT_grow k s2', at_ref w0 epp, .int ts.length, rfl, pp, _, (ts.length : Int), _, rfl, rfl, seqT_grow k hpp, at_map (by omega) ewt, ?_⟩
      refine ⟨.ref pr, rfl, pr, _, rfl, .inr (seqT_grow k hpr'), _, rfl, by rw [List.length_map]; omega, by rw [List.length_map]; omega, ?_⟩
      refine for_range0 (n := ((r.map V.int).length : Int).toNat) (fun j σ H2 => ∃ y4, σ = [some (.ref p), some (.ref t), some (.ref a), some (.int ts.length), y4, some (.ref pr), some (.int bb), some (.int (dG W 0 r j)), none, none, none, none, none] ∧ Same H10 H2)
        ⟨y4, by rw [eE]; rfl, k⟩ (fun j σ H2 lt h => ?_) (fun σ H2 h => ?_)
      · obtain ⟨y4, rfl, k⟩ := h
        have ltr : j < r.length := by rw [List.length_map] at lt; omega
        have er : r[j]? = some r[j] := List.getElem?_eq_getElem ltr
        have em : (r.map V.int)[j]? = some (V.int r[j]) := by rw [List.getElem?_map, er]; rfl
        obtain ⟨t0, t1⟩ := br _ (List.getElem_mem ltr)
        have bt : ∀ x ∈ r.take j, 0 ≤ x ∧ x < (ts.length : Int) := fun x hx => br x (List.mem_of_mem_take hx)
        obtain ⟨v0, v1⟩ := led_in (W := W) hok (r := r.take j) (s := 0) (by omega) (by have := hok.any1; omega) bt
        obtain ⟨ew2, lw2, _, _⟩ := hok.atW v0 v1
        obtain ⟨pq, epq, hpq⟩ := g1' _ _ ew2
        obtain ⟨ewt2, x0, x1⟩ := hok.wt v0 v1 t0 (Int.le_of_lt t1)
        have hk : j ≤ (r.map V.int).length := by rw [List.length_map]; omega
        refine ⟨.int (dG W 0 r j), rfl, .ref a, rfl, a, _, 1, .ref b, rfl, rfl, seqT_grow k s1', rfl, .ref a, rfl, .ref pr, rfl, .int (j : Int), rfl, _, rfl, pr, _, rfl, seqT_grow k hpr', fun hw => ?_, fun _ z nz => ?_⟩
        · have e3 := hw.2
          rw [HT.sIx_nat, List.length_map] at e3
          omega
        have ez := same_new (o := .tup (cutV (r.map V.int) none (some (j : Int)))) nz
        have kz := k.trans ez
        refine ⟨a, z, W, ts.length, r.take j, rfl, w10.grow kz, hok, .inl (.inl (by rw [upd_same, cut_to hk, List.map_take])), bt, b, wv, _, _, rfl, rfl, seqT_grow kz s2', at_ref v0 epq, .ref pr, rfl, .int (j : Int), rfl, pr, _, (j : Int), _, rfl, rfl, seqT_grow kz hpr', atI_nat (j := j) em, pq, _, _, _, rfl, rfl, seqT_grow kz hpq, at_map t0 ewt2, _, _, rfl, rfl, .inr ⟨by omega, by omega⟩, ?_⟩
        refine ⟨some (.int (j : Int)), ?_, kz⟩
        show (_ : L2.St) = [some (V.ref p), some (V.ref t), some (V.ref a), some (V.int ts.length), some (V.int (j : Int)), some (V.ref pr), some (V.int bb), some (V.int (dG W 0 r j * wtAt W (ledG W 0 (r.take j)) ((r[j]?).getD 0))), none, none, none, none, none]
        rw [er]
        rfl
      obtain ⟨y4, rfl, k⟩ := h
      have tl : (((r.map V.int).length : Nat) : Int).toNat = r.length := by rw [List.length_map]; omega
      rw [tl]
      refine ⟨.int bb, rfl, .ref pr, rfl, pr, _, rfl, .inr (seqT_grow k hpr'), _, _, rfl, rfl, _, rfl, by rw [List.length_map]; omega, by rw [List.length_map]; omega, ?_⟩
      refine for_range0 (n := (bb - ((r.map V.int).length : Int)).toNat) (fun j σ H3 => ∃ y4, σ = [some (.ref p), some (.ref t), some (.ref a), some (.int ts.length), y4, some (.ref pr), some (.int bb), some (.int (dG W 0 r r.length * W.total ^ j)), none, none, none, none, none] ∧ Same H10 H3)
        ⟨y4, by rw [Int.pow_zero, Int.mul_one], k⟩ (fun j σ H3 lt h => ?_) (fun σ H3 h => ?_)
      · obtain ⟨y4, rfl, k⟩ := h
        have tp := hok.pos
        have tm := hok.most
        refine ⟨.int _, rfl, .ref a, rfl, a, _, 0, .int W.total, rfl, rfl, seqT_grow k s1', rfl, _, _, rfl, rfl, .inr ⟨by omega, by omega⟩, some (.int (j : Int)), ?_, k⟩
        rw [Int.pow_succ, ← Int.mul_assoc]
        rfl
      obtain ⟨y4, rfl, k⟩ := h
      refine ⟨fun σ' H4 => ∃ due, σ' = [some (.ref p), some (.ref t), some (.ref a), some (.int ts.length), y4, some (.ref pr), some (.int bb), some (.int due), none, none, none, none, none] ∧ H4 = H3 ∧ due = manyG W r bb, ?_, fun σ' H4 h => ?_⟩
      · refine ⟨.ref pr, rfl, pr, _, rfl, .inr (seqT_grow k hpr'), .int bb, rfl, _, _, rfl, rfl, _, rfl, ite2 (fun z => ?_) (fun z => ?_)⟩
        · have z1 := of_decide_eq_true z
          rw [List.length_map] at z1
          exact ⟨0, rfl, rfl, by unfold manyG; rw [if_pos z1]⟩
        · have z1 : ¬ (((r.map V.int).length : Int) > bb) := fun z2 => z (decide_eq_true z2)
          rw [List.length_map] at z1
          obtain ⟨n, rfl⟩ : ∃ n : Nat, bb = (n : Int) := ⟨bb.toNat, by omega⟩
          refine ⟨_, rfl, rfl, ?_⟩
          rw [many_dG W r n (by omega), List.length_map]
          congr 2
          omega
      obtain ⟨due, rfl, rfl, edue⟩ := h
      refine ⟨.int bb, rfl, _, _, rfl, rfl, _, rfl, ite2 (fun z => ⟨y4, some (.int bb), some (.int due), rfl, k⟩) (fun z => ?_)⟩
      refine ⟨.int due, rfl, _, _, rfl, rfl, ⟨by decide, by decide, by decide⟩, _, _, rfl, rfl, _, rfl, ite2 (fun z => ⟨y4, some (.int bb), some (.int due), rfl, k⟩) (fun z2 => ?_)⟩
      have b60 : bb ≤ 60 := by
        have : ¬ (60 < bb) := fun z3 => z (decide_eq_true z3)
        omega
      have sd : shortD (.int bb) = true := by
        show (decide (0 ≤ bb) && decide (bb ≤ 60)) = true
        rw [decide_eq_true bb0, decide_eq_true b60]; rfl
      refine ⟨.ref t, rfl, .ref a, rfl, .ref pr, rfl, .int bb, rfl, t, ts, a, W, _, .tuple (r.map PyData.int), _, .int bb, _, rfl, seqT_grow k t10, w10.grow k, hok, .tup (seqT_grow k hpr') (dpAll_ints r), by show (r.map PyData.int).length ≤ 1000; rw [List.length_map]; omega, .int _, fun z => ?_, fun _ z => ?_, fun r' n' er' en' _ _ H7' s7 => ?_⟩
      · rw [rd] at z; cases z
      · rw [sd] at z; cases z
      have e1 : r' = r := by
        have h1 : r.map PyData.int = r'.map PyData.int := by injection er'
        exact (int_inj h1).symm
      have e2 : n' = bb := by injection en' with h1; exact h1.symm
      subst e1 e2
      refine ⟨.int due, rfl, _, _, .int (manyG W r' n'), rfl, .int _, by rw [edue]; exact .int _, trivial, fun H8' s8 => ?_⟩
      exact ⟨_, rfl, y4, some (.int n'), some (.int due), rfl, (k.trans s7).trans s8⟩
    obtain ⟨y4, y6, y7, rfl, k⟩ := h
    have d11 := d710.same k
    clear s1' s2' hpr' t10 w10 g1' hL0 e10 d710 d79
    refine ⟨.ref t, rfl, .ref a, rfl, .ref pr, rfl, t, ts, a, W, _, .tuple (r.map PyData.int), _, rfl, seqT_drawn hP7 d11 t7, w7.drawn hP7 d11, hok, .tup (seqT_drawn hP7 d11 hpr) (dpAll_ints r), by show (r.map PyData.int).length ≤ 1000; rw [List.length_map]; omega, fun z => ?_, fun r' er' _ H12 s12 => ?_⟩
    · rw [rd] at z; cases z
    have e1 : r' = r := by
      have h1 : r.map PyData.int = r'.map PyData.int := by injection er'
      exact (int_inj h1).symm
    subst e1
    have d12 := d11.same s12
    refine ⟨.ref a, rfl, .ref pr, rfl, a, pr, W, ts.length, r', rfl, w7.drawn hP7 d12, hok, seqT_drawn hP7 d12 hpr, br, ?_⟩
    refine ⟨_, _, .int (ledG W 0 r'), rfl, .int _, .int _, trivial, fun H13 s13 => ?_⟩
    refine ⟨_, rfl, ?_⟩
    have d13 := d12.same s13
    have tp := hok.pos
    have tm := hok.most
    refine ⟨.ref p, rfl, p, 8, rfl, d13.2, by omega, by omega, fun r3 H14 r30 r31 d14 f14 => ⟨1, r3, rfl, rfl, _, rfl, by omega, by omega, fun D2 nD2 => ?_⟩⟩
    have d714 := d13.trans d14
    have pD2 : p ≠ D2 := d714.2.ne_none nD2
    refine comp_range (n := (1 + r3).toNat) (i := 4) (fun acc H5 => Drawn p H14 H5 ∧ ∃ ks : List Int, acc = ks.map V.int ∧ ∀ x ∈ ks, 0 ≤ x ∧ x < W.total) ⟨(Drawn.refl d714.2).same (same_new nD2), [], rfl, by simp⟩ (fun acc H5 la h hD => ?_) (fun acc H15 la2 h hD2 => ?_)
    · obtain ⟨d5, ks, rfl, pk⟩ := h
      refine ⟨.ref p, rfl, .ref a, rfl, a, _, 0, .int W.total, rfl, rfl, seqT_drawn hP7 (d714.trans d5) s1, rfl, p, W.total, rfl, d5.2, by omega, by omega, fun x H6 x0 x1 d6 f6 => ?_⟩
      refine turned (d6.1 _ _ pD2.symm hD) (small (by omega)) ⟨(d5.trans d6).at nD2 pD2, ks ++ [x], by rw [List.map_append]; rfl, fun z hz => ?_⟩
      rcases List.mem_append.mp hz with hz | hz
      · exact pk z hz
      · rw [List.mem_singleton.mp hz]; exact ⟨x0, x1⟩
    obtain ⟨d5', ds, rfl, pds⟩ := h
    rw [List.length_map] at la2
    have d15 := d714.trans d5'
    have lds : ds.length ≤ 8 := by omega
    have lds1 : 1 ≤ ds.length := by omega
    have wp : W.total ≤ 2000000 := tm
    refine ⟨.ref D2, rfl, D2, rfl, ⟨_, .inl (.inl hD2)⟩, fun E0 nE0 => ?_⟩
    have s15 := seqT_drawn hP7 d15 s1
    have s25 := seqT_drawn hP7 d15 s2
    have g15 : ∀ (i : Nat) (r : List Int), W.ws[i]? = some r → ∃ p, wv[i]? = some (V.ref p) ∧ SqT K H15 p (r.map V.int) := fun i r e => by
      obtain ⟨p', h1, h2⟩ := g1 i r e
      exact ⟨p', h1, seqT_drawn hP7 d15 h2⟩
    refine comp_list (K := K) (a := D2) (xs := ds.map V.int) (i := 11) (fun acc H5 => Same H15 H5 ∧ ∃ ks : List Int, acc = ks.map V.int ∧ ∀ x ∈ ks, 0 ≤ x ∧ x < W.total) ⟨same_new nE0, [], rfl, by simp⟩ (fun acc H5 h => .inl (.inl (h.1 _ _ hD2))) (fun acc x H5 ex h hE => ?_) (fun acc H16 la3 h hE => ?_)
    · obtain ⟨k5, ks, rfl, pk⟩ := h
      have lt5 := (List.getElem?_eq_some_iff.mp ex).1
      rw [List.length_map, List.length_map] at lt5
      obtain ⟨d, ed, rfl⟩ : ∃ d, ds[ks.length]? = some d ∧ x = V.int d := by
        rw [List.getElem?_map, List.length_map] at ex
        cases e : ds[ks.length]? with
        | none => rw [e] at ex; cases ex
        | some c => rw [e] at ex; exact ⟨c, rfl, (Option.some.inj ex).symm⟩
      refine ⟨.int d, rfl, .inl ⟨d, rfl, .ref a, rfl, a, _, 0, .int W.total, rfl, rfl, seqT_grow k5 s15, rfl, .ref a, rfl, a, _, 1, .ref b, rfl, rfl, seqT_grow k5 s15, rfl, b, rfl, ⟨_, seqT_grow k5 s25⟩, fun F nF => ?_⟩⟩
      refine comp_tup (K := K) (a := b) (xs := wv) (i := 12) (fun acc H6 => Same H5 H6 ∧ ∃ ns : List Int, acc = ns.map V.int ∧ ∀ x ∈ ns, 0 ≤ x ∧ x < W.total) ⟨same_new nF, [], rfl, by simp⟩ (fun acc H6 h => seqT_grow (k5.trans h.1) s25) (fun acc x H6 ex2 h hF => ?_) (fun acc H6 la4 h hF => ?_)
      · obtain ⟨k6, ns, rfl, pn⟩ := h
        have lt6 := (List.getElem?_eq_some_iff.mp ex2).1
        rw [List.length_map, l1] at lt6
        have er : W.ws[ns.length]? = some W.ws[ns.length] := List.getElem?_eq_getElem lt6
        have mr : W.ws[ns.length] ∈ W.ws := List.getElem_mem lt6
        generalize W.ws[ns.length] = r2 at er mr
        obtain ⟨pp, epp, hpp⟩ := g15 _ _ er
        rw [List.length_map] at ex2
        have ex3 : x = .ref pp := Option.some.inj (ex2.symm.trans epp)
        subst ex3
        obtain ⟨lr2, _, pr2⟩ := hok.row r2 mr
        have em : r2[ts.length]? = some r2[ts.length] := List.getElem?_eq_getElem (by omega)
        have hl := hop r2 mr
        rw [List.getLast?_eq_getElem?, lr2, Nat.add_sub_cancel, em] at hl
        have pl := pr2 _ (List.getElem_mem (show ts.length < r2.length by omega))
        refine ⟨.ref pp, rfl, .int (ts.length : Int), rfl, pp, _, (ts.length : Int), _, rfl, rfl, seqT_grow (k5.trans k6) hpp, atI_nat (j := ts.length) (by rw [List.getElem?_map, em]; rfl), ?_⟩
        have few := hok.few
        refine turned hF (small (by rw [List.length_map]; omega)) ⟨same_upd2 k6 nF, ns ++ [r2[ts.length]], by rw [List.map_append]; rfl, fun z hz => ?_⟩
        rcases List.mem_append.mp hz with hz | hz
        · exact pn z hz
        · rw [List.mem_singleton.mp hz]; exact ⟨pl, hl⟩
      · obtain ⟨k6, ns, rfl, pn⟩ := h
        rw [List.length_map, l1] at la4
        have any := hok.any1
        refine ⟨F, ns, rfl, .inl (.inl hF), by omega, fun mm hmem hle => ⟨W.total, mm, rfl, rfl, d, W.total - mm, rfl, rfl, ?_, ?_⟩⟩
        · obtain ⟨_, m2⟩ := pn mm hmem
          omega
        · obtain ⟨m1', m2'⟩ := pn mm hmem
          refine turned (k6 _ _ hE) (small (by rw [List.length_map]; omega)) ⟨same_upd2 (k5.trans k6) nE0, ks ++ [d.fmod (W.total - mm)], by rw [List.map_append]; rfl, fun z hz => ?_⟩
          rcases List.mem_append.mp hz with hz | hz
          · exact pk z hz
          · rw [List.mem_singleton.mp hz, Int.fmod_eq_emod_of_nonneg _ (by omega)]
            have z1 := Int.emod_nonneg d (show W.total - mm ≠ 0 by omega)
            have z2 := Int.emod_lt_of_pos d (show 0 < W.total - mm by omega)
            exact ⟨z1, by omega⟩
    obtain ⟨k16, ks, rfl, pks⟩ := h
    rw [List.length_map, List.length_map] at la3
    have d16 := d15.same k16
    have hD16 := k16 _ _ hD2
    have l61 : (((List.replicate 61 ds).flatten).map V.int).length = 61 * ds.length := by rw [List.length_map, flat_len]
    have k61 : (((List.replicate 61 ks).flatten).map V.int).length = 61 * ks.length := by rw [List.length_map, flat_len]
    refine ⟨.ref D2, rfl, D2, 61, ds.map V.int, rfl, rfl, hD16, by omega, by omega, small' (by rw [List.length_map]; show ds.length * 61 ≤ _; omega), fun A1 nA1 => ?_⟩
    have e17 := same_new (o := .lst (List.replicate (61 : Int).toNat (ds.map V.int)).flatten) nA1
    have hA1 : (upd H16 A1 (.lst (List.replicate (61 : Int).toNat (ds.map V.int)).flatten)) A1 = some (.lst (((List.replicate 61 ds).flatten).map V.int)) := by
      rw [upd_same, ← flat_map]
      rfl
    generalize hH17 : upd H16 A1 (.lst (List.replicate (61 : Int).toNat (ds.map V.int)).flatten) = H17 at e17 hA1 ⊢
    refine ⟨61, rfl, A1, _, rfl, .inl (.inl hA1), fun B1 nB1 => ⟨B1, _, rfl, .inl ⟨.inl (.inl upd_same), fun T1 nT1 => ?_⟩⟩⟩
    have c1 : cutV (((List.replicate 61 ds).flatten).map V.int) none (some (61 : Int)) = (((List.replicate 61 ds).flatten).take 61).map V.int := by
      show cutV (((List.replicate 61 ds).flatten).map V.int) none (some ((61 : Nat) : Int)) = _
      rw [cut_to (by rw [l61]; omega), List.map_take]
    have e18 : Same H17 (upd H17 B1 (.lst (cutV (((List.replicate 61 ds).flatten).map V.int) none (some (61 : Int))))) := same_new nB1
    generalize hH18 : upd H17 B1 (.lst (cutV (((List.replicate 61 ds).flatten).map V.int) none (some (61 : Int)))) = H18 at e18 nT1 ⊢
    have e19 : Same H18 (upd H18 T1 (.tup (cutV (((List.replicate 61 ds).flatten).map V.int) none (some (61 : Int))))) := same_new nT1
    have hT1 : (upd H18 T1 (.tup (cutV (((List.replicate 61 ds).flatten).map V.int) none (some (61 : Int))))) T1 = some (.tup ((((List.replicate 61 ds).flatten).take 61).map V.int)) := by rw [upd_same, c1]
    generalize hH19 : upd H18 T1 (.tup (cutV (((List.replicate 61 ds).flatten).map V.int) none (some (61 : Int)))) = H19 at e19 hT1 ⊢
    have k19 := (e17.trans e18).trans e19
    have d19 := d16.same k19
    have hE19 := k19 _ _ hE
    refine ⟨.ref E0, rfl, E0, 61, ks.map V.int, rfl, rfl, hE19, by omega, by omega, small' (by rw [List.length_map]; show ks.length * 61 ≤ _; omega), fun A2 nA2 => ?_⟩
    have e20 := same_new (o := .lst (List.replicate (61 : Int).toNat (ks.map V.int)).flatten) nA2
    have hA2 : (upd H19 A2 (.lst (List.replicate (61 : Int).toNat (ks.map V.int)).flatten)) A2 = some (.lst (((List.replicate 61 ks).flatten).map V.int)) := by
      rw [upd_same, ← flat_map]
      rfl
    generalize hH20 : upd H19 A2 (.lst (List.replicate (61 : Int).toNat (ks.map V.int)).flatten) = H20 at e20 hA2 ⊢
    have d20 := d19.same e20
    refine ⟨.ref p, rfl, p, 61, rfl, d20.2, by omega, by omega, fun k2 H21 k20 k21 d21 f21 => ⟨1, k2, rfl, rfl, 1 + k2, rfl, ?_⟩⟩
    have hA21 : H21 A2 = some (.lst (((List.replicate 61 ks).flatten).map V.int)) := d21.1 _ _ (d19.2.ne_none nA2).symm hA2
    have hT21 := tup_drawn d19.2 ((Drawn.refl d19.2).same e20 |>.trans d21) hT1
    have d721 := d20.trans d21
    refine ⟨A2, _, rfl, .inl (.inl hA21), fun B2 nB2 => ⟨B2, _, rfl, .inl ⟨.inl (.inl upd_same), fun T2 nT2 => ⟨small' (by simp), fun L2 nL2 => ?_⟩⟩⟩⟩
    obtain ⟨n2, en2⟩ : ∃ n2 : Nat, 1 + k2 = (n2 : Int) := ⟨(1 + k2).toNat, by omega⟩
    rw [en2] at nT2 nL2 ⊢
    have c2 : cutV (((List.replicate 61 ks).flatten).map V.int) none (some (n2 : Int)) = (((List.replicate 61 ks).flatten).take n2).map V.int := by
      rw [cut_to (by rw [k61]; omega), List.map_take]
    have e22 : Same H21 (upd H21 B2 (.lst (cutV (((List.replicate 61 ks).flatten).map V.int) none (some (n2 : Int))))) := same_new nB2
    generalize hH22 : upd H21 B2 (.lst (cutV (((List.replicate 61 ks).flatten).map V.int) none (some (n2 : Int)))) = H22 at e22 nT2 nL2 ⊢
    have e23 : Same H22 (upd H22 T2 (.tup (cutV (((List.replicate 61 ks).flatten).map V.int) none (some (n2 : Int))))) := same_new nT2
    have hT2 : (upd H22 T2 (.tup (cutV (((List.replicate 61 ks).flatten).map V.int) none (some (n2 : Int))))) T2 = some (.tup ((((List.replicate 61 ks).flatten).take n2).map V.int)) := by rw [upd_same, c2]
    generalize hH23 : upd H22 T2 (.tup (cutV (((List.replicate 61 ks).flatten).map V.int) none (some (n2 : Int)))) = H23 at e23 hT2 nL2 ⊢
    have e24 : Same H23 (upd H23 L2 (.lst [.ref T1, .ref T2])) := same_new nL2
    have hL24 : (upd H23 L2 (.lst [.ref T1, .ref T2])) L2 = some (.lst [.ref T1, .ref T2]) := upd_same
    generalize hH24 : upd H23 L2 (.lst [.ref T1, .ref T2]) = H24 at e24 hL24 ⊢
    have k24 := (e22.trans e23).trans e24
    have d24 := d721.same k24
    have hT124 := k24 _ _ hT21
    have hT224 := e24 _ _ hT2
    have w24 := w7.drawn hP7 d24
    have t24 := seqT_drawn hP7 d24 t7
    refine ⟨L2, rfl, ⟨_, .inl (.inl hL24)⟩, ?_⟩
    refine for_list (K := K) (a := L2) (xs := [.ref T1, .ref T2]) (fun i σ H' => ∃ y10, σ = [some (.ref p), some (.ref t), some (.ref a), some (.int ts.length), y4, some (.ref pr), y6, y7, some (.ref D2), some (.ref E0), y10, none, none] ∧ Same H24 H')
      ⟨none, rfl, Same.refl H24⟩ (fun i σ H' _ h => ?_) (fun i x σ H' ex h => ?_) (fun σ H' h => ?_)
    · obtain ⟨_, _, k⟩ := h
      exact .inl (.inl (k _ _ hL24))
    · obtain ⟨y10, rfl, k⟩ := h
      obtain ⟨px, r, rfl, hpx, l1', l2', br2⟩ : ∃ (px : Addr) (r : List Int), x = V.ref px ∧ H24 px = some (.tup (r.map V.int)) ∧ 1 ≤ r.length ∧ r.length ≤ 61 ∧ ∀ x ∈ r, 0 ≤ x ∧ x < W.total := by
        match i, ex with
        | 0, ex =>
          refine ⟨T1, _, (Option.some.inj ex).symm, hT124, ?_, ?_, fun x hx => pds x (flat_mem (List.mem_of_mem_take hx))⟩
          · rw [List.length_take, flat_len]; omega
          · rw [List.length_take]; omega
        | 1, ex =>
          refine ⟨T2, _, (Option.some.inj ex).symm, hT224, ?_, ?_, fun x hx => pks x (flat_mem (List.mem_of_mem_take hx))⟩
          · rw [List.length_take, flat_len]; omega
          · rw [List.length_take]; omega
      have hp' := k _ _ hpx
      have hx' : tapeD W.total (.tuple (r.map PyData.int)) = true := tape_all l1' l2' br2
      refine ⟨.ref t, rfl, .ref a, rfl, .ref px, rfl, ?_⟩
      refine ⟨_, a, W, ts.length, _, .tuple (r.map PyData.int), _, rfl, w24.grow k, hok, .tup (.inl (.inl hp')) (dpAll_ints r), by show (r.map PyData.int).length ≤ 1000; rw [List.length_map]; omega, fun v H4 _ z _ => ?_, fun r' er' _ v H4 sm4 hv => ?_⟩
      · rw [hx'] at z; cases z
      have er2 : r' = r := by
        have h1 : r.map PyData.int = r'.map PyData.int := by injection er'
        exact (int_inj h1).symm
      subst er2
      refine ⟨.ref a, rfl, .ref px, rfl, a, px, W, ts.length, r', rfl, w24.grow (k.trans sm4), hok, .inl (.inl (sm4 _ _ hp')), by omega, fun sb sc H3 sm3 hb hc => ?_⟩
      have len5 := sayG_len (W := W) r' 0
      refine ⟨v, .ref sb, _, rfl, dp_grow sm3 hv, said_at hb hc rfl, okd_said (by omega), fun H5 sm5 => ?_⟩
      exact ⟨_, rfl, some (.ref px), rfl, ((k.trans sm4).trans sm3).trans sm5⟩
    · obtain ⟨_, _, k⟩ := h
      exact q H' ((d7.trans d24).same k)
end
end K4
set_option Elab.async false
set_option linter.all false
set_option maxRecDepth 100000
set_option maxHeartbeats 4000000
namespace K4
open PySem PySem.Spec PyProof.Rows L2 Ver
def offP (p : Addr) (H : Hp) : Hp := fun b => if b = p then none else H b
theorem offP_at {p A : Addr} {H : Hp} {o : HO} (ne : p ≠ A) (h : H A = some o) : offP p H A = some o := by
  unfold offP
  rw [if_neg (Ne.symm ne)]
  exact h
theorem offP_none {p : Addr} {H : Hp} : offP p H p = none := by unfold offP; rw [if_pos rfl]
theorem offP_same {p : Addr} {H : Hp} : Same (offP p H) H := fun b o e => by
  unfold offP at e
  split at e
  · cases e
  · exact e
def DpA (p : Addr) (K : PySem.W.Frag) (H : Hp) (v : V) (d : PyData) : Prop := ∃ H0 : Hp, H0 p = none ∧ Same H0 H ∧ Dp K H0 v d
theorem DpA.dp {p : Addr} {K : PySem.W.Frag} {H : Hp} {v : V} {d : PyData} : DpA p K H v d → Dp K H v d := fun ⟨_, _, s, h⟩ => dp_grow s h
theorem DpA.same {p : Addr} {K : PySem.W.Frag} {H H' : Hp} {v : V} {d : PyData} (s' : Same H H') : DpA p K H v d → DpA p K H' v d := fun ⟨H0, n, s, h⟩ => ⟨H0, n, s.trans s', h⟩
theorem DpA.drawn {p : Addr} {K : PySem.W.Frag} {H H' : Hp} {v : V} {d : PyData} (dr : Drawn p H H') : DpA p K H v d → DpA p K H' v d := fun ⟨H0, n, s, h⟩ => ⟨H0, n, fun b o e => dr.1 b o (fun z => by rw [z, n] at e; cases e) (s b o e), h⟩
theorem dpAll_get {K : PySem.W.Frag} {H : Hp} : ∀ (xs : List V) (ds : List PyData), DpAll K H xs ds → ∀ j, j < xs.length → ∃ v d, xs[j]? = some v ∧ Dp K H v d ∧ d ∈ ds
  | [], _, _, j, h => by simp at h
  | x :: xs, ds, h, j, hj => by
    cases h with
    | cons hd hr =>
      match j, hj with
      | 0, _ => exact ⟨_, _, rfl, hd, List.mem_cons_self⟩
      | j + 1, hj =>
        obtain ⟨v, d, e, h1, h2⟩ := dpAll_get xs _ hr j (by simpa using hj)
        exact ⟨v, d, e, h1, List.mem_cons_of_mem _ h2⟩
theorem odd_at {p : Addr} {K : PySem.W.Frag} {H : Hp} {xs : List V} {ds : List PyData} {i : Int} (h : DpAll K (offP p H) xs ds) (h0 : 0 ≤ i) {n : Int} (h1 : i < n) (hn : n = xs.length) : ∃ v d, atI xs i = some v ∧ DpA p K H v d ∧ d ∈ ds := by
  obtain ⟨j, rfl⟩ : ∃ j : Nat, i = (j : Int) := ⟨i.toNat, by omega⟩
  obtain ⟨v, d, e, h2, h3⟩ := dpAll_get xs ds h j (by omega)
  exact ⟨v, d, atI_nat (j := j) e, ⟨_, offP_none, offP_same, h2⟩, h3⟩
theorem below_no {b i : Int} (h : i < 0 ∨ b ≤ i) : belowD b (.int i) = false := by
  show (decide (0 ≤ i) && decide (i < b)) = false
  rcases h with h | h
  · rw [decide_eq_false (by omega)]; rfl
  · rw [decide_eq_false (p := i < b) (by omega)]; exact Bool.and_false _
theorem all_no {b : Int} {ds : List PyData} {e : PyData} (h : e ∈ ds) (n : belowD b e = false) : ds.all (belowD b) = false := by
  cases k : ds.all (belowD b) with
  | false => rfl
  | true =>
    have := List.all_eq_true.mp k e h
    rw [n] at this
    cases this
theorem tape_no {t : Int} {ds : List PyData} {e : PyData} (h : e ∈ ds) (n : belowD t e = false) : tapeD t (.tuple ds) = false := by
  show (ds.all (belowD t) && _) = false
  rw [all_no h n]
  rfl
theorem tape_long {t : Int} {ds : List PyData} (h : 61 < ds.length) : tapeD t (.tuple ds) = false := by
  show (ds.all (belowD t) && (decide (1 ≤ ds.length) && decide (ds.length ≤ 61))) = false
  rw [decide_eq_false (p := ds.length ≤ 61) (by omega), Bool.and_false, Bool.and_false]
theorem row_no {n : Nat} {ds : List PyData} {e : PyData} (h : e ∈ ds) (k : belowD n e = false) : rowD n (.tuple ds) = false := by
  show (ds.all (belowD n) && _) = false
  rw [all_no h k]
  rfl
theorem row_long {n : Nat} {ds : List PyData} (h : 60 < ds.length) : rowD n (.tuple ds) = false := by
  show (ds.all (belowD n) && decide (ds.length ≤ 60)) = false
  rw [decide_eq_false (p := ds.length ≤ 60) (by omega), Bool.and_false]
theorem ok_no (z : Str) : okD 5 (noD z) := ⟨by show 2 ≤ 100000; decide, fun e he => by
  rcases List.mem_cons.mp he with rfl | he
  · exact trivial
  · rw [List.mem_singleton.mp he]; exact trivial⟩
theorem ten59 : (2000000 : Int) < 10 ^ (59 : Int).toNat := by decide +kernel
section
variable {P : Program} {w : World} {K : PySem.W.Frag} {mg : Str → Option Value} {base : Heap}
def sp__law_refused (K : PySem.W.Frag) : Sp := fun vs H Q _ => ∃ (p t a : Addr) (ts : List V) (W : Wr), vs = [.ref p, .ref t, .ref a] ∧ Pool H p ∧ SqT K H t ts ∧ WrAt K H a W ∧ W.Ok ts.length ∧ 1 ≤ ts.length ∧ ∀ H', Drawn p H H' → Q (.bl true) H'
theorem ok__law_refused (T : Tx K mg) : FnOk P w K mg base CX0 8 T.f__law_refused T.d__law_refused ["pool", "tokens", "writer"] (sp__law_refused K) := by
  refine T.F__law_refused.ok sc__law_refused (fun vs H Q E h => ?_) (fun cdv A outer s H vs Q E hr h => ?_)
  · obtain ⟨p, t, a, ts, W, rfl, _⟩ := h; rfl
  · obtain ⟨p, t, a, ts, W, rfl, hP, hT, hW, hok, m0, q⟩ := h
    refine ⟨_, (pss_cons (ps_set (i := 3) sc__law_refused.nd rfl (Or.inl rfl) (pe_callB call_len_seq (by rfl) T.n_len (by decide +kernel) (pa_cons (pv 1) pa_nil)))
    (pss_cons (ps_set (i := 4) sc__law_refused.nd rfl (Or.inl rfl) (pe_ix ix_tup (pv 2) pe_int (fun _ _ => rfl)))
    (pss_cons (ps_set (i := 5) sc__law_refused.nd rfl (Or.inl rfl) (pe_lst (pa_cons (pe_callB call_len_seq (by rfl) T.n_len (by decide +kernel) (pa_cons (pe_ix ix_tup (pv 2) pe_int (fun _ _ => rfl)) pa_nil)) (pa_cons (pe_un un_neg pe_int) (pa_cons pe_bl (pa_cons pe_non (pa_cons pe_str (pa_cons (pe_tup (pa_cons pe_int pa_nil)) (pa_cons pe_bl (pa_cons (pe_lst (pa_cons pe_int pa_nil)) pa_nil))))))))))
    (pss_cons (ps_set (i := 6) sc__law_refused.nd rfl (Or.inl rfl) (pe_ix ix_list (pv 5) (pe_call (ok__law_pick T) (hr.mono (by decide)) rfl T.g__law_pick T.F__law_pick.kp T.b__law_pick .nil pass0 (pa_cons (pv 0) (pa_cons pe_int pa_nil))) (fun _ _ => rfl)))
    (pss_cons (ps_set (i := 5) sc__law_refused.nd rfl (Or.inl rfl) (pe_lst (pa_cons (pv 4) (pa_cons (pe_un un_neg pe_int) (pa_cons pe_bl (pa_cons pe_non (pa_cons pe_str (pa_cons (pe_tup (pa_cons pe_int pa_nil)) (pa_cons pe_bl (pa_cons (pe_op op_pow pe_int pe_int) pa_nil))))))))))
    (pss_cons (ps_set (i := 7) sc__law_refused.nd rfl (Or.inl rfl) (pe_ix ix_list (pv 5) (pe_call (ok__law_pick T) (hr.mono (by decide)) rfl T.g__law_pick T.F__law_pick.kp T.b__law_pick .nil pass0 (pa_cons (pv 0) (pa_cons pe_int pa_nil))) (fun _ _ => rfl)))
    (pss_cons (ps_for PassesOwn.never rfl (pi_list (pe_lst (pa_cons (pe_call (ok__law_choice_told T) (hr.mono (by decide)) rfl T.g__law_choice_told T.F__law_choice_told.kp T.b__law_choice_told .nil pass0 (pa_cons (pv 1) (pa_cons (pv 2) (pa_cons (pv 6) (pa_cons pe_int (pa_cons pe_bl pa_nil)))))) (pa_cons (pe_call (ok__law_choice_told T) (hr.mono (by decide)) rfl T.g__law_choice_told T.F__law_choice_told.kp T.b__law_choice_told .nil pass0 (pa_cons (pv 1) (pa_cons (pv 2) (pa_cons (pv 6) (pa_cons (pv 7) (pa_cons pe_bl pa_nil)))))) pa_nil)))) (pg_name (i := 8) sc__law_refused.nd rfl (Or.inl rfl))
    (pss_one (ps_if (pt_not (pt_val (pe_call (ok__law_same T 5) (hr.mono (by decide)) rfl T.g__law_same T.F__law_same.kp T.b__law_same .nil pass0 (pa_cons (pv 8) (pa_cons (pe_lst (pa_cons pe_str (pa_cons pe_str pa_nil))) pa_nil))))) (pss_one (ps_ret pe_bl)) pss_nil)))
    (pss_cons (ps_if (pt_not (pt_val (pe_call (ok__law_same T 5) (hr.mono (by decide)) rfl T.g__law_same T.F__law_same.kp T.b__law_same .nil pass0 (pa_cons (pe_call (ok__law_choice_told T) (hr.mono (by decide)) rfl T.g__law_choice_told T.F__law_choice_told.kp T.b__law_choice_told .nil pass0 (pa_cons (pv 1) (pa_cons (pv 2) (pa_cons pe_int (pa_cons (pv 7) (pa_cons pe_bl pa_nil)))))) (pa_cons (pe_lst (pa_cons pe_str (pa_cons pe_str pa_nil))) pa_nil))))) (pss_one (ps_ret pe_bl)) pss_nil)
    (pss_cons (ps_set (i := 9) sc__law_refused.nd rfl (Or.inr rfl) (pe_op op_sub (pv 4) pe_int))
    (pss_cons (ps_set (i := 5) sc__law_refused.nd rfl (Or.inl rfl) (pe_lst (pa_cons (pe_tup pa_nil) (pa_cons (pe_callTy call_tuple_of (by rfl) T.n_tuple (by decide +kernel) (pa_cons (pe_lc (own := [("k", 13)]) (g := gName 13) (tt := tYes) (by rfl) sc__law_refused.nd (pi_range1 rfl T.n_range (pa_cons pe_int pa_nil)) (blkOk_by (N := ["pool", "tokens", "writer", "m", "total", "odd", "state", "digit", "told", "last", "named", "row", "budget", "k"]) (sc := defScope s__law_refused) (by decide +kernel)) (fun _ _ _ _ _ => (pg_name (i := 13) sc__law_refused.nd rfl (Or.inl rfl))) (fun _ _ _ _ _ => pts_nil) (fun _ _ _ _ _ => (pv 9))) pa_nil)) (pa_cons (pe_tup (pa_cons (pv 4) pa_nil)) (pa_cons (pe_tup (pa_cons (pv 9) (pa_cons (pe_un un_neg pe_int) pa_nil))) (pa_cons (pe_tup (pa_cons (pv 9) (pa_cons (pv 4) pa_nil))) (pa_cons (pe_lst (pa_cons (pv 9) pa_nil)) (pa_cons pe_non (pa_cons pe_int (pa_cons pe_str (pa_cons (pe_tup (pa_cons pe_bl (pa_cons (pv 9) pa_nil))) (pa_cons (pe_tup (pa_cons (pv 9) (pa_cons pe_bl pa_nil))) (pa_cons (pe_tup (pa_cons (pv 9) (pa_cons pe_non pa_nil))) (pa_cons (pe_tup (pa_cons (pv 9) (pa_cons pe_str pa_nil))) (pa_cons (pe_tup (pa_cons (pe_lst (pa_cons (pv 9) pa_nil)) pa_nil)) pa_nil))))))))))))))))
    (pss_cons (ps_for PassesOwn.never rfl (pi_list (pe_lst (pa_cons pe_bl (pa_cons pe_bl pa_nil)))) (pg_name (i := 10) sc__law_refused.nd rfl (Or.inl rfl))
    (pss_one (ps_if (pt_not (pt_val (pe_call (ok__law_same T 5) (hr.mono (by decide)) rfl T.g__law_same T.F__law_same.kp T.b__law_same .nil pass0 (pa_cons (pe_call (ok__law_tape_told T) (hr.mono (by decide)) rfl T.g__law_tape_told T.F__law_tape_told.kp T.b__law_tape_told .nil pass0 (pa_cons (pv 1) (pa_cons (pv 2) (pa_cons (pe_ix ix_list (pv 5) (pe_call (ok__law_pick T) (hr.mono (by decide)) rfl T.g__law_pick T.F__law_pick.kp T.b__law_pick .nil pass0 (pa_cons (pv 0) (pa_cons pe_int pa_nil))) (fun _ _ => rfl)) (pa_cons (pv 10) pa_nil))))) (pa_cons (pe_lst (pa_cons pe_str (pa_cons pe_str pa_nil))) pa_nil))))) (pss_one (ps_ret pe_bl)) pss_nil)))
    (pss_cons (ps_set (i := 5) sc__law_refused.nd rfl (Or.inl rfl) (pe_lst (pa_cons (pe_callTy call_tuple_of (by rfl) T.n_tuple (by decide +kernel) (pa_cons (pe_lc (own := [("k", 13)]) (g := gName 13) (tt := tYes) (by rfl) sc__law_refused.nd (pi_range1 rfl T.n_range (pa_cons pe_int pa_nil)) (blkOk_by (N := ["pool", "tokens", "writer", "m", "total", "odd", "state", "digit", "told", "last", "named", "row", "budget", "k"]) (sc := defScope s__law_refused) (by decide +kernel)) (fun _ _ _ _ _ => (pg_name (i := 13) sc__law_refused.nd rfl (Or.inl rfl))) (fun _ _ _ _ _ => pts_nil) (fun _ _ _ _ _ => pe_int)) pa_nil)) (pa_cons (pe_tup (pa_cons (pv 3) pa_nil)) (pa_cons (pe_tup (pa_cons pe_int (pa_cons (pe_un un_neg pe_int) pa_nil))) (pa_cons (pe_lst (pa_cons pe_int pa_nil)) (pa_cons pe_non (pa_cons pe_int (pa_cons pe_str (pa_cons (pe_tup (pa_cons pe_bl pa_nil)) (pa_cons (pe_tup (pa_cons pe_int (pa_cons pe_bl pa_nil))) (pa_cons (pe_tup (pa_cons (pe_tup (pa_cons pe_int pa_nil)) pa_nil)) (pa_cons (pe_tup (pa_cons pe_non pa_nil)) (pa_cons (pe_lst pa_nil) pa_nil))))))))))))))
    (pss_cons (ps_set (i := 11) sc__law_refused.nd rfl (Or.inl rfl) (pe_ix ix_list (pv 5) (pe_call (ok__law_pick T) (hr.mono (by decide)) rfl T.g__law_pick T.F__law_pick.kp T.b__law_pick .nil pass0 (pa_cons (pv 0) (pa_cons pe_int pa_nil))) (fun _ _ => rfl)))
    (pss_cons (ps_set (i := 5) sc__law_refused.nd rfl (Or.inl rfl) (pe_lst (pa_cons pe_int (pa_cons (pe_un un_neg pe_int) (pa_cons pe_bl (pa_cons pe_non (pa_cons pe_str (pa_cons (pe_tup (pa_cons pe_int pa_nil)) (pa_cons (pe_lst (pa_cons pe_int pa_nil)) (pa_cons (pe_op op_pow pe_int pe_int) (pa_cons pe_bl pa_nil)))))))))))
    (pss_cons (ps_set (i := 12) sc__law_refused.nd rfl (Or.inl rfl) (pe_ix ix_list (pv 5) (pe_call (ok__law_pick T) (hr.mono (by decide)) rfl T.g__law_pick T.F__law_pick.kp T.b__law_pick .nil pass0 (pa_cons (pv 0) (pa_cons pe_int pa_nil))) (fun _ _ => rfl)))
    (pss_cons (ps_for PassesOwn.never rfl (pi_list (pe_lst (pa_cons (pe_call (ok__law_state_told T) hr rfl T.g__law_state_told T.F__law_state_told.kp T.b__law_state_told .nil pass0 (pa_cons (pv 1) (pa_cons (pv 2) (pa_cons (pv 11) (pa_cons pe_bl pa_nil))))) (pa_cons (pe_call (ok__law_many_told T) hr rfl T.g__law_many_told T.F__law_many_told.kp T.b__law_many_told .nil pass0 (pa_cons (pv 1) (pa_cons (pv 2) (pa_cons (pv 11) (pa_cons pe_int (pa_cons pe_bl pa_nil)))))) (pa_cons (pe_call (ok__law_many_told T) hr rfl T.g__law_many_told T.F__law_many_told.kp T.b__law_many_told .nil pass0 (pa_cons (pv 1) (pa_cons (pv 2) (pa_cons (pv 11) (pa_cons (pv 12) (pa_cons pe_bl pa_nil)))))) pa_nil))))) (pg_name (i := 8) sc__law_refused.nd rfl (Or.inl rfl))
    (pss_one (ps_if (pt_not (pt_val (pe_call (ok__law_same T 5) (hr.mono (by decide)) rfl T.g__law_same T.F__law_same.kp T.b__law_same .nil pass0 (pa_cons (pv 8) (pa_cons (pe_lst (pa_cons pe_str (pa_cons pe_str pa_nil))) pa_nil))))) (pss_one (ps_ret pe_bl)) pss_nil)))
    (pss_one (ps_ret (pe_call (ok__law_same T 5) (hr.mono (by decide)) rfl T.g__law_same T.F__law_same.kp T.b__law_same .nil pass0 (pa_cons (pe_call (ok__law_many_told T) hr rfl T.g__law_many_told T.F__law_many_told.kp T.b__law_many_told .nil pass0 (pa_cons (pv 1) (pa_cons (pv 2) (pa_cons (pe_tup (pa_cons (pe_op op_sub (pv 3) pe_int) pa_nil)) (pa_cons (pv 12) (pa_cons pe_bl pa_nil)))))) (pa_cons (pe_lst (pa_cons pe_str (pa_cons pe_str pa_nil))) pa_nil))))))))))))))))))))), ?_⟩
    have m1 := hok.few'
    have w0 := hok.pos
    have w1 := hok.most
    have d0 : Drawn p H H := Drawn.refl hP
    obtain ⟨b, c, wv, nv, s1, s2, l1, s3, l2, g1, g2⟩ := hW.row
    refine ⟨.ref t, rfl, t, ts, rfl, .inr hT, .ref a, rfl, a, _, 0, .int W.total, rfl, rfl, s1, rfl, ?_⟩
    refine ⟨.ref a, rfl, a, _, 1, .ref b, rfl, rfl, s1, rfl, b, wv, rfl, .inr s2, ?_⟩
    clear s2 s3 g1 g2
    refine ⟨1, rfl, small' (by simp), fun A1 nA1 => ?_⟩
    have e1 : Same H (upd H A1 (.tup [V.int 0])) := same_new nA1
    have hA1 : (upd H A1 (.tup [V.int 0])) A1 = some (.tup [V.int 0]) := upd_same
    have qA1 : p ≠ A1 := d0.2.ne_none nA1
    generalize upd H A1 (.tup [V.int 0]) = G1 at e1 hA1 ⊢
    have d1 := d0.same e1
    refine ⟨small' (by simp), fun A2 nA2 => ?_⟩
    have e2 : Same G1 (upd G1 A2 (.lst [V.int 0])) := same_new nA2
    have hA2 : (upd G1 A2 (.lst [V.int 0])) A2 = some (.lst [V.int 0]) := upd_same
    have qA2 : p ≠ A2 := d1.2.ne_none nA2
    generalize upd G1 A2 (.lst [V.int 0]) = G2 at e2 hA2 ⊢
    have d2 := d1.same e2
    replace hA1 := e2 _ _ hA1
    refine ⟨small' (by simp), fun J1 nJ1 => ?_⟩
    have e3 : Same G2 (upd G2 J1 (.lst [V.int (wv.length : Int), V.int (-1), V.bl true, V.non, V.str "0", V.ref A1, V.bl false, V.ref A2])) := same_new nJ1
    have hJ1 : (upd G2 J1 (.lst [V.int (wv.length : Int), V.int (-1), V.bl true, V.non, V.str "0", V.ref A1, V.bl false, V.ref A2])) J1 = some (.lst [V.int (wv.length : Int), V.int (-1), V.bl true, V.non, V.str "0", V.ref A1, V.bl false, V.ref A2]) := upd_same
    have qJ1 : p ≠ J1 := d2.2.ne_none nJ1
    generalize upd G2 J1 (.lst [V.int (wv.length : Int), V.int (-1), V.bl true, V.non, V.str "0", V.ref A1, V.bl false, V.ref A2]) = G3 at e3 hJ1 ⊢
    have d3 := d2.same e3
    replace hA1 := e3 _ _ hA1
    replace hA2 := e3 _ _ hA2
    refine ⟨.ref J1, rfl, .ref p, rfl, p, 8, rfl, d3.2, by omega, by omega, fun i4 G4 i04 i14 dd4 ff4 => ?_⟩
    replace hA1 := dd4.1 _ _ qA1.symm hA1
    replace hA2 := dd4.1 _ _ qA2.symm hA2
    replace hJ1 := dd4.1 _ _ qJ1.symm hJ1
    have d4 := d3.trans dd4
    obtain ⟨v1, dv1, atv1, Dv1, memv1⟩ := odd_at (p := p) (K := K) (i := i4) (xs := [V.int (wv.length : Int), V.int (-1), V.bl true, V.non, V.str "0", V.ref A1, V.bl false, V.ref A2]) (.cons (.int _) (.cons (.int (-1)) (.cons (.bl true) (.cons (.non) (.cons (.str "0") (.cons (.tup (.inl (.inl (offP_at qA1 hA1))) (.cons (.int 0) .nil)) (.cons (.bl false) (.cons (.lst (.inl (.inl (offP_at qA2 hA2))) (.cons (.int 0) .nil)) (.nil))))))))) i04 i14 rfl
    have badv1 : belowD W.ws.length dv1 = false := by
      simp only [List.mem_cons, List.not_mem_nil, or_false] at memv1
      rcases memv1 with rfl | rfl | rfl | rfl | rfl | rfl | rfl | rfl
      all_goals first | rfl | exact below_no (.inr (by omega))
    refine ⟨J1, _, i4, v1, rfl, rfl, .inl (.inl hJ1), atv1, ?_⟩
    refine ⟨.int W.total, rfl, 1, rfl, small' (by simp), fun A3 nA3 => ?_⟩
    have e5 : Same G4 (upd G4 A3 (.tup [V.int 0])) := same_new nA3
    have hA3 : (upd G4 A3 (.tup [V.int 0])) A3 = some (.tup [V.int 0]) := upd_same
    have qA3 : p ≠ A3 := d4.2.ne_none nA3
    generalize upd G4 A3 (.tup [V.int 0]) = G5 at e5 hA3 ⊢
    have d5 := d4.same e5
    replace hA1 := e5 _ _ hA1
    replace hA2 := e5 _ _ hA2
    replace hJ1 := e5 _ _ hJ1
    replace Dv1 := Dv1.same e5
    refine ⟨10, 59, rfl, rfl, ⟨by decide, by decide, by decide⟩, ?_⟩
    refine ⟨small' (by simp), fun J2 nJ2 => ?_⟩
    have e6 : Same G5 (upd G5 J2 (.lst [V.int W.total, V.int (-1), V.bl true, V.non, V.str "0", V.ref A3, V.bl false, V.int (10 ^ (59 : Int).toNat)])) := same_new nJ2
    have hJ2 : (upd G5 J2 (.lst [V.int W.total, V.int (-1), V.bl true, V.non, V.str "0", V.ref A3, V.bl false, V.int (10 ^ (59 : Int).toNat)])) J2 = some (.lst [V.int W.total, V.int (-1), V.bl true, V.non, V.str "0", V.ref A3, V.bl false, V.int (10 ^ (59 : Int).toNat)]) := upd_same
    have qJ2 : p ≠ J2 := d5.2.ne_none nJ2
    generalize upd G5 J2 (.lst [V.int W.total, V.int (-1), V.bl true, V.non, V.str "0", V.ref A3, V.bl false, V.int (10 ^ (59 : Int).toNat)]) = G6 at e6 hJ2 ⊢
    have d6 := d5.same e6
    replace hA1 := e6 _ _ hA1
    replace hA2 := e6 _ _ hA2
    replace hJ1 := e6 _ _ hJ1
    replace hA3 := e6 _ _ hA3
    replace Dv1 := Dv1.same e6
    refine ⟨.ref J2, rfl, .ref p, rfl, p, 8, rfl, d6.2, by omega, by omega, fun i7 G7 i07 i17 dd7 ff7 => ?_⟩
    replace hA1 := dd7.1 _ _ qA1.symm hA1
    replace hA2 := dd7.1 _ _ qA2.symm hA2
    replace hJ1 := dd7.1 _ _ qJ1.symm hJ1
    replace hA3 := dd7.1 _ _ qA3.symm hA3
    replace hJ2 := dd7.1 _ _ qJ2.symm hJ2
    replace Dv1 := Dv1.drawn dd7
    have d7 := d6.trans dd7
    obtain ⟨v2, dv2, atv2, Dv2, memv2⟩ := odd_at (p := p) (K := K) (i := i7) (xs := [V.int W.total, V.int (-1), V.bl true, V.non, V.str "0", V.ref A3, V.bl false, V.int (10 ^ (59 : Int).toNat)]) (.cons (.int _) (.cons (.int (-1)) (.cons (.bl true) (.cons (.non) (.cons (.str "0") (.cons (.tup (.inl (.inl (offP_at qA3 hA3))) (.cons (.int 0) .nil)) (.cons (.bl false) (.cons (.int _) (.nil))))))))) i07 i17 rfl
    have badv2 : belowD W.total dv2 = false := by
      simp only [List.mem_cons, List.not_mem_nil, or_false] at memv2
      rcases memv2 with rfl | rfl | rfl | rfl | rfl | rfl | rfl | rfl
      all_goals first | exact below_no (.inr (by have := ten59; omega)) | rfl
    refine ⟨J2, _, i7, v2, rfl, rfl, .inl (.inl hJ2), atv2, ?_⟩
    have c1 : ∀ e, choiceD W dv1 e = noD "state" := fun e => by unfold choiceD; rw [if_pos badv1]
    refine ⟨.ref t, rfl, .ref a, rfl, v1, rfl, _, a, W, ts.length, v1, dv1, .int 0, .int 0, false, rfl, hW.drawn hP d7, hok, Dv1.dp, .int 0, fun u1 Ga sa hu1 => ?_⟩
    rw [c1] at hu1
    replace hA1 := sa _ _ hA1
    replace hA2 := sa _ _ hA2
    replace hJ1 := sa _ _ hJ1
    replace hA3 := sa _ _ hA3
    replace hJ2 := sa _ _ hJ2
    replace Dv1 := Dv1.same sa
    replace Dv2 := Dv2.same sa
    have d8 := d7.same sa
    refine ⟨.ref t, rfl, .ref a, rfl, v1, rfl, v2, rfl, _, a, W, ts.length, v1, dv1, v2, dv2, true, rfl, hW.drawn hP d8, hok, Dv1.dp, Dv2.dp, fun u2 Gb sb hu2 => ?_⟩
    rw [c1] at hu2
    replace hu1 := dp_grow sb hu1
    replace hA1 := sb _ _ hA1
    replace hA2 := sb _ _ hA2
    replace hJ1 := sb _ _ hJ1
    replace hA3 := sb _ _ hA3
    replace hJ2 := sb _ _ hJ2
    replace Dv1 := Dv1.same sb
    replace Dv2 := Dv2.same sb
    have d9 := d8.same sb
    refine ⟨small' (by simp), fun J3 nJ3 => ?_⟩
    have e10 : Same Gb (upd Gb J3 (.lst [u1, u2])) := same_new nJ3
    have hJ3 : (upd Gb J3 (.lst [u1, u2])) J3 = some (.lst [u1, u2]) := upd_same
    have qJ3 : p ≠ J3 := d9.2.ne_none nJ3
    generalize upd Gb J3 (.lst [u1, u2]) = G10 at e10 hJ3 ⊢
    have d10 := d9.same e10
    replace hA1 := e10 _ _ hA1
    replace hA2 := e10 _ _ hA2
    replace hJ1 := e10 _ _ hJ1
    replace hA3 := e10 _ _ hA3
    replace hJ2 := e10 _ _ hJ2
    replace Dv1 := Dv1.same e10
    replace Dv2 := Dv2.same e10
    replace hu1 := dp_grow e10 hu1
    replace hu2 := dp_grow e10 hu2
    refine ⟨J3, rfl, ⟨_, .inl (.inl hJ3)⟩, ?_⟩
    refine for_list (K := K) (a := J3) (xs := [u1, u2]) (fun i σ H' => ∃ y8 : Option V, σ = [some (.ref p), some (.ref t), some (.ref a), some (.int ts.length), some (.int W.total), some (.ref J2), some v1, some v2, y8, none, none, none, none, none] ∧ Same G10 H')
      ⟨_, rfl, Same.refl _⟩ (fun i σ H' _ h => ?_) (fun i x σ H' ex h => ?_) (fun σ H' h => ?_)
    · obtain ⟨_, _, k⟩ := h
      exact .inl (.inl (k _ _ hJ3))
    · obtain ⟨y0, rfl, k⟩ := h
      have hx : Dp K G10 x (noD "state") := by
        match i, ex with
        | 0, ex => rw [← Option.some.inj ex]; exact hu1
        | 1, ex => rw [← Option.some.inj ex]; exact hu2
      refine ⟨x, rfl, small' (by simp), fun M nM => ?_⟩
      have sM := k.trans (same_new (o := .lst [.str "not usable", .str "state"]) nM)
      exact ⟨x, .ref M, noD "state", rfl, dp_grow sM hx, no_at upd_same, ok_no _, fun H5 s5 => ⟨_, rfl, some x, rfl, sM.trans s5⟩⟩
    obtain ⟨y8, rfl, sl10⟩ := h
    have rr11 := sl10
    replace hA1 := sl10 _ _ hA1
    replace hA2 := sl10 _ _ hA2
    replace hJ1 := sl10 _ _ hJ1
    replace hA3 := sl10 _ _ hA3
    replace hJ2 := sl10 _ _ hJ2
    replace hJ3 := sl10 _ _ hJ3
    replace Dv1 := Dv1.same sl10
    replace Dv2 := Dv2.same sl10
    have d12 := d10.same sl10
    have c2 : choiceD W (.int 0) dv2 = noD "digit" := by
      have b0 : belowD W.ws.length (.int 0) = true := by
        show (decide ((0 : Int) ≤ 0) && decide ((0 : Int) < W.ws.length)) = true
        rw [decide_eq_true (show (0 : Int) < W.ws.length by have := hok.any1; omega)]; rfl
      unfold choiceD
      rw [if_neg (by rw [b0]; exact Bool.noConfusion), if_pos badv2]
    refine ⟨.ref t, rfl, .ref a, rfl, v2, rfl, _, a, W, ts.length, .int 0, .int 0, v2, dv2, false, rfl, hW.drawn hP d12, hok, .int 0, Dv2.dp, fun u3 Gc sc hu3 => ?_⟩
    rw [c2] at hu3
    replace hA1 := sc _ _ hA1
    replace hA2 := sc _ _ hA2
    replace hJ1 := sc _ _ hJ1
    replace hA3 := sc _ _ hA3
    replace hJ2 := sc _ _ hJ2
    replace hJ3 := sc _ _ hJ3
    replace Dv1 := Dv1.same sc
    replace Dv2 := Dv2.same sc
    have d13 := d12.same sc
    refine ⟨small' (by simp), fun M nM => ⟨u3, .ref M, noD "digit", rfl, dp_grow (same_new nM) hu3, no_at upd_same, ok_no _, fun Gd sd => ⟨_, rfl, ?_⟩⟩⟩
    have sd' := (same_new (o := .lst [.str "not usable", .str "digit"]) nM).trans sd
    replace hA1 := sd' _ _ hA1
    replace hA2 := sd' _ _ hA2
    replace hJ1 := sd' _ _ hJ1
    replace hA3 := sd' _ _ hA3
    replace hJ2 := sd' _ _ hJ2
    replace hJ3 := sd' _ _ hJ3
    replace Dv1 := Dv1.same sd'
    replace Dv2 := Dv2.same sd'
    have d14 := d13.same sd'
    refine ⟨.int W.total, rfl, W.total, 1, rfl, rfl, ?_⟩
    refine ⟨small' (by simp), fun T0 nT0 => ?_⟩
    have e15 : Same Gd (upd Gd T0 (.tup [])) := same_new nT0
    have hT0 : (upd Gd T0 (.tup [])) T0 = some (.tup []) := upd_same
    have qT0 : p ≠ T0 := d14.2.ne_none nT0
    generalize upd Gd T0 (.tup []) = G15 at e15 hT0 ⊢
    have d15 := d14.same e15
    replace hA1 := e15 _ _ hA1
    replace hA2 := e15 _ _ hA2
    replace hJ1 := e15 _ _ hJ1
    replace hA3 := e15 _ _ hA3
    replace hJ2 := e15 _ _ hJ2
    replace hJ3 := e15 _ _ hJ3
    replace Dv1 := Dv1.same e15
    replace Dv2 := Dv2.same e15
    refine ⟨62, rfl, by omega, by omega, fun C1 nC1 => ?_⟩
    refine comp_range (n := (62 : Int).toNat) (i := 13) (fun acc H5 => Same G15 H5 ∧ acc = List.replicate acc.length (V.int (W.total - 1))) ⟨same_new nC1, rfl⟩ (fun acc H5 la h hD => ?_) (fun acc G16 la h hD => ?_)
    · obtain ⟨s5, ea⟩ := h
      refine ⟨.int (W.total - 1), rfl, turned hD (small (by have : (62 : Int).toNat = 62 := rfl; omega)) ⟨same_upd2 s5 nC1, by rw [List.length_append, List.length_singleton, List.replicate_succ', ← ea]⟩⟩
    obtain ⟨sq16, ea16⟩ := h
    rw [la] at ea16
    replace ea16 : acc = List.replicate 62 (V.int (W.total - 1)) := ea16
    subst ea16
    refine ⟨C1, _, rfl, .inl ⟨.inl (.inl hD), fun T1 nT1 => ?_⟩⟩
    clear hD la
    replace hA1 := sq16 _ _ hA1
    replace hA2 := sq16 _ _ hA2
    replace hJ1 := sq16 _ _ hJ1
    replace hA3 := sq16 _ _ hA3
    replace hJ2 := sq16 _ _ hJ2
    replace hJ3 := sq16 _ _ hJ3
    replace hT0 := sq16 _ _ hT0
    replace Dv1 := Dv1.same sq16
    replace Dv2 := Dv2.same sq16
    have d16 := d15.same sq16
    have e17 : Same G16 (upd G16 T1 (.tup (List.replicate 62 (V.int (W.total - 1))))) := same_new nT1
    have hT1 : (upd G16 T1 (.tup (List.replicate 62 (V.int (W.total - 1))))) T1 = some (.tup (List.replicate 62 (V.int (W.total - 1)))) := upd_same
    have qT1 : p ≠ T1 := d16.2.ne_none nT1
    generalize upd G16 T1 (.tup (List.replicate 62 (V.int (W.total - 1)))) = G17 at e17 hT1 ⊢
    have d17 := d16.same e17
    replace hA1 := e17 _ _ hA1
    replace hA2 := e17 _ _ hA2
    replace hJ1 := e17 _ _ hJ1
    replace hA3 := e17 _ _ hA3
    replace hJ2 := e17 _ _ hJ2
    replace hJ3 := e17 _ _ hJ3
    replace hT0 := e17 _ _ hT0
    replace Dv1 := Dv1.same e17
    replace Dv2 := Dv2.same e17
    refine ⟨.int W.total, rfl, small' (by simp), fun T2 nT2 => ?_⟩
    have e18 : Same G17 (upd G17 T2 (.tup [V.int W.total])) := same_new nT2
    have hT2 : (upd G17 T2 (.tup [V.int W.total])) T2 = some (.tup [V.int W.total]) := upd_same
    have qT2 : p ≠ T2 := d17.2.ne_none nT2
    generalize upd G17 T2 (.tup [V.int W.total]) = G18 at e18 hT2 ⊢
    have d18 := d17.same e18
    replace hA1 := e18 _ _ hA1
    replace hA2 := e18 _ _ hA2
    replace hJ1 := e18 _ _ hJ1
    replace hA3 := e18 _ _ hA3
    replace hJ2 := e18 _ _ hJ2
    replace hJ3 := e18 _ _ hJ3
    replace hT0 := e18 _ _ hT0
    replace hT1 := e18 _ _ hT1
    replace Dv1 := Dv1.same e18
    replace Dv2 := Dv2.same e18
    refine ⟨.int (W.total - 1), rfl, 1, rfl, small' (by simp), fun T3 nT3 => ?_⟩
    have e19 : Same G18 (upd G18 T3 (.tup [V.int (W.total - 1), V.int (-1)])) := same_new nT3
    have hT3 : (upd G18 T3 (.tup [V.int (W.total - 1), V.int (-1)])) T3 = some (.tup [V.int (W.total - 1), V.int (-1)]) := upd_same
    have qT3 : p ≠ T3 := d18.2.ne_none nT3
    generalize upd G18 T3 (.tup [V.int (W.total - 1), V.int (-1)]) = G19 at e19 hT3 ⊢
    have d19 := d18.same e19
    replace hA1 := e19 _ _ hA1
    replace hA2 := e19 _ _ hA2
    replace hJ1 := e19 _ _ hJ1
    replace hA3 := e19 _ _ hA3
    replace hJ2 := e19 _ _ hJ2
    replace hJ3 := e19 _ _ hJ3
    replace hT0 := e19 _ _ hT0
    replace hT1 := e19 _ _ hT1
    replace hT2 := e19 _ _ hT2
    replace Dv1 := Dv1.same e19
    replace Dv2 := Dv2.same e19
    refine ⟨.int (W.total - 1), rfl, .int W.total, rfl, small' (by simp), fun T4 nT4 => ?_⟩
    have e20 : Same G19 (upd G19 T4 (.tup [V.int (W.total - 1), V.int W.total])) := same_new nT4
    have hT4 : (upd G19 T4 (.tup [V.int (W.total - 1), V.int W.total])) T4 = some (.tup [V.int (W.total - 1), V.int W.total]) := upd_same
    have qT4 : p ≠ T4 := d19.2.ne_none nT4
    generalize upd G19 T4 (.tup [V.int (W.total - 1), V.int W.total]) = G20 at e20 hT4 ⊢
    have d20 := d19.same e20
    replace hA1 := e20 _ _ hA1
    replace hA2 := e20 _ _ hA2
    replace hJ1 := e20 _ _ hJ1
    replace hA3 := e20 _ _ hA3
    replace hJ2 := e20 _ _ hJ2
    replace hJ3 := e20 _ _ hJ3
    replace hT0 := e20 _ _ hT0
    replace hT1 := e20 _ _ hT1
    replace hT2 := e20 _ _ hT2
    replace hT3 := e20 _ _ hT3
    replace Dv1 := Dv1.same e20
    replace Dv2 := Dv2.same e20
    refine ⟨.int (W.total - 1), rfl, small' (by simp), fun T5 nT5 => ?_⟩
    have e21 : Same G20 (upd G20 T5 (.lst [V.int (W.total - 1)])) := same_new nT5
    have hT5 : (upd G20 T5 (.lst [V.int (W.total - 1)])) T5 = some (.lst [V.int (W.total - 1)]) := upd_same
    have qT5 : p ≠ T5 := d20.2.ne_none nT5
    generalize upd G20 T5 (.lst [V.int (W.total - 1)]) = G21 at e21 hT5 ⊢
    have d21 := d20.same e21
    replace hA1 := e21 _ _ hA1
    replace hA2 := e21 _ _ hA2
    replace hJ1 := e21 _ _ hJ1
    replace hA3 := e21 _ _ hA3
    replace hJ2 := e21 _ _ hJ2
    replace hJ3 := e21 _ _ hJ3
    replace hT0 := e21 _ _ hT0
    replace hT1 := e21 _ _ hT1
    replace hT2 := e21 _ _ hT2
    replace hT3 := e21 _ _ hT3
    replace hT4 := e21 _ _ hT4
    replace Dv1 := Dv1.same e21
    replace Dv2 := Dv2.same e21
    refine ⟨.int (W.total - 1), rfl, small' (by simp), fun T6 nT6 => ?_⟩
    have e22 : Same G21 (upd G21 T6 (.tup [V.bl false, V.int (W.total - 1)])) := same_new nT6
    have hT6 : (upd G21 T6 (.tup [V.bl false, V.int (W.total - 1)])) T6 = some (.tup [V.bl false, V.int (W.total - 1)]) := upd_same
    have qT6 : p ≠ T6 := d21.2.ne_none nT6
    generalize upd G21 T6 (.tup [V.bl false, V.int (W.total - 1)]) = G22 at e22 hT6 ⊢
    have d22 := d21.same e22
    replace hA1 := e22 _ _ hA1
    replace hA2 := e22 _ _ hA2
    replace hJ1 := e22 _ _ hJ1
    replace hA3 := e22 _ _ hA3
    replace hJ2 := e22 _ _ hJ2
    replace hJ3 := e22 _ _ hJ3
    replace hT0 := e22 _ _ hT0
    replace hT1 := e22 _ _ hT1
    replace hT2 := e22 _ _ hT2
    replace hT3 := e22 _ _ hT3
    replace hT4 := e22 _ _ hT4
    replace hT5 := e22 _ _ hT5
    replace Dv1 := Dv1.same e22
    replace Dv2 := Dv2.same e22
    refine ⟨.int (W.total - 1), rfl, small' (by simp), fun T7 nT7 => ?_⟩
    have e23 : Same G22 (upd G22 T7 (.tup [V.int (W.total - 1), V.bl true])) := same_new nT7
    have hT7 : (upd G22 T7 (.tup [V.int (W.total - 1), V.bl true])) T7 = some (.tup [V.int (W.total - 1), V.bl true]) := upd_same
    have qT7 : p ≠ T7 := d22.2.ne_none nT7
    generalize upd G22 T7 (.tup [V.int (W.total - 1), V.bl true]) = G23 at e23 hT7 ⊢
    have d23 := d22.same e23
    replace hA1 := e23 _ _ hA1
    replace hA2 := e23 _ _ hA2
    replace hJ1 := e23 _ _ hJ1
    replace hA3 := e23 _ _ hA3
    replace hJ2 := e23 _ _ hJ2
    replace hJ3 := e23 _ _ hJ3
    replace hT0 := e23 _ _ hT0
    replace hT1 := e23 _ _ hT1
    replace hT2 := e23 _ _ hT2
    replace hT3 := e23 _ _ hT3
    replace hT4 := e23 _ _ hT4
    replace hT5 := e23 _ _ hT5
    replace hT6 := e23 _ _ hT6
    replace Dv1 := Dv1.same e23
    replace Dv2 := Dv2.same e23
    refine ⟨.int (W.total - 1), rfl, small' (by simp), fun T8 nT8 => ?_⟩
    have e24 : Same G23 (upd G23 T8 (.tup [V.int (W.total - 1), V.non])) := same_new nT8
    have hT8 : (upd G23 T8 (.tup [V.int (W.total - 1), V.non])) T8 = some (.tup [V.int (W.total - 1), V.non]) := upd_same
    have qT8 : p ≠ T8 := d23.2.ne_none nT8
    generalize upd G23 T8 (.tup [V.int (W.total - 1), V.non]) = G24 at e24 hT8 ⊢
    have d24 := d23.same e24
    replace hA1 := e24 _ _ hA1
    replace hA2 := e24 _ _ hA2
    replace hJ1 := e24 _ _ hJ1
    replace hA3 := e24 _ _ hA3
    replace hJ2 := e24 _ _ hJ2
    replace hJ3 := e24 _ _ hJ3
    replace hT0 := e24 _ _ hT0
    replace hT1 := e24 _ _ hT1
    replace hT2 := e24 _ _ hT2
    replace hT3 := e24 _ _ hT3
    replace hT4 := e24 _ _ hT4
    replace hT5 := e24 _ _ hT5
    replace hT6 := e24 _ _ hT6
    replace hT7 := e24 _ _ hT7
    replace Dv1 := Dv1.same e24
    replace Dv2 := Dv2.same e24
    refine ⟨.int (W.total - 1), rfl, small' (by simp), fun T9 nT9 => ?_⟩
    have e25 : Same G24 (upd G24 T9 (.tup [V.int (W.total - 1), V.str "0"])) := same_new nT9
    have hT9 : (upd G24 T9 (.tup [V.int (W.total - 1), V.str "0"])) T9 = some (.tup [V.int (W.total - 1), V.str "0"]) := upd_same
    have qT9 : p ≠ T9 := d24.2.ne_none nT9
    generalize upd G24 T9 (.tup [V.int (W.total - 1), V.str "0"]) = G25 at e25 hT9 ⊢
    have d25 := d24.same e25
    replace hA1 := e25 _ _ hA1
    replace hA2 := e25 _ _ hA2
    replace hJ1 := e25 _ _ hJ1
    replace hA3 := e25 _ _ hA3
    replace hJ2 := e25 _ _ hJ2
    replace hJ3 := e25 _ _ hJ3
    replace hT0 := e25 _ _ hT0
    replace hT1 := e25 _ _ hT1
    replace hT2 := e25 _ _ hT2
    replace hT3 := e25 _ _ hT3
    replace hT4 := e25 _ _ hT4
    replace hT5 := e25 _ _ hT5
    replace hT6 := e25 _ _ hT6
    replace hT7 := e25 _ _ hT7
    replace hT8 := e25 _ _ hT8
    replace Dv1 := Dv1.same e25
    replace Dv2 := Dv2.same e25
    refine ⟨.int (W.total - 1), rfl, small' (by simp), fun U1 nU1 => ?_⟩
    have e26 : Same G25 (upd G25 U1 (.lst [V.int (W.total - 1)])) := same_new nU1
    have hU1 : (upd G25 U1 (.lst [V.int (W.total - 1)])) U1 = some (.lst [V.int (W.total - 1)]) := upd_same
    have qU1 : p ≠ U1 := d25.2.ne_none nU1
    generalize upd G25 U1 (.lst [V.int (W.total - 1)]) = G26 at e26 hU1 ⊢
    have d26 := d25.same e26
    replace hA1 := e26 _ _ hA1
    replace hA2 := e26 _ _ hA2
    replace hJ1 := e26 _ _ hJ1
    replace hA3 := e26 _ _ hA3
    replace hJ2 := e26 _ _ hJ2
    replace hJ3 := e26 _ _ hJ3
    replace hT0 := e26 _ _ hT0
    replace hT1 := e26 _ _ hT1
    replace hT2 := e26 _ _ hT2
    replace hT3 := e26 _ _ hT3
    replace hT4 := e26 _ _ hT4
    replace hT5 := e26 _ _ hT5
    replace hT6 := e26 _ _ hT6
    replace hT7 := e26 _ _ hT7
    replace hT8 := e26 _ _ hT8
    replace hT9 := e26 _ _ hT9
    replace Dv1 := Dv1.same e26
    replace Dv2 := Dv2.same e26
    refine ⟨small' (by simp), fun U2 nU2 => ?_⟩
    have e27 : Same G26 (upd G26 U2 (.tup [V.ref U1])) := same_new nU2
    have hU2 : (upd G26 U2 (.tup [V.ref U1])) U2 = some (.tup [V.ref U1]) := upd_same
    have qU2 : p ≠ U2 := d26.2.ne_none nU2
    generalize upd G26 U2 (.tup [V.ref U1]) = G27 at e27 hU2 ⊢
    have d27 := d26.same e27
    replace hA1 := e27 _ _ hA1
    replace hA2 := e27 _ _ hA2
    replace hJ1 := e27 _ _ hJ1
    replace hA3 := e27 _ _ hA3
    replace hJ2 := e27 _ _ hJ2
    replace hJ3 := e27 _ _ hJ3
    replace hT0 := e27 _ _ hT0
    replace hT1 := e27 _ _ hT1
    replace hT2 := e27 _ _ hT2
    replace hT3 := e27 _ _ hT3
    replace hT4 := e27 _ _ hT4
    replace hT5 := e27 _ _ hT5
    replace hT6 := e27 _ _ hT6
    replace hT7 := e27 _ _ hT7
    replace hT8 := e27 _ _ hT8
    replace hT9 := e27 _ _ hT9
    replace hU1 := e27 _ _ hU1
    replace Dv1 := Dv1.same e27
    replace Dv2 := Dv2.same e27
    refine ⟨small' (by simp), fun J4 nJ4 => ?_⟩
    have e28 : Same G27 (upd G27 J4 (.lst [V.ref T0, V.ref T1, V.ref T2, V.ref T3, V.ref T4, V.ref T5, V.non, V.int 0, V.str "0", V.ref T6, V.ref T7, V.ref T8, V.ref T9, V.ref U2])) := same_new nJ4
    have hJ4 : (upd G27 J4 (.lst [V.ref T0, V.ref T1, V.ref T2, V.ref T3, V.ref T4, V.ref T5, V.non, V.int 0, V.str "0", V.ref T6, V.ref T7, V.ref T8, V.ref T9, V.ref U2])) J4 = some (.lst [V.ref T0, V.ref T1, V.ref T2, V.ref T3, V.ref T4, V.ref T5, V.non, V.int 0, V.str "0", V.ref T6, V.ref T7, V.ref T8, V.ref T9, V.ref U2]) := upd_same
    have qJ4 : p ≠ J4 := d27.2.ne_none nJ4
    generalize upd G27 J4 (.lst [V.ref T0, V.ref T1, V.ref T2, V.ref T3, V.ref T4, V.ref T5, V.non, V.int 0, V.str "0", V.ref T6, V.ref T7, V.ref T8, V.ref T9, V.ref U2]) = G28 at e28 hJ4 ⊢
    have d28 := d27.same e28
    replace hA1 := e28 _ _ hA1
    replace hA2 := e28 _ _ hA2
    replace hJ1 := e28 _ _ hJ1
    replace hA3 := e28 _ _ hA3
    replace hJ2 := e28 _ _ hJ2
    replace hJ3 := e28 _ _ hJ3
    replace hT0 := e28 _ _ hT0
    replace hT1 := e28 _ _ hT1
    replace hT2 := e28 _ _ hT2
    replace hT3 := e28 _ _ hT3
    replace hT4 := e28 _ _ hT4
    replace hT5 := e28 _ _ hT5
    replace hT6 := e28 _ _ hT6
    replace hT7 := e28 _ _ hT7
    replace hT8 := e28 _ _ hT8
    replace hT9 := e28 _ _ hT9
    replace hU1 := e28 _ _ hU1
    replace hU2 := e28 _ _ hU2
    replace Dv1 := Dv1.same e28
    replace Dv2 := Dv2.same e28
    refine ⟨small' (by simp), fun J5 nJ5 => ?_⟩
    have e29 : Same G28 (upd G28 J5 (.lst [V.bl false, V.bl true])) := same_new nJ5
    have hJ5 : (upd G28 J5 (.lst [V.bl false, V.bl true])) J5 = some (.lst [V.bl false, V.bl true]) := upd_same
    have qJ5 : p ≠ J5 := d28.2.ne_none nJ5
    generalize upd G28 J5 (.lst [V.bl false, V.bl true]) = G29 at e29 hJ5 ⊢
    have d29 := d28.same e29
    replace hA1 := e29 _ _ hA1
    replace hA2 := e29 _ _ hA2
    replace hJ1 := e29 _ _ hJ1
    replace hA3 := e29 _ _ hA3
    replace hJ2 := e29 _ _ hJ2
    replace hJ3 := e29 _ _ hJ3
    replace hT0 := e29 _ _ hT0
    replace hT1 := e29 _ _ hT1
    replace hT2 := e29 _ _ hT2
    replace hT3 := e29 _ _ hT3
    replace hT4 := e29 _ _ hT4
    replace hT5 := e29 _ _ hT5
    replace hT6 := e29 _ _ hT6
    replace hT7 := e29 _ _ hT7
    replace hT8 := e29 _ _ hT8
    replace hT9 := e29 _ _ hT9
    replace hU1 := e29 _ _ hU1
    replace hU2 := e29 _ _ hU2
    replace hJ4 := e29 _ _ hJ4
    replace Dv1 := Dv1.same e29
    replace Dv2 := Dv2.same e29
    refine ⟨J5, rfl, ⟨_, .inl (.inl hJ5)⟩, ?_⟩
    refine for_list (K := K) (a := J5) (xs := [.bl false, .bl true]) (fun i σ H' => ∃ y10 : Option V, σ = [some (.ref p), some (.ref t), some (.ref a), some (.int ts.length), some (.int W.total), some (.ref J4), some v1, some v2, y8, some (V.int (W.total - 1)), y10, none, none, none] ∧ Drawn p G29 H')
      ⟨none, rfl, Drawn.refl d29.2⟩ (fun i σ H' _ h => ?_) (fun i x σ H' ex h => ?_) (fun σ H' h => ?_)
    · obtain ⟨_, _, k⟩ := h
      exact .inl (.inl (k.1 _ _ qJ5.symm hJ5))
    · obtain ⟨y10, rfl, k⟩ := h
      obtain ⟨bb, rfl⟩ : ∃ bb, x = V.bl bb := by
        match i, ex with
        | 0, ex => exact ⟨_, (Option.some.inj ex).symm⟩
        | 1, ex => exact ⟨_, (Option.some.inj ex).symm⟩
      refine ⟨.ref t, rfl, .ref a, rfl, .ref J4, rfl, .ref p, rfl, p, 14, rfl, k.2, by omega, by omega, fun i0 H3 i00 i01 dd ff => ?_⟩
      have kd := k.trans dd
      replace hA1 := kd.1 _ _ qA1.symm hA1
      replace hA2 := kd.1 _ _ qA2.symm hA2
      replace hJ1 := kd.1 _ _ qJ1.symm hJ1
      replace hA3 := kd.1 _ _ qA3.symm hA3
      replace hJ2 := kd.1 _ _ qJ2.symm hJ2
      replace hJ3 := kd.1 _ _ qJ3.symm hJ3
      replace hT0 := kd.1 _ _ qT0.symm hT0
      replace hT1 := kd.1 _ _ qT1.symm hT1
      replace hT2 := kd.1 _ _ qT2.symm hT2
      replace hT3 := kd.1 _ _ qT3.symm hT3
      replace hT4 := kd.1 _ _ qT4.symm hT4
      replace hT5 := kd.1 _ _ qT5.symm hT5
      replace hT6 := kd.1 _ _ qT6.symm hT6
      replace hT7 := kd.1 _ _ qT7.symm hT7
      replace hT8 := kd.1 _ _ qT8.symm hT8
      replace hT9 := kd.1 _ _ qT9.symm hT9
      replace hU1 := kd.1 _ _ qU1.symm hU1
      replace hU2 := kd.1 _ _ qU2.symm hU2
      replace hJ4 := kd.1 _ _ qJ4.symm hJ4
      replace hJ5 := kd.1 _ _ qJ5.symm hJ5
      have dh := d29.trans kd
      obtain ⟨v3, dv3, at3, D3, mem3⟩ := odd_at (p := p) (K := K) (H := H3) (i := i0) (xs := [V.ref T0, V.ref T1, V.ref T2, V.ref T3, V.ref T4, V.ref T5, V.non, V.int 0, V.str "0", V.ref T6, V.ref T7, V.ref T8, V.ref T9, V.ref U2]) (.cons (.tup (.inl (.inl (offP_at qT0 hT0))) (.nil)) (.cons (.tup (.inl (.inl (offP_at qT1 hT1))) (dp_rep 62 _)) (.cons (.tup (.inl (.inl (offP_at qT2 hT2))) (.cons (.int _) .nil)) (.cons (.tup (.inl (.inl (offP_at qT3 hT3))) (.cons (.int _) (.cons (.int _) .nil))) (.cons (.tup (.inl (.inl (offP_at qT4 hT4))) (.cons (.int _) (.cons (.int _) .nil))) (.cons (.lst (.inl (.inl (offP_at qT5 hT5))) (.cons (.int _) .nil)) (.cons (.non) (.cons (.int 0) (.cons (.str "0") (.cons (.tup (.inl (.inl (offP_at qT6 hT6))) (.cons (.bl _) (.cons (.int _) .nil))) (.cons (.tup (.inl (.inl (offP_at qT7 hT7))) (.cons (.int _) (.cons (.bl _) .nil))) (.cons (.tup (.inl (.inl (offP_at qT8 hT8))) (.cons (.int _) (.cons .non .nil))) (.cons (.tup (.inl (.inl (offP_at qT9 hT9))) (.cons (.int _) (.cons (.str _) .nil))) (.cons (.tup (.inl (.inl (offP_at qU2 hU2))) (.cons (.lst (.inl (.inl (offP_at qU1 hU1))) (.cons (.int _) .nil)) .nil)) (.nil))))))))))))))) i00 i01 rfl
      have bad3 : tapeD W.total dv3 = false ∧ lenD dv3 ≤ 1000 := by
        simp only [List.mem_cons, List.not_mem_nil, or_false] at mem3
        rcases mem3 with rfl | rfl | rfl | rfl | rfl | rfl | rfl | rfl | rfl | rfl | rfl | rfl | rfl | rfl
        · exact ⟨rfl, Nat.le_of_ble_eq_true rfl⟩
        · exact ⟨tape_long (by rw [List.length_replicate]; decide), by show (List.replicate 62 _).length ≤ 1000; rw [List.length_replicate]; decide⟩
        · exact ⟨tape_no (e := .int W.total) (by simp) (below_no (.inr (Int.le_refl _))), Nat.le_of_ble_eq_true rfl⟩
        · exact ⟨tape_no (e := .int (-1)) (by simp) rfl, Nat.le_of_ble_eq_true rfl⟩
        · exact ⟨tape_no (e := .int W.total) (by simp) (below_no (.inr (Int.le_refl _))), Nat.le_of_ble_eq_true rfl⟩
        · exact ⟨rfl, Nat.le_of_ble_eq_true rfl⟩
        · exact ⟨rfl, Nat.le_of_ble_eq_true rfl⟩
        · exact ⟨rfl, Nat.le_of_ble_eq_true rfl⟩
        · exact ⟨rfl, Nat.le_of_ble_eq_true rfl⟩
        · exact ⟨tape_no (e := .bool false) (by simp) rfl, Nat.le_of_ble_eq_true rfl⟩
        · exact ⟨tape_no (e := .bool true) (by simp) rfl, Nat.le_of_ble_eq_true rfl⟩
        · exact ⟨tape_no (e := .none) (by simp) rfl, Nat.le_of_ble_eq_true rfl⟩
        · exact ⟨tape_no (e := .str "0") (by simp) rfl, Nat.le_of_ble_eq_true rfl⟩
        · exact ⟨tape_no (e := .list _) (by first | exact List.mem_cons_self) rfl, Nat.le_of_ble_eq_true rfl⟩
      refine ⟨J4, _, i0, v3, rfl, rfl, .inl (.inl hJ4), at3, .bl bb, rfl, _, a, W, ts.length, v3, dv3, bb, rfl, hW.drawn hP dh, hok, D3.dp, bad3.2, fun u H4 s4 _ hu => ?_, fun r _ z => absurd (bad3.1.symm.trans z) (by decide)⟩
      refine ⟨small' (by simp), fun M nM => ?_⟩
      have sM := same_new (o := .lst [.str "not usable", .str "tape"]) nM
      exact ⟨u, .ref M, noD "tape", rfl, dp_grow sM hu, no_at upd_same, ok_no _, fun H5 s5 => ⟨_, rfl, some (.bl bb), rfl, ((kd.same s4).same sM).same s5⟩⟩
    obtain ⟨y10, rfl, dk⟩ := h
    clear hA1 hA2 hJ1 hA3 hJ2 hJ3 hT0 hT1 hT2 hT3 hT4 hT5 hT6 hT7 hT8 hT9 hU1 hU2 hJ4 hJ5
    replace Dv1 := Dv1.drawn dk
    replace Dv2 := Dv2.drawn dk
    have d30 := d29.trans dk
    refine ⟨61, rfl, by omega, by omega, fun C2 nC2 => ?_⟩
    refine comp_range (n := (61 : Int).toNat) (i := 13) (fun acc H5 => Same H' H5 ∧ acc = List.replicate acc.length (V.int 0)) ⟨same_new nC2, rfl⟩ (fun acc H5 la h hD => ?_) (fun acc G31 la h hD => ?_)
    · obtain ⟨s5, ea⟩ := h
      refine turned hD (small (by have : (61 : Int).toNat = 61 := rfl; omega)) ⟨same_upd2 s5 nC2, by rw [List.length_append, List.length_singleton, List.replicate_succ', ← ea]⟩
    obtain ⟨sq31, ea31⟩ := h
    rw [la] at ea31
    replace ea31 : acc = List.replicate 61 (V.int 0) := ea31
    subst ea31
    refine ⟨C2, _, rfl, .inl ⟨.inl (.inl hD), fun S0 nS0 => ?_⟩⟩
    clear hD la
    replace Dv1 := Dv1.same sq31
    replace Dv2 := Dv2.same sq31
    have d31 := d30.same sq31
    have e32 : Same G31 (upd G31 S0 (.tup (List.replicate 61 (V.int 0)))) := same_new nS0
    have hS0 : (upd G31 S0 (.tup (List.replicate 61 (V.int 0)))) S0 = some (.tup (List.replicate 61 (V.int 0))) := upd_same
    have qS0 : p ≠ S0 := d31.2.ne_none nS0
    generalize upd G31 S0 (.tup (List.replicate 61 (V.int 0))) = G32 at e32 hS0 ⊢
    have d32 := d31.same e32
    replace Dv1 := Dv1.same e32
    replace Dv2 := Dv2.same e32
    refine ⟨.int ts.length, rfl, small' (by simp), fun S1 nS1 => ?_⟩
    have e33 : Same G32 (upd G32 S1 (.tup [V.int (ts.length : Int)])) := same_new nS1
    have hS1 : (upd G32 S1 (.tup [V.int (ts.length : Int)])) S1 = some (.tup [V.int (ts.length : Int)]) := upd_same
    have qS1 : p ≠ S1 := d32.2.ne_none nS1
    generalize upd G32 S1 (.tup [V.int (ts.length : Int)]) = G33 at e33 hS1 ⊢
    have d33 := d32.same e33
    replace hS0 := e33 _ _ hS0
    replace Dv1 := Dv1.same e33
    replace Dv2 := Dv2.same e33
    refine ⟨1, rfl, small' (by simp), fun S2 nS2 => ?_⟩
    have e34 : Same G33 (upd G33 S2 (.tup [V.int 0, V.int (-1)])) := same_new nS2
    have hS2 : (upd G33 S2 (.tup [V.int 0, V.int (-1)])) S2 = some (.tup [V.int 0, V.int (-1)]) := upd_same
    have qS2 : p ≠ S2 := d33.2.ne_none nS2
    generalize upd G33 S2 (.tup [V.int 0, V.int (-1)]) = G34 at e34 hS2 ⊢
    have d34 := d33.same e34
    replace hS0 := e34 _ _ hS0
    replace hS1 := e34 _ _ hS1
    replace Dv1 := Dv1.same e34
    replace Dv2 := Dv2.same e34
    refine ⟨small' (by simp), fun S3 nS3 => ?_⟩
    have e35 : Same G34 (upd G34 S3 (.lst [V.int 0])) := same_new nS3
    have hS3 : (upd G34 S3 (.lst [V.int 0])) S3 = some (.lst [V.int 0]) := upd_same
    have qS3 : p ≠ S3 := d34.2.ne_none nS3
    generalize upd G34 S3 (.lst [V.int 0]) = G35 at e35 hS3 ⊢
    have d35 := d34.same e35
    replace hS0 := e35 _ _ hS0
    replace hS1 := e35 _ _ hS1
    replace hS2 := e35 _ _ hS2
    replace Dv1 := Dv1.same e35
    replace Dv2 := Dv2.same e35
    refine ⟨small' (by simp), fun S4 nS4 => ?_⟩
    have e36 : Same G35 (upd G35 S4 (.tup [V.bl false])) := same_new nS4
    have hS4 : (upd G35 S4 (.tup [V.bl false])) S4 = some (.tup [V.bl false]) := upd_same
    have qS4 : p ≠ S4 := d35.2.ne_none nS4
    generalize upd G35 S4 (.tup [V.bl false]) = G36 at e36 hS4 ⊢
    have d36 := d35.same e36
    replace hS0 := e36 _ _ hS0
    replace hS1 := e36 _ _ hS1
    replace hS2 := e36 _ _ hS2
    replace hS3 := e36 _ _ hS3
    replace Dv1 := Dv1.same e36
    replace Dv2 := Dv2.same e36
    refine ⟨small' (by simp), fun S5 nS5 => ?_⟩
    have e37 : Same G36 (upd G36 S5 (.tup [V.int 0, V.bl true])) := same_new nS5
    have hS5 : (upd G36 S5 (.tup [V.int 0, V.bl true])) S5 = some (.tup [V.int 0, V.bl true]) := upd_same
    have qS5 : p ≠ S5 := d36.2.ne_none nS5
    generalize upd G36 S5 (.tup [V.int 0, V.bl true]) = G37 at e37 hS5 ⊢
    have d37 := d36.same e37
    replace hS0 := e37 _ _ hS0
    replace hS1 := e37 _ _ hS1
    replace hS2 := e37 _ _ hS2
    replace hS3 := e37 _ _ hS3
    replace hS4 := e37 _ _ hS4
    replace Dv1 := Dv1.same e37
    replace Dv2 := Dv2.same e37
    refine ⟨small' (by simp), fun S6 nS6 => ?_⟩
    have e38 : Same G37 (upd G37 S6 (.tup [V.int 0])) := same_new nS6
    have hS6 : (upd G37 S6 (.tup [V.int 0])) S6 = some (.tup [V.int 0]) := upd_same
    have qS6 : p ≠ S6 := d37.2.ne_none nS6
    generalize upd G37 S6 (.tup [V.int 0]) = G38 at e38 hS6 ⊢
    have d38 := d37.same e38
    replace hS0 := e38 _ _ hS0
    replace hS1 := e38 _ _ hS1
    replace hS2 := e38 _ _ hS2
    replace hS3 := e38 _ _ hS3
    replace hS4 := e38 _ _ hS4
    replace hS5 := e38 _ _ hS5
    replace Dv1 := Dv1.same e38
    replace Dv2 := Dv2.same e38
    refine ⟨small' (by simp), fun S7 nS7 => ?_⟩
    have e39 : Same G38 (upd G38 S7 (.tup [V.ref S6])) := same_new nS7
    have hS7 : (upd G38 S7 (.tup [V.ref S6])) S7 = some (.tup [V.ref S6]) := upd_same
    have qS7 : p ≠ S7 := d38.2.ne_none nS7
    generalize upd G38 S7 (.tup [V.ref S6]) = G39 at e39 hS7 ⊢
    have d39 := d38.same e39
    replace hS0 := e39 _ _ hS0
    replace hS1 := e39 _ _ hS1
    replace hS2 := e39 _ _ hS2
    replace hS3 := e39 _ _ hS3
    replace hS4 := e39 _ _ hS4
    replace hS5 := e39 _ _ hS5
    replace hS6 := e39 _ _ hS6
    replace Dv1 := Dv1.same e39
    replace Dv2 := Dv2.same e39
    refine ⟨small' (by simp), fun S8 nS8 => ?_⟩
    have e40 : Same G39 (upd G39 S8 (.tup [V.non])) := same_new nS8
    have hS8 : (upd G39 S8 (.tup [V.non])) S8 = some (.tup [V.non]) := upd_same
    have qS8 : p ≠ S8 := d39.2.ne_none nS8
    generalize upd G39 S8 (.tup [V.non]) = G40 at e40 hS8 ⊢
    have d40 := d39.same e40
    replace hS0 := e40 _ _ hS0
    replace hS1 := e40 _ _ hS1
    replace hS2 := e40 _ _ hS2
    replace hS3 := e40 _ _ hS3
    replace hS4 := e40 _ _ hS4
    replace hS5 := e40 _ _ hS5
    replace hS6 := e40 _ _ hS6
    replace hS7 := e40 _ _ hS7
    replace Dv1 := Dv1.same e40
    replace Dv2 := Dv2.same e40
    refine ⟨small' (by simp), fun S9 nS9 => ?_⟩
    have e41 : Same G40 (upd G40 S9 (.lst [])) := same_new nS9
    have hS9 : (upd G40 S9 (.lst [])) S9 = some (.lst []) := upd_same
    have qS9 : p ≠ S9 := d40.2.ne_none nS9
    generalize upd G40 S9 (.lst []) = G41 at e41 hS9 ⊢
    have d41 := d40.same e41
    replace hS0 := e41 _ _ hS0
    replace hS1 := e41 _ _ hS1
    replace hS2 := e41 _ _ hS2
    replace hS3 := e41 _ _ hS3
    replace hS4 := e41 _ _ hS4
    replace hS5 := e41 _ _ hS5
    replace hS6 := e41 _ _ hS6
    replace hS7 := e41 _ _ hS7
    replace hS8 := e41 _ _ hS8
    replace Dv1 := Dv1.same e41
    replace Dv2 := Dv2.same e41
    refine ⟨small' (by simp), fun J6 nJ6 => ?_⟩
    have e42 : Same G41 (upd G41 J6 (.lst [V.ref S0, V.ref S1, V.ref S2, V.ref S3, V.non, V.int 0, V.str "0", V.ref S4, V.ref S5, V.ref S7, V.ref S8, V.ref S9])) := same_new nJ6
    have hJ6 : (upd G41 J6 (.lst [V.ref S0, V.ref S1, V.ref S2, V.ref S3, V.non, V.int 0, V.str "0", V.ref S4, V.ref S5, V.ref S7, V.ref S8, V.ref S9])) J6 = some (.lst [V.ref S0, V.ref S1, V.ref S2, V.ref S3, V.non, V.int 0, V.str "0", V.ref S4, V.ref S5, V.ref S7, V.ref S8, V.ref S9]) := upd_same
    have qJ6 : p ≠ J6 := d41.2.ne_none nJ6
    generalize upd G41 J6 (.lst [V.ref S0, V.ref S1, V.ref S2, V.ref S3, V.non, V.int 0, V.str "0", V.ref S4, V.ref S5, V.ref S7, V.ref S8, V.ref S9]) = G42 at e42 hJ6 ⊢
    have d42 := d41.same e42
    replace hS0 := e42 _ _ hS0
    replace hS1 := e42 _ _ hS1
    replace hS2 := e42 _ _ hS2
    replace hS3 := e42 _ _ hS3
    replace hS4 := e42 _ _ hS4
    replace hS5 := e42 _ _ hS5
    replace hS6 := e42 _ _ hS6
    replace hS7 := e42 _ _ hS7
    replace hS8 := e42 _ _ hS8
    replace hS9 := e42 _ _ hS9
    replace Dv1 := Dv1.same e42
    replace Dv2 := Dv2.same e42
    refine ⟨.ref J6, rfl, .ref p, rfl, p, 12, rfl, d42.2, by omega, by omega, fun i43 G43 i043 i143 dd43 ff43 => ?_⟩
    replace hS0 := dd43.1 _ _ qS0.symm hS0
    replace hS1 := dd43.1 _ _ qS1.symm hS1
    replace hS2 := dd43.1 _ _ qS2.symm hS2
    replace hS3 := dd43.1 _ _ qS3.symm hS3
    replace hS4 := dd43.1 _ _ qS4.symm hS4
    replace hS5 := dd43.1 _ _ qS5.symm hS5
    replace hS6 := dd43.1 _ _ qS6.symm hS6
    replace hS7 := dd43.1 _ _ qS7.symm hS7
    replace hS8 := dd43.1 _ _ qS8.symm hS8
    replace hS9 := dd43.1 _ _ qS9.symm hS9
    replace hJ6 := dd43.1 _ _ qJ6.symm hJ6
    replace Dv1 := Dv1.drawn dd43
    replace Dv2 := Dv2.drawn dd43
    have d43 := d42.trans dd43
    obtain ⟨v4, dv4, atv4, Dv4, memv4⟩ := odd_at (p := p) (K := K) (i := i43) (xs := [V.ref S0, V.ref S1, V.ref S2, V.ref S3, V.non, V.int 0, V.str "0", V.ref S4, V.ref S5, V.ref S7, V.ref S8, V.ref S9]) (.cons (.tup (.inl (.inl (offP_at qS0 hS0))) (dp_rep 61 0)) (.cons (.tup (.inl (.inl (offP_at qS1 hS1))) (.cons (.int _) .nil)) (.cons (.tup (.inl (.inl (offP_at qS2 hS2))) (.cons (.int _) (.cons (.int _) .nil))) (.cons (.lst (.inl (.inl (offP_at qS3 hS3))) (.cons (.int _) .nil)) (.cons (.non) (.cons (.int 0) (.cons (.str "0") (.cons (.tup (.inl (.inl (offP_at qS4 hS4))) (.cons (.bl _) .nil)) (.cons (.tup (.inl (.inl (offP_at qS5 hS5))) (.cons (.int _) (.cons (.bl _) .nil))) (.cons (.tup (.inl (.inl (offP_at qS7 hS7))) (.cons (.tup (.inl (.inl (offP_at qS6 hS6))) (.cons (.int _) .nil)) .nil)) (.cons (.tup (.inl (.inl (offP_at qS8 hS8))) (.cons .non .nil)) (.cons (.lst (.inl (.inl (offP_at qS9 hS9))) (.nil)) (.nil))))))))))))) i043 i143 rfl
    have badv4 : rowD ts.length dv4 = false ∧ lenD dv4 ≤ 1000 := by
      simp only [List.mem_cons, List.not_mem_nil, or_false] at memv4
      rcases memv4 with rfl | rfl | rfl | rfl | rfl | rfl | rfl | rfl | rfl | rfl | rfl | rfl
      · exact ⟨row_long (by rw [List.length_replicate]; decide), by show (List.replicate 61 _).length ≤ 1000; rw [List.length_replicate]; decide⟩
      · exact ⟨row_no (e := .int ts.length) (by simp) (below_no (.inr (Int.le_refl _))), Nat.le_of_ble_eq_true rfl⟩
      · exact ⟨row_no (e := .int (-1)) (by simp) rfl, by decide⟩
      · exact ⟨rfl, by decide⟩
      · exact ⟨rfl, by decide⟩
      · exact ⟨rfl, by decide⟩
      · exact ⟨rfl, by decide⟩
      · exact ⟨row_no (e := .bool false) (by simp) rfl, by decide⟩
      · exact ⟨row_no (e := .bool true) (by simp) rfl, by decide⟩
      · exact ⟨row_no (e := .tuple _) List.mem_cons_self rfl, by decide⟩
      · exact ⟨row_no (e := .none) (by simp) rfl, by decide⟩
      · exact ⟨rfl, by decide⟩
    refine ⟨J6, _, i43, v4, rfl, rfl, .inl (.inl hJ6), atv4, ?_⟩
    refine ⟨1, rfl, small' (by simp), fun O1 nO1 => ?_⟩
    have e44 : Same G43 (upd G43 O1 (.tup [V.int 2])) := same_new nO1
    have hO1 : (upd G43 O1 (.tup [V.int 2])) O1 = some (.tup [V.int 2]) := upd_same
    have qO1 : p ≠ O1 := d43.2.ne_none nO1
    generalize upd G43 O1 (.tup [V.int 2]) = G44 at e44 hO1 ⊢
    have d44 := d43.same e44
    replace Dv1 := Dv1.same e44
    replace Dv2 := Dv2.same e44
    replace Dv4 := Dv4.same e44
    refine ⟨small' (by simp), fun O2 nO2 => ?_⟩
    have e45 : Same G44 (upd G44 O2 (.lst [V.int 2])) := same_new nO2
    have hO2 : (upd G44 O2 (.lst [V.int 2])) O2 = some (.lst [V.int 2]) := upd_same
    have qO2 : p ≠ O2 := d44.2.ne_none nO2
    generalize upd G44 O2 (.lst [V.int 2]) = G45 at e45 hO2 ⊢
    have d45 := d44.same e45
    replace hO1 := e45 _ _ hO1
    replace Dv1 := Dv1.same e45
    replace Dv2 := Dv2.same e45
    replace Dv4 := Dv4.same e45
    refine ⟨10, 59, rfl, rfl, ⟨by decide, by decide, by decide⟩, ?_⟩
    refine ⟨small' (by simp), fun J7 nJ7 => ?_⟩
    have e46 : Same G45 (upd G45 J7 (.lst [V.int 61, V.int (-1), V.bl true, V.non, V.str "2", V.ref O1, V.ref O2, V.int (10 ^ (59 : Int).toNat), V.bl false])) := same_new nJ7
    have hJ7 : (upd G45 J7 (.lst [V.int 61, V.int (-1), V.bl true, V.non, V.str "2", V.ref O1, V.ref O2, V.int (10 ^ (59 : Int).toNat), V.bl false])) J7 = some (.lst [V.int 61, V.int (-1), V.bl true, V.non, V.str "2", V.ref O1, V.ref O2, V.int (10 ^ (59 : Int).toNat), V.bl false]) := upd_same
    have qJ7 : p ≠ J7 := d45.2.ne_none nJ7
    generalize upd G45 J7 (.lst [V.int 61, V.int (-1), V.bl true, V.non, V.str "2", V.ref O1, V.ref O2, V.int (10 ^ (59 : Int).toNat), V.bl false]) = G46 at e46 hJ7 ⊢
    have d46 := d45.same e46
    replace hO1 := e46 _ _ hO1
    replace hO2 := e46 _ _ hO2
    replace Dv1 := Dv1.same e46
    replace Dv2 := Dv2.same e46
    replace Dv4 := Dv4.same e46
    refine ⟨.ref J7, rfl, .ref p, rfl, p, 9, rfl, d46.2, by omega, by omega, fun i47 G47 i047 i147 dd47 ff47 => ?_⟩
    replace hO1 := dd47.1 _ _ qO1.symm hO1
    replace hO2 := dd47.1 _ _ qO2.symm hO2
    replace hJ7 := dd47.1 _ _ qJ7.symm hJ7
    replace Dv1 := Dv1.drawn dd47
    replace Dv2 := Dv2.drawn dd47
    replace Dv4 := Dv4.drawn dd47
    have d47 := d46.trans dd47
    obtain ⟨v5, dv5, atv5, Dv5, memv5⟩ := odd_at (p := p) (K := K) (i := i47) (xs := [V.int 61, V.int (-1), V.bl true, V.non, V.str "2", V.ref O1, V.ref O2, V.int (10 ^ (59 : Int).toNat), V.bl false]) (.cons (.int _) (.cons (.int _) (.cons (.bl _) (.cons (.non) (.cons (.str _) (.cons (.tup (.inl (.inl (offP_at qO1 hO1))) (.cons (.int _) .nil)) (.cons (.lst (.inl (.inl (offP_at qO2 hO2))) (.cons (.int _) .nil)) (.cons (.int _) (.cons (.bl _) (.nil)))))))))) i047 i147 rfl
    have badv5 : shortD dv5 = false := by
      simp only [List.mem_cons, List.not_mem_nil, or_false] at memv5
      rcases memv5 with rfl | rfl | rfl | rfl | rfl | rfl | rfl | rfl | rfl
      all_goals first | rfl | decide +kernel
    refine ⟨J7, _, i47, v5, rfl, rfl, .inl (.inl hJ7), atv5, ?_⟩
    refine ⟨.ref t, rfl, .ref a, rfl, v4, rfl, t, ts, a, W, v4, dv4, false, rfl, seqT_drawn hP d47 hT, hW.drawn hP d47, hok, Dv4.dp, badv4.2, fun _ u1 Ge se hu1 => ?_, fun r _ z => absurd (badv4.1.symm.trans z) (by decide)⟩
    replace Dv1 := Dv1.same se
    replace Dv2 := Dv2.same se
    replace Dv4 := Dv4.same se
    replace Dv5 := Dv5.same se
    have d48 := d47.same se
    refine ⟨.ref t, rfl, .ref a, rfl, v4, rfl, t, ts, a, W, v4, dv4, .int 2, .int 2, false, rfl, seqT_drawn hP d48 hT, hW.drawn hP d48, hok, Dv4.dp, badv4.2, .int 2, fun _ u2 Gf sf hu2 => ?_, fun z => absurd (badv4.1.symm.trans z) (by decide), fun r n _ _ z => absurd (badv4.1.symm.trans z) (by decide)⟩
    replace hu1 := dp_grow sf hu1
    replace Dv1 := Dv1.same sf
    replace Dv2 := Dv2.same sf
    replace Dv4 := Dv4.same sf
    replace Dv5 := Dv5.same sf
    have d49 := d48.same sf
    refine ⟨.ref t, rfl, .ref a, rfl, v4, rfl, v5, rfl, t, ts, a, W, v4, dv4, v5, dv5, true, rfl, seqT_drawn hP d49 hT, hW.drawn hP d49, hok, Dv4.dp, badv4.2, Dv5.dp, fun _ u3 Gg sg hu3 => ?_, fun z => absurd (badv4.1.symm.trans z) (by decide), fun r n _ _ z => absurd (badv4.1.symm.trans z) (by decide)⟩
    replace hu1 := dp_grow sg hu1
    replace hu2 := dp_grow sg hu2
    replace Dv1 := Dv1.same sg
    replace Dv2 := Dv2.same sg
    replace Dv4 := Dv4.same sg
    replace Dv5 := Dv5.same sg
    have d50 := d49.same sg
    refine ⟨small' (by simp), fun J8 nJ8 => ?_⟩
    have e51 : Same Gg (upd Gg J8 (.lst [u1, u2, u3])) := same_new nJ8
    have hJ8 : (upd Gg J8 (.lst [u1, u2, u3])) J8 = some (.lst [u1, u2, u3]) := upd_same
    have qJ8 : p ≠ J8 := d50.2.ne_none nJ8
    generalize upd Gg J8 (.lst [u1, u2, u3]) = G51 at e51 hJ8 ⊢
    have d51 := d50.same e51
    replace Dv1 := Dv1.same e51
    replace Dv2 := Dv2.same e51
    replace Dv4 := Dv4.same e51
    replace Dv5 := Dv5.same e51
    replace hu1 := dp_grow e51 hu1
    replace hu2 := dp_grow e51 hu2
    replace hu3 := dp_grow e51 hu3
    refine ⟨J8, rfl, ⟨_, .inl (.inl hJ8)⟩, ?_⟩
    refine for_list (K := K) (a := J8) (xs := [u1, u2, u3]) (fun i σ H' => ∃ y9 : Option V, σ = [some (.ref p), some (.ref t), some (.ref a), some (.int ts.length), some (.int W.total), some (.ref J7), some v1, some v2, y9, some (V.int (W.total - 1)), y10, some v4, some v5, none] ∧ Same G51 H')
      ⟨_, rfl, Same.refl _⟩ (fun i σ H' _ h => ?_) (fun i x σ H' ex h => ?_) (fun σ H' h => ?_)
    · obtain ⟨_, _, k⟩ := h
      exact .inl (.inl (k _ _ hJ8))
    · obtain ⟨y0, rfl, k⟩ := h
      have hx : Dp K G51 x (noD "row") := by
        match i, ex with
        | 0, ex => rw [← Option.some.inj ex]; exact hu1
        | 1, ex => rw [← Option.some.inj ex]; exact hu2
        | 2, ex => rw [← Option.some.inj ex]; exact hu3
      refine ⟨x, rfl, small' (by simp), fun M nM => ?_⟩
      have sM := k.trans (same_new (o := .lst [.str "not usable", .str "row"]) nM)
      exact ⟨x, .ref M, noD "row", rfl, dp_grow sM hx, no_at upd_same, ok_no _, fun H5 s5 => ⟨_, rfl, some x, rfl, sM.trans s5⟩⟩
    obtain ⟨y9, rfl, sl51⟩ := h
    have rr52 := sl51
    clear hu1 hu2 hu3
    replace Dv1 := Dv1.same sl51
    replace Dv2 := Dv2.same sl51
    replace Dv4 := Dv4.same sl51
    replace Dv5 := Dv5.same sl51
    have d53 := d51.same sl51
    refine ⟨.ref t, rfl, .ref a, rfl, .int ts.length, rfl, ts.length, 1, rfl, rfl, small' (by simp), fun Z nZ => ?_⟩
    have eZ : Same H' (upd H' Z (.tup [.int ((ts.length : Int) - 1)])) := same_new nZ
    have hZ : (upd H' Z (.tup [.int ((ts.length : Int) - 1)])) Z = some (.tup [.int ((ts.length : Int) - 1)]) := upd_same
    generalize upd H' Z (.tup [.int ((ts.length : Int) - 1)]) = Gz at eZ hZ ⊢
    replace Dv1 := Dv1.same eZ
    replace Dv2 := Dv2.same eZ
    replace Dv4 := Dv4.same eZ
    replace Dv5 := Dv5.same eZ
    have d54 := d53.same eZ
    have rd : rowD ts.length (.tuple [.int ((ts.length : Int) - 1)]) = true := row_all (r := [(ts.length : Int) - 1]) (Nat.le_of_ble_eq_true rfl) (fun x hx => by
      rw [List.mem_singleton.mp hx]
      exact ⟨by omega, by omega⟩)
    refine ⟨v5, rfl, t, ts, a, W, .ref Z, .tuple [.int ((ts.length : Int) - 1)], v5, dv5, false, rfl, seqT_drawn hP d54 hT, hW.drawn hP d54, hok, .tup (.inl (.inl hZ)) (.cons (.int _) .nil), Nat.le_of_ble_eq_true rfl, Dv5.dp, fun z => absurd (rd.symm.trans z) (by decide), fun _ _ u Gh sh hu => ?_, fun r n _ _ _ z => absurd (badv5.symm.trans z) (by decide)⟩
    replace Dv1 := Dv1.same sh
    replace Dv2 := Dv2.same sh
    replace Dv4 := Dv4.same sh
    replace Dv5 := Dv5.same sh
    have d55 := d54.same sh
    refine ⟨small' (by simp), fun M nM => ?_⟩
    have sM := same_new (o := .lst [.str "not usable", .str "budget"]) nM
    exact ⟨u, .ref M, noD "budget", rfl, dp_grow sM hu, no_at upd_same, ok_no _, fun H5 s5 => q H5 ((d55.same sM).same s5)⟩
end
end K4
set_option Elab.async false
set_option linter.all false
set_option maxRecDepth 100000
set_option maxHeartbeats 4000000
namespace K4
open PySem PySem.Spec PyProof.Rows L2 Ver
theorem passAny0 {X : Cx} {σ : L2.St} : PassesAt CX0 X σ L2.E0 := fun _ _ _ _ _ _ h => h.elim
theorem ok_rep {n m : Nat} {i : Int} (h : m ≤ 100000) : okD (n + 2) (.tuple (List.replicate m (.int i))) := ⟨by rw [List.length_replicate]; exact h, fun e he => by
  rw [List.eq_of_mem_replicate he]
  exact trivial⟩
theorem ok_even {n : Int} {k m : Nat} (hk : k ≤ 100000) (hm : m ≤ 100000) : okD 5 (.tuple [.int n, .tuple [.tuple (List.replicate k (.int 1))], .tuple [.tuple (List.replicate m (.int 0))]]) := ⟨Nat.le_of_ble_eq_true rfl, fun e he => by
  rcases List.mem_cons.mp he with rfl | he
  · exact trivial
  rcases List.mem_cons.mp he with rfl | he
  · exact ⟨Nat.le_of_ble_eq_true rfl, fun e he => by rw [List.mem_singleton.mp he]; exact ok_rep hk⟩
  rw [List.mem_singleton.mp he]
  exact ⟨Nat.le_of_ble_eq_true rfl, fun e he => by rw [List.mem_singleton.mp he]; exact ok_rep hm⟩⟩
theorem most_at {i : Int} (h0 : 0 ≤ i) (h1 : i ≤ 3) : ∃ x : Int, atI [V.int 5, V.int 5, V.int 4, V.int 3] i = some (.int x) ∧ 3 ≤ x ∧ x ≤ 5 := by
  obtain ⟨j, rfl⟩ : ∃ j : Nat, i = (j : Int) := ⟨i.toNat, by omega⟩
  match j, h1 with
  | 0, _ => exact ⟨5, rfl, by decide, by decide⟩
  | 1, _ => exact ⟨5, rfl, by decide, by decide⟩
  | 2, _ => exact ⟨4, rfl, by decide, by decide⟩
  | 3, _ => exact ⟨3, rfl, by decide, by decide⟩
  | j + 4, h => omega
section
variable {P : Program} {w : World} {K : PySem.W.Frag} {mg : Str → Option Value} {base : Heap}
def sp_law (K : PySem.W.Frag) : Sp := fun vs H Q _ => ∃ (a : Addr) (ns : List Int), vs = [.ref a] ∧ SqL K H a (ns.map V.int) ∧ ns.length ≤ 63 ∧ ∀ H', Q (.bl true) H'
theorem ok_law (T : Tx K mg) : FnOk P w K mg base CX0 9 T.f_law T.d_law ["script"] (sp_law K) := by
  refine T.F_law.ok sc_law (fun vs H Q E h => ?_) (fun cdv A outer s H vs Q E hr h => ?_)
  · obtain ⟨a, ns, rfl, _⟩ := h; rfl
  · obtain ⟨a, ns, rfl, hs, hz, q⟩ := h
    refine ⟨_, (pss_cons (ps_set (i := 1) sc_law.nd rfl (Or.inl rfl) (pe_call (ok__law_pool T) (hr.mono (by decide)) rfl T.g__law_pool T.F__law_pool.kp T.b__law_pool .nil pass0 (pa_cons (pv 0) pa_nil)))
    (pss_cons (ps_set (i := 2) sc_law.nd rfl (Or.inl rfl) (pe_call (ok__law_tokens T) (hr.mono (by decide)) rfl T.g__law_tokens T.F__law_tokens.kp T.b__law_tokens .nil pass0 (pa_cons (pv 1) (pa_cons (pe_op op_add pe_int (pe_call (ok__law_pick T) (hr.mono (by decide)) rfl T.g__law_pick T.F__law_pick.kp T.b__law_pick .nil pass0 (pa_cons (pv 1) (pa_cons pe_int pa_nil)))) (pa_cons pe_str (pa_cons pe_int pa_nil))))))
    (pss_cons (ps_set (i := 3) sc_law.nd rfl (Or.inl rfl) (pe_callB call_len_seq (by rfl) T.n_len (by decide +kernel) (pa_cons (pv 2) pa_nil)))
    (pss_cons (ps_set (i := 4) sc_law.nd rfl (Or.inl rfl) (pe_op op_add pe_int (pe_call (ok__law_pick T) (hr.mono (by decide)) rfl T.g__law_pick T.F__law_pick.kp T.b__law_pick .nil pass0 (pa_cons (pv 1) (pa_cons pe_int pa_nil)))))
    (pss_cons (ps_set (i := 5) sc_law.nd rfl (Or.inl rfl) (pe_lst (pa_cons pe_int (pa_cons pe_int (pa_cons pe_int (pa_cons pe_int pa_nil))))))
    (pss_cons (ps_set (i := 6) sc_law.nd rfl (Or.inl rfl) (pe_call (ok__law_pick T) (hr.mono (by decide)) rfl T.g__law_pick T.F__law_pick.kp T.b__law_pick .nil pass0 (pa_cons (pv 1) (pa_cons (pe_op op_add (pe_callB (call_min2 rfl) (by rfl) T.n_min (by decide +kernel) (pa_cons (pe_ix ix_list (pv 5) (pv 3) (fun _ _ => rfl)) (pa_cons (pe_ix ix_list (pv 5) (pe_op op_sub (pv 4) pe_int) (fun _ _ => rfl)) pa_nil))) pe_int) pa_nil))))
    (pss_cons (ps_set (i := 7) sc_law.nd rfl (Or.inl rfl) (pe_call (ok__law_writer T) (hr.mono (by decide)) rfl T.g__law_writer T.F__law_writer.kp T.b__law_writer .nil pass0 (pa_cons (pv 1) (pa_cons (pv 3) (pa_cons (pv 4) (pa_cons (pe_op op_add pe_int (pe_call (ok__law_pick T) (hr.mono (by decide)) rfl T.g__law_pick T.F__law_pick.kp T.b__law_pick .nil pass0 (pa_cons (pv 1) (pa_cons pe_int pa_nil)))) pa_nil))))))
    (pss_cons (ps_set (i := 8) sc_law.nd rfl (Or.inl rfl) (pe_callTy call_tuple_of (by rfl) T.n_tuple (by decide +kernel) (pa_cons (pe_lc (own := [("t", 10)]) (g := gName 10) (tt := tYes) (by rfl) sc_law.nd (pi_range1 rfl T.n_range (pa_cons (pe_op op_add (pv 3) pe_int) pa_nil)) (blkOk_by (N := ["script", "pool", "tokens", "m", "total", "most", "budget", "writer", "ones", "great", "t"]) (sc := defScope s_law) (by decide +kernel)) (fun _ _ _ _ _ => (pg_name (i := 10) sc_law.nd rfl (Or.inl rfl))) (fun _ _ _ _ _ => pts_nil) (fun _ _ _ _ _ => pe_int)) pa_nil)))
    (pss_cons (ps_if (pt_not (pt_val (pe_call (ok__law_same T 5) (hr.mono (by decide)) rfl T.g__law_same T.F__law_same.kp T.b__law_same .nil pass0 (pa_cons (pe_callKw (ok_even_writer T) (hr.mono (by decide)) rfl T.g_even_writer T.F_even_writer.kp T.k_even_writer (fun _ => passAny0) (pk_cons (pv 2) pk_nil)) (pa_cons (pe_tup (pa_cons (pe_op op_add (pv 3) pe_int) (pa_cons (pe_tup (pa_cons (pv 8) pa_nil)) (pa_cons (pe_tup (pa_cons (pe_callTy call_tuple_of (by rfl) T.n_tuple (by decide +kernel) (pa_cons (pe_lc (own := [("t", 10)]) (g := gName 10) (tt := tYes) (by rfl) sc_law.nd (pi_range1 rfl T.n_range (pa_cons (pv 3) pa_nil)) (blkOk_by (N := ["script", "pool", "tokens", "m", "total", "most", "budget", "writer", "ones", "great", "t"]) (sc := defScope s_law) (by decide +kernel)) (fun _ _ _ _ _ => (pg_name (i := 10) sc_law.nd rfl (Or.inl rfl))) (fun _ _ _ _ _ => pts_nil) (fun _ _ _ _ _ => pe_int)) pa_nil)) pa_nil)) pa_nil)))) pa_nil))))) (pss_one (ps_ret pe_bl)) pss_nil)
    (pss_cons (ps_if (PW.pt (pw_or (pt_not (pt_val (pe_call (ok__law_choices_right T) (hr.mono (by decide)) rfl T.g__law_choices_right T.F__law_choices_right.kp T.b__law_choices_right .nil pass0 (pa_cons (pv 2) (pa_cons (pv 7) pa_nil))))) (pw_or1 (pt_not (pt_val (pe_call (ok__law_tapes_right T) hr rfl T.g__law_tapes_right T.F__law_tapes_right.kp T.b__law_tapes_right .nil pass0 (pa_cons (pv 2) (pa_cons (pv 7) (pa_cons (pv 6) pa_nil))))))))) (pss_one (ps_ret pe_bl)) pss_nil)
    (pss_cons (ps_if (pt_not (pt_val (pe_call (ok__law_refused T) hr rfl T.g__law_refused T.F__law_refused.kp T.b__law_refused .nil pass0 (pa_cons (pv 1) (pa_cons (pv 2) (pa_cons (pv 7) pa_nil)))))) (pss_one (ps_ret pe_bl)) pss_nil)
    (C8.pss_cut (ps_if (pt_cmpR op_eq (pe_call (ok__law_pick T) (hr.mono (by decide)) rfl T.g__law_pick T.F__law_pick.kp T.b__law_pick .nil pass0 (pa_cons (pv 1) (pa_cons pe_int pa_nil))) pe_int (nomark _)) (pss_one (ps_set (i := 2) sc_law.nd rfl (Or.inl rfl) (pe_call (ok__law_tokens T) (hr.mono (by decide)) rfl T.g__law_tokens T.F__law_tokens.kp T.b__law_tokens .nil pass0 (pa_cons (pv 1) (pa_cons (pe_op op_add pe_int (pe_call (ok__law_pick T) (hr.mono (by decide)) rfl T.g__law_pick T.F__law_pick.kp T.b__law_pick .nil pass0 (pa_cons (pv 1) (pa_cons pe_int pa_nil)))) (pa_cons pe_str (pa_cons pe_int pa_nil))))))) pss_nil)
    (pss_cons (ps_set (i := 9) sc_law.nd rfl (Or.inl rfl) (pe_call (ok__law_great_writer T) (hr.mono (by decide)) rfl T.g__law_great_writer T.F__law_great_writer.kp T.b__law_great_writer .nil pass0 (pa_cons (pv 1) (pa_cons (pe_callB call_len_seq (by rfl) T.n_len (by decide +kernel) (pa_cons (pv 2) pa_nil)) pa_nil))))
    (pss_one (ps_ret (pe_call (ok__law_great_right T) hr rfl T.g__law_great_right T.F__law_great_right.kp T.b__law_great_right .nil pass0 (pa_cons (pv 1) (pa_cons (pv 2) (pa_cons (pv 9) pa_nil))))))))))))))))))), ?_⟩
    refine ⟨.ref a, rfl, a, ns, rfl, hs, hz, fun p H1 s1 hP => ?_⟩
    clear hs s1
    refine ⟨.ref p, rfl, .ref p, rfl, p, 3, rfl, hP, by omega, by omega, fun r1 H2 r10 r11 d2 f2 => ⟨1, r1, rfl, rfl, p, 1 + r1, _, 2, rfl, d2.2, by decide, by decide, by omega, by omega, by omega, by omega, fun t ts H3 lts d3 ht => ?_⟩⟩
    refine ⟨.ref t, rfl, t, ts, rfl, .inr (.inl (.inl ht)), ?_⟩
    have m0 : 1 ≤ ts.length := by omega
    have m1 : ts.length ≤ 3 := by omega
    refine ⟨.ref p, rfl, p, 4, rfl, d3.2, by omega, by omega, fun r4 H4 r40 r41 d4 f4 => ⟨1, r4, rfl, rfl, small' (by simp), fun L nL => ?_⟩⟩
    have e5 : Same H4 (upd H4 L (.lst [V.int 5, V.int 5, V.int 4, V.int 3])) := same_new nL
    have hL : (upd H4 L (.lst [V.int 5, V.int 5, V.int 4, V.int 3])) L = some (.lst [V.int 5, V.int 5, V.int 4, V.int 3]) := upd_same
    generalize upd H4 L (.lst [V.int 5, V.int 5, V.int 4, V.int 3]) = H5 at e5 hL ⊢
    have d5 := d4.same e5
    obtain ⟨x1, at1, x10, x11⟩ := most_at (i := (ts.length : Int)) (by omega) (by omega)
    obtain ⟨x2, at2, x20, x21⟩ := most_at (i := 1 + r4 - 1) (by omega) (by omega)
    refine ⟨.ref p, rfl, .ref L, rfl, .int ts.length, rfl, L, _, (ts.length : Int), _, rfl, rfl, .inl (.inl hL), at1, .ref L, rfl, .int (1 + r4), rfl, 1 + r4, 1, rfl, rfl, L, _, 1 + r4 - 1, _, rfl, rfl, .inl (.inl hL), at2, x1, x2, rfl, (if x2 < x1 then x2 else x1), 1, rfl, rfl, p, _, rfl, d5.2, by split <;> omega, by split <;> omega, fun r5 H6 r50 r51 d6 f6 => ?_⟩
    replace r51 : r5 ≤ 5 := by split at r51 <;> omega
    have d36 := d5.trans d6
    refine ⟨.ref p, rfl, .int ts.length, rfl, .int (1 + r4), rfl, .ref p, rfl, p, 3, rfl, d36.2, by omega, by omega, fun r6 H7 r60 r61 d7 f7 => ⟨1, r6, rfl, rfl, p, ts.length, (1 + r6).toNat, 1 + r4, by rw [Int.toNat_of_nonneg (by omega)]; rfl, d7.2, m0, by omega, by omega, by omega, by omega, by omega, fun aw W H8 eT eL hok d8 hW => ?_⟩⟩
    have d38 := (d36.trans d7).trans d8
    have ht8 := tup_drawn d3.2 d38 ht
    refine ⟨.int ts.length, rfl, (ts.length : Int), 1, rfl, rfl, _, rfl, by omega, by omega, fun D nD => ?_⟩
    refine comp_range (n := ((ts.length : Int) + 1).toNat) (i := 10) (fun acc H5 => Same H8 H5 ∧ acc = List.replicate acc.length (V.int 1)) ⟨same_new nD, rfl⟩ (fun acc H5 la h hD => ?_) (fun acc H9 la h hD => ?_)
    · obtain ⟨s5, ea⟩ := h
      exact turned hD (small (by omega)) ⟨same_upd2 s5 nD, by rw [List.length_append, List.length_singleton, List.replicate_succ', ← ea]⟩
    obtain ⟨s9, ea⟩ := h
    rw [la] at ea
    replace ea : acc = List.replicate (ts.length + 1) (V.int 1) := ea
    subst ea
    refine ⟨D, _, rfl, .inl ⟨.inl (.inl hD), fun o no => ?_⟩⟩
    have e10 : Same H9 (upd H9 o (.tup (List.replicate (ts.length + 1) (V.int 1)))) := same_new no
    have ho : (upd H9 o (.tup (List.replicate (ts.length + 1) (V.int 1)))) o = some (.tup (List.replicate (ts.length + 1) (V.int 1))) := upd_same
    generalize upd H9 o (.tup (List.replicate (ts.length + 1) (V.int 1))) = H10 at e10 ho ⊢
    have s810 := s9.trans e10
    refine ⟨.ref t, rfl, rfl, t, ts, rfl, .inl (.inl (s810 _ _ ht8)), m0, by omega, fun v H11 s11 hv => ?_⟩
    refine ⟨.int ts.length, rfl, (ts.length : Int), 1, rfl, rfl, .ref o, rfl, small' (by simp), fun O1 nO1 => ?_⟩
    have ho11 := s11 _ _ ho
    have e12 : Same H11 (upd H11 O1 (.tup [V.ref o])) := same_new nO1
    have hO1 : (upd H11 O1 (.tup [V.ref o])) O1 = some (.tup [V.ref o]) := upd_same
    generalize upd H11 O1 (.tup [V.ref o]) = H12 at e12 hO1 ⊢
    refine ⟨.int ts.length, rfl, _, rfl, by omega, by omega, fun D2 nD2 => ?_⟩
    refine comp_range (n := (ts.length : Int).toNat) (i := 10) (fun acc H5 => Same H12 H5 ∧ acc = List.replicate acc.length (V.int 0)) ⟨same_new nD2, rfl⟩ (fun acc H5 la h hD => ?_) (fun acc H13 la h hD => ?_)
    · obtain ⟨s5, ea⟩ := h
      exact turned hD (small (by omega)) ⟨same_upd2 s5 nD2, by rw [List.length_append, List.length_singleton, List.replicate_succ', ← ea]⟩
    obtain ⟨s13, ea⟩ := h
    rw [la] at ea
    replace ea : acc = List.replicate ts.length (V.int 0) := ea
    subst ea
    refine ⟨D2, _, rfl, .inl ⟨.inl (.inl hD), fun z nz => ?_⟩⟩
    have e14 : Same H13 (upd H13 z (.tup (List.replicate ts.length (V.int 0)))) := same_new nz
    have hz : (upd H13 z (.tup (List.replicate ts.length (V.int 0)))) z = some (.tup (List.replicate ts.length (V.int 0))) := upd_same
    generalize upd H13 z (.tup (List.replicate ts.length (V.int 0))) = H14 at e14 hz ⊢
    refine ⟨small' (by simp), fun O2 nO2 => ?_⟩
    have e15 : Same H14 (upd H14 O2 (.tup [V.ref z])) := same_new nO2
    have hO2 : (upd H14 O2 (.tup [V.ref z])) O2 = some (.tup [V.ref z]) := upd_same
    generalize upd H14 O2 (.tup [V.ref z]) = H15 at e15 hO2 ⊢
    refine ⟨small' (by simp), fun O3 nO3 => ?_⟩
    have e16 : Same H15 (upd H15 O3 (.tup [V.int ((ts.length : Int) + 1), V.ref O1, V.ref O2])) := same_new nO3
    have hO3 : (upd H15 O3 (.tup [V.int ((ts.length : Int) + 1), V.ref O1, V.ref O2])) O3 = some (.tup [V.int ((ts.length : Int) + 1), V.ref O1, V.ref O2]) := upd_same
    generalize upd H15 O3 (.tup [V.int ((ts.length : Int) + 1), V.ref O1, V.ref O2]) = H16 at e16 hO3 ⊢
    have k1516 := e15.trans e16
    have k1316 := e14.trans k1516
    have k1216 := s13.trans k1316
    have k1116 := e12.trans k1216
    refine ⟨v, .ref O3, _, rfl, dp_grow k1116 hv, .tup (.inl (.inl hO3)) (.cons (.int _) (.cons (.tup (.inl (.inl (k1216 _ _ hO1))) (.cons (.tup (.inl (.inl (k1116 _ _ ho11))) (dp_rep _ _)) .nil)) (.cons (.tup (.inl (.inl (e16 _ _ hO2))) (.cons (.tup (.inl (.inl (k1516 _ _ hz))) (dp_rep _ _)) .nil)) .nil))), ok_even (by omega) (by omega), fun H17 s17 => ⟨_, rfl, ?_⟩⟩
    have k817 := ((s810.trans s11).trans k1116).trans s17
    have ht17 := k817 _ _ ht8
    have hW17 := hW.grow k817
    have hP17 : Pool H17 p := d8.2.same k817
    clear ho11 hO1 hO2 hO3 hz ho hv ht8 hW
    obtain ⟨n5, rfl⟩ : ∃ n : Nat, r5 = (n : Int) := ⟨r5.toNat, by omega⟩
    refine ⟨.ref t, rfl, .ref aw, rfl, .ref t, aw, W, ts.length, rfl, hW17, hok, fun H18 s18 => ⟨_, rfl, ?_⟩⟩
    have ht18 := s18 _ _ ht17
    refine ⟨.ref t, rfl, .ref aw, rfl, .int n5, rfl, t, aw, ts, W, n5, rfl, .inl (.inl ht18), hW17.grow s18, hok, m0, by omega, by omega, by omega, fun H19 s19 => ⟨_, rfl, ?_⟩⟩
    have k1719 := s18.trans s19
    refine ⟨.ref p, rfl, .ref t, rfl, .ref aw, rfl, p, t, aw, ts, W, rfl, hP17.same k1719, .inl (.inl (k1719 _ _ ht17)), hW17.grow k1719, hok, m0, fun H20 d20 => ⟨_, rfl, ?_⟩⟩
    have ht20 := tup_drawn (hP17.same k1719) d20 (k1719 _ _ ht17)
    have hP20 : Pool H20 p := d20.2
    clear hW17 hP17 ht17 ht18
    refine ⟨fun σ' H' => ∃ (t2 : Addr) (ts2 : List V), σ' = [some (.ref a), some (.ref p), some (.ref t2), some (.int ts.length), some (.int (1 + r4)), some (.ref L), some (.int n5), some (.ref aw), some (.ref o), none, none] ∧ Pool H' p ∧ SqT K H' t2 ts2 ∧ 1 ≤ ts2.length ∧ ts2.length ≤ 6, ?_, fun σ' H21 h => ?_⟩
    · refine ⟨.ref p, rfl, p, 2, rfl, hP20, by omega, by omega, fun r7 H21 r70 r71 d21 f21 => ⟨rfl, _, rfl, ite2 (fun z => ?_) (fun z => ?_)⟩⟩
      · refine ⟨.ref p, rfl, .ref p, rfl, p, 3, rfl, d21.2, by omega, by omega, fun r8 H22 r80 r81 d22 f22 => ⟨4, r8, rfl, rfl, p, 4 + r8, _, 2, rfl, d22.2, by decide, by decide, by omega, by omega, by omega, by omega, fun t2 ts2 H23 lts2 d23 ht2 => ?_⟩⟩
        exact ⟨t2, ts2, rfl, d23.2, .inl (.inl ht2), by omega, by omega⟩
      · exact ⟨t, ts, rfl, d21.2, seqT_drawn hP20 d21 (.inl (.inl ht20)), m0, by omega⟩
    obtain ⟨t2, ts2, rfl, hP21, hT21, n0, n1⟩ := h
    refine ⟨.ref p, rfl, .ref t2, rfl, t2, ts2, rfl, .inr hT21, p, ts2.length, rfl, hP21, n0, by omega, fun ag Wg H22 hokg hog d22 hWg => ?_⟩
    exact ⟨.ref p, rfl, .ref t2, rfl, .ref ag, rfl, p, t2, ag, ts2, Wg, rfl, d22.2, seqT_drawn hP21 d22 hT21, hWg, hokg, hog, n0, fun H' _ => q H'⟩
end
end K4
set_option Elab.async false
set_option linter.all false
set_option maxRecDepth 100000
set_option maxHeartbeats 8000000
namespace K4
open PySem PySem.Spec PyProof.Rows L2 Ver
theorem exm_self {K : PySem.W.Frag} {S : Addr} (h1 : PySem.W.subIn K (.ref S) (.type "BaseException") = some true) (h2 : PySem.W.isClsIn K S = true) (h3 : PySem.W.typeIn K (.ref S) = some (.type "type")) (h4 : PySem.W.subIn K (.ref S) (.ref S) = some true) :
    PySem.W.exmOne K (.ref S) (.ref S) = some true := by
  have e1 : (PySem.W.subIn K (.ref S) (.type "BaseException") == some true) = true := by rw [h1] <;> rfl
  have e2 : ((PySem.W.clsIn K S).isSome && PySem.W.typeIn K (.ref S) == some (.type "type")) = true := by
    have h2' : (PySem.W.clsIn K S).isSome = true := h2
    rw [h2', h3] <;> rfl
  show (if (PySem.W.subIn K (.ref S) (.type "BaseException") == some true) = true then (if ((PySem.W.clsIn K S).isSome && PySem.W.typeIn K (.ref S) == some (.type "type")) = true then PySem.W.subIn K (.ref S) (.ref S) else none) else none) = some true
  rw [if_pos e1, if_pos e2]
  exact h4

theorem all_mk {l : PySem.W.OpenLaw} {w : World} {K : PySem.W.Frag} {h : Heap} {mg : Str → Option Value} {fa C C1 C2 fI : Addr} (X : K.In h) (G : h.Ns mainGlobals mg) (hfa : mg "law" = some (.ref fa))
    {nm qn : Str} {N : Addr} {bs : List Value} {sn : List Str} {sub : List Value} {ab : Bool} {col : Option Bool} {dd : Option Addr} {m0 m1 m2 m3 m5 : Option Value} {ocI dcI pmI cdI ctI : Value} {odI anI : Option Addr} {slI : Array (Option Value)}
    {f0 f1 f2 f3 f4 f5 f6 f7 f8 f9 f10 f11 f12 f13 f14 f15 f16 f17 f18 f19 f20 f21 f22 f23 f24 f25 f26 f27 f28 f29 f30 f31 f32 f33 f34 : Addr}
    {od0 an0 od1 an1 od2 an2 od3 an3 od4 an4 od5 an5 od6 an6 od7 an7 od8 an8 od9 an9 od10 an10 od11 an11 od12 an12 od13 an13 od14 an14 od15 an15 od16 an16 od17 an17 od18 an18 od19 an19 od20 an20 od21 an21 od22 an22 od23 an23 od24 an24 od25 an25 od26 an26 od27 an27 od28 an28 od29 an29 od30 an30 od31 an31 od32 an32 od33 an33 od34 an34 : Option Addr}
    {sl0 sl1 sl2 sl3 sl4 sl5 sl6 sl7 sl8 sl9 sl10 sl11 sl12 sl13 sl14 sl15 sl16 sl17 sl18 sl19 sl20 sl21 sl22 sl23 sl24 sl25 sl26 sl27 sl28 sl29 sl30 sl31 sl32 sl33 sl34 : Array (Option Value)}
    {oc0 kV0 dc0 pm0 cd0 ct0 oc1 kV1 dc1 pm1 cd1 ct1 oc2 kV2 dc2 pm2 cd2 ct2 oc3 kV3 dc3 pm3 cd3 ct3 oc4 kV4 dc4 pm4 cd4 ct4 oc5 kV5 dc5 pm5 cd5 ct5 oc6 kV6 dc6 pm6 cd6 ct6 oc7 kV7 dc7 pm7 cd7 ct7 oc8 kV8 dc8 pm8 cd8 ct8 oc9 kV9 dc9 pm9 cd9 ct9 oc10 kV10 dc10 pm10 cd10 ct10 oc11 kV11 dc11 pm11 cd11 ct11 oc12 kV12 dc12 pm12 cd12 ct12 oc13 kV13 dc13 pm13 cd13 ct13 oc14 kV14 dc14 pm14 cd14 ct14 oc15 kV15 dc15 pm15 cd15 ct15 oc16 kV16 dc16 pm16 cd16 ct16 oc17 kV17 dc17 pm17 cd17 ct17 oc18 kV18 dc18 pm18 cd18 ct18 oc19 kV19 dc19 pm19 cd19 ct19 oc20 kV20 dc20 pm20 cd20 ct20 oc21 kV21 dc21 pm21 cd21 ct21 oc22 kV22 dc22 pm22 cd22 ct22 oc23 kV23 dc23 pm23 cd23 ct23 oc24 kV24 dc24 pm24 cd24 ct24 oc25 kV25 dc25 pm25 cd25 ct25 oc26 kV26 dc26 pm26 cd26 ct26 oc27 kV27 dc27 pm27 cd27 ct27 oc28 kV28 dc28 pm28 cd28 ct28 oc29 kV29 dc29 pm29 cd29 ct29 oc30 kV30 dc30 pm30 cd30 ct30 oc31 kV31 dc31 pm31 cd31 ct31 oc32 kV32 dc32 pm32 cd32 ct32 oc33 kV33 dc33 pm33 cd33 ct33 oc34 kV34 dc34 pm34 cd34 ct34 : Value}
    (aC : PySem.W.nsIn K mainGlobals "NotUsable" = some (some (.ref C)))
    (xL : K.lookup C = some (excClassObj nm qn C N bs [.ref C2, .ref C1, .type "ValueError", .type "Exception", .type "BaseException", .type "object"] true sn sub ab col dd m0 m1 m2 m3 m5 "ValueError.__new__"))
    (sa : PySem.W.findIn K (.ref C) "__setattr__" = some (some (.builtin "object.__setattr__"))) (ga : PySem.W.findIn K (.ref C) "__getattribute__" = some (some (.builtin "BaseException.__getattribute__"))) (gg : PySem.W.findIn K (.ref C) "__getattr__" = some none) (nb : PySem.W.findIn K (.ref C) "word" = some none)
    (iC : PySem.W.findIn K (.ref C) "__init__" = some (some (.ref fI))) (tI : PySem.W.typeIn K (.ref fI) = some (.type "function"))
    (lI : K.lookup fI = some ⟨ocI, odI, .func (PySem.W.fnOf "__init__" "NotUsable.__init__" (PySem.NUsX.iA ⟨8, 17, 8, 21⟩ ⟨8, 23, 8, 27⟩) (PySem.NUsX.iB ⟨9, 8, 9, 12⟩ ⟨9, 8, 9, 17⟩ ⟨9, 20, 9, 24⟩ ⟨9, 8, 9, 24⟩) PySem.NUsX.iS .none .none dcI pmI anI cdI ctI), slI⟩) (cI : PySem.W.codeIn K cdI "NotUsable.__init__" = true)
    (kC : PySem.W.keepIn K (.ref C) = true) (eC : PySem.W.subIn K (.ref C) (.type "BaseException") = some true) (tC : PySem.W.typeIn K (.ref C) = some (.type "type")) (hC : PySem.W.hasDictIn K C = true) (clC : PySem.W.isClsIn K C = true) (sC : PySem.W.subIn K (.ref C) (.ref C) = some true)
    (a0 : PySem.W.nsIn K mainGlobals "is_int" = some (some (.ref f0))) (l0 : K.lookup f0 = some ⟨oc0, od0, .func (PySem.W.fnOf "is_int" "is_int" (defArgs s_is_int) (defBody s_is_int) (defScope s_is_int) .none kV0 dc0 pm0 an0 cd0 ct0), sl0⟩) (c0 : PySem.W.codeIn K cd0 "is_int" = true) (k0 : PySem.W.keepIn K (.ref f0) = true)
    (a1 : PySem.W.nsIn K mainGlobals "is_number" = some (some (.ref f1))) (l1 : K.lookup f1 = some ⟨oc1, od1, .func (PySem.W.fnOf "is_number" "is_number" (defArgs s_is_number) (defBody s_is_number) (defScope s_is_number) .none kV1 dc1 pm1 an1 cd1 ct1), sl1⟩) (c1 : PySem.W.codeIn K cd1 "is_number" = true) (k1 : PySem.W.keepIn K (.ref f1) = true)
    (a2 : PySem.W.nsIn K mainGlobals "is_below" = some (some (.ref f2))) (l2 : K.lookup f2 = some ⟨oc2, od2, .func (PySem.W.fnOf "is_below" "is_below" (defArgs s_is_below) (defBody s_is_below) (defScope s_is_below) .none kV2 dc2 pm2 an2 cd2 ct2), sl2⟩) (c2 : PySem.W.codeIn K cd2 "is_below" = true) (k2 : PySem.W.keepIn K (.ref f2) = true)
    (a3 : PySem.W.nsIn K mainGlobals "are_below" = some (some (.ref f3))) (l3 : K.lookup f3 = some ⟨oc3, od3, .func (PySem.W.fnOf "are_below" "are_below" (defArgs s_are_below) (defBody s_are_below) (defScope s_are_below) .none kV3 dc3 pm3 an3 cd3 ct3), sl3⟩) (c3 : PySem.W.codeIn K cd3 "are_below" = true) (k3 : PySem.W.keepIn K (.ref f3) = true)
    (a4 : PySem.W.nsIn K mainGlobals "ask_row" = some (some (.ref f4))) (l4 : K.lookup f4 = some ⟨oc4, od4, .func (PySem.W.fnOf "ask_row" "ask_row" (defArgs s_ask_row) (defBody s_ask_row) (defScope s_ask_row) .none kV4 dc4 pm4 an4 cd4 ct4), sl4⟩) (c4 : PySem.W.codeIn K cd4 "ask_row" = true) (k4 : PySem.W.keepIn K (.ref f4) = true)
    (a5 : PySem.W.nsIn K mainGlobals "ask_short" = some (some (.ref f5))) (l5 : K.lookup f5 = some ⟨oc5, od5, .func (PySem.W.fnOf "ask_short" "ask_short" (defArgs s_ask_short) (defBody s_ask_short) (defScope s_ask_short) .none kV5 dc5 pm5 an5 cd5 ct5), sl5⟩) (c5 : PySem.W.codeIn K cd5 "ask_short" = true) (k5 : PySem.W.keepIn K (.ref f5) = true)
    (a6 : PySem.W.nsIn K mainGlobals "ask_below" = some (some (.ref f6))) (l6 : K.lookup f6 = some ⟨oc6, od6, .func (PySem.W.fnOf "ask_below" "ask_below" (defArgs s_ask_below) (defBody s_ask_below) (defScope s_ask_below) .none kV6 dc6 pm6 an6 cd6 ct6), sl6⟩) (c6 : PySem.W.codeIn K cd6 "ask_below" = true) (k6 : PySem.W.keepIn K (.ref f6) = true)
    (a7 : PySem.W.nsIn K mainGlobals "choice_of" = some (some (.ref f7))) (l7 : K.lookup f7 = some ⟨oc7, od7, .func (PySem.W.fnOf "choice_of" "choice_of" (defArgs s_choice_of) (defBody s_choice_of) (defScope s_choice_of) .none kV7 dc7 pm7 an7 cd7 ct7), sl7⟩) (c7 : PySem.W.codeIn K cd7 "choice_of" = true) (k7 : PySem.W.keepIn K (.ref f7) = true)
    (a8 : PySem.W.nsIn K mainGlobals "chosen" = some (some (.ref f8))) (l8 : K.lookup f8 = some ⟨oc8, od8, .func (PySem.W.fnOf "chosen" "chosen" (defArgs s_chosen) (defBody s_chosen) (defScope s_chosen) .none kV8 dc8 pm8 an8 cd8 ct8), sl8⟩) (c8 : PySem.W.codeIn K cd8 "chosen" = true) (k8 : PySem.W.keepIn K (.ref f8) = true)
    (a9 : PySem.W.nsIn K mainGlobals "says" = some (some (.ref f9))) (l9 : K.lookup f9 = some ⟨oc9, od9, .func (PySem.W.fnOf "says" "says" (defArgs s_says) (defBody s_says) (defScope s_says) .none kV9 dc9 pm9 an9 cd9 ct9), sl9⟩) (c9 : PySem.W.codeIn K cd9 "says" = true) (k9 : PySem.W.keepIn K (.ref f9) = true)
    (a10 : PySem.W.nsIn K mainGlobals "said" = some (some (.ref f10))) (l10 : K.lookup f10 = some ⟨oc10, od10, .func (PySem.W.fnOf "said" "said" (defArgs s_said) (defBody s_said) (defScope s_said) .none kV10 dc10 pm10 an10 cd10 ct10), sl10⟩) (c10 : PySem.W.codeIn K cd10 "said" = true) (k10 : PySem.W.keepIn K (.ref f10) = true)
    (a11 : PySem.W.nsIn K mainGlobals "tapes_of" = some (some (.ref f11))) (l11 : K.lookup f11 = some ⟨oc11, od11, .func (PySem.W.fnOf "tapes_of" "tapes_of" (defArgs s_tapes_of) (defBody s_tapes_of) (defScope s_tapes_of) .none kV11 dc11 pm11 an11 cd11 ct11), sl11⟩) (c11 : PySem.W.codeIn K cd11 "tapes_of" = true) (k11 : PySem.W.keepIn K (.ref f11) = true)
    (a12 : PySem.W.nsIn K mainGlobals "even_writer" = some (some (.ref f12))) (l12 : K.lookup f12 = some ⟨oc12, od12, .func (PySem.W.fnOf "even_writer" "even_writer" (defArgs s_even_writer) (defBody s_even_writer) (defScope s_even_writer) .none kV12 dc12 pm12 an12 cd12 ct12), sl12⟩) (c12 : PySem.W.codeIn K cd12 "even_writer" = true) (k12 : PySem.W.keepIn K (.ref f12) = true)
    (a13 : PySem.W.nsIn K mainGlobals "state_behind" = some (some (.ref f13))) (l13 : K.lookup f13 = some ⟨oc13, od13, .func (PySem.W.fnOf "state_behind" "state_behind" (defArgs s_state_behind) (defBody s_state_behind) (defScope s_state_behind) .none kV13 dc13 pm13 an13 cd13 ct13), sl13⟩) (c13 : PySem.W.codeIn K cd13 "state_behind" = true) (k13 : PySem.W.keepIn K (.ref f13) = true)
    (a14 : PySem.W.nsIn K mainGlobals "led_to" = some (some (.ref f14))) (l14 : K.lookup f14 = some ⟨oc14, od14, .func (PySem.W.fnOf "led_to" "led_to" (defArgs s_led_to) (defBody s_led_to) (defScope s_led_to) .none kV14 dc14 pm14 an14 cd14 ct14), sl14⟩) (c14 : PySem.W.codeIn K cd14 "led_to" = true) (k14 : PySem.W.keepIn K (.ref f14) = true)
    (a15 : PySem.W.nsIn K mainGlobals "_law_pool" = some (some (.ref f15))) (l15 : K.lookup f15 = some ⟨oc15, od15, .func (PySem.W.fnOf "_law_pool" "_law_pool" (defArgs s__law_pool) (defBody s__law_pool) (defScope s__law_pool) .none kV15 dc15 pm15 an15 cd15 ct15), sl15⟩) (c15 : PySem.W.codeIn K cd15 "_law_pool" = true) (k15 : PySem.W.keepIn K (.ref f15) = true)
    (a16 : PySem.W.nsIn K mainGlobals "_law_pick" = some (some (.ref f16))) (l16 : K.lookup f16 = some ⟨oc16, od16, .func (PySem.W.fnOf "_law_pick" "_law_pick" (defArgs s__law_pick) (defBody s__law_pick) (defScope s__law_pick) .none kV16 dc16 pm16 an16 cd16 ct16), sl16⟩) (c16 : PySem.W.codeIn K cd16 "_law_pick" = true) (k16 : PySem.W.keepIn K (.ref f16) = true)
    (a17 : PySem.W.nsIn K mainGlobals "_law_same" = some (some (.ref f17))) (l17 : K.lookup f17 = some ⟨oc17, od17, .func (PySem.W.fnOf "_law_same" "_law_same" (defArgs s__law_same) (defBody s__law_same) (defScope s__law_same) .none kV17 dc17 pm17 an17 cd17 ct17), sl17⟩) (c17 : PySem.W.codeIn K cd17 "_law_same" = true) (k17 : PySem.W.keepIn K (.ref f17) = true)
    (a18 : PySem.W.nsIn K mainGlobals "_law_word" = some (some (.ref f18))) (l18 : K.lookup f18 = some ⟨oc18, od18, .func (PySem.W.fnOf "_law_word" "_law_word" (defArgs s__law_word) (defBody s__law_word) (defScope s__law_word) .none kV18 dc18 pm18 an18 cd18 ct18), sl18⟩) (c18 : PySem.W.codeIn K cd18 "_law_word" = true) (k18 : PySem.W.keepIn K (.ref f18) = true)
    (a19 : PySem.W.nsIn K mainGlobals "_law_tokens" = some (some (.ref f19))) (l19 : K.lookup f19 = some ⟨oc19, od19, .func (PySem.W.fnOf "_law_tokens" "_law_tokens" (defArgs s__law_tokens) (defBody s__law_tokens) (defScope s__law_tokens) .none kV19 dc19 pm19 an19 cd19 ct19), sl19⟩) (c19 : PySem.W.codeIn K cd19 "_law_tokens" = true) (k19 : PySem.W.keepIn K (.ref f19) = true)
    (a20 : PySem.W.nsIn K mainGlobals "_law_rows" = some (some (.ref f20))) (l20 : K.lookup f20 = some ⟨oc20, od20, .func (PySem.W.fnOf "_law_rows" "_law_rows" (defArgs s__law_rows) (defBody s__law_rows) (defScope s__law_rows) .none kV20 dc20 pm20 an20 cd20 ct20), sl20⟩) (c20 : PySem.W.codeIn K cd20 "_law_rows" = true) (k20 : PySem.W.keepIn K (.ref f20) = true)
    (a21 : PySem.W.nsIn K mainGlobals "_law_writer" = some (some (.ref f21))) (l21 : K.lookup f21 = some ⟨oc21, od21, .func (PySem.W.fnOf "_law_writer" "_law_writer" (defArgs s__law_writer) (defBody s__law_writer) (defScope s__law_writer) .none kV21 dc21 pm21 an21 cd21 ct21), sl21⟩) (c21 : PySem.W.codeIn K cd21 "_law_writer" = true) (k21 : PySem.W.keepIn K (.ref f21) = true)
    (a22 : PySem.W.nsIn K mainGlobals "_law_choice" = some (some (.ref f22))) (l22 : K.lookup f22 = some ⟨oc22, od22, .func (PySem.W.fnOf "_law_choice" "_law_choice" (defArgs s__law_choice) (defBody s__law_choice) (defScope s__law_choice) .none kV22 dc22 pm22 an22 cd22 ct22), sl22⟩) (c22 : PySem.W.codeIn K cd22 "_law_choice" = true) (k22 : PySem.W.keepIn K (.ref f22) = true)
    (a23 : PySem.W.nsIn K mainGlobals "_law_says" = some (some (.ref f23))) (l23 : K.lookup f23 = some ⟨oc23, od23, .func (PySem.W.fnOf "_law_says" "_law_says" (defArgs s__law_says) (defBody s__law_says) (defScope s__law_says) .none kV23 dc23 pm23 an23 cd23 ct23), sl23⟩) (c23 : PySem.W.codeIn K cd23 "_law_says" = true) (k23 : PySem.W.keepIn K (.ref f23) = true)
    (a24 : PySem.W.nsIn K mainGlobals "_law_walked" = some (some (.ref f24))) (l24 : K.lookup f24 = some ⟨oc24, od24, .func (PySem.W.fnOf "_law_walked" "_law_walked" (defArgs s__law_walked) (defBody s__law_walked) (defScope s__law_walked) .none kV24 dc24 pm24 an24 cd24 ct24), sl24⟩) (c24 : PySem.W.codeIn K cd24 "_law_walked" = true) (k24 : PySem.W.keepIn K (.ref f24) = true)
    (a25 : PySem.W.nsIn K mainGlobals "_law_choice_told" = some (some (.ref f25))) (l25 : K.lookup f25 = some ⟨oc25, od25, .func (PySem.W.fnOf "_law_choice_told" "_law_choice_told" (defArgs s__law_choice_told) (defBody s__law_choice_told) (defScope s__law_choice_told) .none kV25 dc25 pm25 an25 cd25 ct25), sl25⟩) (c25 : PySem.W.codeIn K cd25 "_law_choice_told" = true) (k25 : PySem.W.keepIn K (.ref f25) = true)
    (a26 : PySem.W.nsIn K mainGlobals "_law_tape_told" = some (some (.ref f26))) (l26 : K.lookup f26 = some ⟨oc26, od26, .func (PySem.W.fnOf "_law_tape_told" "_law_tape_told" (defArgs s__law_tape_told) (defBody s__law_tape_told) (defScope s__law_tape_told) .none kV26 dc26 pm26 an26 cd26 ct26), sl26⟩) (c26 : PySem.W.codeIn K cd26 "_law_tape_told" = true) (k26 : PySem.W.keepIn K (.ref f26) = true)
    (a27 : PySem.W.nsIn K mainGlobals "_law_many_told" = some (some (.ref f27))) (l27 : K.lookup f27 = some ⟨oc27, od27, .func (PySem.W.fnOf "_law_many_told" "_law_many_told" (defArgs s__law_many_told) (defBody s__law_many_told) (defScope s__law_many_told) .none kV27 dc27 pm27 an27 cd27 ct27), sl27⟩) (c27 : PySem.W.codeIn K cd27 "_law_many_told" = true) (k27 : PySem.W.keepIn K (.ref f27) = true)
    (a28 : PySem.W.nsIn K mainGlobals "_law_state_told" = some (some (.ref f28))) (l28 : K.lookup f28 = some ⟨oc28, od28, .func (PySem.W.fnOf "_law_state_told" "_law_state_told" (defArgs s__law_state_told) (defBody s__law_state_told) (defScope s__law_state_told) .none kV28 dc28 pm28 an28 cd28 ct28), sl28⟩) (c28 : PySem.W.codeIn K cd28 "_law_state_told" = true) (k28 : PySem.W.keepIn K (.ref f28) = true)
    (a29 : PySem.W.nsIn K mainGlobals "_law_choices_right" = some (some (.ref f29))) (l29 : K.lookup f29 = some ⟨oc29, od29, .func (PySem.W.fnOf "_law_choices_right" "_law_choices_right" (defArgs s__law_choices_right) (defBody s__law_choices_right) (defScope s__law_choices_right) .none kV29 dc29 pm29 an29 cd29 ct29), sl29⟩) (c29 : PySem.W.codeIn K cd29 "_law_choices_right" = true) (k29 : PySem.W.keepIn K (.ref f29) = true)
    (a30 : PySem.W.nsIn K mainGlobals "_law_tapes_right" = some (some (.ref f30))) (l30 : K.lookup f30 = some ⟨oc30, od30, .func (PySem.W.fnOf "_law_tapes_right" "_law_tapes_right" (defArgs s__law_tapes_right) (defBody s__law_tapes_right) (defScope s__law_tapes_right) .none kV30 dc30 pm30 an30 cd30 ct30), sl30⟩) (c30 : PySem.W.codeIn K cd30 "_law_tapes_right" = true) (k30 : PySem.W.keepIn K (.ref f30) = true)
    (a31 : PySem.W.nsIn K mainGlobals "_law_great_writer" = some (some (.ref f31))) (l31 : K.lookup f31 = some ⟨oc31, od31, .func (PySem.W.fnOf "_law_great_writer" "_law_great_writer" (defArgs s__law_great_writer) (defBody s__law_great_writer) (defScope s__law_great_writer) .none kV31 dc31 pm31 an31 cd31 ct31), sl31⟩) (c31 : PySem.W.codeIn K cd31 "_law_great_writer" = true) (k31 : PySem.W.keepIn K (.ref f31) = true)
    (a32 : PySem.W.nsIn K mainGlobals "_law_great_right" = some (some (.ref f32))) (l32 : K.lookup f32 = some ⟨oc32, od32, .func (PySem.W.fnOf "_law_great_right" "_law_great_right" (defArgs s__law_great_right) (defBody s__law_great_right) (defScope s__law_great_right) .none kV32 dc32 pm32 an32 cd32 ct32), sl32⟩) (c32 : PySem.W.codeIn K cd32 "_law_great_right" = true) (k32 : PySem.W.keepIn K (.ref f32) = true)
    (a33 : PySem.W.nsIn K mainGlobals "_law_refused" = some (some (.ref f33))) (l33 : K.lookup f33 = some ⟨oc33, od33, .func (PySem.W.fnOf "_law_refused" "_law_refused" (defArgs s__law_refused) (defBody s__law_refused) (defScope s__law_refused) .none kV33 dc33 pm33 an33 cd33 ct33), sl33⟩) (c33 : PySem.W.codeIn K cd33 "_law_refused" = true) (k33 : PySem.W.keepIn K (.ref f33) = true)
    (a34 : PySem.W.nsIn K mainGlobals "law" = some (some (.ref f34))) (l34 : K.lookup f34 = some ⟨oc34, od34, .func (PySem.W.fnOf "law" "law" (defArgs s_law) (defBody s_law) (defScope s_law) .none kV34 dc34 pm34 an34 cd34 ct34), sl34⟩) (c34 : PySem.W.codeIn K cd34 "law" = true) (k34 : PySem.W.keepIn K (.ref f34) = true)
    (qEND : ∃ t, PySem.W.nsIn K mainGlobals "END" = some (some (.int (-1) t)))
    (qROW_LIMIT : ∃ t, PySem.W.nsIn K mainGlobals "ROW_LIMIT" = some (some (.int (60) t)))
    (qBUDGET_LIMIT : ∃ t, PySem.W.nsIn K mainGlobals "BUDGET_LIMIT" = some (some (.int (60) t)))
    (zall : PySem.W.nsIn K mainGlobals "all" = some none)
    (zbool : PySem.W.nsIn K mainGlobals "bool" = some none)
    (zint : PySem.W.nsIn K mainGlobals "int" = some none)
    (zisinstance : PySem.W.nsIn K mainGlobals "isinstance" = some none)
    (zlen : PySem.W.nsIn K mainGlobals "len" = some none)
    (zlist : PySem.W.nsIn K mainGlobals "list" = some none)
    (zmax : PySem.W.nsIn K mainGlobals "max" = some none)
    (zmin : PySem.W.nsIn K mainGlobals "min" = some none)
    (zrange : PySem.W.nsIn K mainGlobals "range" = some none)
    (zstr : PySem.W.nsIn K mainGlobals "str" = some none)
    (zsum : PySem.W.nsIn K mainGlobals "sum" = some none)
    (ztuple : PySem.W.nsIn K mainGlobals "tuple" = some none)
    (zzip : PySem.W.nsIn K mainGlobals "zip" = some none)
    : ∃ fd : FuncData, (∀ (s : Shared) (v : Value), BindsTo s fd ⟨[v], []⟩ [("script", v)]) ∧ ∀ base : Heap, K.In base → base.Ns mainGlobals mg → FnOk l.prog w K mg base CX0 9 fa fd ["script"] (sp_law K) := by
  have e := hfa.symm.trans (PySem.W.mg_of X G a34)
  cases e
  have nus : PySem.NUsX.NUsTxt K mg C fI :=
    { gC := PySem.W.mg_of X G aC, cls := ⟨nm, qn, N, bs, _, sn, sub, ab, col, dd, m0, m1, m2, m3, m5, xL, by rfl⟩, sa := sa, ga := ga, gg := gg, noN := nb, iC := iC, tC := tI, kC := kC, exC := eC, tyC := tC, hdC := hC, te := exm_self eC clC tC sC,
      fn := ⟨_, _, _, _, _, _, _, _, _, _, _, _, _, _, lI, cI⟩ }
  have F0 := fun_mk (st := s_is_int) l0 c0 k0
  have F1 := fun_mk (st := s_is_number) l1 c1 k1
  have F2 := fun_mk (st := s_is_below) l2 c2 k2
  have F3 := fun_mk (st := s_are_below) l3 c3 k3
  have F4 := fun_mk (st := s_ask_row) l4 c4 k4
  have F5 := fun_mk (st := s_ask_short) l5 c5 k5
  have F6 := fun_mk (st := s_ask_below) l6 c6 k6
  have F7 := fun_mk (st := s_choice_of) l7 c7 k7
  have F8 := fun_mk (st := s_chosen) l8 c8 k8
  have F9 := fun_mk (st := s_says) l9 c9 k9
  have F10 := fun_mk (st := s_said) l10 c10 k10
  have F11 := fun_mk (st := s_tapes_of) l11 c11 k11
  have F12 := fun_mk (st := s_even_writer) l12 c12 k12
  have F13 := fun_mk (st := s_state_behind) l13 c13 k13
  have F14 := fun_mk (st := s_led_to) l14 c14 k14
  have F15 := fun_mk (st := s__law_pool) l15 c15 k15
  have F16 := fun_mk (st := s__law_pick) l16 c16 k16
  have F17 := fun_mk (st := s__law_same) l17 c17 k17
  have F18 := fun_mk (st := s__law_word) l18 c18 k18
  have F19 := fun_mk (st := s__law_tokens) l19 c19 k19
  have F20 := fun_mk (st := s__law_rows) l20 c20 k20
  have F21 := fun_mk (st := s__law_writer) l21 c21 k21
  have F22 := fun_mk (st := s__law_choice) l22 c22 k22
  have F23 := fun_mk (st := s__law_says) l23 c23 k23
  have F24 := fun_mk (st := s__law_walked) l24 c24 k24
  have F25 := fun_mk (st := s__law_choice_told) l25 c25 k25
  have F26 := fun_mk (st := s__law_tape_told) l26 c26 k26
  have F27 := fun_mk (st := s__law_many_told) l27 c27 k27
  have F28 := fun_mk (st := s__law_state_told) l28 c28 k28
  have F29 := fun_mk (st := s__law_choices_right) l29 c29 k29
  have F30 := fun_mk (st := s__law_tapes_right) l30 c30 k30
  have F31 := fun_mk (st := s__law_great_writer) l31 c31 k31
  have F32 := fun_mk (st := s__law_great_right) l32 c32 k32
  have F33 := fun_mk (st := s__law_refused) l33 c33 k33
  have F34 := fun_mk (st := s_law) l34 c34 k34
  let T : Tx K mg := {
    f_is_int := _, d_is_int := _, F_is_int := F0, g_is_int := PySem.W.mg_of X G a0, b_is_int := F0.binds (ps := ["thing"]) fun _ _ _ _ _ _ us hl => match us, hl with | [_], _ => rfl
    f_is_number := _, d_is_number := _, F_is_number := F1, g_is_number := PySem.W.mg_of X G a1, b_is_number := F1.binds (ps := ["thing"]) fun _ _ _ _ _ _ us hl => match us, hl with | [_], _ => rfl
    f_is_below := _, d_is_below := _, F_is_below := F2, g_is_below := PySem.W.mg_of X G a2, b_is_below := F2.binds (ps := ["thing", "bound"]) fun _ _ _ _ _ _ us hl => match us, hl with | [_, _], _ => rfl
    f_are_below := _, d_are_below := _, F_are_below := F3, g_are_below := PySem.W.mg_of X G a3, b_are_below := F3.binds (ps := ["thing", "bound"]) fun _ _ _ _ _ _ us hl => match us, hl with | [_, _], _ => rfl
    f_ask_row := _, d_ask_row := _, F_ask_row := F4, g_ask_row := PySem.W.mg_of X G a4, b_ask_row := F4.binds (ps := ["tokens", "row"]) fun _ _ _ _ _ _ us hl => match us, hl with | [_, _], _ => rfl
    f_ask_short := _, d_ask_short := _, F_ask_short := F5, g_ask_short := PySem.W.mg_of X G a5, b_ask_short := F5.binds (ps := ["number", "word"]) fun _ _ _ _ _ _ us hl => match us, hl with | [_, _], _ => rfl
    f_ask_below := _, d_ask_below := _, F_ask_below := F6, g_ask_below := PySem.W.mg_of X G a6, b_ask_below := F6.binds (ps := ["number", "bound", "word"]) fun _ _ _ _ _ _ us hl => match us, hl with | [_, _, _], _ => rfl
    f_choice_of := _, d_choice_of := _, F_choice_of := F7, g_choice_of := PySem.W.mg_of X G a7, b_choice_of := F7.binds (ps := ["tokens", "writer", "state", "digit"]) fun _ _ _ _ _ _ us hl => match us, hl with | [_, _, _, _], _ => rfl
    f_chosen := _, d_chosen := _, F_chosen := F8, g_chosen := PySem.W.mg_of X G a8, b_chosen := F8.binds (ps := ["shares", "digit"]) fun _ _ _ _ _ _ us hl => match us, hl with | [_, _], _ => rfl
    f_says := _, d_says := _, F_says := F9, g_says := PySem.W.mg_of X G a9, b_says := F9.binds (ps := ["tokens", "writer", "tape"]) fun _ _ _ _ _ _ us hl => match us, hl with | [_, _, _], _ => rfl
    f_said := _, d_said := _, F_said := F10, g_said := PySem.W.mg_of X G a10, b_said := F10.binds (ps := ["writer", "tape"]) fun _ _ _ _ _ _ us hl => match us, hl with | [_, _], _ => rfl
    f_tapes_of := _, d_tapes_of := _, F_tapes_of := F11, g_tapes_of := PySem.W.mg_of X G a11, b_tapes_of := F11.binds (ps := ["tokens", "writer", "row", "budget"]) fun _ _ _ _ _ _ us hl => match us, hl with | [_, _, _, _], _ => rfl
    f_even_writer := _, d_even_writer := _, F_even_writer := F12, g_even_writer := PySem.W.mg_of X G a12, b_even_writer := F12.binds (ps := ["tokens"]) fun _ _ _ _ _ _ us hl => match us, hl with | [_], _ => rfl
    f_state_behind := _, d_state_behind := _, F_state_behind := F13, g_state_behind := PySem.W.mg_of X G a13, b_state_behind := F13.binds (ps := ["tokens", "writer", "row"]) fun _ _ _ _ _ _ us hl => match us, hl with | [_, _, _], _ => rfl
    f_led_to := _, d_led_to := _, F_led_to := F14, g_led_to := PySem.W.mg_of X G a14, b_led_to := F14.binds (ps := ["writer", "state", "row"]) fun _ _ _ _ _ _ us hl => match us, hl with | [_, _, _], _ => rfl
    f__law_pool := _, d__law_pool := _, F__law_pool := F15, g__law_pool := PySem.W.mg_of X G a15, b__law_pool := F15.binds (ps := ["script"]) fun _ _ _ _ _ _ us hl => match us, hl with | [_], _ => rfl
    f__law_pick := _, d__law_pick := _, F__law_pick := F16, g__law_pick := PySem.W.mg_of X G a16, b__law_pick := F16.binds (ps := ["pool", "many"]) fun _ _ _ _ _ _ us hl => match us, hl with | [_, _], _ => rfl
    f__law_same := _, d__law_same := _, F__law_same := F17, g__law_same := PySem.W.mg_of X G a17, b__law_same := F17.binds (ps := ["told", "due"]) fun _ _ _ _ _ _ us hl => match us, hl with | [_, _], _ => rfl
    f__law_word := _, d__law_word := _, F__law_word := F18, g__law_word := PySem.W.mg_of X G a18, b__law_word := F18.binds (ps := ["pool", "signs", "most"]) fun _ _ _ _ _ _ us hl => match us, hl with | [_, _, _], _ => rfl
    f__law_tokens := _, d__law_tokens := _, F__law_tokens := F19, g__law_tokens := PySem.W.mg_of X G a19, b__law_tokens := F19.binds (ps := ["pool", "many", "signs", "most"]) fun _ _ _ _ _ _ us hl => match us, hl with | [_, _, _, _], _ => rfl
    f__law_rows := _, d__law_rows := _, F__law_rows := F20, g__law_rows := PySem.W.mg_of X G a20, b__law_rows := F20.binds (ps := ["m", "most"]) fun _ _ _ _ _ _ us hl => match us, hl with | [_, _], _ => rfl
    f__law_writer := _, d__law_writer := _, F__law_writer := F21, g__law_writer := PySem.W.mg_of X G a21, b__law_writer := F21.binds (ps := ["pool", "m", "total", "many"]) fun _ _ _ _ _ _ us hl => match us, hl with | [_, _, _, _], _ => rfl
    f__law_choice := _, d__law_choice := _, F__law_choice := F22, g__law_choice := PySem.W.mg_of X G a22, b__law_choice := F22.binds (ps := ["weights", "digit"]) fun _ _ _ _ _ _ us hl => match us, hl with | [_, _], _ => rfl
    f__law_says := _, d__law_says := _, F__law_says := F23, g__law_says := PySem.W.mg_of X G a23, b__law_says := F23.binds (ps := ["writer", "tape"]) fun _ _ _ _ _ _ us hl => match us, hl with | [_, _], _ => rfl
    f__law_walked := _, d__law_walked := _, F__law_walked := F24, g__law_walked := PySem.W.mg_of X G a24, b__law_walked := F24.binds (ps := ["writer", "row"]) fun _ _ _ _ _ _ us hl => match us, hl with | [_, _], _ => rfl
    f__law_choice_told := _, d__law_choice_told := _, F__law_choice_told := F25, g__law_choice_told := PySem.W.mg_of X G a25, b__law_choice_told := F25.binds (ps := ["tokens", "writer", "state", "digit", "named"]) fun _ _ _ _ _ _ us hl => match us, hl with | [_, _, _, _, _], _ => rfl
    f__law_tape_told := _, d__law_tape_told := _, F__law_tape_told := F26, g__law_tape_told := PySem.W.mg_of X G a26, b__law_tape_told := F26.binds (ps := ["tokens", "writer", "tape", "named"]) fun _ _ _ _ _ _ us hl => match us, hl with | [_, _, _, _], _ => rfl
    f__law_many_told := _, d__law_many_told := _, F__law_many_told := F27, g__law_many_told := PySem.W.mg_of X G a27, b__law_many_told := F27.binds (ps := ["tokens", "writer", "row", "budget", "named"]) fun _ _ _ _ _ _ us hl => match us, hl with | [_, _, _, _, _], _ => rfl
    f__law_state_told := _, d__law_state_told := _, F__law_state_told := F28, g__law_state_told := PySem.W.mg_of X G a28, b__law_state_told := F28.binds (ps := ["tokens", "writer", "row", "named"]) fun _ _ _ _ _ _ us hl => match us, hl with | [_, _, _, _], _ => rfl
    f__law_choices_right := _, d__law_choices_right := _, F__law_choices_right := F29, g__law_choices_right := PySem.W.mg_of X G a29, b__law_choices_right := F29.binds (ps := ["tokens", "writer"]) fun _ _ _ _ _ _ us hl => match us, hl with | [_, _], _ => rfl
    f__law_tapes_right := _, d__law_tapes_right := _, F__law_tapes_right := F30, g__law_tapes_right := PySem.W.mg_of X G a30, b__law_tapes_right := F30.binds (ps := ["tokens", "writer", "budget"]) fun _ _ _ _ _ _ us hl => match us, hl with | [_, _, _], _ => rfl
    f__law_great_writer := _, d__law_great_writer := _, F__law_great_writer := F31, g__law_great_writer := PySem.W.mg_of X G a31, b__law_great_writer := F31.binds (ps := ["pool", "m"]) fun _ _ _ _ _ _ us hl => match us, hl with | [_, _], _ => rfl
    f__law_great_right := _, d__law_great_right := _, F__law_great_right := F32, g__law_great_right := PySem.W.mg_of X G a32, b__law_great_right := F32.binds (ps := ["pool", "tokens", "writer"]) fun _ _ _ _ _ _ us hl => match us, hl with | [_, _, _], _ => rfl
    f__law_refused := _, d__law_refused := _, F__law_refused := F33, g__law_refused := PySem.W.mg_of X G a33, b__law_refused := F33.binds (ps := ["pool", "tokens", "writer"]) fun _ _ _ _ _ _ us hl => match us, hl with | [_, _, _], _ => rfl
    f_law := _, d_law := _, F_law := F34, g_law := PySem.W.mg_of X G a34, b_law := F34.binds (ps := ["script"]) fun _ _ _ _ _ _ us hl => match us, hl with | [_], _ => rfl
    k_choice_of := ⟨fun s us ws _ hu hw => match us, hu, ws, hw with | [], _, [_, _, _, _], _ => .of_eq rfl, fun _ rz => kwr_choice_of rz⟩
    k_says := ⟨fun s us ws _ hu hw => match us, hu, ws, hw with | [], _, [_, _, _], _ => .of_eq rfl, fun _ rz => kwr_says rz⟩
    k_tapes_of := ⟨fun s us ws _ hu hw => match us, hu, ws, hw with | [], _, [_, _, _, _], _ => .of_eq rfl, fun _ rz => kwr_tapes_of rz⟩
    k_state_behind := ⟨fun s us ws _ hu hw => match us, hu, ws, hw with | [], _, [_, _, _], _ => .of_eq rfl, fun _ rz => kwr_state_behind rz⟩
    k_even_writer := ⟨fun s us ws _ hu hw => match us, hu, ws, hw with | [], _, [_], _ => .of_eq rfl, fun _ rz => kwr_even_writer rz⟩
    c_END := let ⟨t, e⟩ := qEND; ⟨t, PySem.W.mg_of X G e⟩
    c_ROW_LIMIT := let ⟨t, e⟩ := qROW_LIMIT; ⟨t, PySem.W.mg_of X G e⟩
    c_BUDGET_LIMIT := let ⟨t, e⟩ := qBUDGET_LIMIT; ⟨t, PySem.W.mg_of X G e⟩
    n_all := PySem.W.mg_none_of X G zall
    n_bool := PySem.W.mg_none_of X G zbool
    n_int := PySem.W.mg_none_of X G zint
    n_isinstance := PySem.W.mg_none_of X G zisinstance
    n_len := PySem.W.mg_none_of X G zlen
    n_list := PySem.W.mg_none_of X G zlist
    n_max := PySem.W.mg_none_of X G zmax
    n_min := PySem.W.mg_none_of X G zmin
    n_range := PySem.W.mg_none_of X G zrange
    n_str := PySem.W.mg_none_of X G zstr
    n_sum := PySem.W.mg_none_of X G zsum
    n_tuple := PySem.W.mg_none_of X G ztuple
    n_zip := PySem.W.mg_none_of X G zzip
    C_NotUsable := C, I_NotUsable := fI, nus := nus }
  exact ⟨T.d_law, fun s v => .of_eq rfl, fun base _ _ => ok_law T⟩
end K4
set_option Elab.async false
set_option linter.all false
set_option maxRecDepth 100000
open PySem PySem.W PyProof.Rows
set_option maxHeartbeats 0 in
theorem PySem.Challenge.cw_stillends_k04_whole_tapes_holds : PySem.Challenge.rw_stillends_k04_whole_tapes.Holds := by
  w_on; o_law; k_head; (case hw => w_witness2)
  k_fill
  refine L2.walk_of (l := PySem.Challenge.rw_stillends_k04_whole_tapes) (n := 63) (k := 9) (x := "script") (CX := fun _ => L2.CX0) (sp := fun w => K4.sp_law _) rfl (by decide) rfl ⟨rfl, by decide, by decide⟩ (fun w h Y => PySem.W.kIn_of Y) ?F (fun _ _ a ns hl _ hS => ⟨a, ns, rfl, hS, hl, fun _ => rfl⟩) (fun _ _ _ _ _ h => h)
  case F =>
    intro w mg fa h KX G hmg
    refine' K4.all_mk KX G hmg ?aC ?xL ?sa ?ga ?gg ?nb ?iC ?tI ?lI ?cI ?kC ?eC ?tC ?hC ?clC ?sC ?a0 ?l0 ?c0 ?k0 ?a1 ?l1 ?c1 ?k1 ?a2 ?l2 ?c2 ?k2 ?a3 ?l3 ?c3 ?k3 ?a4 ?l4 ?c4 ?k4 ?a5 ?l5 ?c5 ?k5 ?a6 ?l6 ?c6 ?k6 ?a7 ?l7 ?c7 ?k7 ?a8 ?l8 ?c8 ?k8 ?a9 ?l9 ?c9 ?k9 ?a10 ?l10 ?c10 ?k10 ?a11 ?l11 ?c11 ?k11 ?a12 ?l12 ?c12 ?k12 ?a13 ?l13 ?c13 ?k13 ?a14 ?l14 ?c14 ?k14 ?a15 ?l15 ?c15 ?k15 ?a16 ?l16 ?c16 ?k16 ?a17 ?l17 ?c17 ?k17 ?a18 ?l18 ?c18 ?k18 ?a19 ?l19 ?c19 ?k19 ?a20 ?l20 ?c20 ?k20 ?a21 ?l21 ?c21 ?k21 ?a22 ?l22 ?c22 ?k22 ?a23 ?l23 ?c23 ?k23 ?a24 ?l24 ?c24 ?k24 ?a25 ?l25 ?c25 ?k25 ?a26 ?l26 ?c26 ?k26 ?a27 ?l27 ?c27 ?k27 ?a28 ?l28 ?c28 ?k28 ?a29 ?l29 ?c29 ?k29 ?a30 ?l30 ?c30 ?k30 ?a31 ?l31 ?c31 ?k31 ?a32 ?l32 ?c32 ?k32 ?a33 ?l33 ?c33 ?k33 ?a34 ?l34 ?c34 ?k34 ?qEND ?qROW_LIMIT ?qBUDGET_LIMIT ?zall ?zbool ?zint ?zisinstance ?zlen ?zlist ?zmax ?zmin ?zrange ?zstr ?zsum ?ztuple ?zzip
    (case aC => k_is)
    (case xL => k_is)
    (case sa => k_is)
    (case ga => k_is)
    (case gg => k_is)
    (case nb => k_is)
    (case iC => k_is)
    (case tI => k_is)
    (case lI => k_is)
    (case cI => k_is)
    (case kC => k_is)
    (case eC => k_is)
    (case tC => k_is)
    (case hC => k_is)
    (case clC => k_is)
    (case sC => first | rfl | k_is)
    (case a0 => k_is)
    (case l0 => k_is)
    (case c0 => k_is)
    (case k0 => k_is)
    (case a1 => k_is)
    (case l1 => k_is)
    (case c1 => k_is)
    (case k1 => k_is)
    (case a2 => k_is)
    (case l2 => k_is)
    (case c2 => k_is)
    (case k2 => k_is)
    (case a3 => k_is)
    (case l3 => k_is)
    (case c3 => k_is)
    (case k3 => k_is)
    (case a4 => k_is)
    (case l4 => k_is)
    (case c4 => k_is)
    (case k4 => k_is)
    (case a5 => k_is)
    (case l5 => k_is)
    (case c5 => k_is)
    (case k5 => k_is)
    (case a6 => k_is)
    (case l6 => k_is)
    (case c6 => k_is)
    (case k6 => k_is)
    (case a7 => k_is)
    (case l7 => k_is)
    (case c7 => k_is)
    (case k7 => k_is)
    (case a8 => k_is)
    (case l8 => k_is)
    (case c8 => k_is)
    (case k8 => k_is)
    (case a9 => k_is)
    (case l9 => k_is)
    (case c9 => k_is)
    (case k9 => k_is)
    (case a10 => k_is)
    (case l10 => k_is)
    (case c10 => k_is)
    (case k10 => k_is)
    (case a11 => k_is)
    (case l11 => k_is)
    (case c11 => k_is)
    (case k11 => k_is)
    (case a12 => k_is)
    (case l12 => k_is)
    (case c12 => k_is)
    (case k12 => k_is)
    (case a13 => k_is)
    (case l13 => k_is)
    (case c13 => k_is)
    (case k13 => k_is)
    (case a14 => k_is)
    (case l14 => k_is)
    (case c14 => k_is)
    (case k14 => k_is)
    (case a15 => k_is)
    (case l15 => k_is)
    (case c15 => k_is)
    (case k15 => k_is)
    (case a16 => k_is)
    (case l16 => k_is)
    (case c16 => k_is)
    (case k16 => k_is)
    (case a17 => k_is)
    (case l17 => k_is)
    (case c17 => k_is)
    (case k17 => k_is)
    (case a18 => k_is)
    (case l18 => k_is)
    (case c18 => k_is)
    (case k18 => k_is)
    (case a19 => k_is)
    (case l19 => k_is)
    (case c19 => k_is)
    (case k19 => k_is)
    (case a20 => k_is)
    (case l20 => k_is)
    (case c20 => k_is)
    (case k20 => k_is)
    (case a21 => k_is)
    (case l21 => k_is)
    (case c21 => k_is)
    (case k21 => k_is)
    (case a22 => k_is)
    (case l22 => k_is)
    (case c22 => k_is)
    (case k22 => k_is)
    (case a23 => k_is)
    (case l23 => k_is)
    (case c23 => k_is)
    (case k23 => k_is)
    (case a24 => k_is)
    (case l24 => k_is)
    (case c24 => k_is)
    (case k24 => k_is)
    (case a25 => k_is)
    (case l25 => k_is)
    (case c25 => k_is)
    (case k25 => k_is)
    (case a26 => k_is)
    (case l26 => k_is)
    (case c26 => k_is)
    (case k26 => k_is)
    (case a27 => k_is)
    (case l27 => k_is)
    (case c27 => k_is)
    (case k27 => k_is)
    (case a28 => k_is)
    (case l28 => k_is)
    (case c28 => k_is)
    (case k28 => k_is)
    (case a29 => k_is)
    (case l29 => k_is)
    (case c29 => k_is)
    (case k29 => k_is)
    (case a30 => k_is)
    (case l30 => k_is)
    (case c30 => k_is)
    (case k30 => k_is)
    (case a31 => k_is)
    (case l31 => k_is)
    (case c31 => k_is)
    (case k31 => k_is)
    (case a32 => k_is)
    (case l32 => k_is)
    (case c32 => k_is)
    (case k32 => k_is)
    (case a33 => k_is)
    (case l33 => k_is)
    (case c33 => k_is)
    (case k33 => k_is)
    (case a34 => k_is)
    (case l34 => k_is)
    (case c34 => k_is)
    (case k34 => k_is)
    (case qEND => exact ⟨_, by k_is⟩)
    (case qROW_LIMIT => exact ⟨_, by k_is⟩)
    (case qBUDGET_LIMIT => exact ⟨_, by k_is⟩)
    (case zall => k_is)
    (case zbool => k_is)
    (case zint => k_is)
    (case zisinstance => k_is)
    (case zlen => k_is)
    (case zlist => k_is)
    (case zmax => k_is)
    (case zmin => k_is)
    (case zrange => k_is)
    (case zstr => k_is)
    (case zsum => k_is)
    (case ztuple => k_is)
    (case zzip => k_is)
