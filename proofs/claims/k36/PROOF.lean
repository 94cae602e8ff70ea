import PyProof.Rows.All
import Wide.All
import OpenK.AllK
import Wide.FinOn
import HandS.ForMost
import HandS.Exc
import HandS.SortKw
import HandS.SortInts
import HandS.Style
import HandS.Flow
import HandS.Wide
import HandS.WideBits
import HandS.ClsMeth
import HandS.Property
import HandS.MakeKw
import HandS.MakeKwOnly
import HandS.IsInst
import HandS.Conv
import HandS.Deep
import HandS.OwnEq
import HandS.EndBits
import HandS.FStr
import HandS.RaiseMore
import HandS.Walk
import HandS.DictComp
import HandS.TryOnly
import HandS.StrMore
import KE.GoesEnum
import KE.KTryMore
import HandS.Lambda
import HandS.HotCalls
import HandS.ExcInit
import HandS.EndTab
import HandS.WordsExc
import KE.KExcIs
import HandS.Words
import HandS.TupAny
import HandS.SetBool
import HandS.Strs
import HandS.Codes
import HandS.CallLocal
import KE.KUnpackStar
import PyProof.EqKinds
import HandS.SetFor
import PyProof.ReprNest
import PySem.Challenge.RW_degreerows_k36_whole_bonds_by_all_webs
set_option Elab.async false
set_option linter.all false
set_option maxRecDepth 100000
set_option maxHeartbeats 8000000
/-! enumerate over a tuple -/
namespace DgLow
open PySem PySem.Builtin PyProof.Rows
open AutoSeq1 (wpAny_loadPart')
theorem enum_make_any {v : Value} {o : Obj} {H : Heap → Prop} (B : Begins v o H) :
    Meets (Builtin.«enumerate.__new__» ⟨[.type "enumerate", v], []⟩) (fun _ R s => H s.heap ∧
      R (.ok (.ret (.ref (s.heap.push o).objs.size))) { s with heap := (s.heap.push o).push { cls := .type "enumerate", data := .fields #[.none, .bool false, .ref s.heap.objs.size, rawInt 0, .none, .none] } }) := by
  refine .of_wp ?_
  intro prog w A R s h
  obtain ⟨hp, g, d, tk, os⟩ := s
  obtain ⟨h1, h⟩ := h
  have sube := sub_enumerate
  have it : ∀ {A' : Around} {E : Value → Shared → Prop} {Q : Value → Shared → Prop}, Q (.ref hp.objs.size) ⟨hp.push o, g, d, tk, os⟩ →
      wpAny (model prog w) A' (pyIter v) Q E ⟨hp, g, d, tk, os⟩ := fun q => B.iter prog w _ _ ⟨hp, g, d, tk, os⟩ _ h1 q
  wp_walk using it
  refine wpAny_stack_any fun st => wpAny_pure ?_
  split
  · rename_i c _ _ _ _ _
    cases (c == Value.type "enumerate") <;> (wp_walk using it; exact ⟨_, rfl, h⟩)
  · wp_walk using it
    exact ⟨_, rfl, h⟩
variable {prog : Program} {w : World} {A : Around} {E : Value → Shared → Prop} {s : Shared}
theorem enum_begin1 {v : Value} {o : Obj} {H : Heap → Prop} {Q : Value → Shared → Prop} (B : Begins v o H) (h1 : H s.heap)
    (h : ∀ h', IsEnum h' (s.heap.objs.size + 1) s.heap.objs.size 0 .none → h'.get? s.heap.objs.size = some o → h'.objs.size = s.heap.objs.size + 2 →
      (∀ b u, s.heap.get? b = some u → h'.get? b = some u) → Q (.ref (s.heap.objs.size + 1)) { s with heap := h' }) :
    wpAny (model prog w) A (call (.type "enumerate") [v]) Q E s := by
  refine callType_new F.called_enumerate (by decide) (F.typeCall_enumerate_1 _) (F.newCall_enumerate_1 _) (fun obj => F.args_object_init_2 obj _) F.entry_enumerate_new (enum_make_any B) ⟨h1, ?_⟩
  have z : (s.heap.push o).objs.size = s.heap.objs.size + 1 := Heap.size_push ..
  show _ ∧ _
  rw [z]
  have en : IsEnum ((s.heap.push o).push { cls := .type "enumerate", data := .fields #[.none, .bool false, .ref s.heap.objs.size, rawInt 0, .none, .none] }) (s.heap.objs.size + 1) s.heap.objs.size 0 .none := by
    have q := Heap.get?_push_size (s.heap.push o) (o := { cls := .type "enumerate", data := .fields #[.none, .bool false, .ref s.heap.objs.size, rawInt 0, .none, .none] }) rfl
    rw [z] at q
    exact q
  exact ⟨⟨_, en, rfl⟩, h _ en (Heap.get?_push_of_some _ (Heap.get?_push_size _ B.free)) (by rw [Heap.size_push, z]) fun b u x => Heap.get?_push_of_some _ (Heap.get?_push_of_some _ x)⟩
end DgLow

namespace Dg
open PySem PySem.Spec PyProof.Rows L2
/-! ### enumerate over a tuple, as a walk -/
/-- at each turn: the tuple at a, its item in a new pair behind the turn's number -/
def Iet (K : PySem.W.Frag) (a : Addr) : It where
  go := fun i H => ∃ (ys : List V) (y : V), SqT K H a ys ∧ ys[i]? = some y
  yld := fun i H v H' => ∃ T y, v = .ref T ∧ H T = none ∧ H' = upd H T (.tup [.int (i : Nat), y]) ∧ ∀ ys, SqT K H a ys → ys[i]? = some y
  stop := fun i H => ∃ ys : List V, SqT K H a ys ∧ ys.length ≤ i
theorem turn_iet {P : Program} {w : World} {K : PySem.W.Frag} {elts : List Expr} {kk : Nat} {tpos : Pos} (a e it : Addr) :
    Turn P w K (.Tuple elts kk tpos) (Iet K a) [e, it] e (fun i h => (∃ old, IsEnum h e it ((i : Nat) : Int) old) ∧ h.IsTupleIter it a i ∧ e ≠ it ∧ a ≠ it ∧ e ≠ a) where
  mem := by simp
  obj := by
    intro i h st b hb
    obtain ⟨⟨old, he⟩, ⟨o, ho, hc, hd⟩, _⟩ := st
    rcases (show b = e ∨ b = it by simpa using hb) with z | z
    · rw [z]; exact ⟨_, he, fun v q => nomatch q⟩
    · rw [z]; exact ⟨o, ho, fun v q => by rw [hd] at q; cases q⟩
  keep := by
    rintro i h h' ⟨⟨old, he⟩, hi, hne⟩ k
    exact ⟨⟨old, k e (by simp) _ he⟩, hi.at fun o q => k it (by simp) o q, hne⟩
  item := by
    intro X hP hw hK hc i pins s σ H E I hf st hg
    subst hP hw hK
    obtain ⟨⟨old, he⟩, hit, hne, hai, hea⟩ := st
    obtain ⟨ys, y, hq, hy⟩ := hg
    obtain ⟨its, rv, p, hz⟩ := I.tuple hq
    obtain ⟨u, hu, ru⟩ := rv.get hy
    have ltE : e < s.heap.objs.size := Heap.lt_size he
    have ltI : it < s.heap.objs.size := by obtain ⟨_, q, _⟩ := hit; exact Heap.lt_size q
    have isT : s.heap.IsTuple a its.toArray := p
    have hi : i < its.toArray.size := by
      have := (List.getElem?_eq_some_iff.mp hu).1
      simpa using this
    have DD := Draws.tuple (prog := X.prog) (w := X.w) (A := X.A.in1) (I.ok.hd hc) it a hai its.toArray
    refine wpAny_pyNext_enum_itemD DD he ⟨hit, isT⟩ hi hne (by simp [hne, hea]) fun x h' tk hx ho st' hT hsz hk => ?_
    obtain rfl : x = u := by
      have q : its.toArray[i]? = some u := by simpa using hu
      rw [q] at hx
      exact (Option.some.inj hx).symm
    refine ⟨_, rfl, wpAny_letOwnedTupleGo_enum (s := { s with heap := h', toks := tk + 1 }) ho fun h'' he' sb => ?_⟩
    have hT2 : h''.get? s.heap.objs.size = some { cls := .type "tuple", data := .seq #[.int i tk, x] } := (sb.2 _ (Nat.ne_of_gt ltE)).trans hT
    have new : ObjOk X.prog X.w (upd H s.heap.objs.size (.tup [.int (i : Nat), y])) h'' s.heap.objs.size (.tup [.int (i : Nat), y]) :=
      ⟨by show 2 ≤ sizeLine; decide, [.int i tk, x], .cons ⟨_, rfl⟩ (.cons ru .nil), ⟨_, hT2, rfl, _, rfl⟩⟩
    have I1 : Inv X pins σ (upd H s.heap.objs.size (.tup [.int (i : Nat), y])) { s with heap := h'', toks := tk + 1 } :=
      I.turnedNew (ch := [e, it]) (fun b ob hb q => (sb.2 b (fun z => hb (by simp [z]))).trans (hk b ob (fun z => hb (by simp [z])) (fun z => hb (by simp [z])) q)) hf (Nat.le_refl _) new
    refine ⟨.ref s.heap.objs.size, _, I1, rfl, ⟨_, y, rfl, I.hok.fresh (Nat.le_refl _), rfl, fun zs hzs => by rw [I.tuple_inj hzs hq]; exact hy⟩, ⟨⟨x, ?_⟩, st'.1.at fun o q => (sb.2 it (Ne.symm hne)).trans q, hne, hai, hea⟩, fun b hb => ?_⟩
    · have e1 : ((i + 1 : Nat) : Int) = (i : Int) + 1 := by omega
      rw [e1]
      exact he'
    · have lt : b < s.heap.objs.size := by
        rcases (show b = e ∨ b = it by simpa using hb) with z | z
        · rw [z]; exact ltE
        · rw [z]; exact ltI
      rw [upd_ne (Nat.ne_of_lt lt)]
      exact (hf b hb).1
  done := by
    intro X hP hw hK hc i pins s σ H E I hf st hg
    subst hP hw hK
    obtain ⟨⟨old, he⟩, hit, hne, hai, hea⟩ := st
    obtain ⟨ys, hq, hle⟩ := hg
    obtain ⟨its, rv, p, hz⟩ := I.tuple hq
    obtain ⟨f0, f1, f2, f3, f4, f5⟩ := hf it (by simp)
    have isT : s.heap.IsTuple a its.toArray := p
    have len := rv.length
    have DD := Draws.tuple (prog := X.prog) (w := X.w) (A := X.A.in1) (I.ok.hd hc) it a hai its.toArray
    unfold pyNext
    refine wpAny_bind (wpAny_attempt (wpAny_callSpecial?_slot (name := Str.ofString "__next__") ⟨_, he, rfl⟩ F.slot_enumerate_next
      (wpAny_call_entry F.slot_enumerate_next ⟨_, he, rfl⟩ F.entry_enumerate_next ?_ (F.args_enumerate_next_1 _))))
    show wpAny _ _ (field (.ref e) 2 >>= _) _ _ _
    refine wpAny_bind (wpAny_field he rfl (x := .ref it) rfl ?_)
    refine wpAny_bind (wpAny_nextOf_tuple_end (I.ok.hd hc) hit isT (by simp; omega) fun h' x he' hx' => ?_)
    obtain ⟨o, ho, hcl⟩ := hx'
    refine wpAny_bind (wpAny_isInstance (T := "StopIteration") (b := true) ⟨o, ho, hcl⟩ isSubtype_stop ?_)
    exact wpAny_pure ⟨rfl, I.turned (t' := s.toks) (fun b o hb q => he' b o hb q) f0 f1 f3 f4 f5⟩
  self := by
    rintro A i s Q E ⟨⟨_, he⟩, _⟩ h
    exact wpAny_pyIter_enum he h
def iEnT (K : PySem.W.Frag) (ta : TA) : TI := fun σ H R => ta σ H fun vs H1 => ∃ a ys, vs = [.ref a] ∧ SqT K H1 a ys ∧ R (Iet K a) H1
theorem pi_enT {X : Cx} {e : Expr} {ta : TA} {p pos tpos : Pos} {elts : List Expr} {kk : Nat} (hg : Gl X "enumerate") (hm : X.mg "enumerate" = none) (ha : PA X [e] ta) (hs : starEach [e] X.env = [(false, eval e X.env)] := by rfl) :
    PI X (.Tuple elts kk tpos) (.Call (.Name "enumerate" p) [e] [] pos) (iEnT X.K ta) := by
  constructor
  intro pins s σ H R I h
  refine Call_ (ld_blt I hg hm boot_enumerate (PyProof.Rows.callWith_type1 (thn (ha.run pos pins s σ H _ I h) fun us s1 hh => ?_) hs rfl))
  obtain ⟨vs, H1, I1, r1, a, ys, ev, hq, q⟩ := hh
  subst ev
  cases r1 with
  | cons r rr =>
    cases rr
    cases r
    obtain ⟨its, rv, p', hz⟩ := I1.tuple hq
    have isT : s1.heap.IsTuple a its.toArray := p'
    have lta : a < s1.heap.objs.size := by obtain ⟨o, ho, _⟩ := isT; exact Heap.lt_size ho
    refine DgLow.enum_begin1 (begins_tuple a its.toArray) isT fun h' he hit hsz hk => wpAny_pyIter_enum he ?_
    have I2 : Inv X pins σ H1 { s1 with heap := h' } := I1.kept (t' := s1.toks) hk
    refine ⟨s1.heap.objs.size + 1, [s1.heap.objs.size + 1, s1.heap.objs.size], _, _, H1, rfl, I2, turn_iet a (s1.heap.objs.size + 1) s1.heap.objs.size, ⟨⟨.none, he⟩, ⟨_, hit, rfl, rfl⟩, Nat.succ_ne_self _, Nat.ne_of_lt lta, fun z => ?_⟩, fun b hb => ?_, q⟩
    · exact absurd (z ▸ lta : s1.heap.objs.size + 1 < s1.heap.objs.size) (by omega)
    · have hle : s1.heap.objs.size ≤ b := by
        rcases (show b = s1.heap.objs.size + 1 ∨ b = s1.heap.objs.size by simpa using hb) with z | z
        · rw [z]; exact Nat.le_succ _
        · rw [z]; exact Nat.le_refl _
      exact I1.fpOk hle (I1.hok.fresh hle)
theorem walk_iet {K : PySem.W.Frag} {a : Addr} {xs : List V} : Walk (Iet K a) xs.length (fun H => SqT K H a xs) (YPair (fun i => some (.int (i : Nat))) (fun i => xs[i]?)) := by
  refine ⟨fun i H hi q => ⟨xs, xs[i], q, by simp [hi]⟩, fun H q => ⟨xs, q, Nat.le_refl _⟩, ?_⟩
  rintro i H v H' _ q ⟨T, x, h1, h2, h3, h4⟩
  exact ⟨T, .int (i : Nat), x, h1, h2, h3, rfl, h4 xs q⟩

/-! ### a class in a local name is called -/
def tMkL (i : Nat) (C : Addr) (sp : Sp) (dvs : List V) (E : XK) (t : TA) : TE := fun σ H Q => σ[i]? = some (some (.ref C)) ∧ tMake C sp dvs E t σ H Q
theorem pe_mkL {X : Cx} {CX : CXT} {k i : Nat} {f C : Addr} {fd : FuncData} {ps : List Str} {sp : Sp} {dvs : List V} {ds : List Value} {E : XK} {x : Str} {p pos : Pos} {e : Expr} {es : List Expr} {t : TA}
    (M : Mk X.K C f) (F : FnOk X.prog X.w X.K X.mg X.base CX k f fd ps sp) (hr : Room (k + 1) X.A) (hN : X.N[i]? = some x) (hv : Vis X.env.scope x) (hb : Binds X.K fd ps ds) (hd : Vals dvs ds) (hx : Passes CX X E) (ha : PA X (e :: es) t)
    (hdb : (x == ("__debug__" : Str)) = false := by decide) (hcd : (x == ("__classdict__" : Str)) = false := by decide)
    (he : starEach (e :: es) X.env = (false, eval e X.env) :: starEach es X.env := by rfl) (hpl : (backTo pos (starEach es X.env)).any (·.1) = false := by rfl) :
    PE X (.Call (.Name x p) (e :: es) [] pos) (tMkL i C sp dvs E t) := by
  constructor
  intro pins s σ H Q I h
  obtain ⟨hs, ht⟩ := h
  have look := (pe_var (pos := p) hN hv hdb hcd).run pins s σ H (fun v H1 => v = .ref C ∧ H1 = H) I ⟨.ref C, hs, rfl, rfl⟩
  refine wpAny_Call_Name_kw (thn look fun u s1 hh => ?_)
  obtain ⟨v, H1, I1, r1, rfl, rfl⟩ := hh
  cases r1
  refine PySem.W.callWith_K (h₀ := X.base) I.ok.mod.kin M.kp (thn (ha.run pos pins s1 σ _ _ I1 ht) fun us s2 h2 => ?_) he hpl
  obtain ⟨vs, H2, I2, r, q⟩ := h2
  exact ⟨I2.kIn, run_make M F hr hb hd hx I2 r q⟩

/-! ### repr of data, where no repr is under way -/
def rRepr (K : PySem.W.Frag) : List V → Hp → VK → Prop := fun xs H Q => ∃ (a : Addr) (d : PyData), xs = [.ref a] ∧ Dp K H (.ref a) d ∧ d.showable = true ∧ d.hasDict = false ∧ d.depth ≤ 60 ∧ d.shown.length ≤ sizeLine ∧ Q (.str d.shown) H
theorem call_repr {X : Cx} {k : Nat} (hg : X.A.guards = some []) (hr : Room k X.A) : CallR X (.builtin "repr") (rRepr X.K) := by
  intro pins s σ H xs us Q I r h
  obtain ⟨a, d, rfl, hd, h1, h2, h3, h4, q⟩ := h
  obtain ⟨u, rfl, ru⟩ := vals1 r
  obtain ⟨as, rd⟩ := Dp.reads I d _ _ hd ru
  cases ru
  have room := hr.units
  refine repr_of_reads' rd h1 (fun e => by rw [h2] at e; cases e) hg (by omega) (fun _ _ e => e) (fun h' u tk hk => ?_) h4
  exact ⟨.str d.shown, H, I.kept (t' := tk) hk, ⟨u, rfl⟩, q⟩
end Dg

namespace Dg
open PySem PySem.Spec PyProof.Rows L2
/-! ### promises that hold where no repr is under way -/
structure FnG (P : Program) (w : World) (K : PySem.W.Frag) (mg : Str → Option Value) (base : Heap) (CX : CXT) (k : Nat) (f : Addr) (fd : FuncData) (ps : List Str) (sp : Sp) : Prop where
  many : ∀ vs H Q E, sp vs H Q E → vs.length = ps.length
  go : ∀ (A : Around) (outer : List Env) (s : Shared) (H : Hp) (args : Args) (us : List Value) (vs : List V) (Q : VK) (E : XK), A.guards = some [] → Room k A →
    Env0 P w K mg base A outer s H → BindsTo s fd args (ps.zip us) → Vals vs us → sp vs H Q E → codeAny (model P w) A (.call (.ref f) args) (CR CX outer P w H s Q E) s
theorem FnG.of {P : Program} {w : World} {K : PySem.W.Frag} {mg : Str → Option Value} {base : Heap} {CX : CXT} {k : Nat} {f : Addr} {fd : FuncData} {ps : List Str} {sp : Sp} (F : FnOk P w K mg base CX k f fd ps sp) : FnG P w K mg base CX k f fd ps sp :=
  ⟨F.len, fun A outer s H args us vs Q E _ hr => F.run A outer s H args us vs Q E hr⟩
theorem FnG.mono {P : Program} {w : World} {K : PySem.W.Frag} {mg : Str → Option Value} {base : Heap} {CX : CXT} {j k : Nat} {f : Addr} {fd : FuncData} {ps : List Str} {sp : Sp} (F : FnG P w K mg base CX j f fd ps sp) (h : j ≤ k) : FnG P w K mg base CX k f fd ps sp :=
  ⟨F.many, fun A outer s H args us vs Q E hg hr => F.go A outer s H args us vs Q E hg (hr.mono h)⟩
theorem deeper_guards {A : Around} {env : Env} (h : A.guards = some []) : (A.deeper env).guards = some [] := h
section
variable {CX : CXT} {P : Program} {w : World} {K : PySem.W.Frag} {mg : Str → Option Value} {base : Heap} {k : Nat}
/-- by a body -/
theorem fnG_body {f : Addr} {name qual : Str} {params : Arguments} {body : List Stmt} {scope : Scope} {dV kV doc pm cdv ct oc : Value} {an od : Option Addr} {osl : Array (Option Value)} {N ps : List Str} {sp : Sp}
    (lk : K.lookup f = some ⟨oc, od, .func (PySem.W.fnOf name qual params body scope dV kV doc pm an cdv ct), osl⟩) (hcd : PySem.W.codeIn K cdv qual = true) (S : FnScope N ps scope) (len : ∀ vs H Q E, sp vs H Q E → vs.length = ps.length)
    (B : ∀ (A : Around) (outer : List Env) (s : Shared) (H : Hp) (vs : List V) (Q : VK) (E : XK), A.guards = some [] → Room k (A.deeper (envOfC qual scope s.heap.objs.size f cdv)) → sp vs H Q E →
      ∃ t, PSs (cxOf CX P w K mg base N qual scope f cdv A outer s H E) body t ∧ t { nx := fun _ H' => Q .non H', rt := Q } (start N vs) H) :
    FnG P w K mg base CX (k + 1) f (PySem.W.fnOf name qual params body scope dV kV doc pm an cdv ct) ps sp := by
  constructor
  · exact len
  intro A outer s H args us vs Q E hg hr e0 hb r hsp
  have many := len _ _ _ _ hsp
  have inK : K.In s.heap := e0.mod.kin.keeps fun b o e => (e0.bs b o e).1
  have free : s.heap.NoLimit := e0.mod.nolimit.keeps fun b o e => (e0.bs b o e).1
  refine codeAny_call_function hr.depth (inK _ _ lk) rfl S.co S.gen rfl (PySem.W.codeRec_of inK hcd) (hb _ _ _ _ ?_)
  refine wpAny_newFunctionEnv_cells S.kind ?_ fun env he s1 x => ?_
  · rintro ⟨n, v⟩ hy
    rcases S.par n (List.of_mem_zip hy).1 with q | q
    · exact Or.inl q
    · exact Or.inr ⟨q, PySem.W.cellsFrom_some _ _ _ (Or.inl q)⟩
  subst he
  refine ⟨free.keeps x.toInCall.keep, codeAny_func ?_⟩
  obtain ⟨t, ht, hq⟩ := B A outer s H vs Q E hg (hr.deeper _) hsp
  have I := inv_start (CX := CX) (P := P) (w := w) (mg := mg) (base := base) (E := E) S hr.hd e0 many r x
  refine wpAny_mono (ht.run [] s1 (start N vs) H _ I hq) ?_ fun e s' hs => hs
  intro fl s' hs
  cases fl with
  | next =>
    obtain ⟨σ', H', J, q⟩ := hs
    exact ⟨V.non, H', J.os, J.bare, J.base, J.hok, rfl, q⟩
  | ret u =>
    obtain ⟨v, σ', H', J, rv, q⟩ := hs
    exact ⟨v, H', J.os, J.bare, J.base, J.hok, rv, q⟩
  | brk => exact hs.elim fun _ hs => hs.elim fun _ hs => hs.2.elim
  | cont => exact hs.elim fun _ hs => hs.elim fun _ hs => hs.2.elim
theorem funG {x qual : Str} {st : Stmt} {f : Addr} {fd : FuncData} {N ps : List Str} {sp : Sp} (F : Fun K x qual st f fd) (S : FnScope N ps (defScope st)) (len : ∀ vs H Q E, sp vs H Q E → vs.length = ps.length)
    (B : ∀ (cdv : Value) (A : Around) (outer : List Env) (s : Shared) (H : Hp) (vs : List V) (Q : VK) (E : XK), (A.deeper (envOfC qual (defScope st) s.heap.objs.size f cdv)).guards = some [] → Room k (A.deeper (envOfC qual (defScope st) s.heap.objs.size f cdv)) → sp vs H Q E →
      ∃ t, PSs (cxOf CX0 P w K mg base N qual (defScope st) f cdv A outer s H E).nox (defBody st) t ∧ t { nx := fun _ H' => Q .non H', rt := Q } (start N vs) H) : FnG P w K mg base CX0 (k + 1) f fd ps sp := by
  obtain ⟨oc, od, kV, doc, pm, an, cdv, ct, osl, rfl, lk, hcd⟩ := F.ex
  refine fnG_body lk hcd S len fun A outer s H vs Q E hg hr hsp => ?_
  obtain ⟨t, h, q⟩ := B cdv A outer s H vs Q E (deeper_guards hg) hr hsp
  exact ⟨t, h.nox, q⟩
end
section
variable {X : Cx} {CX : CXT} {k : Nat} {f : Addr} {fd : FuncData} {ps : List Str} {sp : Sp} {dvs : List V} {ds : List Value} {E : XK} {x : Str} {p pos : Pos} {e : Expr} {es : List Expr} {t : TA}
theorem run_G {pins : List (Addr × Obj)} {σ : L2.St} {H : Hp} {s : Shared} {Q : VK} {us : List Value} {vs : List V} (F : FnG X.prog X.w X.K X.mg X.base CX k f fd ps sp) (hg : X.A.guards = some []) (hr : Room k X.A) (hb : Binds X.K fd ps []) (hx : Passes CX X E)
    (I : Inv X pins σ H s) (r : Vals vs us) (h : sp vs H Q E) : wpAny (model X.prog X.w) X.A (call (.ref f) us) (EP X pins σ Q) X.xe s := by
  have many := F.many _ _ _ _ h
  have lus : us.length = ps.length := r.length.symm.trans many
  refine wpAny_call (codeAny_mono (F.go X.A X.stack s H ⟨us, []⟩ us vs Q E hg hr I.env0 (by simpa using hb s us I.kIn (by simpa using lus)) r h) ?_)
  intro res s' hq
  cases res with
  | error er => exact hx pins σ H s er s' I hq
  | ok fl =>
    cases fl with
    | ret u => exact I.after hq
    | next => exact hq.elim
    | brk => exact hq.elim
    | cont => exact hq.elim
theorem pe_callG (F : FnG X.prog X.w X.K X.mg X.base CX k f fd ps sp) (hgd : X.A.guards = some []) (hr : Room k X.A) (hg : Gl X x) (hm : X.mg x = some (.ref f)) (hk : PySem.W.keepIn X.K (.ref f) = true) (hb : Binds X.K fd ps []) (hx : Passes CX X E) (ha : PA X (e :: es) t)
    (hdb : (x == ("__debug__" : Str)) = false := by decide) (he : starEach (e :: es) X.env = (false, eval e X.env) :: starEach es X.env := by rfl) (hpl : (backTo pos (starEach es X.env)).any (·.1) = false := by rfl) :
    PE X (.Call (.Name x p) (e :: es) [] pos) (tCall sp [] E t) := by
  constructor
  intro pins s σ H Q I h
  refine wpAny_Call_Name_kw (ld_glob I hg hm ?_ hdb)
  refine PySem.W.callWith_K (h₀ := X.base) I.ok.mod.kin hk (thn (ha.run pos pins s σ H _ I h) fun us s1 hh => ?_) he hpl
  obtain ⟨vs, H1, I1, r, q⟩ := hh
  rw [List.append_nil] at q
  exact ⟨I1.kIn, run_G F hgd hr hb hx I1 r q⟩
end
/-! ### a law's end: it is called where nothing runs -/
/-- the abstract heap at the law's call: the script alone, locked; nothing, where it is the module's own -/
def hp0 (own : Bool) (a : Addr) (o : Obj) (xs : List V) : Hp := fun b => if own = false ∧ b = a then some (.frz o (.lst xs)) else none
theorem hp0_some {own : Bool} {a b : Addr} {o : Obj} {xs : List V} {u : HO} (h : hp0 own a o xs b = some u) : own = false ∧ b = a ∧ u = .frz o (.lst xs) := by
  unfold hp0 at h
  by_cases c : own = false ∧ b = a
  · rw [if_pos c] at h
    exact ⟨c.1, c.2, (Option.some.inj h).symm⟩
  · rw [if_neg c] at h
    cases h
theorem law_go {P : Program} {w : World} {K : PySem.W.Frag} {mg mb : Str → Option Value} {k : Nat} {fa a : Addr} {fd : FuncData} {x : Str} {sp : Sp} {s1 : Shared} {vs : List Value} {ns : List Int}
    (inK : K.In s1.heap) (main : s1.heap.Ns mainGlobals mg) (blt : s1.heap.Ns builtinsNs mb) (boot : ∀ x : Str, x ≠ "__name__" → mb x = bootBuiltins x) (free : s1.heap.NoLimit) (gens : s1.gens = #[])
    (obj : s1.heap.get? a = some { cls := .type "list", data := .seq vs.toArray }) (hns : IntsAre vs ns) (few : ns.length ≤ sizeLine) (hr : Room k callerA)
    (F : ∀ base : Heap, K.In base → base.Ns mainGlobals mg → FnG P w K mg base CX0 k fa fd [x] sp) (bind : ∀ (s : Shared) (u : Value), BindsTo s fd ⟨[u], []⟩ [(x, u)])
    (hsp : ∀ H : Hp, SqL K H a (ns.map V.int) → (∀ b u, H b = some u → b = a) → (∀ xs, H a ≠ some (.lst xs)) → sp [.ref a] H (fun v _ => v = .bl true) fun _ _ _ => False) :
    codeAny (model P w) callerA (.call (.ref fa) ⟨[.ref a], []⟩) (fun r s' => r = .ok (.ret (.bool true)) ∧ OldK s1.heap s'.heap ∧ s'.os = s1.os ∧ AllBare s'.gens) s1 := by
  have vals := vals_ints hns
  have lenV : vs.length = ns.length := hns.length
  have run : ∀ own : Bool, (own = true → K.lookup a = some { cls := .type "list", data := .seq vs.toArray }) → (own = false → K.lookup a = none) →
      codeAny (model P w) callerA (.call (.ref fa) ⟨[.ref a], []⟩) (fun r s' => r = .ok (.ret (.bool true)) ∧ OldK s1.heap s'.heap ∧ s'.os = s1.os ∧ AllBare s'.gens) s1 := by
    intro own h1 h2
    generalize eH : hp0 own a { cls := .type "list", data := .seq vs.toArray } (ns.map V.int) = H
    have known : ∀ b u, H b = some u → own = false ∧ b = a ∧ u = .frz { cls := .type "list", data := .seq vs.toArray } (.lst (ns.map V.int)) := fun b u e => hp0_some (by rw [eH]; exact e)
    have seq : SqL K H a (ns.map V.int) := by
      cases own with
      | true => exact .inr ⟨_, vs.toArray, _, h1 rfl, rfl, rfl, rfl, by rw [List.size_toArray, lenV]; exact few, by simpa using vals⟩
      | false => exact .inl (.inr ⟨{ cls := .type "list", data := .seq vs.toArray }, by rw [← eH]; unfold hp0; rw [if_pos ⟨rfl, rfl⟩]⟩)
    have ok : HOk P w H s1.heap := by
      intro b u e
      obtain ⟨_, rfl, rfl⟩ := known b u e
      exact ⟨obj, by rw [List.length_map]; exact few, vs, _, vals, obj⟩
    have still : ∀ {b : Addr} {o : Obj}, s1.heap.get? b = some o → H b = none → (hidT s1.heap H).get? b = some o := fun e n => hidT_get e n
    have apart : ∀ {b : Addr} {o : Obj} {es : Array DictEntry} {ep : Nat}, s1.heap.get? b = some o → o.data = .dict es ep → H b = none := by
      intro b o es ep e d
      cases q : H b with
      | none => rfl
      | some u =>
        obtain ⟨_, rfl, _⟩ := known b u q
        rw [obj] at e
        cases e
        exact nomatch (show Data.seq vs.toArray _ = Data.dict es ep from d)
    have names : ∀ {b : Addr} {m : Str → Option Value}, s1.heap.Ns b m → (hidT s1.heap H).Ns b m := by
      rintro b m ⟨o, es, ep, e, d, r⟩
      exact ⟨o, es, ep, still e (apart e d), d, r⟩
    have baseK : K.In (hidT s1.heap H) := by
      intro b o e
      refine still (inK b o e) ?_
      cases q : H b with
      | none => rfl
      | some u =>
        obtain ⟨ho, rfl, _⟩ := known b u q
        rw [h2 ho] at e
        cases e
    obtain ⟨mc, c1, c2⟩ := free
    have md : Mod K mg (hidT s1.heap H) := ⟨baseK, names main, ⟨mb, names blt, boot⟩, mc, names c1, c2⟩
    have e0 : Env0 P w K mg (hidT s1.heap H) callerA [] s1 H := ⟨rfl, md, fun b o e => of_hidT e, Nat.le_of_eq (hidT_size _ _), trivial, fun b hb => absurd (show b ∈ ([] : List Addr) from hb) (by simp), ok, .of_eq gens⟩
    have wish := hsp H seq (fun b u e => (known b u e).2.1) (fun xs e => nomatch (known a _ e).2.2)
    refine codeAny_mono ((F _ baseK (names main)).go callerA [] s1 H ⟨[.ref a], []⟩ [.ref a] [.ref a] _ _ rfl hr e0 (bind s1 (.ref a)) (.cons rfl .nil) wish) ?_
    intro r s' h
    cases r with
    | error e => exact (show False from h).elim
    | ok fl =>
      cases fl with
      | next => exact h.elim
      | brk => exact h.elim
      | cont => exact h.elim
      | ret u =>
        obtain ⟨v, H', os, bare, un, ok', rv, q⟩ := h
        obtain rfl : v = .bl true := q
        obtain rfl : u = Value.bool true := rv
        refine ⟨rfl, OldK.of_keep ?_, os, bare⟩
        intro b o e
        cases q : H b with
        | none => exact un.keep b o e q (fun z => absurd (show b ∈ ([] : List Addr) from z) (by simp)) (by simp)
        | some u =>
          obtain ⟨_, rfl, rfl⟩ := known b u q
          obtain ⟨e1, _⟩ := ok b _ q
          obtain ⟨e2, _⟩ := ok' b _ (un.frzs b _ _ q)
          rw [e] at e1
          cases e1
          exact e2
  cases hk : K.lookup a with
  | none => exact run false (fun z => nomatch z) fun _ => hk
  | some o =>
    have e := inK a o hk
    rw [obj] at e
    cases e
    exact run true (fun _ => hk) fun z => nomatch z
/-- a law row's end: the script's numbers have at most 2 ^ 20 bits -/
theorem walk_G {l : PySem.W.OpenLaw} {n k : Nat} {q : Program} {loose : List Str} {XP : (Str → Option Value) → Heap → Prop} {YP : World → Heap → Prop} {d : DefRec} {K : Params → PySem.W.Frag} {sp : World → Sp} {x : Str}
    (most : l.most = some n) (few : n ≤ sizeLine) (hdf : d.params.defaults = []) (hr : Room k callerA) (hY : ∀ (w : World) (h : Heap), YP w h → (K w.params).In h)
    (F : ∀ (w : World) (mg : Str → Option Value) (fa : Addr) (h : Heap), (K w.params).In h → h.Ns mainGlobals mg → mg d.name = some (.ref fa) →
      ∃ fd : FuncData, (∀ (s : Shared) (u : Value), BindsTo s fd ⟨[u], []⟩ [(x, u)]) ∧ ∀ base : Heap, (K w.params).In base → base.Ns mainGlobals mg → FnG l.prog w (K w.params) mg base CX0 k fa fd [x] (sp w))
    (hsp : ∀ (w : World) (H : Hp) (a : Addr) (ns : List Int), ns.length ≤ n → (∀ z ∈ ns, Builtin.Int.intBits z ≤ 1048576) → SqL (K w.params) H a (ns.map V.int) → (∀ b u, H b = some u → b = a) → (∀ xs, H a ≠ some (.lst xs)) →
      sp w [.ref a] H (fun v _ => v = .bl true) fun _ _ _ => False) :
    PySem.W.WalkO q loose XP YP l.row.toRowW d [] (fun f vs => PySem.call f vs) := by
  refine Att.attach_callB most hdf ?_
  intro w s0 s1 mg mb fa o pm cd doc a vs ns G Y ho hd hcd hmg obj hns len bits gens
  obtain ⟨fd, hb, hF⟩ := F w mg fa _ (hY w _ Y) G.T.g hmg
  exact law_go (hY w _ Y) G.T.g G.T.b G.T.builtins G.T.nolimit gens obj hns (Nat.le_trans len few) hr hF hb fun H h1 h2 h3 => hsp w H a ns len bits h1 h2 h3
end Dg

namespace Dg
open PySem PySem.Spec PyProof.Rows L2
abbrev HSt := L2.St
/-! ### heaps -/
/-- what never changes once it is made -/
def Frozen : HO → Prop
  | .tup _ => True
  | .ins _ _ _ => True
  | .own _ => True
  | .frz _ _ => True
  | _ => False
/-- what never changes is kept -/
def Kp (H H' : Hp) : Prop := ∀ b o, Frozen o → H b = some o → H' b = some o
/-- all but l is kept -/
def But (l : Addr) (H H' : Hp) : Prop := ∀ b o, b ≠ l → H b = some o → H' b = some o
theorem Kp.refl {H : Hp} : Kp H H := fun _ _ _ h => h
theorem Kp.trans {H H1 H2 : Hp} (a : Kp H H1) (b : Kp H1 H2) : Kp H H2 := fun c o f h => b c o f (a c o f h)
theorem Kp.same {H H' : Hp} (e : Same H H') : Kp H H' := fun b o _ h => e b o h
theorem But.refl {l : Addr} {H : Hp} : But l H H := fun _ _ _ h => h
theorem But.trans {l : Addr} {H H1 H2 : Hp} (a : But l H H1) (b : But l H1 H2) : But l H H2 := fun c o f h => b c o f (a c o f h)
theorem But.same {l : Addr} {H H' : Hp} (e : Same H H') : But l H H' := fun b o _ h => e b o h
theorem Kp.but {l : Addr} {H H' : Hp} {o : HO} (e : But l H H') (h : H l = some o) (f : ¬ Frozen o) : Kp H H' := fun b u fu hb => e b u (fun z => by
  subst z
  rw [h] at hb
  cases hb
  exact f fu) hb
theorem Kp.butL {l : Addr} {H H' : Hp} {xs : List V} (e : But l H H') (h : H l = some (.lst xs)) : Kp H H' := Kp.but e h (fun z => z)
theorem Kp.butD {l : Addr} {H H' : Hp} {kvs : List (Key × V)} (e : But l H H') (h : H l = some (.dK kvs)) : Kp H H' := Kp.but e h (fun z => z)
theorem same_of_but {l : Addr} {H H1 H2 : Hp} (a : Same H H1) (b : But l H1 H2) (h : H l = none) : Same H H2 := fun c o hc => b c o (fun z => by rw [z, h] at hc; cases hc) (a c o hc)
theorem but_new {l p : Addr} {H H1 H2 : Hp} (a : But l H H1) (b : But p H1 H2) (h : H p = none) : But l H H2 := fun c o n hc => b c o (fun z => by rw [z, h] at hc; cases hc) (a c o n hc)
theorem Same.none {H H' : Hp} {p : Addr} (e : Same H H') (h : H' p = none) : H p = none := e.free h
theorem ne_new {H : Hp} {a p : Addr} {o : HO} (h : H a = some o) (hp : H p = none) : a ≠ p := ne_of_none h hp
def New (H : Hp) (o : HO) (Q : VK) : Prop := ∀ p, H p = none → Q (.ref p) (upd H p o)
theorem r_new {H : Hp} {o : HO} {Q : VK} (h : ∀ p H', H p = none → Same H H' → H' p = some o → Q (.ref p) H') : New H o Q := fun p hp =>
  h p _ hp (fun b u e => by rw [upd_ne (ne_of_none e hp)]; exact e) upd_same
def Put (l : Addr) (H : Hp) (o : HO) (R : Hp → Prop) : Prop := R (upd H l o)
theorem r_put {l : Addr} {H : Hp} {o : HO} {R : Hp → Prop} (h : ∀ H', But l H H' → H' l = some o → (∀ b, b ≠ l → H' b = H b) → R H') : Put l H o R :=
  h _ (fun b u n e => by rw [upd_ne n]; exact e) upd_same fun b n => upd_ne n
/-! ### data that never changes -/
mutual
inductive Fz (H : Hp) : V → PyData → Prop
  | non : Fz H .non .none
  | bl (b : Bool) : Fz H (.bl b) (.bool b)
  | int (i : Int) : Fz H (.int i) (.int i)
  | str (x : Str) : Fz H (.str x) (.str x)
  | tup {a : Addr} {xs : List V} {ds : List PyData} : H a = some (.tup xs) → FzAll H xs ds → Fz H (.ref a) (.tuple ds)
inductive FzAll (H : Hp) : List V → List PyData → Prop
  | nil : FzAll H [] []
  | cons {v : V} {vs : List V} {d : PyData} {ds : List PyData} : Fz H v d → FzAll H vs ds → FzAll H (v :: vs) (d :: ds)
end
mutual
theorem Fz.kp {H H' : Hp} (e : Kp H H') : ∀ {d : PyData} {v : V}, Fz H v d → Fz H' v d
  | _, _, .non => .non
  | _, _, .bl b => .bl b
  | _, _, .int i => .int i
  | _, _, .str x => .str x
  | _, _, .tup h hs => .tup (e _ _ True.intro h) (FzAll.kp e hs)
theorem FzAll.kp {H H' : Hp} (e : Kp H H') : ∀ {ds : List PyData} {vs : List V}, FzAll H vs ds → FzAll H' vs ds
  | _, _, .nil => .nil
  | _, _, .cons h t => .cons (Fz.kp e h) (FzAll.kp e t)
end
mutual
theorem Fz.dp {K : PySem.W.Frag} {H : Hp} : ∀ {d : PyData} {v : V}, Fz H v d → Dp K H v d
  | _, _, .non => .non
  | _, _, .bl b => .bl b
  | _, _, .int i => .int i
  | _, _, .str x => .str x
  | _, _, .tup h hs => .tup (SqT.of h) (FzAll.dp hs)
theorem FzAll.dp {K : PySem.W.Frag} {H : Hp} : ∀ {ds : List PyData} {vs : List V}, FzAll H vs ds → DpAll K H vs ds
  | _, _, .nil => .nil
  | _, _, .cons h t => .cons (Fz.dp h) (FzAll.dp t)
end
theorem FzAll.len {H : Hp} : ∀ {vs : List V} {ds : List PyData}, FzAll H vs ds → vs.length = ds.length
  | _, _, .nil => rfl
  | _, _, .cons _ t => congrArg Nat.succ (FzAll.len t)
theorem FzAll.at {H : Hp} : ∀ {vs : List V} {ds : List PyData} {i : Nat} {v : V}, FzAll H vs ds → vs[i]? = some v → ∃ d, ds[i]? = some d ∧ Fz H v d
  | _, _, _, _, .nil, h => by simp at h
  | _, _, 0, _, .cons h _, e => by
    simp at e
    subst e
    exact ⟨_, rfl, h⟩
  | _, _, i + 1, v, .cons _ t, e => by
    have e' := e
    simp at e'
    obtain ⟨d, h1, h2⟩ := FzAll.at t e'
    exact ⟨d, by simpa using h1, h2⟩
theorem FzAll.snoc {H : Hp} : ∀ {vs : List V} {ds : List PyData} {v : V} {d : PyData}, FzAll H vs ds → Fz H v d → FzAll H (vs ++ [v]) (ds ++ [d])
  | _, _, _, _, .nil, h => .cons h .nil
  | _, _, _, _, .cons a t, h => .cons a (FzAll.snoc t h)
theorem FzAll.ints {H : Hp} : ∀ (ns : List Int), FzAll H (ns.map V.int) (ns.map PyData.int)
  | [] => .nil
  | n :: r => .cons (.int n) (FzAll.ints r)
theorem FzAll.ints_inv {H : Hp} : ∀ {ns : List Int} {vs : List V}, FzAll H vs (ns.map PyData.int) → vs = ns.map V.int
  | [], _, .nil => rfl
  | n :: r, _, .cons h t => by
    cases h
    rw [FzAll.ints_inv t]
    rfl
/-! ### readings, statement by statement -/
section
variable {σ : HSt} {H : Hp} {Q : VK} {te ta tb tc : TE} {t u : TS} {n bk ct : HSt → Hp → Prop} {r : VK} {g g1 g2 : TG} {i j : Nat} {v x y : V} {K : PySem.W.Frag}
theorem r_seq (h : t ⟨u ⟨n, r, bk, ct⟩, r, bk, ct⟩ σ H) : tSeq t u ⟨n, r, bk, ct⟩ σ H := h
theorem r_next (h : n σ H) : tNext ⟨n, r, bk, ct⟩ σ H := h
theorem r_cont (h : ct σ H) : tCont ⟨n, r, bk, ct⟩ σ H := h
theorem r_break (h : bk σ H) : tBreak ⟨n, r, bk, ct⟩ σ H := h
theorem r_asg (h : te σ H fun x H1 => g x σ H1 n) : tAsg te g ⟨n, r, bk, ct⟩ σ H := h
theorem r_ret (h : te σ H r) : tRet te ⟨n, r, bk, ct⟩ σ H := h
theorem r_retN (h : r .non H) : tRetN ⟨n, r, bk, ct⟩ σ H := h
theorem r_drop (h : te σ H fun _ H1 => n σ H1) : tDrop te ⟨n, r, bk, ct⟩ σ H := h
theorem r_name {R : HSt → Hp → Prop} (h : R (σ.set i (some v)) H) : gName i v σ H R := h
theorem r_var (e : σ[i]? = some (some v)) (h : Q v H) : tVar i σ H Q := ⟨v, e, h⟩
theorem r_c (h : Q v H) : tC v σ H Q := h
theorem r_op {rr : R2} (h : ta σ H fun x H1 => tb σ H1 fun y H2 => rr x y H2 Q) : tOp rr ta tb σ H Q := h
theorem r_un {rr : V → Hp → VK → Prop} (h : ta σ H fun x H1 => rr x H1 Q) : tUn rr ta σ H Q := h
theorem r_cb {rr : List V → Hp → VK → Prop} {t : TA} (h : t σ H fun vs H1 => rr vs H1 Q) : tCB rr t σ H Q := h
theorem r_ckw {rr : List V → List V → Hp → VK → Prop} {t tk : TA} (h : t σ H fun vs H1 => tk σ H1 fun zs H2 => rr vs zs H2 Q) : tCKw rr t tk σ H Q := h
theorem r_nil {R : List V → Hp → Prop} (h : R [] H) : tNil σ H R := h
theorem r_cons {R : List V → Hp → Prop} {tr : TA} (h : ta σ H fun x H1 => tr σ H1 fun xs H2 => R (x :: xs) H2) : tCons ta tr σ H R := h
theorem r_call {sp : Sp} {E : XK} {t : TA} (h : t σ H fun vs H1 => sp vs H1 Q E) : tCall sp [] E t σ H Q := by
  unfold tCall
  simpa using h
theorem r_ifS {tc : TT} (h : tc σ H fun b H1 => if b = true then t ⟨n, r, bk, ct⟩ σ H1 else u ⟨n, r, bk, ct⟩ σ H1) : tIfS tc t u ⟨n, r, bk, ct⟩ σ H := h
theorem r_test {R : Bool → Hp → Prop} (h : te σ H fun x H' => ∃ k, x = .bl k ∧ R k H') : tTest te σ H R := h
theorem r_B {R : Bool → Hp → Prop} (h : te σ H fun x H' => ∃ k, x = .bl k ∧ R k H') : tB te σ H R := h
theorem r_bl {R : Bool → Prop} {b : Bool} (h : R b) : ∃ k, V.bl b = V.bl k ∧ R k := ⟨b, rfl, h⟩
theorem r_and {a b : TT} {R : Bool → Hp → Prop} (h : a σ H fun c H1 => if c = true then b σ H1 R else R false H1) : tAnd a b σ H R := h
theorem r_or {a b : TT} {R : Bool → Hp → Prop} (h : a σ H fun c H1 => if c = true then R true H1 else b σ H1 R) : tOr a b σ H R := h
theorem r_not {a : TT} {R : Bool → Hp → Prop} (h : a σ H fun c H1 => R (!c) H1) : tNot a σ H R := h
theorem r_andV (h : ta σ H fun x H1 => ∃ c, x = .bl c ∧ if c = true then tb σ H1 Q else Q (.bl false) H1) : tAndV ta tb σ H Q := h
theorem r_orV (h : ta σ H fun x H1 => ∃ c, x = .bl c ∧ if c = true then Q (.bl true) H1 else tb σ H1 Q) : tOrV ta tb σ H Q := h
theorem r_notV (h : ta σ H fun x H1 => ∃ c, x = .bl c ∧ Q (.bl (!c)) H1) : tNotV ta σ H Q := h
theorem r_ifE {tt : TT} (h : tt σ H fun c H1 => if c = true then ta σ H1 Q else tb σ H1 Q) : tIf tt ta tb σ H Q := h
theorem r_t {A B : Prop} (h : A) : if true = true then A else B := iteT h
theorem r_f {A B : Prop} (h : B) : if false = true then A else B := iteF h
theorem r_dec {p : Prop} [Decidable p] {A B : Prop} (h1 : p → A) (h2 : ¬ p → B) : if decide p = true then A else B := by
  by_cases h : p
  · rw [decide_eq_true h]; exact iteT (h1 h)
  · rw [decide_eq_false h]; exact iteF (h2 h)
theorem r_ndec {p : Prop} [Decidable p] {A B : Prop} (h1 : ¬ p → A) (h2 : p → B) : if (!decide p) = true then A else B := by
  by_cases h : p
  · rw [decide_eq_true h]; exact iteF (h2 h)
  · rw [decide_eq_false h]; exact iteT (h1 h)
theorem r_yes {p : Prop} [Decidable p] {A B : Prop} (h : p) (a : A) : if decide p = true then A else B := r_dec (fun _ => a) fun z => absurd h z
theorem r_no {p : Prop} [Decidable p] {A B : Prop} (h : ¬ p) (b : B) : if decide p = true then A else B := r_dec (fun z => absurd z h) fun _ => b
theorem r_bool {b : Bool} {A B : Prop} (h1 : b = true → A) (h2 : b = false → B) : if b = true then A else B := by
  cases b with
  | true => exact iteT (h1 rfl)
  | false => exact iteF (h2 rfl)
theorem r_gnil {R : HSt → Hp → Prop} (h : R σ H) : gNil [] σ H R := ⟨rfl, h⟩
theorem r_gcons {R : HSt → Hp → Prop} {gs : TGs} {xs : List V} (h : g x σ H fun σ' H' => gs xs σ' H' R) : gCons g gs (x :: xs) σ H R := ⟨x, xs, rfl, h⟩
theorem r_gtup {R : HSt → Hp → Prop} {gs : TGs} {a : Addr} {xs : List V} {k : Nat} (h : SqT K H a xs) (hk : xs.length = k) (q : gs xs σ H R) : gTup K k gs (.ref a) σ H R := ⟨a, xs, rfl, h, hk, q⟩
/-! ### operators -/
def rAddA (K : PySem.W.Frag) : R2 := fun x y H Q => (∃ i j, x = .int i ∧ y = .int j ∧ Q (.int (i + j)) H) ∨ (∃ i j, x = .str i ∧ y = .str j ∧ i.length + j.length ≤ sizeLine ∧ Q (.str (i ++ j)) H) ∨ rCat x y H Q ∨ rCatT K x y H Q
theorem opAdd {X : Cx} : OpR X (binaryOp .Add) (rAddA X.K) := op_add.or (op_add_str.or (op_cat.or op_catT))
theorem r_addI {i j : Int} (h : Q (.int (i + j)) H) : rAddA K (.int i) (.int j) H Q := .inl ⟨i, j, rfl, rfl, h⟩
theorem r_addS {i j : Str} (l : i.length + j.length ≤ sizeLine) (h : Q (.str (i ++ j)) H) : rAddA K (.str i) (.str j) H Q := .inr (.inl ⟨i, j, rfl, rfl, l, h⟩)
theorem r_addL {l b : Addr} {xs zs : List V} (h1 : H l = some (.lst xs)) (h2 : H b = some (.lst zs)) (hz : xs.length + zs.length ≤ 100000) (h : New H (.lst (xs ++ zs)) Q) : rAddA K (.ref l) (.ref b) H Q :=
  .inr (.inr (.inl ⟨l, b, xs, zs, rfl, rfl, h1, h2, Nat.le_trans hz (by decide), h⟩))
theorem r_addT {l b : Addr} {xs zs : List V} (h1 : SqT K H l xs) (h2 : SqT K H b zs) (n1 : xs ≠ []) (n2 : zs ≠ []) (hz : xs.length + zs.length ≤ 100000) (h : New H (.tup (xs ++ zs)) Q) : rAddA K (.ref l) (.ref b) H Q :=
  .inr (.inr (.inr ⟨l, b, xs, zs, rfl, rfl, h1, h2, n1, Nat.le_trans hz (by decide), fun z => absurd z n2, fun _ => h⟩))
def rSubA : R2 := fun x y H Q => ∃ i j, x = .int i ∧ y = .int j ∧ Q (.int (i - j)) H
theorem opSub {X : Cx} : OpR X (binaryOp .Sub) rSubA := op_sub
theorem r_subI {i j : Int} (h : Q (.int (i - j)) H) : rSubA (.int i) (.int j) H Q := ⟨i, j, rfl, rfl, h⟩
def rMulI : R2 := rI IntMulOk fun i j => .int (i * j)
theorem op_mulAny {X : Cx} : OpR X (binaryOp .Mult) rMulI := opI fun _ _ _ _ _ _ _ hc q => mul_int q hc
def rMulA : R2 := fun x y H Q => rMulI x y H Q ∨ rRep x y H Q
theorem opMul {X : Cx} : OpR X (binaryOp .Mult) rMulA := op_mulAny.or op_rep
theorem mul_l {i j : Int} (h1 : -(2 ^ 64) < i) (h2 : i < 2 ^ 64) : IntMulOk i j := CMul.ok (.inl ⟨h1, h2⟩)
theorem mul_r {i j : Int} (h1 : -(2 ^ 64) < j) (h2 : j < 2 ^ 64) : IntMulOk i j := CMul.ok (.inr ⟨h1, h2⟩)
theorem mul_w {i j : Int} {a b : Nat} (ha : i.natAbs < 2 ^ a) (hb : j.natAbs < 2 ^ b) (h0 : 0 < a) (h1 : 0 < b) (h : a + b ≤ 1000000) : IntMulOk i j := (wide_mul ha hb h0 h1 h).ok
theorem r_mulI {i j : Int} (m : IntMulOk i j) (h : Q (.int (i * j)) H) : rMulA (.int i) (.int j) H Q := .inl ⟨i, j, rfl, rfl, m, h⟩
theorem r_repL {l : Addr} {k : Int} {xs : List V} (h1 : H l = some (.lst xs)) (hk : k ≤ 100000) (k0 : 0 ≤ k) (hz : xs.length * k.toNat ≤ 100000) (h : New H (.lst (List.replicate k.toNat xs).flatten) Q) : rMulA (.ref l) (.int k) H Q :=
  .inr ⟨l, k, xs, rfl, rfl, h1, by omega, by omega, Nat.le_trans hz (by decide), h⟩
def rDivA : R2 := rI CDivW fun i j => .int (i / j)
theorem opDiv {X : Cx} : OpR X (binaryOp .FloorDiv) rDivA := op_fdivW
theorem r_divI {i j : Int} (p : 0 < j) (l : j < 2 ^ 200) (h : Q (.int (i / j)) H) : rDivA (.int i) (.int j) H Q :=
  ⟨i, j, rfl, rfl, wide_div p (b := 200) (by omega) (by decide) (by decide), h⟩
def rModA : R2 := rI (fun _ j => 0 < j) fun i j => .int (i % j)
theorem opMod {X : Cx} : OpR X (binaryOp .Mod) rModA := op_mod
theorem r_modI {i j : Int} (p : 0 < j) (h : Q (.int (i % j)) H) : rModA (.int i) (.int j) H Q := ⟨i, j, rfl, rfl, p, h⟩
def rPowA : R2 := rI CPow fun i j => .int (i ^ j.toNat)
theorem opPow {X : Cx} : OpR X (binaryOp .Pow) rPowA := op_pow
theorem r_pow {i j : Int} (c : CPow i j) (h : Q (.int (i ^ j.toNat)) H) : rPowA (.int i) (.int j) H Q := ⟨i, j, rfl, rfl, c, h⟩
def rLtA : R2 := fun x y H Q => ∃ i j, x = .int i ∧ y = .int j ∧ Q (.bl (decide (i < j))) H
def rLeA : R2 := fun x y H Q => ∃ i j, x = .int i ∧ y = .int j ∧ Q (.bl (decide (i ≤ j))) H
def rGtA : R2 := fun x y H Q => ∃ i j, x = .int i ∧ y = .int j ∧ Q (.bl (decide (j < i))) H
def rGeA : R2 := fun x y H Q => ∃ i j, x = .int i ∧ y = .int j ∧ Q (.bl (decide (j ≤ i))) H
theorem opLt {X : Cx} : OpR X (compareOp .Lt) rLtA := op_lt
theorem opLe {X : Cx} : OpR X (compareOp .LtE) rLeA := op_le
theorem opGt {X : Cx} : OpR X (compareOp .Gt) rGtA := op_gt
theorem opGe {X : Cx} : OpR X (compareOp .GtE) rGeA := op_ge
theorem r_lt {i j : Int} (h : Q (.bl (decide (i < j))) H) : rLtA (.int i) (.int j) H Q := ⟨i, j, rfl, rfl, h⟩
theorem r_le {i j : Int} (h : Q (.bl (decide (i ≤ j))) H) : rLeA (.int i) (.int j) H Q := ⟨i, j, rfl, rfl, h⟩
theorem r_gt {i j : Int} (h : Q (.bl (decide (j < i))) H) : rGtA (.int i) (.int j) H Q := ⟨i, j, rfl, rfl, h⟩
theorem r_ge {i j : Int} (h : Q (.bl (decide (j ≤ i))) H) : rGeA (.int i) (.int j) H Q := ⟨i, j, rfl, rfl, h⟩
def rEqA (K : PySem.W.Frag) : R2 := fun x y H Q => rEq x y H Q ∨ rEqD K x y H Q
def rNeA (K : PySem.W.Frag) : R2 := fun x y H Q => rNe x y H Q ∨ rNeD K x y H Q
theorem opEq {X : Cx} {k : Nat} (hr : Room k X.A) : OpR X (compareOp .Eq) (rEqA X.K) := op_eq.or (op_eqD hr.units)
theorem opNe {X : Cx} {k : Nat} (hr : Room k X.A) : OpR X (compareOp .NotEq) (rNeA X.K) := op_ne.or (op_neD hr.units)
theorem r_eqI {i j : Int} (h : Q (.bl (decide (i = j))) H) : rEqA K (.int i) (.int j) H Q := .inl ⟨rfl, by
  have e : decide (V.int i = V.int j) = decide (i = j) := by
    by_cases z : i = j
    · subst z; simp
    · have z' : ¬ V.int i = V.int j := fun q => z (V.int.inj q)
      rw [decide_eq_false z, decide_eq_false z']
  rw [e]; exact h⟩
theorem r_neI {i j : Int} (h : Q (.bl (!decide (i = j))) H) : rNeA K (.int i) (.int j) H Q := .inl ⟨rfl, by
  have e : decide (V.int i = V.int j) = decide (i = j) := by
    by_cases z : i = j
    · subst z; simp
    · have z' : ¬ V.int i = V.int j := fun q => z (V.int.inj q)
      rw [decide_eq_false z, decide_eq_false z']
  rw [e]; exact h⟩
theorem r_eqS {i j : Str} (h : Q (.bl (decide (V.str i = V.str j))) H) : rEqA K (.str i) (.str j) H Q := .inl ⟨rfl, h⟩
theorem r_neS {i j : Str} (h : Q (.bl (!decide (V.str i = V.str j))) H) : rNeA K (.str i) (.str j) H Q := .inl ⟨rfl, h⟩
theorem r_eqD {x y : V} {d e : PyData} (h1 : Dp K H x d) (h2 : Dp K H y e) (s1 : SeqAt.shaped d = true) (s2 : SeqAt.shaped e = true) (h : Q (.bl (PyData.eqv d e)) H) : rEqA K x y H Q := .inr ⟨d, e, h1, h2, s1, s2, h⟩
theorem r_neD {x y : V} {d e : PyData} (h1 : Dp K H x d) (h2 : Dp K H y e) (s1 : SeqAt.shaped d = true) (s2 : SeqAt.shaped e = true) (h : Q (.bl (!PyData.eqv d e)) H) : rNeA K x y H Q := .inr ⟨d, e, h1, h2, s1, s2, h⟩
def rIsA : R2 := fun x y H Q => y = .non ∧ Q (.bl (decide (x = .non))) H
def rNotA : R2 := fun x y H Q => y = .non ∧ Q (.bl (!decide (x = .non))) H
theorem opIs {X : Cx} : OpR X (compareOp .Is) rIsA := op_isN
theorem opNot {X : Cx} : OpR X (compareOp .IsNot) rNotA := op_notN
theorem r_is (h : Q (.bl (decide (x = .non))) H) : rIsA x .non H Q := ⟨rfl, h⟩
theorem r_isnot (h : Q (.bl (!decide (x = .non))) H) : rNotA x .non H Q := ⟨rfl, h⟩
/-! ### displays, items, slices -/
def tTupN (t : TA) : TE := fun σ H Q => t σ H fun xs H1 => xs.length ≤ sizeLine ∧ New H1 (.tup xs) Q
def tLstN (t : TA) : TE := fun σ H Q => t σ H fun xs H1 => xs.length ≤ sizeLine ∧ New H1 (.lst xs) Q
theorem pe_tupN {X : Cx} {es : List Expr} {t : TA} {x1 : Nat} {pos : Pos} (h : PA X es t) : PE X (.Tuple es x1 pos) (tTupN t) := pe_tup h
theorem pe_lstN {X : Cx} {es : List Expr} {t : TA} {pos : Pos} (h : PA X es t) : PE X (.List es pos) (tLstN t) := pe_lst h
theorem r_tup {t : TA} (h : t σ H fun xs H1 => xs.length ≤ sizeLine ∧ New H1 (.tup xs) Q) : tTupN t σ H Q := h
theorem r_lst {t : TA} (h : t σ H fun xs H1 => xs.length ≤ sizeLine ∧ New H1 (.lst xs) Q) : tLstN t σ H Q := h
theorem r_fits {xs : List V} {o : HO} (hz : xs.length ≤ 100000) (h : ∀ p H', H p = none → Same H H' → H' p = some o → Q (.ref p) H') : xs.length ≤ sizeLine ∧ New H o Q := ⟨Nat.le_trans hz (by decide), r_new h⟩
def tDnew : TE := fun _ H Q => New H (.dK []) Q
theorem pe_dnew {X : Cx} {pos : Pos} : PE X (.Dict [] [] pos) tDnew := pe_dnewK
theorem r_dnew (h : ∀ p H', H p = none → Same H H' → H' p = some (.dK []) → Q (.ref p) H') : tDnew σ H Q := r_new h
def rIxA (K : PySem.W.Frag) : R2 := rIx K
theorem ixA {X : Cx} : IxR X (rIxA X.K) := ix_seq
theorem r_ixT {a : Addr} {xs : List V} {i : Int} (h : SqT K H a xs) (e : atI xs i = some v) (q : Q v H) : rIxA K (.ref a) (.int i) H Q := .inr (.inl ⟨a, xs, i, v, rfl, rfl, h, e, q⟩)
theorem r_ixL {a : Addr} {xs : List V} {i : Int} (h : SqL K H a xs) (e : atI xs i = some v) (q : Q v H) : rIxA K (.ref a) (.int i) H Q := .inl ⟨a, xs, i, v, rfl, rfl, h, e, q⟩
theorem r_dget {td ty : TE} (h : td σ H fun x H1 => ty σ H1 fun y H2 => ∃ a v, x = .ref a ∧ DGet H2 a y (some v) ∧ Q v H2) : tDGet td ty σ H Q := h
theorem r_dgetI {a : Addr} {kvs : List (Key × V)} {k : Int} {R : V → Prop} (h : H a = some (.dK kvs)) (e : valV kvs (Sum.inl k) = some v) (q : R v) : ∃ b u, V.ref a = .ref b ∧ DGet H b (.int k) (some u) ∧ R u :=
  ⟨a, v, rfl, e ▸ DGet.k (k := Sum.inl k) h, q⟩
theorem r_dget2 {td ty tx : TE} (h : td σ H fun x H1 => ∃ a, x = .ref a ∧ IsD H1 a ∧ ty σ H1 fun y H2 => tx σ H2 fun z H3 => ∃ o, DGet H3 a y o ∧ Q (o.getD z) H3) : tDGet2 td ty tx σ H Q := h
theorem r_dget2D {a : Addr} {kvs : List (Key × V)} {R : Addr → Prop} (h : H a = some (.dK kvs)) (q : R a) : ∃ b, V.ref a = .ref b ∧ IsD H b ∧ R b := ⟨a, rfl, .inl ⟨kvs, .inl h⟩, q⟩
theorem r_dget2I {a : Addr} {kvs : List (Key × V)} {k : Int} {R : Option V → Prop} (h : H a = some (.dK kvs)) (q : R (valV kvs (Sum.inl k))) : ∃ o, DGet H a (.int k) o ∧ R o := ⟨_, DGet.k (k := Sum.inl k) h, q⟩
theorem r_dput {td ty tv : TE} (h : tv σ H fun v H1 => td σ H1 fun x H2 => ty σ H2 fun y H3 => ∃ a H4, x = .ref a ∧ DPut H3 a y v H4 ∧ n σ H4) : sDPut td ty tv ⟨n, r, bk, ct⟩ σ H := h
theorem r_dputI {a : Addr} {kvs : List (Key × V)} {k : Int} {R : Hp → Prop} (h : H a = some (.dK kvs)) (hl : kvs.length ≤ 100000) (q : Put a H (.dK (putK kvs (Sum.inl k) v)) R) : ∃ b H4, V.ref a = .ref b ∧ DPut H b (.int k) v H4 ∧ R H4 :=
  ⟨a, _, rfl, DPut.k (k := Sum.inl k) h (Nat.lt_of_le_of_lt hl (by decide)), q⟩
def slA (K : PySem.W.Frag) : V → Option Int → Option Int → Hp → VK → Prop := fun x lo hi H Q => rSlL K x lo hi H Q ∨ rSlT K x lo hi H Q
theorem sl_any {X : Cx} : SlR X (slA X.K) := sl_list.or sl_tup
theorem r_sl {rr : V → Option Int → Option Int → Hp → VK → Prop} {tl th : TO} (h : te σ H fun x H1 => tl σ H1 fun l H2 => th σ H2 fun u H3 => rr x l u H3 Q) : tSl rr te tl th σ H Q := h
theorem r_part {R : Option Int → Hp → Prop} (h : te σ H fun x H1 => ∃ i, x = .int i ∧ R (some i) H1) : tPart te σ H R := h
theorem r_partI {i : Int} {R : Option Int → Prop} (h : R (some i)) : ∃ j, V.int i = .int j ∧ R (some j) := ⟨i, rfl, h⟩
theorem r_nopart {R : Option Int → Hp → Prop} (h : R none H) : tNoPart σ H R := h
theorem r_slL {a : Addr} {xs : List V} {lo hi : Option Int} (h : SqL K H a xs) (q : New H (.lst (cutV xs lo hi)) Q) : slA K (.ref a) lo hi H Q := .inl ⟨a, xs, rfl, h, q⟩
theorem r_revL (h : te σ H fun x H1 => ∃ a xs, x = .ref a ∧ SqL K H1 a xs ∧ New H1 (.lst xs.reverse) Q) : tRevL K te σ H Q := h
theorem r_revLI {a : Addr} {xs : List V} (h : SqL K H a xs) (q : New H (.lst xs.reverse) Q) : ∃ b ys, V.ref a = .ref b ∧ SqL K H b ys ∧ New H (.lst ys.reverse) Q := ⟨a, xs, rfl, h, q⟩
/-! ### built-ins -/
def rIsiA (K : PySem.W.Frag) : List V → Hp → VK → Prop := rIsi K
theorem callIsi {X : Cx} : CallR X (.builtin "isinstance") (rIsiA X.K) := call_isi
theorem r_isi {T U : String} {b : Bool} (ty : TyX K H x (.type T)) (e : kitB T U = some b) (q : Q (.bl b) H) : rIsiA K [x, .ty U] H Q := ⟨x, .ty U, .type T, .type U, b, rfl, .ty U, ty, kit_ty e, q⟩
def rLenA (K : PySem.W.Frag) : List V → Hp → VK → Prop := fun xs H Q => (∃ p ys, xs = [.ref p] ∧ (SqL K H p ys ∨ SqT K H p ys) ∧ Q (.int ys.length) H) ∨ (∃ z, xs = [.str z] ∧ z.length ≤ sizeLine ∧ Q (.int z.length) H) ∨
  (∃ a kvs, xs = [V.ref a] ∧ H a = some (.dK kvs) ∧ Q (.int kvs.length) H)
theorem callLen {X : Cx} : CallR X (.builtin "len") (rLenA X.K) := call_len_seq.or (call_len_str.or call_lenD)
theorem r_lenT {a : Addr} {xs : List V} (h : SqT K H a xs) (q : Q (.int xs.length) H) : rLenA K [.ref a] H Q := .inl ⟨a, xs, rfl, .inr h, q⟩
theorem r_lenL {a : Addr} {xs : List V} (h : SqL K H a xs) (q : Q (.int xs.length) H) : rLenA K [.ref a] H Q := .inl ⟨a, xs, rfl, .inl h, q⟩
theorem r_lenD {a : Addr} {kvs : List (Key × V)} (h : H a = some (.dK kvs)) (q : Q (.int kvs.length) H) : rLenA K [.ref a] H Q := .inr (.inr ⟨a, kvs, rfl, h, q⟩)
theorem r_lenS {z : Str} (l : z.length ≤ sizeLine) (q : Q (.int z.length) H) : rLenA K [.str z] H Q := .inr (.inl ⟨z, rfl, l, q⟩)
def rIntA : List V → Hp → VK → Prop := fun xs H Q => ((∃ i, xs = [.int i] ∧ Q (.int i) H) ∨ ∃ k, xs = [.bl k] ∧ Q (.int (if k then 1 else 0)) H) ∨ (∃ a n, xs = [.str a] ∧ PySem.intText? a = some n ∧ a.length ≤ 640 ∧ Q (.int n) H)
theorem callInt {X : Cx} : CallR X (.type "int") rIntA := call_int1.or call_int_str
theorem r_intI {i : Int} (q : Q (.int i) H) : rIntA [.int i] H Q := .inl (.inl ⟨i, rfl, q⟩)
theorem r_intB {b : Bool} (q : Q (.int (if b then 1 else 0)) H) : rIntA [.bl b] H Q := .inl (.inr ⟨b, rfl, q⟩)
theorem r_intS {a : Str} {z : Int} (e : PySem.intText? a = some z) (l : a.length ≤ 640) (q : Q (.int z) H) : rIntA [.str a] H Q := .inr ⟨a, z, rfl, e, l, q⟩
def rListA (K : PySem.W.Frag) : List V → Hp → VK → Prop := fun xs H Q => (∃ p ys, xs = [.ref p] ∧ (SqL K H p ys ∨ SqT K H p ys) ∧ New H (.lst ys) Q) ∨ (∃ p kvs, xs = [.ref p] ∧ H p = some (.dK kvs) ∧ New H (.lst (kvs.map fun kv => kV kv.1)) Q)
theorem callList {X : Cx} (hc : X.calm = true) : CallR X (.type "list") (rListA X.K) := call_list_of.or (call_list_dK hc)
theorem r_listL {a : Addr} {xs : List V} (h : SqL K H a xs) (q : New H (.lst xs) Q) : rListA K [.ref a] H Q := .inl ⟨a, xs, rfl, .inl h, q⟩
theorem r_listT {a : Addr} {xs : List V} (h : SqT K H a xs) (q : New H (.lst xs) Q) : rListA K [.ref a] H Q := .inl ⟨a, xs, rfl, .inr h, q⟩
theorem r_listD {a : Addr} {kvs : List (Key × V)} (h : H a = some (.dK kvs)) (q : New H (.lst (kvs.map fun kv => kV kv.1)) Q) : rListA K [.ref a] H Q := .inr ⟨a, kvs, rfl, h, q⟩
def rTupA (K : PySem.W.Frag) : List V → Hp → VK → Prop := fun xs H Q => ∃ p ys, xs = [.ref p] ∧ ((SqL K H p ys ∧ New H (.tup ys) Q) ∨ (SqT K H p ys ∧ Q (.ref p) H))
theorem callTup {X : Cx} : CallR X (.type "tuple") (rTupA X.K) := call_tuple_of
theorem r_tupL {a : Addr} {xs : List V} (h : SqL K H a xs) (q : New H (.tup xs) Q) : rTupA K [.ref a] H Q := ⟨a, xs, rfl, .inl ⟨h, q⟩⟩
theorem r_tupT {a : Addr} {xs : List V} (h : SqT K H a xs) (q : Q (.ref a) H) : rTupA K [.ref a] H Q := ⟨a, xs, rfl, .inr ⟨h, q⟩⟩
theorem callSum {X : Cx} (hc : X.calm = true) : CallR X (.builtin "sum") (rSum X.K) := cr_sum hc
theorem r_sum {a : Addr} {ns : List Int} (h : SqL K H a (ns.map V.int)) (q : Q (.int ns.sum) H) : rSum K [.ref a] H Q := ⟨a, ns, rfl, h, q⟩
theorem r_all {a : Addr} {bs : List Bool} (h : SqL K H a (bs.map V.bl)) (q : Q (.bl (bs.all id)) H) : rAll K [.ref a] H Q := ⟨a, bs, rfl, h, q⟩
theorem r_sorted {a : Addr} {ns : List Int} (h : SqL K H a (ns.map V.int)) (q : ∀ ns' : List Int, ns'.Perm ns → ns'.Pairwise (· ≤ ·) → New H (.lst (ns'.map V.int)) Q) : rSortedI K [.ref a] H Q := ⟨a, ns, rfl, h, fun ns' p h1 h2 hp => q ns' h1 h2 p hp⟩
def rDivmodA : List V → Hp → VK → Prop := fun xs H Q => ∃ i j, xs = [.int i, .int j] ∧ CDivP i j ∧ New H (.tup [.int (i / j), .int (i % j)]) Q
theorem callDivmod {X : Cx} : CallR X (.builtin "divmod") rDivmodA := call_divmodW
theorem r_divmod {i j : Int} (p : 0 < j) (l : j < 2 ^ 200) (q : New H (.tup [.int (i / j), .int (i % j)]) Q) : rDivmodA [.int i, .int j] H Q :=
  ⟨i, j, rfl, ⟨p, (wide_div (i := i) p (b := 200) (by omega) (by decide) (by decide)).2 |> PyProof.noPylong_of_log2⟩, q⟩
def rAbsA : List V → Hp → VK → Prop := fun xs H Q => ∃ i, xs = [.int i] ∧ Q (.int (if i < 0 then -i else i)) H
theorem callAbs {X : Cx} : CallR X (.builtin "abs") rAbsA := call_abs
theorem r_abs {i : Int} (q : Q (.int (if i < 0 then -i else i)) H) : rAbsA [.int i] H Q := ⟨i, rfl, q⟩
def rMaxA : List V → Hp → VK → Prop := fun xs H Q => ∃ i j, xs = [.int i, .int j] ∧ Q (.int (if j > i then j else i)) H
def rMinA : List V → Hp → VK → Prop := fun xs H Q => ∃ i j, xs = [.int i, .int j] ∧ Q (.int (if j < i then j else i)) H
theorem callMax {X : Cx} (hc : X.calm = true) : CallR X (.builtin "max") rMaxA := call_max2 hc
theorem callMin {X : Cx} (hc : X.calm = true) : CallR X (.builtin "min") rMinA := call_min2 hc
theorem r_max {i j : Int} (q : Q (.int (if j > i then j else i)) H) : rMaxA [.int i, .int j] H Q := ⟨i, j, rfl, q⟩
theorem r_min {i j : Int} (q : Q (.int (if j < i then j else i)) H) : rMinA [.int i, .int j] H Q := ⟨i, j, rfl, q⟩
def rStrA : List V → Hp → VK → Prop := fun xs H Q => (∃ i, xs = [.int i] ∧ i.natAbs.log2 < 1920 ∧ Q (.str (toString i)) H) ∨ (∃ a, xs = [.str a] ∧ Q (.str a) H)
theorem r_repr {a : Addr} {d : PyData} (h : Dp K H (.ref a) d) (h1 : d.showable = true) (h2 : d.hasDict = false) (h3 : d.depth ≤ 60) (h4 : d.shown.length ≤ sizeLine) (q : Q (.str d.shown) H) : rRepr K [.ref a] H Q := ⟨a, d, rfl, h, h1, h2, h3, h4, q⟩
/-! ### methods of lists -/
theorem r_bm {T : String} {rr : V → List V → Hp → VK → Prop} {t : TA} (h : te σ H fun x H1 => tyV K T x H1 ∧ t σ H1 fun xs H2 => rr x xs H2 Q) : tBM K T rr te t σ H Q := h
theorem r_tyL {a : Addr} {xs : List V} {A : Prop} (h : SqL K H a xs) (q : A) : tyV K "list" (.ref a) H ∧ A := ⟨.inl ⟨rfl, xs, h⟩, q⟩
theorem r_append {l : Addr} {xs : List V} (h : H l = some (.lst xs)) (hz : xs.length < 100000) (q : Put l H (.lst (xs ++ [v])) (Q .non)) : rAppend (.ref l) [v] H Q := ⟨l, xs, v, rfl, rfl, h, Nat.lt_of_lt_of_le hz (by decide), q⟩
theorem r_popAt {l : Addr} {xs : List V} {k : Nat} (h : H l = some (.lst xs)) (e : xs[k]? = some v) (hk : k < 100000) (q : Put l H (.lst (xs.eraseIdx k)) (Q v)) : rPopAt (.ref l) [.int k] H Q := by
  have hl : k < xs.length := (List.getElem?_eq_some_iff.mp e).1
  refine ⟨l, xs, (k : Int), k, v, rfl, rfl, h, by omega, by omega, ?_, e, q⟩
  unfold seqIndex?
  simp
  omega
theorem r_gsub {to ti : TE} {t : TSet} {R : HSt → Hp → Prop} (h : to σ H fun o H1 => ti σ H1 fun i H2 => t o i v H2 fun H3 => R σ H3) : gSub to ti t v σ H R := h
theorem r_setL {l : Addr} {xs : List V} {k : Nat} {R : Hp → Prop} (h : H l = some (.lst xs)) (hk : k < xs.length) (q : Put l H (.lst (xs.set k v)) R) : rSetL (.ref l) (.int k) v H R := by
  refine ⟨l, xs, k, k, rfl, rfl, h, ?_, q⟩
  unfold ixN
  simp [hk]
/-! ### a walk -/
theorem r_for {wi : TI} {tb : TS} (h : wi σ H fun J H1 => ∃ W : Nat → Nat → HSt → Hp → Prop, (∃ m, W 0 m σ H1) ∧ ∀ i m σ H, W i m σ H →
      (J.stop i H ∧ n σ H) ∨ (J.go i H ∧ ∃ N : HSt → Hp → Prop, (∀ σ' H', N σ' H' → ∃ m', m' < m ∧ W (i + 1) m' σ' H') ∧ ∀ x H', J.yld i H x H' → g x σ H' fun σ2 H2 => tb ⟨N, r, n, N⟩ σ2 H2)) : tFor wi g tb ⟨n, r, bk, ct⟩ σ H := h
theorem r_walk {J : It} {k : Nat} {G : Hp → Prop} {Y : Nat → Hp → V → Hp → Prop} {tb : TS} (w : Walk J k G Y) (P : Nat → HSt → Hp → Prop) (h0 : P 0 σ H) (hG : ∀ i σ H, i ≤ k → P i σ H → G H)
    (hs : ∀ i x σ H H', i < k → P i σ H → Y i H x H' → g x σ H' fun σ2 H2 => tb ⟨P (i + 1), r, n, P (i + 1)⟩ σ2 H2) (hd : ∀ σ H, P k σ H → n σ H) :
    ∃ W : Nat → Nat → HSt → Hp → Prop, (∃ m, W 0 m σ H) ∧ ∀ i m σ H, W i m σ H →
      (J.stop i H ∧ n σ H) ∨ (J.go i H ∧ ∃ N : HSt → Hp → Prop, (∀ σ' H', N σ' H' → ∃ m', m' < m ∧ W (i + 1) m' σ' H') ∧ ∀ x H', J.yld i H x H' → g x σ H' fun σ2 H2 => tb ⟨N, r, n, N⟩ σ2 H2) :=
  for_it (D := ⟨n, r, n, n⟩) w P h0 hG hs hd
theorem r_iList {tl : TE} {R : It → Hp → Prop} (h : tl σ H fun x H1 => ∃ a, x = .ref a ∧ (∃ xs, SqL K H1 a xs) ∧ R (Itl K a) H1) : iList K tl σ H R := h
theorem r_iTup {tl : TE} {R : It → Hp → Prop} (h : tl σ H fun x H1 => ∃ a, x = .ref a ∧ (∃ xs, SqT K H1 a xs) ∧ R (Itt K a) H1) : iTup K tl σ H R := h
theorem r_iAt {a : Addr} {S : Addr → Prop} {R : Addr → Prop} (h : S a) (q : R a) : ∃ b, V.ref a = .ref b ∧ S b ∧ R b := ⟨a, rfl, h, q⟩
theorem r_iRng {ta : TA} {R : It → Hp → Prop} (h : ta σ H fun vs H1 => ∃ j : Int, vs = [.int j] ∧ -(2 ^ 62) ≤ j ∧ j < 2 ^ 62 ∧ R (Itr 0 j.toNat) H1) : iRng1 ta σ H R := h
theorem r_rng {j : Int} {R : It → Prop} (h1 : 0 ≤ j) (h2 : j ≤ 100000) (q : R (Itr 0 j.toNat)) : ∃ k : Int, [V.int j] = [.int k] ∧ -(2 ^ 62) ≤ k ∧ k < 2 ^ 62 ∧ R (Itr 0 k.toNat) := ⟨j, rfl, by omega, by omega, q⟩
theorem r_iEnT {ta : TA} {R : It → Hp → Prop} (h : ta σ H fun vs H1 => ∃ a ys, vs = [.ref a] ∧ SqT K H1 a ys ∧ R (Iet K a) H1) : iEnT K ta σ H R := h
theorem r_enT {a : Addr} {xs : List V} {R : Addr → Prop} (h : SqT K H a xs) (q : R a) : ∃ b ys, [V.ref a] = [.ref b] ∧ SqT K H b ys ∧ R b := ⟨a, xs, rfl, h, q⟩
/-! ### comprehensions -/
theorem r_lc {wi : TI} {tt : TT} {vs : List Nat} (h : wi σ H fun J H1 => ∀ D, H1 D = none → ∃ W : Nat → Nat → Hp → Prop, (∃ m, W 0 m (upd H1 D (.lst []))) ∧ ∀ i m H, W i m H →
      (J.stop i H ∧ Q (.ref D) H) ∨ (J.go i H ∧ ∃ Nx : Hp → Prop, (∀ H', Nx H' → ∃ m', m' < m ∧ W (i + 1) m' H') ∧ ∀ x H', J.yld i H x H' → g x (wipe σ vs) H' fun σ2 H2 => wipe σ2 vs = wipe σ vs ∧ tt σ2 H2 fun b H3 =>
        if b = true then te σ2 H3 fun y H4 => ∃ acc, H4 D = some (.lst acc) ∧ acc.length < sizeLine ∧ Nx (upd H4 D (.lst (acc ++ [y]))) else Nx H3)) : tLc wi g tt te vs σ H Q := h
/-- what stands between two turns of a comprehension whose list is at D -/
def LcP (D : Addr) (P : Nat → List V → Hp → Prop) (i : Nat) (H : Hp) : Prop := ∃ acc, H D = some (.lst acc) ∧ acc.length ≤ i ∧ P i acc H
/-- over a walk: P by the turn, the new list's items so far, the heap -/
theorem r_lcw {J : It} {k : Nat} {G : Hp → Prop} {Y : Nat → Hp → V → Hp → Prop} {tt : TT} {vs : List Nat} {D : Addr} {Qd : Hp → Prop} (w : Walk J k G Y) (hD : H D = none) (P : Nat → List V → Hp → Prop) (h0 : ∀ H', Same H H' → H' D = some (.lst []) → P 0 [] H')
    (hG : ∀ i acc H', i ≤ k → P i acc H' → H' D = some (.lst acc) → G H')
    (hs : ∀ i x acc H1 H2, i < k → acc.length ≤ i → P i acc H1 → H1 D = some (.lst acc) → Y i H1 x H2 → g x (wipe σ vs) H2 fun σ2 H3 => wipe σ2 vs = wipe σ vs ∧ tt σ2 H3 fun b H4 =>
      if b = true then te σ2 H4 fun y H5 => ∃ acc, H5 D = some (.lst acc) ∧ acc.length < sizeLine ∧ LcP D P (i + 1) (upd H5 D (.lst (acc ++ [y]))) else LcP D P (i + 1) H4)
    (hd : ∀ acc H', acc.length ≤ k → P k acc H' → H' D = some (.lst acc) → Qd H') :
    ∃ W : Nat → Nat → Hp → Prop, (∃ m, W 0 m (upd H D (.lst []))) ∧ ∀ i m H, W i m H →
      (J.stop i H ∧ Qd H) ∨ (J.go i H ∧ ∃ Nx : Hp → Prop, (∀ H', Nx H' → ∃ m', m' < m ∧ W (i + 1) m' H') ∧ ∀ x H', J.yld i H x H' → g x (wipe σ vs) H' fun σ2 H2 => wipe σ2 vs = wipe σ vs ∧ tt σ2 H2 fun b H3 =>
        if b = true then te σ2 H3 fun y H4 => ∃ acc, H4 D = some (.lst acc) ∧ acc.length < sizeLine ∧ Nx (upd H4 D (.lst (acc ++ [y]))) else Nx H3) := by
  refine lc_it (σ := σ) (vs := vs) w (LcP D P) ⟨[], upd_same, Nat.le_refl _, h0 _ (fun b u e => by rw [upd_ne (ne_of_none e hD)]; exact e) upd_same⟩ ?_ ?_ ?_
  · rintro i H1 hi ⟨acc, h1, h2, h3⟩
    exact hG i acc H1 hi h3 h1
  · rintro i x H1 H2 hi ⟨acc, h1, h2, h3⟩ y
    exact hs i x acc H1 H2 hi h2 h3 h1 y
  · rintro H1 ⟨acc, h1, h2, h3⟩
    exact hd acc H1 h2 h3 h1
theorem r_acc {D : Addr} {acc : List V} {P : Nat → List V → Hp → Prop} (h : H D = some (.lst acc)) (hl : acc.length ≤ i) (hi : i < 100000) (q : ∀ H', But D H H' → H' D = some (.lst (acc ++ [v])) → (∀ b, b ≠ D → H' b = H b) → P (i + 1) (acc ++ [v]) H') :
    ∃ acc, H D = some (.lst acc) ∧ acc.length < sizeLine ∧ LcP D P (i + 1) (upd H D (.lst (acc ++ [v]))) :=
  ⟨acc, h, Nat.lt_of_le_of_lt hl (Nat.lt_trans hi (by decide)), acc ++ [v], upd_same, by rw [List.length_append]; exact Nat.add_le_add_right hl 1, q _ (fun b u n e => by rw [upd_ne n]; exact e) upd_same fun b n => upd_ne n⟩
theorem r_skip {D : Addr} {acc : List V} {P : Nat → List V → Hp → Prop} (h : H D = some (.lst acc)) (hl : acc.length ≤ i) (q : P (i + 1) acc H) : LcP D P (i + 1) H := ⟨acc, h, Nat.le_succ_of_le hl, q⟩
theorem r_yes1 {R : Bool → Hp → Prop} (h : R true H) : tYes σ H R := h
end
/-! ### slots: the tactic that goes on -/
end Dg

namespace Dg
open PySem PySem.Spec PyProof.Rows L2
theorem pe_ty {X : Cx} {x : Str} {pos : Pos} (T : String) (hg : Gl X x) (hm : X.mg x = none) (hv : bootBuiltins x = some (.type T)) (h1 : x ≠ "__name__" := by decide) (h2 : (x == ("__debug__" : Str)) = false := by decide) : PE X (.Name x pos) (tC (.ty T)) :=
  pe_bltn (v := .ty T) (u := .type T) hg hm hv rfl h1 h2
theorem pe_gk {X : Cx} {x : Str} {pos : Pos} {v : V} (h : ∃ u, X.mg x = some u ∧ RelV v u) (hg : Gl X x) (h2 : (x == ("__debug__" : Str)) = false := by decide) : PE X (.Name x pos) (tC v) := by
  obtain ⟨u, h1, h3⟩ := h
  exact pe_glob hg h1 h3 h2
theorem fnR_ok {P : Program} {w : World} {K : PySem.W.Frag} {mg : Str → Option Value} {base : Heap} {CX : CXT} {k : Nat} {f : Addr} {fd : FuncData} {ps : List Str} {sp : Sp} (F : FnOk P w K mg base CX k f fd ps sp) (hb : Binds K fd ps []) : FnR P w K mg base CX k f sp :=
  (F.raw hb .nil).imp fun vs H Q E h => by rw [List.append_nil]; exact h
section
variable {σ : HSt} {H : Hp} {Q : VK} {ta tb tc : TE} {K : PySem.W.Frag} {v : V}
theorem r_chain {r1 r2 : R2} (h : ta σ H fun x H1 => tb σ H1 fun y H2 => r1 x y H2 fun z H3 => ∃ k, z = .bl k ∧ (if k = true then tc σ H3 fun w' H4 => r2 y w' H4 Q else Q (.bl false) H3)) : tChain r1 r2 ta tb tc σ H Q := h
theorem r_fld {f : Str} {te : TE} (h : te σ H fun x H1 => ∃ a C dx fs v, x = .ref a ∧ H1 a = some (.ins C dx fs) ∧ Cls K C ∧ NoAttr K C f ∧ fs.lookup f = some v ∧ Q v H1) : tFld K te f σ H Q := h
theorem r_fldI {a C dx : Addr} {fs : List (Str × V)} {f : Str} {R : V → Prop} (h : H a = some (.ins C dx fs)) (c : Cls K C) (n : NoAttr K C f) (l : fs.lookup f = some v) (q : R v) : ∃ b C' dx' fs' u, V.ref a = .ref b ∧ H b = some (.ins C' dx' fs') ∧ Cls K C' ∧ NoAttr K C' f ∧ fs'.lookup f = some u ∧ R u :=
  ⟨a, C, dx, fs, v, rfl, h, c, n, l, q⟩
theorem r_prop {C : Addr} {sp : Sp} {E : XK} {te : TE} (h : te σ H fun x H1 => ∃ a dx fs, x = .ref a ∧ H1 a = some (.ins C dx fs) ∧ sp [.ref a] H1 Q E) : tProp C sp [] E te σ H Q := h
theorem r_propI {C a dx : Addr} {fs : List (Str × V)} {R : Addr → Prop} (h : H a = some (.ins C dx fs)) (q : R a) : ∃ b dx' fs', V.ref a = .ref b ∧ H b = some (.ins C dx' fs') ∧ R b := ⟨a, dx, fs, rfl, h, q⟩
theorem r_cmeth {C : Addr} {sp : Sp} {E : XK} {te : TE} {t : TA} (h : te σ H fun x H1 => x = .ref C ∧ t σ H1 fun vs H2 => sp (.ref C :: vs) H2 Q E) : ClX.tCMeth C sp E te t σ H Q := h
theorem r_mkL {i : Nat} {C : Addr} {sp : Sp} {E : XK} {t : TA} (e : σ[i]? = some (some (.ref C))) (h : tMake C sp [] E t σ H Q) : tMkL i C sp [] E t σ H Q := ⟨e, h⟩
/-- a new instance: x with its own dict dx -/
theorem r_make {C : Addr} {sp : Sp} {E : XK} {t : TA} (h : t σ H fun vs H1 => ∀ x dx H2, H1 x = none → H1 dx = none → dx ≠ x → Same H1 H2 → H2 x = some (.ins C dx []) → (∀ b, b ≠ x → b ≠ dx → H2 b = H1 b) → sp (.ref x :: vs) H2 (fun v H3 => v = .non ∧ Q (.ref x) H3) E) (mono : ∀ R R' : List V → Hp → Prop, (∀ vs H, R vs H → R' vs H) → t σ H R → t σ H R') : tMake C sp [] E t σ H Q := by
  refine mono _ _ (fun vs H1 q => ?_) h
  intro x dx hx hdx ne
  rw [List.append_nil]
  refine q x dx _ hx hdx ne (fun b u e => ?_) upd_same (fun b n1 n2 => by rw [upd_ne n1, upd_ne n2])
  rw [upd_ne (ne_of_none e hx), upd_ne (ne_of_none e hdx)]
  exact e
end
theorem at0 {x : V} {xs : List V} : atI (x :: xs) 0 = some x := atI_nat (xs := x :: xs) (j := 0) rfl
theorem at1 {x y : V} {xs : List V} : atI (x :: y :: xs) 1 = some y := atI_nat (xs := x :: y :: xs) (j := 1) rfl
theorem at2 {x y z : V} {xs : List V} : atI (x :: y :: z :: xs) 2 = some z := atI_nat (xs := x :: y :: z :: xs) (j := 2) rfl
/-! ### the built-in type of data -/
def tyD : PyData → String
  | .none => "NoneType"
  | .bool _ => "bool"
  | .int _ => "int"
  | .str _ => "str"
  | .list _ => "list"
  | .tuple _ => "tuple"
  | .dict _ => "dict"
def isI : PyData → Bool
  | .int _ => true
  | .bool _ => true
  | _ => false
def isB : PyData → Bool
  | .bool _ => true
  | _ => false
def isT : PyData → Bool
  | .tuple _ => true
  | _ => false
def isS : PyData → Bool
  | .str _ => true
  | _ => false
theorem kit_int (d : PyData) : kitB (tyD d) "int" = some (isI d) := by cases d <;> simp only [tyD, isI, isB, isT, isS] <;> decide +kernel
theorem kit_bool (d : PyData) : kitB (tyD d) "bool" = some (isB d) := by cases d <;> simp only [tyD, isI, isB, isT, isS] <;> decide +kernel
theorem kit_tuple (d : PyData) : kitB (tyD d) "tuple" = some (isT d) := by cases d <;> simp only [tyD, isI, isB, isT, isS] <;> decide +kernel
theorem kit_str (d : PyData) : kitB (tyD d) "str" = some (isS d) := by cases d <;> simp only [tyD, isI, isB, isT, isS] <;> decide +kernel
/-- data, a dict of any content too -/
inductive Dv (K : PySem.W.Frag) (H : Hp) : V → PyData → Prop
  | dp {x : V} {d : PyData} (h : Dp K H x d) : Dv K H x d
  | dict {a : Addr} {kvs : List (Key × V)} (h : H a = some (.dK kvs)) (l : List (PyData × PyData)) : Dv K H (.ref a) (.dict l)
theorem Dv.ty {K : PySem.W.Frag} {H : Hp} {x : V} {d : PyData} (h : Dv K H x d) : TyX K H x (.type (tyD d)) := by
  cases h with
  | dict h l => exact .base (.dK h)
  | dp h =>
    cases h with
    | non => exact .base .non
    | bl b => exact .base (.bl b)
    | int i => exact .base (.int i)
    | str z => exact .base (.str z)
    | lst hs _ =>
      rcases hs with (h | ⟨o, h⟩) | ⟨o, its, n, h, hc, _⟩
      · exact .base (.lst h)
      · exact .base (.frz h)
      · exact .kList h hc
    | tup hs _ =>
      rcases hs with (h | ⟨o, h⟩) | ⟨o, its, n, h, hc, _⟩
      · exact .base (.tup h)
      · exact .fTuple h
      · exact .kTuple h hc
theorem Dv.int {K : PySem.W.Frag} {H : Hp} {x : V} {i : Int} (h : Dv K H x (.int i)) : x = .int i := by
  cases h with
  | dp h => cases h; rfl
theorem Dv.tup {K : PySem.W.Frag} {H : Hp} {x : V} {ds : List PyData} (h : Dv K H x (.tuple ds)) : ∃ a xs, x = .ref a ∧ SqT K H a xs ∧ DpAll K H xs ds := by
  cases h with
  | dp h => cases h with | tup h1 h2 => exact ⟨_, _, rfl, h1, h2⟩
theorem _root_.L2.DpAll.len {K : PySem.W.Frag} {H : Hp} : ∀ {xs : List V} {ds : List PyData}, DpAll K H xs ds → xs.length = ds.length
  | _, _, .nil => rfl
  | _, _, .cons _ t => congrArg Nat.succ (L2.DpAll.len t)
theorem _root_.L2.DpAll.at {K : PySem.W.Frag} {H : Hp} : ∀ {xs : List V} {ds : List PyData} {i : Nat} {v : V}, DpAll K H xs ds → xs[i]? = some v → ∃ d, ds[i]? = some d ∧ Dp K H v d
  | _, _, _, _, .nil, h => by simp at h
  | _, _, 0, _, .cons h _, e => by
    simp at e
    subst e
    exact ⟨_, rfl, h⟩
  | _, _, i + 1, v, .cons _ t, e => by
    have e' := e
    simp at e'
    obtain ⟨d, h1, h2⟩ := L2.DpAll.at t e'
    exact ⟨d, by simpa using h1, h2⟩
mutual
theorem Dp.same {K : PySem.W.Frag} {H H' : Hp} (e : Same H H') : ∀ {d : PyData} {v : V}, Dp K H v d → Dp K H' v d
  | _, _, .non => .non
  | _, _, .bl b => .bl b
  | _, _, .int i => .int i
  | _, _, .str x => .str x
  | _, _, .lst h hs => .lst (SqL.ext h e) (DpAll.same e hs)
  | _, _, .tup h hs => .tup (SqT.ext h e) (DpAll.same e hs)
theorem DpAll.same {K : PySem.W.Frag} {H H' : Hp} (e : Same H H') : ∀ {ds : List PyData} {vs : List V}, DpAll K H vs ds → DpAll K H' vs ds
  | _, _, .nil => .nil
  | _, _, .cons h t => .cons (Dp.same e h) (DpAll.same e t)
end
theorem Dv.same {K : PySem.W.Frag} {H H' : Hp} {x : V} {d : PyData} (e : Same H H') (h : Dv K H x d) : Dv K H' x d := by
  cases h with
  | dp h => exact .dp (Dp.same e h)
  | dict h l => exact .dict (e _ _ h) l
theorem r_isiD {K : PySem.W.Frag} {H : Hp} {Q : VK} {x : V} {d : PyData} {U : String} {b : Bool} (h : Dv K H x d) (e : kitB (tyD d) U = some b) (q : Q (.bl b) H) : rIsiA K [x, .ty U] H Q := r_isi h.ty e q
/-! ### what the program asks of single values, of data -/
def intD (d : PyData) : Bool := isI d && !isB d
def betweenD (d : PyData) (lo hi : Int) : Bool := match d with
  | .int i => decide (lo ≤ i) && decide (i ≤ hi)
  | _ => false
def pairD : PyData → Bool
  | .tuple ds => decide (ds.length = 2)
  | _ => false
def filledD : PyData → Bool
  | .tuple ds => decide (0 < ds.length)
  | _ => false
def kindD (d : PyData) (m : Int) : Bool := match d with
  | .tuple [p, q] => betweenD p 0 m && betweenD q 1 (1000000000000000000000000000000)
  | _ => false
def firstD : PyData → Int
  | .tuple (.int i :: _) => i
  | _ => 0
/-- from the k-th on, the degrees up to m -/
def wrongFrom : List PyData → Nat → Int → Option Nat
  | [], _, _ => none
  | d :: r, k, m => if k = 10 ∨ kindD d m = false then some k else wrongFrom r (k + 1) (firstD d - 1)
def wrongD : PyData → Option Nat
  | .tuple ds => if ds = [] then none else wrongFrom ds 0 (10000000000000000000000000000000)
  | _ => none
def okD (d : PyData) : Bool := filledD d && (wrongD d).isNone
/-- the data stands, a tuple among it is read by its items -/
theorem Dv.isT {K : PySem.W.Frag} {H : Hp} {x : V} {d : PyData} (h : Dv K H x d) (t : isT d = true) : ∃ a xs ds, x = .ref a ∧ d = .tuple ds ∧ SqT K H a xs ∧ DpAll K H xs ds := by
  cases d <;> simp [Dg.isT] at t
  obtain ⟨a, xs, h1, h2, h3⟩ := h.tup
  exact ⟨a, xs, _, h1, rfl, h2, h3⟩
def optV : Option Nat → V
  | none => .non
  | some k => .int k
theorem intD_int {d : PyData} (h : intD d = true) : ∃ i, d = .int i := by
  cases d <;> simp [intD, isI, isB] at h
  exact ⟨_, rfl⟩
theorem betweenD_no {d : PyData} {lo hi : Int} (h : intD d = false) : betweenD d lo hi = false := by
  cases d <;> first | rfl | (simp [intD, isI, isB] at h)
theorem optV_none (o : Option Nat) : decide (optV o = .non) = o.isNone := by
  cases o with
  | none => rfl
  | some k => exact decide_eq_false (fun z => nomatch z)
theorem kindD_shape {d : PyData} {m : Int} (h : kindD d m = true) : ∃ p q, d = .tuple [.int p, .int q] ∧ 0 ≤ p ∧ p ≤ m ∧ 1 ≤ q ∧ q ≤ 1000000000000000000000000000000 := by
  unfold kindD at h
  split at h
  · rename_i p q
    rw [Bool.and_eq_true] at h
    obtain ⟨h1, h2⟩ := h
    unfold betweenD at h1 h2
    split at h1 <;> split at h2 <;> simp at h1 h2
    exact ⟨_, _, rfl, h1.1, h1.2, h2.1, h2.2⟩
  · cases h
end Dg

namespace Dg
open PySem PySem.Spec PyProof.Rows L2
/-! ### kinds -/
abbrev Kinds := List (Int × Int)
def kD (k : Int × Int) : PyData := .tuple [.int k.1, .int k.2]
def KD (ks : Kinds) : PyData := .tuple (ks.map kD)
def Desc : Int → Kinds → Prop
  | _, [] => True
  | m, k :: r => 0 ≤ k.1 ∧ k.1 ≤ m ∧ 1 ≤ k.2 ∧ k.2 ≤ 1000000000000000000000000000000 ∧ Desc (k.1 - 1) r
def OkK (ks : Kinds) : Prop := ks ≠ [] ∧ ks.length ≤ 10 ∧ Desc 10000000000000000000000000000000 ks
theorem kindD_kD {k : Int × Int} {m : Int} : kindD (kD k) m = true ↔ 0 ≤ k.1 ∧ k.1 ≤ m ∧ 1 ≤ k.2 ∧ k.2 ≤ 1000000000000000000000000000000 := by
  show (betweenD (.int k.1) 0 m && betweenD (.int k.2) 1 1000000000000000000000000000000) = true ↔ _
  show ((decide (0 ≤ k.1) && decide (k.1 ≤ m)) && (decide (1 ≤ k.2) && decide (k.2 ≤ 1000000000000000000000000000000))) = true ↔ _
  simp only [Bool.and_eq_true, decide_eq_true_eq]
  omega
theorem wrongFrom_desc : ∀ (ks : Kinds) (i : Nat) (m : Int), i + ks.length ≤ 10 → Desc m ks → wrongFrom (ks.map kD) i m = none
  | [], _, _, _, _ => rfl
  | k :: r, i, m, hl, hd => by
    have hl' : i + (r.length + 1) ≤ 10 := hl
    obtain ⟨h1, h2, h3, h4, h5⟩ := hd
    show (if i = 10 ∨ kindD (kD k) m = false then some i else wrongFrom (r.map kD) (i + 1) (k.1 - 1)) = none
    have hk := kindD_kD.mpr ⟨h1, h2, h3, h4⟩
    rw [if_neg (fun z => z.elim (fun z => by omega) (fun z => by rw [hk] at z; cases z))]
    exact wrongFrom_desc r (i + 1) (k.1 - 1) (by omega) h5
theorem okD_KD {ks : Kinds} (h : OkK ks) : okD (KD ks) = true := by
  obtain ⟨h1, h2, h3⟩ := h
  have ne : ks.map kD ≠ [] := fun z => h1 (List.map_eq_nil_iff.mp z)
  have e1 : filledD (KD ks) = true := by
    show decide (0 < (ks.map kD).length) = true
    exact decide_eq_true (List.length_pos_iff.mpr ne)
  have e2 : wrongD (KD ks) = none := by
    show (if ks.map kD = [] then none else wrongFrom (ks.map kD) 0 _) = none
    rw [if_neg ne]
    exact wrongFrom_desc ks 0 _ (by omega) h3
  unfold okD
  rw [e1, e2]
  rfl
theorem Desc.all : ∀ {m : Int} {ks : Kinds}, Desc m ks → ∀ k ∈ ks, 0 ≤ k.1 ∧ k.1 ≤ m ∧ 1 ≤ k.2 ∧ k.2 ≤ 1000000000000000000000000000000
  | m, k :: r, h, q, hq => by
    obtain ⟨h1, h2, h3, h4, h5⟩ := h
    rcases List.mem_cons.mp hq with e | e
    · subst e
      exact ⟨h1, h2, h3, h4⟩
    · obtain ⟨g1, g2, g3, g4⟩ := Desc.all h5 q e
      exact ⟨g1, by omega, g3, g4⟩
/-- a row object: its class, its kinds -/
def RowAt (C : Addr) (H : Hp) (a : Addr) (ks : Kinds) : Prop := ∃ dx v, H a = some (.ins C dx [("_kinds", v)]) ∧ Fz H v (KD ks)
theorem RowAt.kp {C a : Addr} {H H' : Hp} {ks : Kinds} (e : Kp H H') (h : RowAt C H a ks) : RowAt C H' a ks := by
  obtain ⟨dx, v, h1, h2⟩ := h
  exact ⟨dx, v, e _ _ True.intro h1, Fz.kp e h2⟩
theorem RowAt.same {C a : Addr} {H H' : Hp} {ks : Kinds} (e : Same H H') (h : RowAt C H a ks) : RowAt C H' a ks := h.kp (Kp.same e)
theorem lookKinds {v : V} : List.lookup ("_kinds" : Str) [(("_kinds" : Str), v)] = some v := by simp [List.lookup]
theorem Fz.tup_inv {H : Hp} {v : V} {ds : List PyData} (h : Fz H v (.tuple ds)) : ∃ a xs, v = .ref a ∧ H a = some (.tup xs) ∧ FzAll H xs ds := by
  cases h with | tup h1 h2 => exact ⟨_, _, rfl, h1, h2⟩
theorem Fz.int_inv {H : Hp} {v : V} {i : Int} (h : Fz H v (.int i)) : v = .int i := by cases h; rfl
theorem Fz.str_inv {H : Hp} {v : V} {i : Str} (h : Fz H v (.str i)) : v = .str i := by cases h; rfl
theorem Fz.kD_inv {H : Hp} {v : V} {k : Int × Int} (h : Fz H v (kD k)) : ∃ a, v = .ref a ∧ H a = some (.tup [.int k.1, .int k.2]) := by
  obtain ⟨a, xs, rfl, h1, h2⟩ := h.tup_inv
  cases h2 with
  | cons g1 h2 =>
    cases h2 with
    | cons g2 h2 =>
      cases h2
      rw [g1.int_inv, g2.int_inv] at h1
      exact ⟨a, rfl, h1⟩
theorem Fz.kD_mk {H : Hp} {a : Addr} {i j : Int} (h : H a = some (.tup [.int i, .int j])) : Fz H (.ref a) (kD (i, j)) := .tup h (.cons (.int i) (.cons (.int j) .nil))
theorem Fz.same {H H' : Hp} {v : V} {d : PyData} (e : Same H H') (h : Fz H v d) : Fz H' v d := Fz.kp (Kp.same e) h
theorem FzAll.same {H H' : Hp} {vs : List V} {ds : List PyData} (e : Same H H') (h : FzAll H vs ds) : FzAll H' vs ds := FzAll.kp (Kp.same e) h
section
variable {σ : HSt} {H : Hp} {Q : VK} {ta tv te : TE} {K : PySem.W.Frag} {v : V} {n bk ct : HSt → Hp → Prop} {r : VK}
theorem r_sfld {f : Str} (h : tv σ H fun y H1 => ta σ H1 fun x H2 => ∃ a C dx fs, x = .ref a ∧ H2 a = some (.ins C dx fs) ∧ Cls K C ∧ NoAttr K C f ∧ fs.length < 1000 ∧ Put a H2 (.ins C dx (putF f y fs)) (n σ)) : sFld K ta tv f ⟨n, r, bk, ct⟩ σ H := h
theorem r_mk {C : Addr} {sp : Sp} {E : XK} {t : TA} (h : t σ H fun vs H1 => ∀ x dx, H1 x = none → H1 dx = none → dx ≠ x → sp (.ref x :: (vs ++ [])) (upd (upd H1 dx (.own x)) x (.ins C dx [])) (fun v H2 => v = .non ∧ Q (.ref x) H2) E) : tMake C sp [] E t σ H Q := h
/-- a comprehension without a test, over a tuple whose items are data, its element's value told -/
theorem r_lcT {g : TG} {vs : List Nat} {a D : Addr} {xs : List V} {Qd : Hp → Prop} (hx : H a = some (.tup xs)) (hz : xs.length ≤ 100000) (hD : H D = none) (f : Nat → V)
    (hs : ∀ i x H1, xs[i]? = some x → Same H H1 → g x (wipe σ vs) H1 fun σ2 H3 => wipe σ2 vs = wipe σ vs ∧ te σ2 H3 fun y H5 => y = f i ∧ Same H1 H5)
    (mono : ∀ x σ H R R', (∀ σ H, R σ H → R' σ H) → g x σ H R → g x σ H R') (mono2 : ∀ σ H (R R' : VK), (∀ v H, R v H → R' v H) → te σ H R → te σ H R')
    (hd : ∀ H', Same H H' → H' D = some (.lst ((List.range xs.length).map f)) → Qd H') :
    ∃ W : Nat → Nat → Hp → Prop, (∃ m, W 0 m (upd H D (.lst []))) ∧ ∀ i m H, W i m H →
      ((Itt K a).stop i H ∧ Qd H) ∨ ((Itt K a).go i H ∧ ∃ Nx : Hp → Prop, (∀ H', Nx H' → ∃ m', m' < m ∧ W (i + 1) m' H') ∧ ∀ x H', (Itt K a).yld i H x H' → g x (wipe σ vs) H' fun σ2 H2 => wipe σ2 vs = wipe σ vs ∧ tYes σ2 H2 fun b H3 =>
        if b = true then te σ2 H3 fun y H4 => ∃ acc, H4 D = some (.lst acc) ∧ acc.length < sizeLine ∧ Nx (upd H4 D (.lst (acc ++ [y]))) else Nx H3) := by
  refine r_lcw (σ := σ) (walk_tup (xs := xs)) hD (fun i acc H' => Same H H' ∧ acc = (List.range i).map f) ?_ ?_ ?_ ?_
  · exact fun H' e _ => ⟨e, rfl⟩
  · rintro i acc H' _ ⟨e, _⟩ _
    exact .of (e _ _ hx)
  · rintro i x acc H1 H2 hi hl ⟨e, rfl⟩ h1 ⟨rfl, hx'⟩
    refine mono _ _ _ _ _ (fun σ2 H3 q => ?_) (hs i x _ hx' e)
    refine ⟨q.1, r_yes1 (r_t (mono2 _ _ _ _ (fun y H5 z => ?_) q.2))⟩
    obtain ⟨rfl, e5⟩ := z
    refine r_acc (i := i) (e5 _ _ h1) hl (by omega) fun H6 b6 h6 _ => ?_
    have hDn : H D = none := hD
    refine ⟨same_of_but (e.trans e5) b6 hDn, ?_⟩
    rw [List.range_succ, List.map_append]
    rfl
  · rintro acc H' _ ⟨e, rfl⟩ h1
    exact hd H' e h1
end
end Dg

namespace Dg
open PySem PySem.Spec PyProof.Rows L2
/-! ### lists -/
theorem ints_range {l : List Int} {n : Nat} (h : l.length = n) : (List.range n).map (fun i => V.int (l.getD i 0)) = l.map V.int := by
  subst h
  apply List.ext_getElem?
  intro i
  rw [List.getElem?_map, List.getElem?_map]
  by_cases c : i < l.length
  · rw [List.getElem?_range c, List.getElem?_eq_getElem c]
    simp [List.getD_eq_getElem?_getD, List.getElem?_eq_getElem c]
  · rw [List.getElem?_eq_none (by simpa using c), List.getElem?_eq_none (by simpa using c)]
    rfl
theorem take_snoc {α : Type} {l : List α} {i : Nat} {x : α} (h : l[i]? = some x) : l.take (i + 1) = l.take i ++ [x] := by
  rw [List.take_add_one, h]
  rfl
def DescP (ks : Kinds) : Prop := ks.Pairwise fun p q => q.1 < p.1
theorem kinds_one : ∀ {ks ls : Kinds}, DescP ks → DescP ls → (∀ x, x ∈ ks ↔ x ∈ ls) → ks = ls
  | [], [], _, _, _ => rfl
  | [], l :: ls, _, _, h => by have := (h l).mpr List.mem_cons_self; cases this
  | k :: ks, [], _, _, h => by have := (h k).mp List.mem_cons_self; cases this
  | k :: ks, l :: ls, h1, h2, h => by
    obtain ⟨a1, a2⟩ := List.pairwise_cons.mp h1
    obtain ⟨b1, b2⟩ := List.pairwise_cons.mp h2
    have e : k = l := by
      rcases List.mem_cons.mp ((h k).mp List.mem_cons_self) with e | e
      · exact e
      · rcases List.mem_cons.mp ((h l).mpr List.mem_cons_self) with e' | e'
        · exact e'.symm
        · have x1 := b1 k e
          have x2 := a1 l e'
          omega
    subst e
    refine congrArg (k :: ·) (kinds_one a2 b2 fun x => ⟨fun hx => ?_, fun hx => ?_⟩)
    · rcases List.mem_cons.mp ((h x).mp (List.mem_cons_of_mem _ hx)) with e | e
      · subst e
        have := a1 x hx
        omega
      · exact e
    · rcases List.mem_cons.mp ((h x).mpr (List.mem_cons_of_mem _ hx)) with e | e
      · subst e
        have := b1 x hx
        omega
      · exact e
/-! ### a dict of ints under ints -/
def embP (p : Int × Int) : Key × V := (Sum.inl p.1, V.int p.2)
def findI (cs : Kinds) (k : Int) : Option Int := (cs.find? fun p => decide (p.1 = k)).map (·.2)
def val (cs : Kinds) (k : Int) : Int := (findI cs k).getD 0
def keyed (k : Int) : Kinds → Bool := fun cs => cs.any fun p => decide (p.1 = k)
def putI (cs : Kinds) (k v : Int) : Kinds := if keyed k cs then cs.map (fun p => if p.1 = k then (p.1, v) else p) else cs ++ [(k, v)]
theorem key_dec (a b : Int) : decide ((Sum.inl a : Key) = Sum.inl b) = decide (a = b) := by
  by_cases e : a = b
  · subst e; simp
  · rw [decide_eq_false e, decide_eq_false (fun z => e (Sum.inl.inj z))]
theorem valV_emb (cs : Kinds) (k : Int) : valV (cs.map embP) (Sum.inl k) = (findI cs k).map V.int := by
  unfold valV findI
  induction cs with
  | nil => rfl
  | cons p r ih =>
    rw [List.map_cons, List.find?_cons, List.find?_cons]
    show Option.map _ (match decide ((Sum.inl p.1 : Key) = Sum.inl k) with | true => some (embP p) | false => List.find? _ (r.map embP)) = _
    rw [key_dec]
    cases decide (p.1 = k)
    · exact ih
    · rfl
theorem any_emb (cs : Kinds) (k : Int) : ((cs.map embP).any fun kv => decide (kv.1 = (Sum.inl k : Key))) = keyed k cs := by
  unfold keyed
  rw [List.any_map]
  congr 1
  funext p
  exact key_dec p.1 k
theorem putK_emb (cs : Kinds) (k v : Int) : putK (cs.map embP) (Sum.inl k) (V.int v) = (putI cs k v).map embP := by
  unfold putK putI
  rw [any_emb]
  cases h : keyed k cs
  · rw [if_neg Bool.false_ne_true, if_neg Bool.false_ne_true, List.map_append]
    rfl
  · rw [if_pos rfl, if_pos rfl, List.map_map, List.map_map]
    apply List.map_congr_left
    intro p _
    show (if (Sum.inl p.1 : Key) = Sum.inl k then ((Sum.inl p.1 : Key), V.int v) else embP p) = embP (if p.1 = k then (p.1, v) else p)
    by_cases e : p.1 = k
    · rw [if_pos (by rw [e]), if_pos e]
      rfl
    · rw [if_neg (fun z => e (Sum.inl.inj z)), if_neg e]
theorem findI_none {cs : Kinds} {k : Int} : findI cs k = none ↔ keyed k cs = false := by
  unfold findI keyed
  rw [Option.map_eq_none_iff, List.find?_eq_none]
  constructor
  · intro h
    cases z : cs.any fun p => decide (p.1 = k)
    · rfl
    · obtain ⟨p, hp, e⟩ := List.any_eq_true.mp z
      exact absurd e (h p hp)
  · intro h p hp e
    have : (cs.any fun p => decide (p.1 = k)) = true := List.any_eq_true.mpr ⟨p, hp, e⟩
    rw [h] at this
    cases this
theorem keyed_mem {cs : Kinds} {k : Int} : keyed k cs = true ↔ k ∈ cs.map (·.1) := by
  unfold keyed
  rw [List.any_eq_true, List.mem_map]
  constructor
  · rintro ⟨p, hp, e⟩
    exact ⟨p, hp, of_decide_eq_true e⟩
  · rintro ⟨p, hp, e⟩
    exact ⟨p, hp, decide_eq_true e⟩
theorem findI_map (k v j : Int) : ∀ cs : Kinds, findI (cs.map fun p => if p.1 = k then (p.1, v) else p) j = if j = k then (findI cs j).map fun _ => v else findI cs j := by
  intro cs
  induction cs with
  | nil => by_cases e : j = k <;> simp [findI, e]
  | cons p r ih =>
    unfold findI at ih ⊢
    rw [List.map_cons, List.find?_cons, List.find?_cons]
    by_cases e1 : p.1 = k
    · rw [if_pos e1]
      by_cases e2 : p.1 = j
      · have e3 : j = k := by omega
        simp [e2, e3]
      · have e3 : ¬ j = k := by omega
        simp only [decide_eq_false e2]
        rw [if_neg e3] at ih ⊢
        exact ih
    · rw [if_neg e1]
      by_cases e2 : p.1 = j
      · have e3 : ¬ j = k := by omega
        simp [e2, e3]
      · simp only [decide_eq_false e2]
        exact ih
theorem findI_app (cs : Kinds) (k v j : Int) (h : keyed k cs = false) : findI (cs ++ [(k, v)]) j = if j = k then some v else findI cs j := by
  unfold findI
  rw [List.find?_append]
  by_cases e : j = k
  · subst e
    have := findI_none.mpr h
    unfold findI at this
    rw [Option.map_eq_none_iff] at this
    rw [this, if_pos rfl]
    simp
  · rw [if_neg e]
    cases z : cs.find? fun p => decide (p.1 = j)
    · simp
      omega
    · simp
theorem findI_put (cs : Kinds) (k v j : Int) : findI (putI cs k v) j = if j = k then some v else findI cs j := by
  unfold putI
  cases h : keyed k cs
  · rw [if_neg Bool.false_ne_true]
    exact findI_app cs k v j h
  · rw [if_pos rfl, findI_map]
    by_cases e : j = k
    · rw [if_pos e, if_pos e]
      cases z : findI cs j
      · rw [e] at z
        rw [findI_none.mp z] at h
        cases h
      · rfl
    · rw [if_neg e, if_neg e]
theorem val_put (cs : Kinds) (k v j : Int) : val (putI cs k v) j = if j = k then v else val cs j := by
  unfold val
  rw [findI_put]
  by_cases e : j = k
  · rw [if_pos e, if_pos e]; rfl
  · rw [if_neg e, if_neg e]
theorem keys_put (cs : Kinds) (k v : Int) : (putI cs k v).map (·.1) = if keyed k cs then cs.map (·.1) else cs.map (·.1) ++ [k] := by
  unfold putI
  cases h : keyed k cs
  · rw [if_neg Bool.false_ne_true, if_neg Bool.false_ne_true, List.map_append]; rfl
  · rw [if_pos rfl, if_pos rfl, List.map_map]
    apply List.map_congr_left
    intro p _
    show (if p.1 = k then (p.1, v) else p).1 = p.1
    split <;> rfl
theorem nodup_put {cs : Kinds} {k v : Int} (h : (cs.map (·.1)).Nodup) : ((putI cs k v).map (·.1)).Nodup := by
  rw [keys_put]
  cases z : keyed k cs
  · rw [if_neg Bool.false_ne_true]
    refine List.nodup_append.mpr ⟨h, by simp, ?_⟩
    intro a ha b hb e
    rw [List.mem_singleton.mp hb] at e
    subst e
    rw [keyed_mem.mpr ha] at z
    cases z
  · exact h
theorem len_put (cs : Kinds) (k v : Int) : (putI cs k v).length ≤ cs.length + 1 := by
  unfold putI
  split
  · rw [List.length_map]; omega
  · rw [List.length_append]; exact Nat.le_refl _
theorem mem_keys_put {cs : Kinds} {k v j : Int} : j ∈ (putI cs k v).map (·.1) ↔ j = k ∨ j ∈ cs.map (·.1) := by
  rw [keys_put]
  cases z : keyed k cs
  · rw [if_neg Bool.false_ne_true, List.mem_append, List.mem_singleton]
    exact or_comm
  · rw [if_pos rfl]
    have := keyed_mem.mp z
    exact ⟨.inr, fun h => h.elim (fun e => e ▸ this) id⟩
theorem val_key {cs : Kinds} {k : Int} (h : val cs k ≠ 0) : k ∈ cs.map (·.1) := by
  refine keyed_mem.mp ?_
  cases z : keyed k cs
  · have := findI_none.mpr z
    unfold val at h
    rw [this] at h
    exact absurd rfl h
  · rfl
theorem findI_key {cs : Kinds} {k : Int} (h : k ∈ cs.map (·.1)) : findI cs k = some (val cs k) := by
  have z := keyed_mem.mpr h
  unfold val
  cases e : findI cs k
  · rw [findI_none.mp e] at z
    cases z
  · rfl
/-- the dict at a: cs in its order -/
def DI (H : Hp) (a : Addr) (cs : Kinds) : Prop := H a = some (.dK (cs.map embP)) ∧ (cs.map (·.1)).Nodup
theorem DI.keys {cs : Kinds} : ((cs.map embP).map fun kv => kV kv.1) = (cs.map (·.1)).map V.int := by
  rw [List.map_map, List.map_map]
  rfl
theorem DI.val {cs : Kinds} {k : Int} (h : k ∈ cs.map (·.1)) : valV (cs.map embP) (Sum.inl k) = some (V.int (Dg.val cs k)) := by
  rw [valV_emb, findI_key h]
  rfl
theorem DI.val? {cs : Kinds} {k : Int} : (valV (cs.map embP) (Sum.inl k)).getD (.int 0) = V.int (Dg.val cs k) := by
  rw [valV_emb]
  unfold Dg.val
  cases findI cs k <;> rfl
theorem DI.same {H H' : Hp} {a : Addr} {cs : Kinds} (e : Same H H') (h : DI H a cs) : DI H' a cs := ⟨e _ _ h.1, h.2⟩
section
variable {H : Hp} {Q : VK} {K : PySem.W.Frag} {a : Addr}
theorem r_sortedRev {ns : List Int} (h : SqL K H a (ns.map V.int)) (q : ∀ ns' : List Int, ns'.Perm ns → ns'.Pairwise (· ≥ ·) → New H (.lst (ns'.map V.int)) Q) : rSortedKw K true [.bl true] [.ref a] [.bl true] H Q :=
  ⟨a, ns, rfl, rfl, h, fun ns' p h1 h2 hp => q ns' h1 h2 p hp⟩
end
/-! ### the kinds that counts make -/
def pick (f : Int → Int) (l : List Int) : Kinds := l.filterMap fun d => if 0 < f d then some (d, f d) else none
theorem pick_snoc (f : Int → Int) (l : List Int) (d : Int) : pick f (l ++ [d]) = pick f l ++ (if 0 < f d then [(d, f d)] else []) := by
  unfold pick
  rw [List.filterMap_append]
  congr 1
  by_cases h : 0 < f d
  · simp [h]
  · simp [h]
theorem pick_desc {f : Int → Int} {l : List Int} (h : l.Pairwise (· > ·)) : DescP (pick f l) := by
  unfold DescP pick
  rw [List.pairwise_filterMap]
  refine h.imp ?_
  intro a b hab p hp q hq
  by_cases ha : 0 < f a <;> by_cases hb : 0 < f b <;> simp [ha, hb] at hp hq
  subst hp hq
  exact hab
theorem mem_pick {f : Int → Int} {l : List Int} {d c : Int} : (d, c) ∈ pick f l ↔ d ∈ l ∧ c = f d ∧ 0 < c := by
  unfold pick
  rw [List.mem_filterMap]
  constructor
  · rintro ⟨a, ha, e⟩
    by_cases h : 0 < f a
    · rw [if_pos h] at e
      have e' := Option.some.inj e
      have e1 : a = d := congrArg Prod.fst e'
      have e2 : f a = c := congrArg Prod.snd e'
      subst e1
      exact ⟨ha, e2.symm, by omega⟩
    · rw [if_neg h] at e
      cases e
  · rintro ⟨hd, rfl, h⟩
    exact ⟨d, hd, by rw [if_pos h]⟩
/-- ks are the kinds of the counts f -/
def KindsOf (f : Int → Int) (ks : Kinds) : Prop := DescP ks ∧ ∀ d c, (d, c) ∈ ks ↔ c = f d ∧ 0 < c
theorem KindsOf.one {f : Int → Int} {ks ls : Kinds} (h : KindsOf f ks) (h' : KindsOf f ls) : ks = ls :=
  kinds_one h.1 h'.1 fun x => (h.2 x.1 x.2).trans (h'.2 x.1 x.2).symm
theorem kindsOf_pick {cs : Kinds} {l : List Int} (hp : l.Perm (cs.map (·.1))) (hd : l.Pairwise (· > ·)) : KindsOf (val cs) (pick (val cs) l) := by
  refine ⟨pick_desc hd, fun d c => mem_pick.trans ⟨fun h => h.2, fun h => ⟨hp.mem_iff.mpr (val_key ?_), h⟩⟩⟩
  rw [← h.1]
  omega
theorem strict_of {l : List Int} (h : l.Pairwise (· ≥ ·)) (n : l.Nodup) : l.Pairwise (· > ·) := by
  refine (h.and n).imp ?_
  rintro a b ⟨h1, h2⟩
  show b < a
  have : b ≤ a := h1
  omega
end Dg

namespace Dg
open PySem PySem.Spec PyProof.Rows L2
/-! ### a law's source of draws -/
def Pail (H : Hp) (p : Addr) : Prop := ∃ a b c : Int, H p = some (.lst [.int a, .int b, .int c]) ∧ 0 ≤ a ∧ 0 ≤ b ∧ b < 2147483629 ∧ 0 ≤ c
theorem Pail.same {H H' : Hp} {p : Addr} (e : Same H H') (h : Pail H p) : Pail H' p := by
  obtain ⟨a, b, c, h1, h2⟩ := h
  exact ⟨a, b, c, e _ _ h1, h2⟩
theorem Pail.but {H H' : Hp} {p l : Addr} (e : But l H H') (n : p ≠ l) (h : Pail H p) : Pail H' p := by
  obtain ⟨a, b, c, h1, h2⟩ := h
  exact ⟨a, b, c, e _ _ n h1, h2⟩
theorem Pail.kp {H H' : Hp} {p : Addr} (h : Pail H p) (e : But p H H') : Kp H H' := by
  obtain ⟨a, b, c, h1, _⟩ := h
  exact Kp.butL e h1
theorem Pail.ne {H : Hp} {p q : Addr} (h : Pail H p) (hq : H q = none) : p ≠ q := by
  obtain ⟨a, b, c, h1, _⟩ := h
  exact ne_of_none h1 hq
theorem Pail.neT {H : Hp} {p q : Addr} {xs : List V} (h : Pail H p) (hq : H q = some (.tup xs)) : q ≠ p := by
  obtain ⟨a, b, c, h1, _⟩ := h
  exact ne_of hq h1 (fun z => nomatch z)
theorem _root_.L2.SqL.but {K : PySem.W.Frag} {H H' : Hp} {l a : Addr} {xs : List V} (h : SqL K H a xs) (e : But l H H') (n : a ≠ l) : SqL K H' a xs := by
  rcases h with (h | ⟨o, h⟩) | h
  · exact .inl (.inl (e _ _ n h))
  · exact .inl (.inr ⟨o, e _ _ n h⟩)
  · exact .inr h
theorem _root_.L2.SqT.but {K : PySem.W.Frag} {H H' : Hp} {l a : Addr} {xs : List V} (h : SqT K H a xs) (e : But l H H') (n : a ≠ l) : SqT K H' a xs := by
  rcases h with (h | ⟨o, h⟩) | h
  · exact .inl (.inl (e _ _ n h))
  · exact .inl (.inr ⟨o, e _ _ n h⟩)
  · exact .inr h
theorem cut_ints (ns : List Int) (lo hi : Option Int) : ∃ ms : List Int, cutV (ns.map V.int) lo hi = ms.map V.int ∧ ∀ z ∈ ms, z ∈ ns := by
  refine ⟨(ns.drop _).take _, by unfold cutV; rw [List.map_take, List.map_drop], fun z hz => List.mem_of_mem_drop (List.mem_of_mem_take hz)⟩
theorem atI_of {α : Type} {xs : List α} {i : Int} {v : α} (h0 : 0 ≤ i) (h : xs[i.toNat]? = some v) : atI xs i = some v := by
  have e := atI_nat (xs := xs) h
  rwa [Int.toNat_of_nonneg h0] at e
theorem ints_at {ns : List Int} {i : Nat} {v : V} (h : (ns.map V.int)[i]? = some v) : ∃ n, ns[i]? = some n ∧ v = V.int n := by
  rw [List.getElem?_map] at h
  obtain ⟨n, h1, h2⟩ := Option.map_eq_some_iff.mp h
  exact ⟨n, h1, h2.symm⟩
theorem mul_bits {i j : Int} (hi : Builtin.Int.intBits i ≤ 1048576) (hj : Builtin.Int.intBits j ≤ 1048576) : IntMulOk i j := IntMulOk.of_le hi hj (by decide)
/-- how many of each, in all -/
def sumOf (ps : Kinds) (d : Int) : Int := ((ps.filter fun p => decide (p.1 = d)).map (·.2)).sum
theorem sumOf_nil (d : Int) : sumOf [] d = 0 := rfl
theorem sumOf_snoc (ps : Kinds) (q : Int × Int) (d : Int) : sumOf (ps ++ [q]) d = if d = q.1 then sumOf ps d + q.2 else sumOf ps d := by
  unfold sumOf
  rw [List.filter_append, List.map_append, List.sum_append]
  by_cases e : d = q.1
  · rw [if_pos e]
    simp [e]
  · rw [if_neg e]
    have : ¬ q.1 = d := fun z => e z.symm
    simp [this]
def cntOf (ds : List Int) (d : Int) : Int := (ds.count d : Nat)
theorem cntOf_snoc (ds : List Int) (q d : Int) : cntOf (ds ++ [q]) d = if d = q then cntOf ds d + 1 else cntOf ds d := by
  unfold cntOf
  rw [List.count_append]
  by_cases e : d = q
  · subst e
    rw [if_pos rfl]
    simp
  · rw [if_neg e]
    have : ¬ q = d := fun z => e z.symm
    simp [List.count_singleton, this]
theorem cntOf_perm {ds es : List Int} (h : ds.Perm es) : cntOf ds = cntOf es := by
  funext d
  unfold cntOf
  rw [h.count_eq]
theorem sumOf_ones (ds : List Int) : sumOf (ds.map fun d => (d, 1)) = cntOf ds := by
  funext d
  induction ds with
  | nil => rfl
  | cons x r ih =>
    unfold sumOf cntOf at *
    rw [List.map_cons, List.filter_cons, List.count_cons]
    by_cases e : x = d
    · subst e
      simp
      omega
    · simp [e]
      omega
theorem KindsOf.congr {f g : Int → Int} {ks : Kinds} (h : KindsOf f ks) (e : f = g) : KindsOf g ks := e ▸ h
theorem sub_len : ∀ {l S : List Int}, l.Nodup → (∀ d ∈ l, d ∈ S) → l.length ≤ S.length
  | [], _, _, _ => Nat.zero_le _
  | x :: r, S, n, h => by
    obtain ⟨n1, n2⟩ := List.nodup_cons.mp n
    have hx := h x List.mem_cons_self
    have ih := sub_len (l := r) (S := S.erase x) n2 fun d hd => by
      refine (List.mem_erase_of_ne ?_).mpr (h d (List.mem_cons_of_mem _ hd))
      intro e
      exact n1 (e ▸ hd)
    rw [List.length_erase_of_mem hx] at ih
    have := List.length_pos_of_mem hx
    rw [List.length_cons]
    omega
theorem desc_of : ∀ {ks : Kinds} {m : Int}, DescP ks → (∀ k ∈ ks, 0 ≤ k.1 ∧ k.1 ≤ m ∧ 1 ≤ k.2 ∧ k.2 ≤ 1000000000000000000000000000000) → Desc m ks
  | [], _, _, _ => True.intro
  | k :: r, m, h, b => by
    obtain ⟨h1, h2⟩ := List.pairwise_cons.mp h
    obtain ⟨b1, b2, b3, b4⟩ := b k List.mem_cons_self
    refine ⟨b1, b2, b3, b4, desc_of h2 fun q hq => ?_⟩
    obtain ⟨c1, c2, c3, c4⟩ := b q (List.mem_cons_of_mem _ hq)
    have := h1 q hq
    exact ⟨c1, by omega, c3, c4⟩
theorem okK_of {ks : Kinds} (h : DescP ks) (b : ∀ k ∈ ks, 0 ≤ k.1 ∧ k.1 ≤ 10000000000000000000000000000000 ∧ 1 ≤ k.2 ∧ k.2 ≤ 1000000000000000000000000000000) (l : ks.length ≤ 10) (n : ks ≠ []) : OkK ks := ⟨n, l, desc_of h b⟩
/-- the kinds of up to 1000 degrees, at most ten unlike ones -/
theorem okK_count {ds : List Int} {ks : Kinds} (h : KindsOf (cntOf ds) ks) (l : ks.length ≤ 10) (n : ds ≠ []) (small : ds.length ≤ 1000) (b : ∀ d ∈ ds, 0 ≤ d ∧ d ≤ 10000000000000000000000000000000) : OkK ks := by
  have one : ∀ k ∈ ks, k.2 = cntOf ds k.1 ∧ 0 < k.2 := fun k hk => (h.2 k.1 k.2).mp hk
  refine okK_of h.1 (fun k hk => ?_) l ?_
  · obtain ⟨e, p⟩ := one k hk
    have hc : 0 < ds.count k.1 := by
      unfold cntOf at e
      omega
    obtain ⟨b1, b2⟩ := b k.1 (List.count_pos_iff.mp hc)
    have : ds.count k.1 ≤ ds.length := List.count_le_length
    unfold cntOf at e
    exact ⟨b1, b2, by omega, by omega⟩
  · obtain ⟨d, r, rfl⟩ := List.exists_cons_of_ne_nil n
    rintro rfl
    have : (d, cntOf (d :: r) d) ∈ ([] : Kinds) := (h.2 d _).mpr ⟨rfl, by unfold cntOf; simp⟩
    cases this
/-! ### degrees -/
def degFrom : List PyData → Nat → Option Nat
  | [], _ => none
  | d :: r, k => if k = 1000 ∨ betweenD d 0 10000000000000000000000000000000 = false then some k else degFrom r (k + 1)
def wrongDeg : PyData → Option Nat
  | .tuple ds => degFrom ds 0
  | _ => none
theorem degFrom_more {ds : List PyData} {k : Nat} {d : PyData} (h : ds[k]? = some d) (i : Nat) : degFrom (ds.drop k) i = if i = 1000 ∨ betweenD d 0 10000000000000000000000000000000 = false then some i else degFrom (ds.drop (k + 1)) (i + 1) := by
  obtain ⟨hl, he⟩ := List.getElem?_eq_some_iff.mp h
  rw [List.drop_eq_getElem_cons hl, he]
  rfl
theorem degFrom_ok : ∀ (ds : List Int) (i : Nat), i + ds.length ≤ 1000 → (∀ d ∈ ds, 0 ≤ d ∧ d ≤ 10000000000000000000000000000000) → degFrom (ds.map PyData.int) i = none
  | [], _, _, _ => rfl
  | d :: r, i, l, b => by
    have l' : i + (r.length + 1) ≤ 1000 := l
    obtain ⟨b1, b2⟩ := b d List.mem_cons_self
    have hb : betweenD (.int d) 0 10000000000000000000000000000000 = true := by
      show (decide (0 ≤ d) && decide (d ≤ 10000000000000000000000000000000)) = true
      rw [decide_eq_true b1, decide_eq_true b2]
      rfl
    show (if i = 1000 ∨ betweenD (.int d) 0 10000000000000000000000000000000 = false then some i else degFrom (r.map PyData.int) (i + 1)) = none
    rw [if_neg (fun z => z.elim (fun z => by omega) (fun z => by rw [hb] at z; cases z))]
    exact degFrom_ok r (i + 1) (by omega) fun q hq => b q (List.mem_cons_of_mem _ hq)
theorem _root_.L2.DpAll.ints {K : PySem.W.Frag} {H : Hp} : ∀ {ns : List Int} {xs : List V}, DpAll K H xs (ns.map PyData.int) → xs = ns.map V.int
  | [], _, .nil => rfl
  | n :: r, _, .cons h t => by
    cases h
    rw [L2.DpAll.ints t]
    rfl
theorem DpAll.mkInts {K : PySem.W.Frag} {H : Hp} : ∀ (ns : List Int), DpAll K H (ns.map V.int) (ns.map PyData.int)
  | [] => .nil
  | n :: r => .cons (.int n) (DpAll.mkInts r)
end Dg

namespace Dg
open PySem PySem.Spec PyProof.Rows L2
theorem filledD_isT {d : PyData} (h : filledD d = true) : isT d = true := by cases d <;> first | rfl | (simp [filledD] at h)
theorem eraseIdx_map {α β : Type} (f : α → β) : ∀ (l : List α) (k : Nat), (l.eraseIdx k).map f = (l.map f).eraseIdx k
  | [], _ => rfl
  | _ :: _, 0 => rfl
  | x :: r, k + 1 => congrArg (f x :: ·) (eraseIdx_map f r k)
theorem erase_perm {α : Type} : ∀ {l : List α} {k : Nat} (h : k < l.length), ([l[k]'h] ++ l.eraseIdx k).Perm l
  | x :: r, 0, _ => List.Perm.refl _
  | x :: r, k + 1, h => by
    have ih := erase_perm (l := r) (k := k) (Nat.lt_of_succ_lt_succ h)
    exact (List.Perm.swap x (r[k]'(Nat.lt_of_succ_lt_succ h)) (r.eraseIdx k)).trans (ih.cons x)
/-! ### != of instances whose class has an own == alone -/
section
variable {prog : Program} {w : World} {A : Around} {E : Value → Shared → Prop} {s : Shared} {K : PySem.W.Frag} {x C L f : Addr} {h₀ : Heap} {m : Str → Option Value} {ox : Obj} {od : Option Obj} {b tb : Value}
theorem bound_builtin {M : Model} {name : Str} {T id : String} {args : List Value} {R : Option Value → Shared → Prop} (X : K.In s.heap) (J : PySem.W.InstAt s.heap x ox C od) (hs : PySem.W.findIn K (.ref C) name = some (some (.builtin id))) (S : Slot T name id)
    (h : wpAny M A (call (.builtin id) (.ref x :: args)) (fun v => R (some v)) E s) : wpAny M A (callSpecialIfBound? (.ref x) name args) R E s := by
  simp only [bindSpecialIfBound?, callSpecialIfBound?]
  refine wpAny_holding (wpAny_bind (wpAny_bind (wpAny_bind (J.type.here ((PySem.W.looks_findIn X hs).here ?_)))))
  simp only [S.bind]
  refine wpAny_bind (wpAny_askSetting (wpAny_ite ?_))
  have last : wpAny M A (call (.builtin id) ([.ref x] ++ args) >>= fun v => pure (some v)) R E s := wpAny_bind (wpAny_mono h (fun v s' z => wpAny_pure z) fun _ _ z => z)
  split
  · exact wpAny_bind (wpAny_pure (wpAny_pure last))
  · exact wpAny_tryCatch (wpAny_bind (wpAny_pure (wpAny_pure last)))
theorem ne_entry (hu : A.units < cLine) (X : K.In s.heap) (J : PySem.W.InstAt s.heap x ox C od) (he : PySem.W.findIn K (.ref C) "__eq__" = some (some (.ref f))) (hf : PySem.W.isFn K (.ref f) = true) {R : Fin → Shared → Prop}
    (h : wpAny (model prog w) A (call (.ref f) [.ref x, b]) (fun v s' => ∃ k, v = .bool k ∧ R (.done (.ret (.bool (!k)))) s') E s) : wpAny (model prog w) A (Builtin.«object.__ne__» ⟨[.ref x, b], []⟩) R E s := by
  unfold Builtin.«object.__ne__»
  repeat (first
    | with_reducible refine wpAny_cRoomFor hu ?_
    | (refine wpAny_bind (m := callSpecialIfBound? (.ref x) (Str.ofString "__eq__") [b]) (PySem.W.ifBound_K X J he hf (wpAny_mono h (fun v s' z => ?_) fun _ _ z => z)))
    | wp_step)
  obtain ⟨k, rfl, z⟩ := z
  repeat (first | exact z | exact wpAny_pure z | exact wpAny_truthy_bool z | (refine wpAny_bind (m := truthy (.bool _)) (wpAny_truthy_bool ?_)) | wp_step)
theorem ne_own {R : Value → Shared → Prop} (hu : A.units + 1 < cLine) (X : K.In s.heap) (J : PySem.W.InstAt s.heap x ox C od) (hb : PySem.W.Looks (model prog w) s.heap (typeOf b) tb) (hn : PySem.W.notFirst K C tb = true)
    (he : PySem.W.findIn K (.ref C) "__eq__" = some (some (.ref f))) (hf : PySem.W.isFn K (.ref f) = true) (hne : PySem.W.findIn K (.ref C) "__ne__" = some (some (.builtin "object.__ne__"))) (top : PySem.W.mroIn K C (.type "object") = some true)
    (h : wpAny (model prog w) A.in1 (call (.ref f) [.ref x, b]) (fun v s' => ∃ k, v = .bool k ∧ R (.bool (!k)) s') E s) : wpAny (model prog w) A (richCompare .NotEq (.ref x) b) R E s := by
  have sub : PySem.W.Looks (model prog w) s.heap (isInstance (.ref x) (.type "object")) true := J.type.andThen (PySem.W.looks_mroIn X top)
  have one : wpAny (model prog w) A (tryCompare (.ref x) "__ne__" b) (fun r s' => ∃ v, r = some v ∧ R v s') E s := by
    unfold tryCompare
    refine wpAny_bind (bound_builtin X J hne PySem.F.cmp_object.ne (wpAny_call (codeAny_call_builtin PySem.F.cmp_object.ne.plain F.cmpEntry_ne
      (PySem.W.check_slot (owner := "object") (n := "__ne__") F.cmpKind_ne F.cmpSplit_ne sub (F.cmpArgs_ne _ _) (ne_entry (A := A.in1) (Nat.lt_of_lt_of_le (show A.in1.units < cLine from hu) (Nat.le_refl _)) X J he hf (wpAny_mono h (fun v s' z => ?_) fun _ _ z => z))))))
    obtain ⟨k, rfl, z⟩ := z
    exact ⟨k, rfl, wpAny_pure ⟨_, rfl, z⟩⟩
  unfold richCompare
  simp only [oneThing_ref]
  refine wpAny_holding (wpAny_bind (wpAny_cRoomFor (Nat.lt_of_succ_lt hu) ?_))
  refine wpAny_bind (J.type.here (wpAny_bind (hb.here ?_)))
  split
  · rename_i q
    have e : PySem.W.subIn K tb (.ref C) = some false := by
      rcases Bool.or_eq_true_iff.mp hn with e | e
      · rw [beq_iff_eq.mp e] at q; simp at q
      · exact beq_iff_eq.mp e
    refine wpAny_bind ((PySem.W.looks_subIn X e).here ?_)
    simp only [Bool.false_eq_true, if_false]
    refine wpAny_bind (wpAny_mono one (fun r s' z => ?_) fun _ _ z => z)
    obtain ⟨v, rfl, hq⟩ := z
    exact wpAny_pure hq
  · refine wpAny_bind (wpAny_pure ?_)
    simp only [Bool.false_eq_true, if_false]
    refine wpAny_bind (wpAny_mono one (fun r s' z => ?_) fun _ _ z => z)
    obtain ⟨v, rfl, hq⟩ := z
    exact wpAny_pure hq
end
/-- two instances of the class at C: what the own == says -/
def rEqO (C : Addr) (sp : Sp) (E : XK) : R2 := fun x y H Q => ∃ a b dx dy fs gs, x = .ref a ∧ y = .ref b ∧ H a = some (.ins C dx fs) ∧ H b = some (.ins C dy gs) ∧ sp [.ref a, .ref b] H (fun v H' => ∃ k, v = .bl k ∧ Q (.bl k) H') E
def rNeO (C : Addr) (sp : Sp) (E : XK) : R2 := fun x y H Q => ∃ a b dx dy fs gs, x = .ref a ∧ y = .ref b ∧ H a = some (.ins C dx fs) ∧ H b = some (.ins C dy gs) ∧ sp [.ref a, .ref b] H (fun v H' => ∃ k, v = .bl k ∧ Q (.bl (!k)) H') E
section
variable {X : Cx} {CX : CXT} {n : Nat} {C f : Addr} {fd : FuncData} {ps : List Str} {sp : Sp} {E : XK}
theorem own_run {A : Around} {pins : List (Addr × Obj)} {s : Shared} {σ : L2.St} {H : Hp} {a b : Addr} {Q : Bool → Hp → Prop} {R : Value → Shared → Prop} (F : FnOk X.prog X.w X.K X.mg X.base CX n f fd ps sp) (hb : Binds X.K fd ps []) (hx : Passes CX X E) (hr : Room n A) (hfr : A.frames = X.A.frames)
    (I : Inv X pins σ H s) (h : sp [.ref a, .ref b] H (fun v H' => ∃ k, v = .bl k ∧ Q k H') E) (hR : ∀ k H' s', Inv X pins σ H' s' → Q k H' → R (.bool k) s') : wpAny (model X.prog X.w) A (call (.ref f) [.ref a, .ref b]) R X.xe s := by
  have e0 : Env0 X.prog X.w X.K X.mg X.base A X.stack s H := by
    have e := I.env0
    exact ⟨by rw [hfr]; exact e.frames, e.mod, e.bs, e.bsz, e.funs, e.frf, e.hok, e.bare⟩
  have hl := F.len _ _ _ _ h
  have r2 : Vals [V.ref a, V.ref b] [Value.ref a, Value.ref b] := .cons rfl (.cons rfl .nil)
  refine wpAny_call (codeAny_mono (F.run A X.stack s H ⟨[.ref a, .ref b], []⟩ [.ref a, .ref b] [.ref a, .ref b] _ E hr e0 (by
    have z := hb s [.ref a, .ref b] I.kIn (by simpa using hl)
    simpa using z) r2 h) fun r s' hq => ?_)
  cases r with
  | error e => exact hx pins σ H s e s' I hq
  | ok fl =>
    cases fl with
    | ret u =>
      obtain ⟨z, H', I', rz, k, ez, q⟩ := I.after hq
      subst ez
      cases rz
      exact hR k H' s' I' q
    | next => exact hq.elim
    | brk => exact hq.elim
    | cont => exact hq.elim
theorem op_eqO (F : FnOk X.prog X.w X.K X.mg X.base CX n f fd ps sp) (hb : Binds X.K fd ps []) (he : PySem.W.findIn X.K (.ref C) "__eq__" = some (some (.ref f))) (hf : PySem.W.isFn X.K (.ref f) = true) (hr : Room n X.A) (hx : Passes CX X E) : OpR X (compareOp .Eq) (rEqO C sp E) := by
  intro pins s σ H x y v u Q I rx ry hq
  obtain ⟨a, b, dx, dy, fs, gs, rfl, rfl, ha, hb', hsp⟩ := hq
  cases rx
  cases ry
  obtain ⟨mA, J, _⟩ := ins_get I.hok ha
  obtain ⟨mB, J', _⟩ := ins_get I.hok hb'
  obtain ⟨od, J, _⟩ := J.look
  obtain ⟨od', J', _⟩ := J'.look
  obtain ⟨m, hF⟩ := I.fr
  show wpAny (model X.prog X.w) X.A (richCompare .Eq (.ref a) (.ref b)) (EP X pins σ Q) X.xe s
  refine PySem.W.cmp_K (op := .Eq) (tb := .ref C) hr.units0 hF I.ok.mod.kin J J'.type (by simp [PySem.W.notFirst]) he hf ?_
  exact own_run (Q := fun k => Q (.bl k)) F hb hx hr rfl I hsp fun k H' s' I' z => ⟨.bl k, H', I', rfl, z⟩
theorem op_neO (F : FnOk X.prog X.w X.K X.mg X.base CX n f fd ps sp) (hb : Binds X.K fd ps []) (he : PySem.W.findIn X.K (.ref C) "__eq__" = some (some (.ref f))) (hf : PySem.W.isFn X.K (.ref f) = true) (hne : PySem.W.findIn X.K (.ref C) "__ne__" = some (some (.builtin "object.__ne__")))
    (top : PySem.W.mroIn X.K C (.type "object") = some true) (hr : Room (n + 1) X.A) (hx : Passes CX X E) : OpR X (compareOp .NotEq) (rNeO C sp E) := by
  intro pins s σ H x y v u Q I rx ry hq
  obtain ⟨a, b, dx, dy, fs, gs, rfl, rfl, ha, hb', hsp⟩ := hq
  cases rx
  cases ry
  obtain ⟨mA, J, _⟩ := ins_get I.hok ha
  obtain ⟨mB, J', _⟩ := ins_get I.hok hb'
  obtain ⟨od, J, _⟩ := J.look
  obtain ⟨od', J', _⟩ := J'.look
  obtain ⟨m, hF⟩ := I.fr
  show wpAny (model X.prog X.w) X.A (richCompare .NotEq (.ref a) (.ref b)) (EP X pins σ Q) X.xe s
  refine ne_own (tb := .ref C) (hu_of hr) I.kIn J J'.type (by simp [PySem.W.notFirst]) he hf hne top ?_
  exact own_run (A := X.A.in1) (Q := fun k => Q (.bl (!k))) F hb hx hr.in1 rfl I hsp fun k H' s' I' z => ⟨k, rfl, .bl (!k), H', I', rfl, z⟩
end
/-! ### a classmethod, called by keywords -/
theorem fun_kw {K : PySem.W.Frag} {x qual : Str} {st : Stmt} {f : Addr} {fd : FuncData} {ps ks : List Str} {n : Nat} (F : Fun K x qual st f fd)
    (h : ∀ (kV doc pm : Value) (an : Option Addr) (cdv ct : Value) (us ws : List Value), us.length = n → ws.length = ks.length → bindArgs (PySem.W.fnOf x qual (defArgs st) (defBody st) (defScope st) .none kV doc pm an cdv ct) ⟨us, ks.zip ws⟩ = pure (ps.zip (us ++ ws))) :
    KBn K fd ps n ks (fun us ws => us ++ ws) (fun vs zs => vs ++ zs) := by
  obtain ⟨oc, od, kV, doc, pm, an, cdv, ct, osl, rfl, lk, hcd⟩ := F.ex
  exact ⟨fun s us ws X l1 l2 => .of_eq (h kV doc pm an cdv ct us ws l1 l2), fun r1 r2 => r1.append r2⟩
def tCMethK (C : Addr) (m : Nat) (sp : Sp) (gV : List V → List V → List V) (E : XK) (ta : TE) (tk : TA) : TE := fun σ H Q => ta σ H fun x H1 => x = .ref C ∧ tk σ H1 fun zs H2 => zs.length = m ∧ sp (gV [.ref C] zs) H2 Q E
section
variable {X : Cx} {CX : CXT} {k : Nat} {C p g : Addr} {mc : Value} {fd : FuncData} {ps ks : List Str} {sp : Sp} {E : XK} {o : Expr} {kws : List Keyword} {m : Str} {pos apos : Pos} {ta : TE} {tk : TA} {pl : Sem Bool}
  {gg : List Value → List Value → List Value} {gV : List V → List V → List V}
theorem pe_cmethK (he : PE X o ta) (r : ClX.CRead X.K C mc) (c : ClX.CMet X.K C mc m p g) (F : FnOk X.prog X.w X.K X.mg X.base CX k g fd ps sp) (hr : Room k X.A) (hb : KBn X.K fd ps 1 ks gg gV) (hx : Passes CX X E) (hk : PK X kws tk)
    (hall : (backToKw pos (keywordEach kws X.env)).all (·.1.isSome) = true := by rfl) (hks : (backToKw pos (keywordEach kws X.env)).filterMap (·.1) = ks := by rfl)
    (hpl : ((backTo pos (starEach [] X.env)).any (·.1) || (backToKw pos (keywordEach kws X.env)).any (·.1.isNone)) = false := by rfl)
    (ht : eval (.Call (.Attribute o m apos) [] kws pos) X.env = (do
      let ov ← eval o X.env
      standAt apos.atName
      let (f, first) ← holding [ov] (getMethod ov m pl)
      callWith pos f first (backTo pos (starEach [] X.env)) (backToKw pos (keywordEach kws X.env))) := by rfl) :
    PE X (.Call (.Attribute o m apos) [] kws pos) (tCMethK C ks.length sp gV E ta tk) := by
  constructor
  intro pins s σ H Q I h
  refine PySem.W.methodCall_KW (pl := pl) (thn (he.run pins s σ H _ I h) fun u s1 ⟨x, H1, I1, rx, ex, q⟩ => ?_) ht
  subst ex
  obtain rfl : u = Value.ref C := rx
  refine ClX.getmethcm_ok I1 r c fun s2 I2 => ?_
  refine PySem.W.callWith_of (P := PySem.W.MethP X.K s1.heap.objs.size g (.ref C)) hpl (PySem.W.keeps_M c.fi) (evalArgs_kw2_nil hall (thn (hk.run pos _ s2 σ H1 _ I2 q) fun ws s3 ⟨zs, H2, I3, rz, l2, q2⟩ => ⟨⟨ClX.pin_at I3, I3.kIn⟩, ?_⟩))
  rw [hks]
  show wpAny (model X.prog X.w) X.A (call (.ref s1.heap.objs.size) [] (ks.zip ws)) (EP X pins σ Q) X.xe s3
  have z : wpAny (model X.prog X.w) X.A (call (.ref s1.heap.objs.size) [] (ks.zip ws)) (EP X ((s1.heap.objs.size, PySem.W.methodObj (.ref g) (.ref C)) :: pins) σ Q) X.xe s3 := by
    have r2 := hb.rel (vs := [V.ref C]) (us := [Value.ref C]) (.cons rfl .nil) rz
    refine wpAny_call (PySem.W.method_call (ClX.pin_at I3) (codeAny_mono (F.run X.A X.stack s3 H2 ⟨[.ref C], ks.zip ws⟩ (gg [.ref C] ws) (gV [.ref C] zs) Q E hr I3.env0 (hb.to s3 [.ref C] ws I3.kIn rfl (rz.length.symm.trans l2)) r2 q2) fun r s' hq => ?_))
    cases r with
    | error e => exact hx _ σ H2 s3 e s' I3 hq
    | ok fl =>
      cases fl with
      | ret u => exact I3.after hq
      | next => exact hq.elim
      | brk => exact hq.elim
      | cont => exact hq.elim
  exact thn z fun _ _ y => ClX.unpinE y
end
section
variable {σ : HSt} {H : Hp} {Q : VK} {n bk ct : HSt → Hp → Prop} {r : VK}
theorem r_cmethK {C : Addr} {m : Nat} {sp : Sp} {gV : List V → List V → List V} {E : XK} {te : TE} {tk : TA} (h : te σ H fun x H1 => x = .ref C ∧ tk σ H1 fun zs H2 => zs.length = m ∧ sp (gV [.ref C] zs) H2 Q E) : tCMethK C m sp gV E te tk σ H Q := h
theorem r_par {i j : Nat} {t : TA} (h : t σ H fun vs H1 => ∃ v w, vs = [v, w] ∧ n ((σ.set i (some v)).set j (some w)) H1) : tPar i j t ⟨n, r, bk, ct⟩ σ H := h
theorem r_pair {v w : V} {R : V → V → Prop} (h : R v w) : ∃ a b, [v, w] = [a, b] ∧ R a b := ⟨v, w, rfl, h⟩
theorem r_neO {C a b dx dy : Addr} {fs gs : List (Str × V)} {sp : Sp} {E : XK} (ha : H a = some (.ins C dx fs)) (hb : H b = some (.ins C dy gs)) (h : sp [.ref a, .ref b] H (fun v H' => ∃ k, v = .bl k ∧ Q (.bl (!k)) H') E) : rNeO C sp E (.ref a) (.ref b) H Q := ⟨a, b, dx, dy, fs, gs, rfl, rfl, ha, hb, h⟩
theorem r_eqO {C a b dx dy : Addr} {fs gs : List (Str × V)} {sp : Sp} {E : XK} (ha : H a = some (.ins C dx fs)) (hb : H b = some (.ins C dy gs)) (h : sp [.ref a, .ref b] H (fun v H' => ∃ k, v = .bl k ∧ Q (.bl k) H') E) : rEqO C sp E (.ref a) (.ref b) H Q := ⟨a, b, dx, dy, fs, gs, rfl, rfl, ha, hb, h⟩
theorem r_isiO {K : PySem.W.Frag} {a C dx : Addr} {fs : List (Str × V)} (h : H a = some (.ins C dx fs)) (cl : Cls K C) (i1 : PySem.W.findIn K (.ref C) "__class__" = some (some (.builtin "object.__class__"))) (i2 : PySem.W.specialIn K (.builtin "object.__class__") "__get__" = some (some (.builtin "getset_descriptor.__get__")))
    (i3 : PySem.W.takesIn K (.builtin "object.__class__") = some true) (i4 : PySem.W.mroIn K C (.type "object") = some true) (i5 : PySem.W.kitOne K (.ref C) (.ref C) = some true) (q : Q (.bl true) H) : rIsiA K [.ref a, .ref C] H Q :=
  ⟨.ref a, .ref C, .ref C, .ref C, true, rfl, .own C, .base (.ins h cl i1 i2 i3 i4), i5, q⟩
end
end Dg

namespace Dg
open PySem PySem.Spec PyProof.Rows L2
/-! ### data that can be shown and compared -/
structure Okd (d : PyData) (n b : Nat) : Prop where
  sh : d.showable = true
  hd : d.hasDict = false
  dp : d.depth ≤ n
  lf : d.leavesShort 2000 = true
  bk : d.bulk ≤ b
  cl : d.canLay0 = true
structure OkdAll (ds : List PyData) (n b : Nat) : Prop where
  sh : PyData.showableAll ds = true
  hd : PyData.hasDictAll ds = false
  dp : PyData.depthAll ds ≤ n
  lf : PyData.leavesShortAll 2000 ds = true
  bk : PyData.bulkAll ds ≤ b
  cl : PyData.canLayAll0 ds = true
theorem Okd.int {i : Int} (h : i.natAbs.log2 < 1920) : Okd (.int i) 0 0 := by
  refine ⟨decide_eq_true h, rfl, Nat.le_refl _, ?_, Nat.le_refl _, rfl⟩
  show decide ((PyData.shown (.int i)).length ≤ 2000) = true
  have z := int_text_len_1921 h
  exact decide_eq_true (Nat.le_trans (show (PyData.shown (.int i)).length ≤ 1921 from z) (by decide))
theorem Okd.bool (x : Bool) : Okd (.bool x) 0 0 := ⟨rfl, rfl, Nat.le_refl _, rfl, Nat.le_refl _, rfl⟩
theorem Okd.non : Okd .none 0 0 := ⟨rfl, rfl, Nat.le_refl _, rfl, Nat.le_refl _, rfl⟩
theorem Okd.mono {d : PyData} {n m b c : Nat} (h : Okd d n b) (h1 : n ≤ m) (h2 : b ≤ c) : Okd d m c := ⟨h.sh, h.hd, Nat.le_trans h.dp h1, h.lf, Nat.le_trans h.bk h2, h.cl⟩
theorem OkdAll.nil {n : Nat} : OkdAll [] n 0 := ⟨rfl, rfl, Nat.zero_le _, rfl, Nat.le_refl _, rfl⟩
theorem OkdAll.cons {d : PyData} {ds : List PyData} {n b c : Nat} (h : Okd d n b) (t : OkdAll ds n c) : OkdAll (d :: ds) n (b + 1 + c) := by
  refine ⟨?_, ?_, ?_, ?_, ?_, ?_⟩
  · show (PyData.showable d && PyData.showableAll ds) = true
    rw [h.sh, t.sh]; rfl
  · show (PyData.hasDict d || PyData.hasDictAll ds) = false
    rw [h.hd, t.hd]; rfl
  · show max (PyData.depth d) (PyData.depthAll ds) ≤ n
    exact Nat.max_le.mpr ⟨h.dp, t.dp⟩
  · show (PyData.leavesShort 2000 d && PyData.leavesShortAll 2000 ds) = true
    rw [h.lf, t.lf]; rfl
  · show PyData.bulk d + 1 + PyData.bulkAll ds ≤ b + 1 + c
    exact Nat.add_le_add (Nat.add_le_add_right h.bk 1) t.bk
  · show (PyData.canLay0 d && PyData.canLayAll0 ds) = true
    rw [h.cl, t.cl]; rfl
theorem Okd.tup {ds : List PyData} {n b : Nat} (h : OkdAll ds n b) : Okd (.tuple ds) (n + 1) b := ⟨h.sh, h.hd, Nat.add_le_add_right h.dp 1, h.lf, h.bk, h.cl⟩
theorem Okd.lst {ds : List PyData} {n b : Nat} (h : OkdAll ds n b) : Okd (.list ds) (n + 1) b := ⟨h.sh, h.hd, Nat.add_le_add_right h.dp 1, h.lf, h.bk, h.cl⟩
theorem OkdAll.map {α : Type} {f : α → PyData} {n b : Nat} : ∀ (xs : List α), (∀ x ∈ xs, Okd (f x) n b) → OkdAll (xs.map f) n ((b + 1) * xs.length)
  | [], _ => .nil
  | x :: r, h => by
    have z := (h x List.mem_cons_self).mono (Nat.le_refl _) (Nat.le_refl _) |> fun a => OkdAll.cons a (OkdAll.map r fun y hy => h y (List.mem_cons_of_mem _ hy))
    have e : b + 1 + (b + 1) * r.length = (b + 1) * (x :: r).length := by rw [List.length_cons, Nat.mul_add, Nat.mul_one, Nat.add_comm]
    rw [e] at z
    exact z
theorem Okd.short {d : PyData} {n b : Nat} (h : Okd d n b) (hb : b ≤ 8000) : d.shown.length ≤ sizeLine := by
  have z := PyData.shown_le_bulk 2000 (by decide) d h.lf
  have y := h.bk
  have e : (2000 + 2) * d.bulk ≤ (2000 + 2) * 8000 := Nat.mul_le_mul_left _ (Nat.le_trans y hb)
  exact Nat.le_trans z (Nat.le_trans (Nat.add_le_add_right e 2000) (by decide))
theorem Okd.shaped {d : PyData} {n b : Nat} (h : Okd d n b) (hn : n ≤ 64) : SeqAt.shaped d = true := by
  show (PyData.canLay0 d && decide (PyData.depth d ≤ 64)) = true
  rw [h.cl, decide_eq_true (Nat.le_trans h.dp hn)]
  rfl
theorem log_small {i : Int} (h0 : 0 ≤ i) (h : i ≤ 100000000000000000000000000000000000000000000000000) : i.natAbs.log2 < 1920 := by
  have a : i.natAbs < 2 ^ 200 := by omega
  by_cases z : i.natAbs = 0
  · rw [z]; decide
  · have := (Nat.log2_lt z).mpr a
    omega
theorem okd_kD {k : Int × Int} (h : 0 ≤ k.1 ∧ k.1 ≤ 10000000000000000000000000000000 ∧ 1 ≤ k.2 ∧ k.2 ≤ 1000000000000000000000000000000) : Okd (kD k) 1 2 :=
  .tup (.cons (.int (log_small h.1 (by omega))) (.cons (.int (log_small (by omega) (by omega))) .nil))
theorem okd_KD {ks : Kinds} (h : OkK ks) : Okd (KD ks) 2 30 :=
  (Okd.tup (OkdAll.map ks fun k hk => okd_kD (h.2.2.all k hk))).mono (Nat.le_refl _) (by have := h.2.1; omega)
theorem shaped_KD {ks : Kinds} (h : OkK ks) : SeqAt.shaped (KD ks) = true := (okd_KD h).shaped (by decide)
theorem eqv_kD (k l : Int × Int) : PyData.eqv (kD k) (kD l) = decide (k = l) := by
  show ((k.1 == l.1) && ((k.2 == l.2) && true)) = decide (k = l)
  obtain ⟨a, b⟩ := k
  obtain ⟨c, d⟩ := l
  by_cases e : a = c <;> by_cases f : b = d <;> simp [e, f]
theorem eqvAll_kD : ∀ ks ls : Kinds, PyData.eqvAll (ks.map kD) (ls.map kD) = decide (ks = ls)
  | [], [] => rfl
  | [], _ :: _ => rfl
  | _ :: _, [] => rfl
  | k :: ks, l :: ls => by
    show (PyData.eqv (kD k) (kD l) && PyData.eqvAll (ks.map kD) (ls.map kD)) = _
    rw [eqv_kD, eqvAll_kD ks ls]
    by_cases e : k = l <;> by_cases f : ks = ls <;> simp [e, f]
theorem eqv_KD (ks ls : Kinds) : PyData.eqv (KD ks) (KD ls) = decide (ks = ls) := eqvAll_kD ks ls
section
variable {H : Hp} {Q : VK} {K : PySem.W.Frag} {a : Addr} {d : PyData} {n b : Nat}
theorem r_show (h : Dp K H (.ref a) d) (o : Okd d n b) (hn : n ≤ 60) (hb : b ≤ 8000) (q : Q (.str d.shown) H) : rRepr K [.ref a] H Q := r_repr h o.sh o.hd (Nat.le_trans o.dp hn) (o.short hb) q
end
end Dg

namespace Dg
open PySem PySem.Spec PyProof.Rows L2
/-! ### degrees one by one -/
def spread (ks : Kinds) : List Int := ks.flatMap fun k => List.replicate k.2.toNat k.1
theorem spread_cons (k : Int × Int) (r : Kinds) : spread (k :: r) = List.replicate k.2.toNat k.1 ++ spread r := by
  unfold spread
  rw [List.flatMap_cons]
theorem spread_count : ∀ {ks : Kinds} (d : Int), DescP ks → (spread ks).count d = (val ks d).toNat
  | [], d, _ => rfl
  | k :: r, d, h => by
    obtain ⟨h1, h2⟩ := List.pairwise_cons.mp h
    rw [spread_cons, List.count_append, List.count_replicate, spread_count d h2]
    have hv : val (k :: r) d = if k.1 = d then k.2 else val r d := by
      unfold val findI
      rw [List.find?_cons]
      by_cases e : k.1 = d
      · simp [e]
      · simp [e]
    rw [hv]
    by_cases e : k.1 = d
    · subst e
      have z : val r k.1 = 0 := by
        by_cases y : val r k.1 = 0
        · exact y
        · obtain ⟨q, hq, e⟩ := List.mem_map.mp (val_key y)
          have := h1 q hq
          omega
      simp [z]
    · simp [e]
theorem val_mem {ks : Kinds} {d c : Int} (h : DescP ks) (m : (d, c) ∈ ks) : val ks d = c := by
  induction ks with
  | nil => cases m
  | cons k r ih =>
    obtain ⟨h1, h2⟩ := List.pairwise_cons.mp h
    unfold val findI at ih ⊢
    rw [List.find?_cons]
    rcases List.mem_cons.mp m with e | e
    · subst e
      simp
    · have := h1 _ e
      have n : ¬ k.1 = d := by
        have : d < k.1 := this
        omega
      simp only [decide_eq_false n]
      exact ih h2 e
theorem val_of {f : Int → Int} {ks : Kinds} (h : KindsOf f ks) (d : Int) (h0 : 0 ≤ f d) : val ks d = f d := by
  by_cases z : 0 < f d
  · exact val_mem h.1 ((h.2 d (f d)).mpr ⟨rfl, z⟩)
  · have e : f d = 0 := by omega
    by_cases y : val ks d = 0
    · rw [y, e]
    · obtain ⟨q, hq, eq⟩ := List.mem_map.mp (val_key y)
      obtain ⟨q1, q2⟩ := q
      have eq' : q1 = d := eq
      subst eq'
      have := (h.2 q1 q2).mp hq
      omega
theorem spread_perm {ds : List Int} {ks : Kinds} (h : KindsOf (cntOf ds) ks) : (spread ks).Perm ds := by
  refine List.perm_iff_count.mpr fun d => ?_
  rw [spread_count d h.1, val_of h d (by unfold cntOf; omega)]
  unfold cntOf
  omega
theorem sum_replicate (n : Nat) (x : Int) : (List.replicate n x).sum = n * x := by
  induction n with
  | zero => simp
  | succ n ih =>
    rw [List.replicate_succ, List.sum_cons, ih]
    have : ((n + 1 : Nat) : Int) * x = n * x + x := by rw [Int.natCast_add, Int.add_mul]; simp
    omega
theorem spread_sum : ∀ {ks : Kinds}, (∀ k ∈ ks, 0 ≤ k.2) → (spread ks).sum = (ks.map fun k => k.1 * k.2).sum
  | [], _ => rfl
  | k :: r, h => by
    rw [spread_cons, List.sum_append, sum_replicate, spread_sum fun q hq => h q (List.mem_cons_of_mem _ hq), List.map_cons, List.sum_cons]
    have := h k List.mem_cons_self
    rw [Int.toNat_of_nonneg this, Int.mul_comm]
theorem spread_len : ∀ {ks : Kinds}, (∀ k ∈ ks, 0 ≤ k.2) → ((spread ks).length : Int) = (ks.map fun k => k.2).sum
  | [], _ => rfl
  | k :: r, h => by
    rw [spread_cons, List.length_append, List.length_replicate, List.map_cons, List.sum_cons, Int.natCast_add, spread_len fun q hq => h q (List.mem_cons_of_mem _ hq)]
    have := h k List.mem_cons_self
    omega
theorem sum_perm {l m : List Int} (h : l.Perm m) : l.sum = m.sum := by
  induction h with
  | nil => rfl
  | cons x _ ih => rw [List.sum_cons, List.sum_cons, ih]
  | swap x y l => simp only [List.sum_cons]; omega
  | trans _ _ a b => exact a.trans b
theorem kinds_ends {ds : List Int} {ks : Kinds} (h : KindsOf (cntOf ds) ks) : (ks.map fun k => k.1 * k.2).sum = ds.sum := by
  rw [← spread_sum (fun k hk => by have := (h.2 k.1 k.2).mp hk; omega)]
  exact sum_perm (spread_perm h)
theorem kinds_places {ds : List Int} {ks : Kinds} (h : KindsOf (cntOf ds) ks) : (ks.map fun k => k.2).sum = ds.length := by
  rw [← spread_len (fun k hk => by have := (h.2 k.1 k.2).mp hk; omega), (spread_perm h).length_eq]
/-! ### slices from the left -/
theorem cut_upto {xs : List V} {j : Int} (h : 0 ≤ j) : cutV xs none (some j) = xs.take j.toNat := by
  obtain ⟨k, rfl⟩ := Int.eq_ofNat_of_zero_le h
  unfold cutV
  rw [HT.sIx_none, HT.sIx_nat, List.drop_zero, Nat.sub_zero, Int.toNat_natCast]
  by_cases c : k ≤ xs.length
  · rw [Nat.min_eq_left c]
  · rw [Nat.min_eq_right (by omega), List.take_length, List.take_of_length_le (by omega)]
/-! ### readings -/
theorem _root_.L2.SqL.butN {K : PySem.W.Frag} {H H' : Hp} {l a : Addr} {xs : List V} (h : SqL K H a xs) (e : But l H H') (n : H l = none) : SqL K H' a xs := by
  rcases h with (h | ⟨o, h⟩) | h
  · exact .inl (.inl (e _ _ (ne_of_none h n) h))
  · exact .inl (.inr ⟨o, e _ _ (ne_of_none h n) h⟩)
  · exact .inr h
section
variable {σ : HSt} {H : Hp} {Q : VK} {K : PySem.W.Frag}
theorem r_cE {i j : Int} (e : j = i) (h : Q (.int j) H) : tC (.int i) σ H Q := by
  subst e
  exact h
theorem r_powL {i j v : Int} (h0 : 0 ≤ j) (h1 : j ≤ 1000) (h2 : i.natAbs < 2 ^ 64) (e : i ^ j.toNat = v) (h : Q (.int v) H) : rPowA (.int i) (.int j) H Q :=
  r_pow ⟨h0, by omega, h2⟩ (by rw [e]; exact h)
theorem r_pow18 (h : Q (.int 1000000000000000000) H) : rPowA (.int 10) (.int 18) H Q := r_powL (by decide) (by decide) (by decide) (by decide +kernel) h
theorem r_pow30 (h : Q (.int 1000000000000000000000000000000) H) : rPowA (.int 10) (.int 30) H Q := r_powL (by decide) (by decide) (by decide) (by decide +kernel) h
theorem r_pow31 (h : Q (.int 10000000000000000000000000000000) H) : rPowA (.int 10) (.int 31) H Q := r_powL (by decide) (by decide) (by decide) (by decide +kernel) h
end
theorem kit_self {K : PySem.W.Frag} {C : Addr} : PySem.W.kitOne K (.ref C) (.ref C) = some true := by
  unfold PySem.W.kitOne
  exact if_pos (by simp)
/-! ### the same of the text's own part -/
section
variable {X : Cx} {K : PySem.W.Frag}
theorem opAddK (h : X.K = K) : OpR X (binaryOp .Add) (rAddA K) := h ▸ opAdd
theorem opEqK {k : Nat} (hr : Room k X.A) (h : X.K = K) : OpR X (compareOp .Eq) (rEqA K) := h ▸ opEq hr
theorem opNeK {k : Nat} (hr : Room k X.A) (h : X.K = K) : OpR X (compareOp .NotEq) (rNeA K) := h ▸ opNe hr
theorem ixK (h : X.K = K) : IxR X (rIxA K) := h ▸ ixA
theorem slK (h : X.K = K) : SlR X (slA K) := h ▸ sl_any
theorem callIsiK (h : X.K = K) : CallR X (.builtin "isinstance") (rIsiA K) := h ▸ callIsi
theorem callLenK (h : X.K = K) : CallR X (.builtin "len") (rLenA K) := h ▸ callLen
theorem callListK (hc : X.calm = true) (h : X.K = K) : CallR X (.type "list") (rListA K) := h ▸ callList hc
theorem callTupK (h : X.K = K) : CallR X (.type "tuple") (rTupA K) := h ▸ callTup
theorem callSumK (hc : X.calm = true) (h : X.K = K) : CallR X (.builtin "sum") (rSum K) := h ▸ callSum hc
theorem callAllK (hc : X.calm = true) (h : X.K = K) : CallR X (.builtin "all") (rAll K) := h ▸ cr_all hc
theorem callSortedK (h : X.K = K) : CallR X (.builtin "sorted") (rSortedI K) := h ▸ cr_sortedI
end
/-- a law row's end, the promise said of the written part -/
theorem walk_GK {l : PySem.W.OpenLaw} {n k : Nat} {q : Program} {loose : List Str} {XP : (Str → Option Value) → Heap → Prop} {YP : World → Heap → Prop} {d : DefRec} {K : Params → PySem.W.Frag} {sp : PySem.W.Frag → Sp} {x : Str}
    (most : l.most = some n) (few : n ≤ sizeLine) (hdf : d.params.defaults = []) (hr : Room k callerA) (hY : ∀ (w : World) (h : Heap), YP w h → (K w.params).In h)
    (F : ∀ (w : World) (mg : Str → Option Value) (fa : Addr) (h : Heap), (K w.params).In h → h.Ns mainGlobals mg → mg d.name = some (.ref fa) →
      ∃ fd : FuncData, (∀ (s : Shared) (u : Value), BindsTo s fd ⟨[u], []⟩ [(x, u)]) ∧ ∀ base : Heap, (K w.params).In base → base.Ns mainGlobals mg → FnG l.prog w (K w.params) mg base CX0 k fa fd [x] (sp (K w.params)))
    (hsp : ∀ (K : PySem.W.Frag) (H : Hp) (a : Addr) (ns : List Int), ns.length ≤ n → (∀ z ∈ ns, Builtin.Int.intBits z ≤ 1048576) → SqL K H a (ns.map V.int) → (∀ b u, H b = some u → b = a) → (∀ xs, H a ≠ some (.lst xs)) → sp K [.ref a] H (fun v _ => v = .bl true) fun _ _ _ => False) :
    PySem.W.WalkO q loose XP YP l.row.toRowW d [] (fun f vs => PySem.call f vs) :=
  walk_G (K := K) (sp := fun w => sp (K w.params)) most few hdf hr hY F fun w H a ns h1 h2 h3 h4 h5 => hsp (K w.params) H a ns h1 h2 h3 h4 h5
end Dg

namespace Dg
open PySem PySem.Spec PyProof.Rows L2
/-! ### first, *rest = a list -/
def gStar (K : PySem.W.Frag) (g1 g2 : TG) : TG := fun v σ H R => ∃ a x xs, v = .ref a ∧ SqL K H a (x :: xs) ∧ ∀ p, H p = none → g1 x σ (upd H p (.lst xs)) fun σ1 H1 => g2 (.ref p) σ1 H1 R
theorem walks_from1 {prog : Program} {w : World} {A : Around} {I : Addr} {fp wr : List Addr} {n : Nat} {P : Nat → Value → Prop} {St : Nat → Heap → Prop} (W : Walks prog w A I fp wr (n + 1) P St) : Walks prog w A I fp wr n (fun i => P (i + 1)) (fun i => St (i + 1)) where
  sub := W.sub
  frame := fun i h h' st hk => W.frame (i + 1) h h' st hk
  item := fun i s Q E hi st hQ => W.item (i + 1) s Q E (by omega) st hQ
  done := fun s Q E st hQ => W.done s Q E st hQ
  self := fun i s Q E st hQ => W.self (i + 1) s Q E st hQ
theorem unpack_star {prog : Program} {w : World} {A : Around} {E : Value → Shared → Prop} {s : Shared} {a : Addr} {u : Value} {us : List Value} {R : List Value → Shared → Prop} (hh : A.handled = none) (ht : s.heap.IsList a (u :: us).toArray) (few : us.length ≤ sizeLine)
    (hR : ∀ (h' : Heap) (tk : Nat), (∀ b o, s.heap.get? b = some o → h'.get? b = some o) → R [u, .ref h'.objs.size] { s with heap := h'.push { cls := .type "list", data := .seq us.toArray }, toks := tk }) :
    wpAny (model prog w) A (unpackItems (.ref a) 2 (some 1)) R E s := by
  have hlt : a ≠ s.heap.objs.size := by obtain ⟨o, ho, _⟩ := ht; exact Nat.ne_of_lt (Heap.lt_size ho)
  have ha : a < s.heap.objs.size := by obtain ⟨o, ho, _⟩ := ht; exact Heap.lt_size ho
  unfold unpackItems
  refine wpAny_bind ?_
  unfold notIterableAtAll
  refine wpAny_bind (wpAny_specialOf ht.typeIs PySem.slot_list_iter.lookup ?_)
  refine wpAny_pure ?_
  simp only [Bool.false_eq_true, if_false]
  refine wpAny_bind (wpAny_holding (wpAny_pyIter_list ht ?_))
  have st0 : (s.heap.push { cls := .type "list_iterator", data := .fields #[.ref a, .int 0 0] }).IsListIter s.heap.objs.size a 0 ∧ (s.heap.push { cls := .type "list_iterator", data := .fields #[.ref a, .int 0 0] }).IsList a (u :: us).toArray :=
    ⟨⟨_, Heap.get?_push_size _ rfl, rfl, rfl⟩, ht.push _⟩
  have W := Walks.list (prog := prog) (w := w) (A := A.in1) (by exact hh) s.heap.objs.size a hlt (u :: us).toArray
  have sz : (u :: us).toArray.size = us.length + 1 := by rw [List.size_toArray]; rfl
  rw [sz] at W
  refine wpAny_bind (wpAny_holding ?_)
  show wpAny _ A (draw (.ref s.heap.objs.size) 1) _ _ _
  unfold draw
  refine wpAny_bind (W.of_in1.item 0 _ _ _ (by omega) st0 fun v h1 tk1 hv st1 k1 => ?_)
  have ev : v = u := by
    simp at hv
    exact hv.symm
  subst ev
  simp only [draw]
  refine wpAny_bind (wpAny_holding (wpAny_pure (wpAny_pure ?_)))
  rw [if_neg (by simp)]
  refine wpAny_bind (wpAny_holding ?_)
  have size1 : s.heap.objs.size < h1.objs.size := by
    obtain ⟨o, ho, _⟩ := st1.1
    exact Heap.lt_size ho
  refine wpAny_collect_iter (T := "list_iterator") (.inr (.inr (.inl rfl))) (walks_from1 W).toS (fun i s' st => ?_) st1 (fun b hb => ?_) (by simp) (fun s2 acc mv hacc => ?_) few
  · obtain ⟨o, ho, hc, _⟩ := st.1
    exact ⟨o, ho, hc⟩
  · simp at hb
    rcases hb with rfl | rfl
    · exact size1
    · exact Nat.lt_trans ha size1
  have eacc : acc.toList = us := by
    obtain ⟨h2, h3⟩ := hacc
    apply List.ext_getElem?
    intro i
    by_cases c : i < acc.size
    · have z := h3 i acc[i] (by simp [c])
      simp at z
      rw [z]
      simp [c]
    · rw [List.getElem?_eq_none (by simpa using c), List.getElem?_eq_none (by omega)]
  rw [eacc]
  obtain ⟨hp2, g2, d2, t2, o2⟩ := s2
  obtain ⟨m1, m2, m3, m4, m5⟩ := mv
  simp only at m1 m2 m3 m4 m5
  subst m2 m3 m4
  have after : (2 - 1 - 1 : Nat) = 0 := rfl
  simp only [Nat.sub_zero, Nat.not_lt_zero, if_false, after, List.take_length, List.drop_length]
  refine wpAny_bind (wpAny_newList ?_ few)
  refine wpAny_pure (hR hp2 t2 fun b o e => ?_)
  have nb : b ≠ s.heap.objs.size := Nat.ne_of_lt (Heap.lt_size e)
  exact m1 b o (by simpa using nb) (k1 b o (by simpa using nb) (Heap.get?_push_of_some _ e))
theorem pg_star {X : Cx} {e1 e2 : Expr} {sp pos : Pos} {k : _} {g1 g2 : TG} (hc : X.calm = true) (h1 : PG X e1 g1) (h2 : PG X e2 g2)
    (hs : assignEach [e1, .Starred e2 sp] X.env = [(false, assign e1 X.env), (true, assign e2 X.env)] := by rfl) : PG X (.Tuple [e1, .Starred e2 sp] k pos) (gStar X.K g1 g2) := by
  refine ⟨fun pins s σ H v u Q I r hw => ?_⟩
  obtain ⟨a, x, xs, rfl, hq, hw⟩ := hw
  cases r
  obtain ⟨its, rv, ht, hz⟩ := I.list hq
  cases rv with
  | cons r1 rs =>
    rename_i w1 ws
    rw [assign_Tuple, hs]
    refine wpAny_bind (wpAny_standAt ?_)
    unfold unpack
    have few : ws.length ≤ sizeLine := by
      have := rs.length
      rw [List.length_cons] at hz
      omega
    refine wpAny_bind (wpAny_holding (unpack_star (I.ok.hd hc) ht.isList few fun h' tk hk => ?_))
    have I0 : Inv X pins σ H { s with heap := h', toks := tk } := I.kept hk
    have fresh : H h'.objs.size = none := I0.hok.fresh (Nat.le_refl _)
    have I1 : Inv X pins σ (upd H h'.objs.size (.lst xs)) { s with heap := h'.push { cls := .type "list", data := .seq ws.toArray }, toks := tk } := by
      refine I0.laid (t' := tk) (fun b o e => Heap.get?_push_of_some _ e) (Nat.le_refl _) ?_
      exact ⟨by have := rs.length; omega, _, 0, rs, Heap.get?_push_size _ rfl⟩
    show wpAny _ X.A (assignInOrder [assign e1 X.env, assign e2 X.env] [w1, .ref h'.objs.size]) _ _ _
    unfold assignInOrder
    refine wpAny_bind (wpAny_holding (thn (h1.run pins _ σ _ x w1 _ I1 r1 (hw _ fresh)) fun _ s1 ⟨σ1, H1, I2, q1⟩ => ?_))
    unfold assignInOrder
    refine wpAny_bind (wpAny_holding (thn (h2.run pins s1 σ1 H1 (.ref h'.objs.size) (.ref h'.objs.size) _ I2 rfl q1) fun _ s2 q2 => ?_))
    unfold assignInOrder
    exact wpAny_pure q2
end Dg

namespace Dg
open PySem PySem.Spec PyProof.Rows L2
/-! ### the text of a row -/
def numS (i : Int) : Str := Str.ofString (toString i)
def kindText (k : Int × Int) : Str := numS k.1 ++ " x " ++ numS k.2
def sheet (ks : Kinds) : Str := Txt.join "\n" (("row" : Str) :: ks.map kindText)
theorem tl_numS {i : Int} (h : 0 ≤ i) : TL.tl (numS i) = TL.numL i.toNat := by
  obtain ⟨n, rfl⟩ := Int.eq_ofNat_of_zero_le h
  exact TL.tl_num n
theorem numL_free {n s : Nat} (h : s < 48 ∨ 57 < s) : s ∉ TL.numL n := TL.numL_free h
theorem tl_kind {k : Int × Int} (h1 : 0 ≤ k.1) (h2 : 0 ≤ k.2) : TL.tl (kindText k) = TL.numL k.1.toNat ++ [32, 120, 32] ++ TL.numL k.2.toNat := by
  unfold kindText
  rw [TL.tl_append, TL.tl_append, tl_numS h1, tl_numS h2]
  rfl
theorem split_kind {k : Int × Int} (h1 : 0 ≤ k.1) (h2 : 0 ≤ k.2) : Txt.split (kindText k) " " = [numS k.1, "x", numS k.2] := by
  have e : kindText k = Txt.join " " [numS k.1, "x", numS k.2] := by
    rw [TL.join_eq]
    refine TL.ext_tl ?_
    rw [tl_kind h1 h2, TL.tl_join]
    show _ = TL.tl (numS k.1) ++ ([32] ++ ([120] ++ ([32] ++ TL.tl (numS k.2))))
    rw [tl_numS h1, tl_numS h2]
    simp
  rw [e]
  refine TL.split_join (s := 32) (S := []) rfl (by decide +kernel) (by simp) fun p hp => ?_
  simp only [List.mem_cons, List.not_mem_nil, or_false] at hp
  rcases hp with rfl | rfl | rfl
  · rw [tl_numS h1]; exact numL_free (.inl (by decide))
  · decide
  · rw [tl_numS h2]; exact numL_free (.inl (by decide))
theorem split_sheet {ks : Kinds} (h : ∀ k ∈ ks, 0 ≤ k.1 ∧ 0 ≤ k.2) : Txt.split (sheet ks) "\n" = ("row" : Str) :: ks.map kindText := by
  refine TL.split_join (s := 10) (S := []) rfl (by decide +kernel) (by simp) fun p hp => ?_
  rcases List.mem_cons.mp hp with rfl | hp
  · decide
  · obtain ⟨k, hk, rfl⟩ := List.mem_map.mp hp
    obtain ⟨h1, h2⟩ := h k hk
    rw [tl_kind h1 h2]
    intro z
    simp only [List.mem_append, List.mem_cons, List.not_mem_nil, or_false] at z
    rcases z with (z | z) | z
    · exact numL_free (.inl (by decide)) z
    · omega
    · exact numL_free (.inl (by decide)) z
theorem numS_len {i : Int} (h0 : 0 ≤ i) (h1 : i ≤ 10000000000000000000000000000000) : (numS i).length ≤ 32 := by
  rw [TL.len_tl, tl_numS h0]
  exact TL.numL_len (k := 32) (by decide) (by omega)
theorem numS_int {i : Int} (h0 : 0 ≤ i) (h1 : i ≤ 10000000000000000000000000000000) : intText? (numS i) = some i := by
  obtain ⟨n, rfl⟩ := Int.eq_ofNat_of_zero_le h0
  refine TL.int_num ?_
  exact Nat.le_trans (TL.numL_len (k := 32) (by decide) (by omega)) (by decide)
theorem kind_len {k : Int × Int} (h1 : 0 ≤ k.1) (h2 : k.1 ≤ 10000000000000000000000000000000) (h3 : 0 ≤ k.2) (h4 : k.2 ≤ 10000000000000000000000000000000) : (kindText k).length ≤ 67 := by
  rw [TL.len_tl, tl_kind h1 h3]
  have a := TL.numL_len (n := k.1.toNat) (k := 32) (by decide) (by omega)
  have b := TL.numL_len (n := k.2.toNat) (k := 32) (by decide) (by omega)
  simp only [List.length_append, List.length_cons, List.length_nil]
  omega
/-- numerals -/
theorem numL_head : ∀ (n : Nat), (TL.numL n).head? = some 48 → n = 0 := by
  intro n
  induction n using Nat.strongRecOn with
  | _ n ih =>
    intro h
    by_cases c : n < 10
    · rw [TL.numL_lt c] at h
      simp at h
      exact h
    · rw [TL.numL_step (by omega)] at h
      have ne := TL.numL_ne (n / 10)
      obtain ⟨x, r, e⟩ := List.exists_cons_of_ne_nil ne
      rw [e] at h
      simp at h
      have z := ih (n / 10) (by omega) (by rw [e, h]; rfl)
      omega
theorem uni_digit : ∀ c : Nat, c < 58 → 48 ≤ c → Unicode.isDigit c = true := by decide +kernel
theorem numS_mem {i : Int} (h : 0 ≤ i) : ∀ c ∈ TL.tl (numS i), 48 ≤ c ∧ c ≤ 57 := by
  rw [tl_numS h]
  exact fun c hc => TL.numL_digits i.toNat c hc
theorem numS_ascii {i : Int} (h : 0 ≤ i) : Txt.isascii (numS i) = true := by
  show (numS i).cps.all (· < 128) = true
  rw [← Array.all_toList, List.all_eq_true]
  intro c hc
  have := numS_mem h c hc
  exact decide_eq_true (by omega)
theorem numS_digit {i : Int} (h : 0 ≤ i) : Txt.isdigit (numS i) = true := by
  show (decide ((numS i).length > 0) && (numS i).cps.all Unicode.isDigit) = true
  rw [Bool.and_eq_true]
  refine ⟨decide_eq_true ?_, ?_⟩
  · rw [TL.len_tl, tl_numS h]
    exact List.length_pos_iff.mpr (TL.numL_ne _)
  · rw [← Array.all_toList, List.all_eq_true]
    intro c hc
    have := numS_mem h c hc
    exact uni_digit c (by omega) (by omega)
theorem numS_zero {i : Int} (h : 0 ≤ i) (n : i ≠ 0) : Txt.startswith (numS i) "0" = false := by
  cases z : Txt.startswith (numS i) "0" with
  | false => rfl
  | true =>
    have z' : (decide (0 + ("0" : Str).length ≤ (numS i).length) && Builtin.Str.subAt (numS i) "0" 0) = true := z
    rw [Bool.and_eq_true] at z'
    have y := (StrLaws.subAt_one (numS i) 48 0).mp ⟨of_decide_eq_true z'.1, z'.2⟩
    have y' : (TL.tl (numS i))[0]? = some 48 := y
    rw [tl_numS h, ← List.head?_eq_getElem?] at y'
    have := numL_head _ y'
    omega
/-! ### readings of texts -/
section
variable {σ : HSt} {H : Hp} {Q : VK} {K : PySem.W.Frag} {te ta : TE}
theorem callStr {X : Cx} : CallR X (.type "str") rStrA := call_str_int.or SkE.call_str_str
theorem r_strI {i : Int} (l : i.natAbs.log2 < 1920) (q : Q (.str (numS i)) H) : rStrA [.int i] H Q := .inl ⟨i, rfl, l, q⟩
theorem r_strS {a : Str} (q : Q (.str a) H) : rStrA [.str a] H Q := .inr ⟨a, rfl, q⟩
theorem r_tyS {a : Str} {A : Prop} (q : A) : tyV K "str" (.str a) H ∧ A := ⟨rfl, q⟩
def rSplitA : V → List V → Hp → VK → Prop := fun x xs H Q => ∃ a b, x = .str a ∧ xs = [.str b] ∧ (b.length == 0) = false ∧ a.length + 2 ≤ sizeLine ∧ rNewStrs (Txt.split a b) H Q
theorem mtSplit {X : Cx} : MtR X "str.split" rSplitA := mt_split
theorem r_split {a b : Str} {ys : List Str} (hb : (b.length == 0) = false) (l : a.length ≤ 100000) (e : Txt.split a b = ys) (q : New H (.lst (ys.map V.str)) Q) : rSplitA (.str a) [.str b] H Q :=
  ⟨a, b, rfl, rfl, hb, Nat.le_trans (Nat.add_le_add_right l 2) (by decide), by rw [e]; exact q⟩
def rJoinA (K : PySem.W.Frag) : V → List V → Hp → VK → Prop := fun x xs H Q => ∃ a p, ∃ ys : List Str, x = .str a ∧ xs = [.ref p] ∧ (SqL K H p (ys.map V.str) ∨ SqT K H p (ys.map V.str)) ∧ (ys.map (·.length)).sum + ys.length * a.length ≤ 16777216 ∧ Q (.str (Txt.join a ys)) H
theorem mtJoin {X : Cx} (h : X.K = K) : MtR X "str.join" (rJoinA K) := h ▸ mt_join
theorem r_join {a : Str} {p : Addr} {ys : List Str} (h : SqL K H p (ys.map V.str)) (l : (ys.map (·.length)).sum + ys.length * a.length ≤ 16777216) (q : Q (.str (Txt.join a ys)) H) : rJoinA K (.str a) [.ref p] H Q := ⟨a, p, ys, rfl, rfl, .inl h, l, q⟩
def rS0 (g : Str → Bool) : V → List V → Hp → VK → Prop := fun x xs H Q => ∃ a, x = .str a ∧ xs = [] ∧ True ∧ Q (.bl (g a)) H
theorem mtIsascii {X : Cx} : MtR X "str.isascii" (rS0 Txt.isascii) := mt_isascii
theorem mtIsdigit {X : Cx} : MtR X "str.isdigit" (rS0 Txt.isdigit) := mt_isdigit
theorem r_s0 {g : Str → Bool} {a : Str} (q : Q (.bl (g a)) H) : rS0 g (.str a) [] H Q := ⟨a, rfl, rfl, True.intro, q⟩
def rS1 (g : Str → Str → Bool) : V → List V → Hp → VK → Prop := fun x xs H Q => ∃ a b, x = .str a ∧ xs = [.str b] ∧ Q (.bl (g a b)) H
theorem mtStarts {X : Cx} : MtR X "str.startswith" (rS1 Txt.startswith) := mt_startswith
theorem r_s1 {g : Str → Str → Bool} {a b : Str} (q : Q (.bl (g a b)) H) : rS1 g (.str a) [.str b] H Q := ⟨a, b, rfl, rfl, q⟩
theorem r_bm0 {T : String} {rr : V → List V → Hp → VK → Prop} (h : te σ H fun x H1 => tyV K T x H1 ∧ rr x [] H1 Q) : tBM0 K T rr te σ H Q := h
def tJoined (ts : List TE) : TE := fun σ H Q => tJs ts Str.empty σ H fun out H1 => Q (.str out) H1
theorem pe_joinedA {X : Cx} {v1 v2 : Expr} {rest : List Expr} {ts : List TE} {pos : Pos} (h : PJ X (v1 :: v2 :: rest) ts) : PE X (.JoinedStr (v1 :: v2 :: rest) pos) (tJoined ts) := pe_joined h
theorem r_joined {ts : List TE} (h : tJs ts Str.empty σ H fun out H1 => Q (.str out) H1) : tJoined ts σ H Q := h
theorem r_jnil {acc : Str} {R : Str → Hp → Prop} (h : R acc H) : tJs [] acc σ H R := h
theorem r_jcons {t : TE} {ts : List TE} {acc : Str} {R : Str → Hp → Prop} (h : t σ H fun x H1 => ∃ y : Str, x = .str y ∧ (acc ++ y).length ≤ sizeLine ∧ tJs ts (acc ++ y) σ H1 R) : tJs (t :: ts) acc σ H R := h
theorem r_fmt (h : te σ H fun x H1 => (∃ y : Str, x = .str y ∧ y.length ≤ sizeLine ∧ Q (.str y) H1) ∨ ∃ i : Int, x = .int i ∧ i.natAbs.log2 < 1920 ∧ Q (.str (toString i)) H1) : tFmt te σ H Q := h
theorem r_fmtI {i : Int} {A : Prop} (l : i.natAbs.log2 < 1920) (q : Q (.str (numS i)) H) : A ∨ ∃ j : Int, V.int i = .int j ∧ j.natAbs.log2 < 1920 ∧ Q (.str (toString j)) H := .inr ⟨i, rfl, l, q⟩
theorem r_star {g1 g2 : TG} {a : Addr} {x : V} {xs : List V} {R : HSt → Hp → Prop} (h : SqL K H a (x :: xs)) (q : ∀ p H', H p = none → Same H H' → H' p = some (.lst xs) → g1 x σ H' fun σ1 H1 => g2 (.ref p) σ1 H1 R) : gStar K g1 g2 (.ref a) σ H R :=
  ⟨a, x, xs, rfl, h, fun p hp => q p _ hp (fun b u e => by rw [upd_ne (ne_of_none e hp)]; exact e) upd_same⟩
end
theorem empty_app (x : Str) : Str.empty ++ x = x := TL.ext_tl (by rw [TL.tl_append]; rfl)
theorem sum_le {l : List Nat} {n : Nat} (h : ∀ x ∈ l, x ≤ n) : l.sum ≤ l.length * n := by
  induction l with
  | nil => simp
  | cons x r ih =>
    have a := ih fun y hy => h y (List.mem_cons_of_mem _ hy)
    have b := h x List.mem_cons_self
    rw [List.sum_cons, List.length_cons, Nat.add_mul, Nat.one_mul]
    omega
end Dg
namespace Dg
open PySem PySem.Spec PyProof.Rows L2
theorem rows_fit {ys : List Str} (ten : ys.length ≤ 10) (len : ∀ y ∈ ys, y.length ≤ 1000) : ((("row" : Str) :: ys).map (·.length)).sum + (("row" : Str) :: ys).length * ("\n" : Str).length ≤ 16777216 := by
  have a : (ys.map (·.length)).sum ≤ (ys.map (·.length)).length * 1000 := sum_le fun x hx => by
    obtain ⟨y, hy, rfl⟩ := List.mem_map.mp hx
    exact len y hy
  rw [List.length_map] at a
  rw [List.map_cons, List.sum_cons, List.length_cons]
  have e1 : ("row" : Str).length = 3 := by decide +kernel
  have e2 : ("\n" : Str).length = 1 := by decide +kernel
  rw [e1, e2]
  omega
theorem sheet_len {ks : Kinds} (ok : OkK ks) : (sheet ks).length ≤ 100000 := by
  unfold sheet
  rw [TL.join_eq]
  refine Nat.le_trans (StrLaws.join_length_le _ _) ?_
  have ten := ok.2.1
  have a : ((ks.map kindText).map (·.length)).sum ≤ ((ks.map kindText).map (·.length)).length * 67 := sum_le fun x hx => by
    obtain ⟨y, hy, rfl⟩ := List.mem_map.mp hx
    obtain ⟨k, hk, rfl⟩ := List.mem_map.mp hy
    have kk := ok.2.2.all k hk
    exact kind_len kk.1 kk.2.1 (by omega) (by omega)
  rw [List.length_map, List.length_map] at a
  rw [List.map_cons, List.sum_cons, List.length_cons, List.length_map]
  have e1 : ("row" : Str).length = 3 := by decide +kernel
  have e2 : ("\n" : Str).length = 1 := by decide +kernel
  rw [e1, e2]
  omega
/-- how many places have what d is -/
def countD (ks : Kinds) : PyData → Int
  | .int i => val ks i
  | _ => 0
theorem countD_no {ks : Kinds} {d : PyData} (h : intD d = false) : countD ks d = 0 := by cases d <;> first | rfl | (simp [intD, isI, isB] at h)
theorem val_cons (k : Int × Int) (r : Kinds) (d : Int) : val (k :: r) d = if k.1 = d then k.2 else val r d := by
  unfold val findI
  rw [List.find?_cons]
  by_cases e : k.1 = d
  · simp [e]
  · simp [e]
theorem val_drop {ks : Kinds} {j : Nat} {k : Int × Int} {d : Int} (h : ks[j]? = some k) : val (ks.drop j) d = if k.1 = d then k.2 else val (ks.drop (j + 1)) d := by
  obtain ⟨hl, he⟩ := List.getElem?_eq_some_iff.mp h
  rw [List.drop_eq_getElem_cons hl, he, val_cons]
theorem sumOf_val {ps : Kinds} (h : (ps.map (·.1)).Nodup) (d : Int) : sumOf ps d = val ps d := by
  induction ps with
  | nil => rfl
  | cons k r ih =>
    obtain ⟨h1, h2⟩ := List.nodup_cons.mp h
    rw [val_cons]
    unfold sumOf at ih ⊢
    rw [List.filter_cons]
    by_cases e : k.1 = d
    · have h1' : k.1 ∉ r.map (·.1) := h1
      have z : (r.filter fun p => decide (p.1 = d)) = [] := by
        rw [List.filter_eq_nil_iff]
        intro q hq c
        refine h1' ?_
        rw [e, ← of_decide_eq_true c]
        exact List.mem_map_of_mem hq
      simp [e, z]
    · simp only [decide_eq_false e]
      rw [if_neg Bool.false_ne_true, if_neg e]
      exact ih h2
theorem val_memN {ps : Kinds} (h : (ps.map (·.1)).Nodup) {d c : Int} (m : (d, c) ∈ ps) : val ps d = c := by
  induction ps with
  | nil => cases m
  | cons k r ih =>
    obtain ⟨h1, h2⟩ := List.nodup_cons.mp h
    rw [val_cons]
    rcases List.mem_cons.mp m with e | e
    · rw [← e, if_pos rfl]
    · rw [if_neg ?_]
      · exact ih h2 e
      · intro z
        have h1' : k.1 ∉ r.map (·.1) := h1
        rw [z] at h1'
        exact h1' (List.mem_map_of_mem (f := fun p : Int × Int => p.1) e)
theorem mem_val {ps : Kinds} {d : Int} (h : val ps d ≠ 0) : (d, val ps d) ∈ ps := by
  induction ps with
  | nil => exact absurd rfl h
  | cons k r ih =>
    rw [val_cons] at h ⊢
    by_cases e : k.1 = d
    · rw [if_pos e]
      rw [← e]
      exact List.mem_cons_self
    · rw [if_neg e] at h ⊢
      exact List.mem_cons_of_mem _ (ih h)
theorem DescP.nodup {ks : Kinds} (h : DescP ks) : (ks.map (·.1)).Nodup := by
  rw [List.nodup_iff_pairwise_ne, List.pairwise_map]
  refine h.imp ?_
  intro a b hab e
  have : b.1 < a.1 := hab
  omega
theorem okK_pairs {ps ks : Kinds} (h : KindsOf (sumOf ps) ks) (nd : (ps.map (·.1)).Nodup) (ten : ps.length ≤ 10) (ne : ps ≠ []) (b : ∀ k ∈ ps, 0 ≤ k.1 ∧ k.1 ≤ 10000000000000000000000000000000 ∧ 1 ≤ k.2 ∧ k.2 ≤ 1000000000000000000000000000000) : OkK ks := by
  have sub : ∀ k ∈ ks, k ∈ ps := fun k hk => by
    obtain ⟨e, p⟩ := (h.2 k.1 k.2).mp hk
    rw [sumOf_val nd] at e
    have z : val ps k.1 ≠ 0 := by omega
    have m := mem_val z
    rw [← e] at m
    exact m
  refine okK_of h.1 (fun k hk => b k (sub k hk)) ?_ ?_
  · have z := sub_len (DescP.nodup h.1) (S := ps.map (·.1)) fun d hd => by
      obtain ⟨k, hk, rfl⟩ := List.mem_map.mp hd
      exact List.mem_map_of_mem (sub k hk)
    rw [List.length_map, List.length_map] at z
    omega
  · obtain ⟨k, r, rfl⟩ := List.exists_cons_of_ne_nil ne
    rintro rfl
    have bk := b k List.mem_cons_self
    have : (k.1, k.2) ∈ ([] : Kinds) := (h.2 k.1 k.2).mpr ⟨by rw [sumOf_val nd, val_cons, if_pos rfl], by omega⟩
    cases this
section
variable {σ : HSt} {H : Hp} {Q : VK}
theorem r_mkK {C : Addr} {n m : Nat} {sp : Sp} {gV : List V → List V → List V} {E : XK} {t tk : TA} (h : t σ H fun vs H1 => tk σ H1 fun zs H2 => vs.length = n ∧ zs.length = m ∧ ∀ x dx, H2 x = none → H2 dx = none → dx ≠ x → sp (gV (.ref x :: vs) zs) (upd (upd H2 dx (.own x)) x (.ins C dx [])) (fun v H3 => v = .non ∧ Q (.ref x) H3) E) : tMakeK C n m sp gV E t tk σ H Q := h
end
end Dg
namespace Dg
open PySem PySem.Spec PyProof.Rows L2
theorem mem_put {cs : Kinds} {d c : Int} {k : Int × Int} (h : k ∈ putI cs d c) : (k.1 = d ∧ k.2 = c) ∨ k ∈ cs := by
  unfold putI at h
  split at h
  · obtain ⟨q, hq, e⟩ := List.mem_map.mp h
    by_cases z : q.1 = d
    · rw [if_pos z] at e
      subst e
      exact .inl ⟨z, rfl⟩
    · rw [if_neg z] at e
      subst e
      exact .inr hq
  · rcases List.mem_append.mp h with h | h
    · exact .inr h
    · rw [List.mem_singleton.mp h]
      exact .inl ⟨rfl, rfl⟩
def low (c : Int) : Int := if c < 1000000000000000000000000000000 then c else 1000000000000000000000000000000
theorem low_le (c : Int) : low c ≤ 1000000000000000000000000000000 := by
  unfold low
  split <;> omega
theorem low_ge {c : Int} (h : 1 ≤ c) : 1 ≤ low c := by
  unfold low
  split <;> omega
end Dg

namespace Dg
open PySem PySem.Spec PyProof.Rows L2
/-! ### data that stays whatever is done to some addresses -/
def Keeps (bad : Addr → Prop) (H H' : Hp) : Prop := ∀ b o, ¬ bad b → H b = some o → H' b = some o
theorem Keeps.trans {bad : Addr → Prop} {H H1 H2 : Hp} (a : Keeps bad H H1) (b : Keeps bad H1 H2) : Keeps bad H H2 := fun c o n h => b c o n (a c o n h)
theorem Keeps.same {bad : Addr → Prop} {H H' : Hp} (e : Same H H') : Keeps bad H H' := fun b o _ h => e b o h
theorem Keeps.but {bad : Addr → Prop} {l : Addr} {H H' : Hp} (e : But l H H') (hl : bad l) : Keeps bad H H' := fun b o n h => e b o (fun z => n (z ▸ hl)) h
def HeldP (K : PySem.W.Frag) (bad : Addr → Prop) (H : Hp) (x : V) (d : PyData) : Prop := ∀ H', Keeps bad H H' → Dp K H' x d
def HeldPs (K : PySem.W.Frag) (bad : Addr → Prop) (H : Hp) (xs : List V) (ds : List PyData) : Prop := ∀ H', Keeps bad H H' → DpAll K H' xs ds
def Held (K : PySem.W.Frag) (bad : Addr → Prop) (H : Hp) (x : V) (d : PyData) : Prop := ∀ H', Keeps bad H H' → Dv K H' x d
def Thing (K : PySem.W.Frag) (bad : Addr → Prop) (H : Hp) (x : V) : Prop := ∃ d, Held K bad H x d
section
variable {K : PySem.W.Frag} {bad : Addr → Prop} {H H1 : Hp} {x : V} {d : PyData} {xs : List V} {ds : List PyData} {a : Addr}
theorem HeldP.dv (h : HeldP K bad H x d) : Held K bad H x d := fun H' k => .dp (h H' k)
theorem HeldP.keep (h : HeldP K bad H x d) (k : Keeps bad H H1) : HeldP K bad H1 x d := fun H' k' => h H' (k.trans k')
theorem Held.keep (h : Held K bad H x d) (k : Keeps bad H H1) : Held K bad H1 x d := fun H' k' => h H' (k.trans k')
theorem Thing.keep (h : Thing K bad H x) (k : Keeps bad H H1) : Thing K bad H1 x := let ⟨d, z⟩ := h; ⟨d, z.keep k⟩
theorem HeldP.int (i : Int) : HeldP K bad H (.int i) (.int i) := fun _ _ => .int i
theorem HeldP.str (i : Str) : HeldP K bad H (.str i) (.str i) := fun _ _ => .str i
theorem HeldP.bl (i : Bool) : HeldP K bad H (.bl i) (.bool i) := fun _ _ => .bl i
theorem HeldP.non : HeldP K bad H .non .none := fun _ _ => .non
theorem HeldPs.nil : HeldPs K bad H [] [] := fun _ _ => .nil
theorem HeldPs.cons (h : HeldP K bad H x d) (t : HeldPs K bad H xs ds) : HeldPs K bad H (x :: xs) (d :: ds) := fun H' k => .cons (h H' k) (t H' k)
theorem HeldP.tup (h : H a = some (.tup xs)) (n : ¬ bad a) (t : HeldPs K bad H xs ds) : HeldP K bad H (.ref a) (.tuple ds) := fun H' k => .tup (.of (k _ _ n h)) (t H' k)
theorem HeldP.lst (h : H a = some (.lst xs)) (n : ¬ bad a) (t : HeldPs K bad H xs ds) : HeldP K bad H (.ref a) (.list ds) := fun H' k => .lst (.of (k _ _ n h)) (t H' k)
theorem Held.dict {kvs : List (Key × V)} (h : H a = some (.dK kvs)) (n : ¬ bad a) : Held K bad H (.ref a) (.dict []) := fun H' k => .dict (k _ _ n h) []
theorem HeldP.fz (hb : ∀ b o, bad b → H b = some o → ¬ Frozen o) (f : Fz H x d) : HeldP K bad H x d := fun H' k => (Fz.kp (fun b o fo h => k b o (fun z => hb b o z h fo) h) f).dp
theorem Held.now (h : Held K bad H x d) : Dv K H x d := h H fun _ _ _ e => e
theorem Held.less {bad' : Addr → Prop} (h : Held K bad H x d) (s : ∀ b, bad' b → bad b) : Held K bad' H x d := fun H' k => h H' fun b o n e => k b o (fun z => n (s b z)) e
theorem Thing.less {bad' : Addr → Prop} (h : Thing K bad H x) (s : ∀ b, bad' b → bad b) : Thing K bad' H x := let ⟨d, z⟩ := h; ⟨d, z.less s⟩
def AllH (K : PySem.W.Frag) (bad : Addr → Prop) (H : Hp) (xs : List V) : Prop := ∀ v ∈ xs, Thing K bad H v
theorem AllH.nil : AllH K bad H [] := fun v h => absurd h List.not_mem_nil
theorem AllH.cons (h : Thing K bad H x) (t : AllH K bad H xs) : AllH K bad H (x :: xs) := fun v hv => by
  rcases List.mem_cons.mp hv with e | e
  · rw [e]; exact h
  · exact t v e
theorem AllH.app {ys : List V} (h : AllH K bad H xs) (t : AllH K bad H ys) : AllH K bad H (xs ++ ys) := fun v hv => by
  rcases List.mem_append.mp hv with e | e
  · exact h v e
  · exact t v e
theorem AllH.keep (h : AllH K bad H xs) (k : Keeps bad H H1) : AllH K bad H1 xs := fun v hv => (h v hv).keep k
theorem AllH.ints (ns : List Int) : AllH K bad H (ns.map V.int) := fun v hv => by
  obtain ⟨n, _, rfl⟩ := List.mem_map.mp hv
  exact ⟨_, (HeldP.int n).dv⟩
theorem Thing.int (i : Int) : Thing K bad H (.int i) := ⟨_, (HeldP.int i).dv⟩
theorem Thing.str (i : Str) : Thing K bad H (.str i) := ⟨_, (HeldP.str i).dv⟩
theorem Thing.bl (i : Bool) : Thing K bad H (.bl i) := ⟨_, (HeldP.bl i).dv⟩
theorem Thing.non : Thing K bad H .non := ⟨_, HeldP.non.dv⟩
end
section
variable {σ : HSt} {H : Hp} {Q : VK}
theorem r_negI {i : Int} (q : Q (.int (-i)) H) : rU (fun i => .int (-i)) (.int i) H Q := ⟨i, rfl, q⟩
theorem r_pow39 (h : Q (.int 1000000000000000000000000000000000000000) H) : rPowA (.int 10) (.int 39) H Q := r_powL (by decide) (by decide) (by decide) (by decide +kernel) h
theorem r_meth {C : Addr} {m : Str} {sp : Sp} {E : XK} {ta : TE} {t : TA} (h : ta σ H fun x H1 => ∃ a dx fs, x = .ref a ∧ H1 a = some (.ins C dx fs) ∧ fs.lookup m = none ∧ t σ H1 fun vs H2 => sp (x :: vs) H2 Q E) (mono : ∀ R R' : List V → Hp → Prop, (∀ vs H, R vs H → R' vs H) → ∀ H, t σ H R → t σ H R') (monoA : ∀ R R' : VK, (∀ v H, R v H → R' v H) → ta σ H R → ta σ H R') : tMeth C m sp [] E ta t σ H Q := by
  refine monoA _ _ (fun x H1 q => ?_) h
  obtain ⟨a, dx, fs, e, h1, l, q⟩ := q
  exact ⟨a, dx, fs, e, h1, l, mono _ _ (fun vs H2 z => by rw [List.append_nil]; exact z) H1 q⟩
theorem r_methV {C : Addr} {m : Str} {sp : Sp} {E : XK} {ta : TE} {t : TA} (h : ta σ H fun x H1 => ∃ a dx fs, x = .ref a ∧ H1 a = some (.ins C dx fs) ∧ fs.lookup m = none ∧ t σ H1 fun vs H2 => sp (x :: (vs ++ [])) H2 Q E) : tMeth C m sp [] E ta t σ H Q := h
theorem r_methI {C a dx : Addr} {v : V} {m : Str} {R : Addr → Prop} (h : H a = some (.ins C dx [("_kinds", v)])) (n : ((("_kinds" : Str), v) :: []).lookup m = none) (q : R a) : ∃ b dx' fs, V.ref a = .ref b ∧ H b = some (.ins C dx' fs) ∧ fs.lookup m = none ∧ R b := ⟨a, dx, _, rfl, h, n, q⟩
/-- {k: v}, both constants -/
theorem r_disp1 {k : Str} {v : V} (q : ∀ p H', H p = none → Same H H' → H' p = some (.dK [(Sum.inr k, v)]) → Q (.ref p) H') : tDisp [(tC (.str k), tC v)] σ H Q := by
  intro p hp
  refine ⟨upd_same, [(Sum.inr k, v)], rfl, (show 1 ≤ 15 by decide), ?_⟩
  refine q p _ hp (fun b u e => ?_) upd_same
  rw [upd_ne (ne_of_none e hp), upd_ne (ne_of_none e hp)]
  exact e
end
end Dg
namespace Dg
open PySem PySem.Spec PyProof.Rows L2
theorem look_no {m : Str} {v : V} (h : (m == ("_kinds" : Str)) = false) : List.lookup m [(("_kinds" : Str), v)] = none := by simp [List.lookup, h]
theorem r_methR {C a : Addr} {H : Hp} {ks : Kinds} {m : Str} {R : Addr → Prop} (h : RowAt C H a ks) (n : (m == ("_kinds" : Str)) = false) (q : R a) : ∃ b dx' fs, V.ref a = .ref b ∧ H b = some (.ins C dx' fs) ∧ fs.lookup m = none ∧ R b := by
  obtain ⟨dx, v, h1, _⟩ := h
  exact ⟨a, dx, _, rfl, h1, look_no n, q⟩
theorem countD_le {ks : Kinds} (ok : OkK ks) (d : PyData) : 0 ≤ countD ks d ∧ countD ks d ≤ 1000000000000000000000000000000 := by
  have v : ∀ i, 0 ≤ val ks i ∧ val ks i ≤ 1000000000000000000000000000000 := fun i => by
    by_cases z : val ks i = 0
    · rw [z]; exact ⟨by decide, by decide⟩
    · have := ok.2.2.all _ (mem_val z)
      exact ⟨by omega, this.2.2.2⟩
  cases d with
  | int i => exact v i
  | _ => exact ⟨Int.le_refl 0, (show (0 : Int) ≤ 1000000000000000000000000000000 by decide)⟩
theorem countD_log {ks : Kinds} (ok : OkK ks) (d : PyData) : (countD ks d).natAbs.log2 < 1920 := log_small (countD_le ok d).1 (by have := (countD_le ok d).2; omega)
theorem OkK.descP {ks : Kinds} (ok : OkK ks) : DescP ks := by
  have z : ∀ (m : Int) (ks : Kinds), Desc m ks → DescP ks ∧ ∀ k ∈ ks, k.1 ≤ m := by
    intro m ks
    induction ks generalizing m with
    | nil => exact fun _ => ⟨List.Pairwise.nil, fun k hk => absurd hk List.not_mem_nil⟩
    | cons k r ih =>
      rintro ⟨h1, h2, h3, h4, h5⟩
      obtain ⟨i1, i2⟩ := ih _ h5
      refine ⟨List.pairwise_cons.mpr ⟨fun q hq => ?_, i1⟩, fun q hq => ?_⟩
      · have := i2 q hq
        show q.1 < k.1
        omega
      · rcases List.mem_cons.mp hq with e | e
        · rw [e]; exact h2
        · have := i2 q e
          omega
  exact (z _ _ ok.2.2).1
theorem OkK.nodup {ks : Kinds} (ok : OkK ks) : (ks.map (·.1)).Nodup := DescP.nodup ok.descP
end Dg

namespace Dg
open PySem PySem.Spec PyProof.Rows L2
/-! ### an own method, called from within a built-in -/
section
variable {X : Cx} {CX : CXT} {n : Nat} {C f : Addr} {fd : FuncData} {ps : List Str} {sp : Sp} {E : XK}
theorem own_any {A : Around} {pins : List (Addr × Obj)} {s : Shared} {σ : L2.St} {H : Hp} {vs : List V} {us : List Value} {Q : VK} {R : Value → Shared → Prop} (F : FnOk X.prog X.w X.K X.mg X.base CX n f fd ps sp) (hb : Binds X.K fd ps []) (hx : Passes CX X E) (hr : Room n A) (hfr : A.frames = X.A.frames)
    (I : Inv X pins σ H s) (r2 : Vals vs us) (h : sp vs H Q E) (hR : ∀ v u H' s', Inv X pins σ H' s' → RelV v u → Q v H' → R u s') : wpAny (model X.prog X.w) A (call (.ref f) us) R X.xe s := by
  have e0 : Env0 X.prog X.w X.K X.mg X.base A X.stack s H := by
    have e := I.env0
    exact ⟨by rw [hfr]; exact e.frames, e.mod, e.bs, e.bsz, e.funs, e.frf, e.hok, e.bare⟩
  have hl := F.len _ _ _ _ h
  have lus : us.length = ps.length := r2.length.symm.trans hl
  refine wpAny_call (codeAny_mono (F.run A X.stack s H ⟨us, []⟩ us vs Q E hr e0 (by
    have z := hb s us I.kIn (by simpa using lus)
    simpa using z) r2 h) fun r s' hq => ?_)
  cases r with
  | error e => exact hx pins σ H s e s' I hq
  | ok fl =>
    cases fl with
    | ret u =>
      obtain ⟨z, H', I', rz, q⟩ := I.after hq
      exact hR z u H' s' I' rz q
    | next => exact hq.elim
    | brk => exact hq.elim
    | cont => exact hq.elim
end
theorem plain_strnew : plainId "str.__new__" = true := by decide +kernel
/-- str(x), x an instance of an own class that has a __str__ -/
theorem str_own {prog : Program} {w : World} {A : Around} {E : Value → Shared → Prop} {s : Shared} {K : PySem.W.Frag} {x C f : Addr} {ox : Obj} {od : Option Obj} {Q : Value → Shared → Prop} (hu : A.units + 2 < cLine) (X : K.In s.heap) (J : PySem.W.InstAt s.heap x ox C od)
    (hs : PySem.W.findIn K (.ref C) "__str__" = some (some (.ref f))) (hf : PySem.W.isFn K (.ref f) = true) (h : wpAny (model prog w) A.in1.in1 (call (.ref f) [.ref x]) (PySem.W.StrBack Q) E s) : wpAny (model prog w) A (call (.type "str") [.ref x]) Q E s := by
  refine callType_codes (Q₁ := fun obj s₁ => s₁.TypeIs obj "str" ∧ Q obj s₁) PySem.F.called_str (PySem.F.typeCall_str_1 _) PySem.F.entry_object_init ?_ fun obj s₁ h₁ => ?_
  · refine codeAny_of_tree ?_
    show wpAny _ A.in1.in1 (do checkBuiltinCall "str.__new__" ⟨[.type "str", .ref x], []⟩; again (.builtin "str.__new__" ⟨[.type "str", .ref x], []⟩)) _ _ s
    refine wpAny_bind (wpAny_of_eq (PySem.F.newCall_str_1 _) (wpAny_pure ⟨plainId_quiet plain_strnew _, codeAny_builtin PySem.F.entry_str_new ?_⟩))
    rw [Around.under_plainId plain_strnew _]
    rw [str_new_tree]
    refine wpAny_bind (wpAny_pure ?_)
    refine wpAny_bind (wpAny_of_eq isSubtype_str_str ?_)
    unfold Builtin.Str.strOf
    refine wpAny_bind ?_
    have e0 : Builtin.Str.isExactStr (.ref x) = false := rfl
    rw [e0]
    simp only [Bool.false_eq_true, if_false]
    refine wpAny_bind (wpAny_cRoomFor hu ?_)
    refine wpAny_bind (m := callSpecial? (.ref x) (Str.ofString "__str__")) (PySem.W.special_fn X J hs (beq_iff_eq.mp hf) (wpAny_mono h (fun r s' z => ?_) fun _ _ z => z))
    cases r <;> first | exact z.elim | skip
    rename_i y tk
    show wpAny _ _ (asStr? (.str y tk) >>= _) _ _ s'
    refine wpAny_bind (m := asStr? (.str y tk)) (wpAny_of_eq (show asStr? (.str y tk) = pure (some y) from rfl) ?_)
    rw [if_neg (by simp)]
    refine wpAny_pure ?_
    exact wpAny_pure ⟨PySem.typeIs_str _ _ _, z⟩
  · exact ⟨h₁.1, PySem.F.args_object_init_2 obj _, object_init_meets PySem.F.called_str.init.lookup PySem.F.called_str.made (by decide) prog w A.in1 _ s₁ ⟨h₁.1, rfl, h₁.2⟩⟩

def rStrO (C : Addr) (sp : Sp) (E : XK) : List V → Hp → VK → Prop := fun xs H Q => ∃ a dx fs, xs = [.ref a] ∧ H a = some (.ins C dx fs) ∧ sp [.ref a] H (fun v H' => ∃ z : Str, v = .str z ∧ Q (.str z) H') E
def rLenO (C : Addr) (sp : Sp) (E : XK) : List V → Hp → VK → Prop := fun xs H Q => ∃ a dx fs, xs = [.ref a] ∧ H a = some (.ins C dx fs) ∧ sp [.ref a] H (fun v H' => ∃ z : Int, v = .int z ∧ 0 ≤ z ∧ z < 2 ^ 63 ∧ Q (.int z) H') E
section
variable {X : Cx} {CX : CXT} {n : Nat} {C f : Addr} {fd : FuncData} {ps : List Str} {sp : Sp} {E : XK}
theorem call_strO (F : FnOk X.prog X.w X.K X.mg X.base CX n f fd ps sp) (hb : Binds X.K fd ps []) (hs : PySem.W.findIn X.K (.ref C) "__str__" = some (some (.ref f))) (hf : PySem.W.isFn X.K (.ref f) = true) (hr : Room (n + 2) X.A) (hx : Passes CX X E) : CallR X (.type "str") (rStrO C sp E) := by
  intro pins s σ H xs us Q I r h
  obtain ⟨a, dx, fs, rfl, ha, hsp⟩ := h
  obtain rfl := Vals.ref1 r
  obtain ⟨mA, J, _⟩ := ins_get I.hok ha
  obtain ⟨od, J, _⟩ := J.look
  have hu : X.A.units + 2 < cLine := Nat.lt_of_le_of_lt (Nat.add_le_add_left (by decide : 2 ≤ 64) _) hr.units
  refine str_own hu I.kIn J hs hf (own_any (A := X.A.in1.in1) F hb hx hr.in1.in1 rfl I (vs := [V.ref a]) (.cons rfl .nil) hsp fun v u H' s' I' rv z => ?_)
  obtain ⟨y, ez, q⟩ := z
  subst ez
  obtain ⟨t, rfl⟩ := rv
  exact ⟨.str y, H', I', ⟨t, rfl⟩, q⟩
theorem call_reprO (F : FnOk X.prog X.w X.K X.mg X.base CX n f fd ps sp) (hb : Binds X.K fd ps []) (hs : PySem.W.findIn X.K (.ref C) "__repr__" = some (some (.ref f))) (hf : PySem.W.isFn X.K (.ref f) = true) (hr : Room (n + 1) X.A) (hx : Passes CX X E) : CallR X (.builtin "repr") (rStrO C sp E) := by
  intro pins s σ H xs us Q I r h
  obtain ⟨a, dx, fs, rfl, ha, hsp⟩ := h
  obtain rfl := Vals.ref1 r
  obtain ⟨mA, J, _⟩ := ins_get I.hok ha
  obtain ⟨od, J, _⟩ := J.look
  obtain ⟨m, hF⟩ := I.fr
  refine PySem.W.repr_K (A := X.A) (hu_of hr) hF I.ok.mod.kin J hs hf (own_any (A := X.A.in1) F hb hx hr.in1 rfl I (vs := [V.ref a]) (.cons rfl .nil) hsp fun v u H' s' I' rv z => ?_)
  obtain ⟨y, ez, q⟩ := z
  subst ez
  obtain ⟨t, rfl⟩ := rv
  exact ⟨.str y, H', I', ⟨t, rfl⟩, q⟩
theorem call_lenO (F : FnOk X.prog X.w X.K X.mg X.base CX n f fd ps sp) (hb : Binds X.K fd ps []) (hs : PySem.W.findIn X.K (.ref C) "__len__" = some (some (.ref f))) (hf : PySem.W.isFn X.K (.ref f) = true) (hr : Room (n + 1) X.A) (hx : Passes CX X E) : CallR X (.builtin "len") (rLenO C sp E) := by
  intro pins s σ H xs us Q I r h
  obtain ⟨a, dx, fs, rfl, ha, hsp⟩ := h
  obtain rfl := Vals.ref1 r
  obtain ⟨mA, J, _⟩ := ins_get I.hok ha
  obtain ⟨od, J, _⟩ := J.look
  obtain ⟨m, hF⟩ := I.fr
  refine PySem.W.len_K (A := X.A) hF I.ok.mod.kin J hs hf (own_any (A := X.A.in1) F hb hx hr.in1 rfl I (vs := [V.ref a]) (.cons rfl .nil) hsp fun v u H' s' I' rv z => ?_)
  obtain ⟨y, ez, h0, h1, q⟩ := z
  subst ez
  obtain ⟨t, rfl⟩ := rv
  exact ⟨⟨h0, h1⟩, .int y, H', I'.tok _, ⟨_, rfl⟩, q⟩
end
section
variable {H : Hp} {Q : VK}
theorem r_strO {C a dx : Addr} {fs : List (Str × V)} {sp : Sp} {E : XK} (h : H a = some (.ins C dx fs)) (q : sp [.ref a] H (fun v H' => ∃ z : Str, v = .str z ∧ Q (.str z) H') E) : rStrO C sp E [.ref a] H Q := ⟨a, dx, fs, rfl, h, q⟩
theorem r_lenO {C a dx : Addr} {fs : List (Str × V)} {sp : Sp} {E : XK} (h : H a = some (.ins C dx fs)) (q : sp [.ref a] H (fun v H' => ∃ z : Int, v = .int z ∧ 0 ≤ z ∧ z < 2 ^ 63 ∧ Q (.int z) H') E) : rLenO C sp E [.ref a] H Q := ⟨a, dx, fs, rfl, h, q⟩
end
end Dg
namespace Dg
open PySem PySem.Spec PyProof.Rows L2
theorem mem_joinL {S : List Nat} {c : Nat} : ∀ {ps : List (List Nat)}, c ∈ TL.joinL S ps → c ∈ S ∨ ∃ p ∈ ps, c ∈ p
  | [], h => by cases h
  | [p], h => .inr ⟨p, List.mem_cons_self, h⟩
  | p :: q :: r, h => by
    have h' : c ∈ p ++ (S ++ TL.joinL S (q :: r)) := h
    rcases List.mem_append.mp h' with h | h
    · exact .inr ⟨p, List.mem_cons_self, h⟩
    · rcases List.mem_append.mp h with h | h
      · exact .inl h
      · rcases mem_joinL h with h | ⟨z, hz, hc⟩
        · exact .inl h
        · exact .inr ⟨z, List.mem_cons_of_mem _ hz, hc⟩
theorem kind_small {k : Int × Int} (h1 : 0 ≤ k.1) (h2 : 0 ≤ k.2) : ∀ c ∈ TL.tl (kindText k), c < 128 := by
  intro c hc
  rw [tl_kind h1 h2] at hc
  simp only [List.mem_append, List.mem_cons, List.not_mem_nil, or_false] at hc
  rcases hc with (hc | hc) | hc
  · have := TL.numL_digits _ c hc; omega
  · omega
  · have := TL.numL_digits _ c hc; omega
theorem sheet_small {ks : Kinds} (ok : OkK ks) : ∀ c ∈ TL.tl (sheet ks), c < 128 := by
  intro c hc
  unfold sheet at hc
  rw [TL.join_eq, TL.tl_join] at hc
  rcases mem_joinL hc with h | ⟨p, hp, h⟩
  · have : ∀ c ∈ TL.tl ("\n" : Str), c < 128 := by decide
    exact this c h
  · obtain ⟨x, hx, rfl⟩ := List.mem_map.mp hp
    rcases List.mem_cons.mp hx with rfl | hx
    · have : ∀ c ∈ TL.tl ("row" : Str), c < 128 := by decide
      exact this c h
    · obtain ⟨k, hk, rfl⟩ := List.mem_map.mp hx
      have kk := ok.2.2.all k hk
      exact kind_small kk.1 (by omega) c h
theorem okd_str {x : Str} {b : Nat} (h : ∀ c ∈ TL.tl x, c < 128) (l : x.length ≤ b) (hb : b ≤ 100000) : Okd (.str x) 0 b := by
  refine ⟨rfl, rfl, Nat.le_refl _, ?_, l, ?_⟩
  · show (x.cps.toList.all fun c => decide (c < 16 ^ 8)) = true
    rw [List.all_eq_true]
    intro c hc
    have := h c hc
    exact decide_eq_true (Nat.lt_trans this (by decide))
  · show x.cps.all (· < 0x110000) = true
    rw [← Array.all_toList, List.all_eq_true]
    intro c hc
    have := h c hc
    exact decide_eq_true (Nat.lt_trans this (by decide))
theorem sheet_short {ks : Kinds} (ok : OkK ks) : (sheet ks).length ≤ 700 := by
  unfold sheet
  rw [TL.join_eq]
  refine Nat.le_trans (StrLaws.join_length_le _ _) ?_
  have ten := ok.2.1
  have a : ((ks.map kindText).map (·.length)).sum ≤ ((ks.map kindText).map (·.length)).length * 67 := sum_le fun x hx => by
    obtain ⟨y, hy, rfl⟩ := List.mem_map.mp hx
    obtain ⟨k, hk, rfl⟩ := List.mem_map.mp hy
    have kk := ok.2.2.all k hk
    exact kind_len kk.1 kk.2.1 (by omega) (by omega)
  rw [List.length_map, List.length_map] at a
  rw [List.map_cons, List.sum_cons, List.length_cons, List.length_map]
  have e1 : ("row" : Str).length = 3 := by decide +kernel
  have e2 : ("\n" : Str).length = 1 := by decide +kernel
  rw [e1, e2]
  omega
theorem okd_sheet {ks : Kinds} (ok : OkK ks) : Okd (.str (sheet ks)) 0 700 := okd_str (sheet_small ok) (sheet_short ok) (by decide)
theorem numS_inj {i j : Int} (h0 : 0 ≤ i) (h1 : 0 ≤ j) (h : numS i = numS j) : i = j := by
  have e := congrArg TL.tl h
  rw [tl_numS h0, tl_numS h1] at e
  have := TL.numL_inj e
  omega
theorem kindText_inj {k l : Int × Int} (h1 : 0 ≤ k.1) (h2 : 0 ≤ k.2) (h3 : 0 ≤ l.1) (h4 : 0 ≤ l.2) (h : kindText k = kindText l) : k = l := by
  have e := split_kind h1 h2
  rw [h, split_kind h3 h4] at e
  simp only [List.cons.injEq, and_true] at e
  obtain ⟨e1, _, e2⟩ := e
  exact Prod.ext (numS_inj h3 h1 e1).symm (numS_inj h4 h2 e2).symm
theorem sheet_inj {ks ls : Kinds} (h1 : OkK ks) (h2 : OkK ls) : sheet ks = sheet ls ↔ ks = ls := by
  constructor
  · intro h
    have p1 : ∀ k ∈ ks, 0 ≤ k.1 ∧ 0 ≤ k.2 := fun k hk => by have := h1.2.2.all k hk; exact ⟨this.1, by omega⟩
    have p2 : ∀ k ∈ ls, 0 ≤ k.1 ∧ 0 ≤ k.2 := fun k hk => by have := h2.2.2.all k hk; exact ⟨this.1, by omega⟩
    have e := split_sheet p1
    rw [h, split_sheet p2] at e
    have e' : ls.map kindText = ks.map kindText := (List.cons.inj e).2
    clear e h
    induction ks generalizing ls with
    | nil =>
      cases ls with
      | nil => rfl
      | cons _ _ => cases e'
    | cons k r ih =>
      cases ls with
      | nil => cases e'
      | cons l t =>
        rw [List.map_cons, List.map_cons] at e'
        obtain ⟨e1, e2⟩ := List.cons.inj e'
        have a := p1 k List.mem_cons_self
        have b := p2 l List.mem_cons_self
        have ekl := kindText_inj b.1 b.2 a.1 a.2 e1
        have : ∀ (ks ls : Kinds), (∀ k ∈ ks, 0 ≤ k.1 ∧ 0 ≤ k.2) → (∀ k ∈ ls, 0 ≤ k.1 ∧ 0 ≤ k.2) → ls.map kindText = ks.map kindText → ks = ls := by
          intro ks
          induction ks with
          | nil =>
            intro ls _ _ e
            cases ls with
            | nil => rfl
            | cons _ _ => cases e
          | cons k r ih =>
            intro ls p1 p2 e
            cases ls with
            | nil => cases e
            | cons l t =>
              rw [List.map_cons, List.map_cons] at e
              obtain ⟨e1, e2⟩ := List.cons.inj e
              have a := p1 k List.mem_cons_self
              have b := p2 l List.mem_cons_self
              rw [kindText_inj b.1 b.2 a.1 a.2 e1, ih t (fun q hq => p1 q (List.mem_cons_of_mem _ hq)) (fun q hq => p2 q (List.mem_cons_of_mem _ hq)) e2]
        exact this _ _ p1 p2 e'
  · rintro rfl
    rfl
section
variable {H : Hp} {Q : VK} {K : PySem.W.Frag}
theorem r_neB {a b : Bool} (h : Q (.bl (!decide (V.bl a = V.bl b))) H) : rNeA K (.bl a) (.bl b) H Q := .inl ⟨rfl, h⟩
theorem r_eqB {a b : Bool} (h : Q (.bl (decide (V.bl a = V.bl b))) H) : rEqA K (.bl a) (.bl b) H Q := .inl ⟨rfl, h⟩
theorem r_eqK {x y : V} {ks ls : Kinds} (h1 : Dp K H x (KD ks)) (h2 : Dp K H y (KD ls)) (o1 : OkK ks) (o2 : OkK ls) (h : Q (.bl (decide (ks = ls))) H) : rEqA K x y H Q := r_eqD h1 h2 (shaped_KD o1) (shaped_KD o2) (by rw [eqv_KD]; exact h)
end
end Dg

namespace Dg
open PySem PySem.Spec PyProof.Rows L2
theorem len_code {prog : Program} {w : World} {A : Around} {E : Value → Shared → Prop} {s : Shared} {K : PySem.W.Frag} {x C f : Addr} {ox : Obj} {od : Option Obj} {Q : Value → Shared → Prop} (X : K.In s.heap) (J : PySem.W.InstAt s.heap x ox C od)
    (hs : PySem.W.findIn K (.ref C) "__len__" = some (some (.ref f))) (hf : PySem.W.isFn K (.ref f) = true) (h : wpAny (model prog w) A (call (.ref f) [.ref x]) (PySem.W.LenBack Q) E s) :
    wpAny (model prog w) A (Builtin.«len» ⟨[.ref x], []⟩) (fun fin s' => ∃ v, fin = .done (.ret v) ∧ Q v s') E s := by
  unfold Builtin.«len»
  refine wpAny_bind (m := oneArg "len" _) (wpAny_pure ?_)
  refine wpAny_bind (m := callSpecial? (.ref x) (Str.ofString "__len__")) (PySem.W.special_fn X J hs (beq_iff_eq.mp hf) (wpAny_mono h (fun r s' hr => ?_) fun _ _ y => y))
  cases r <;> first | exact hr.elim | skip
  rename_i n u
  obtain ⟨⟨h0, h1⟩, hq⟩ := hr
  refine wpAny_bind (wpAny_holding (wpAny_pure ?_))
  refine wpAny_bind (wpAny_letGo ?_)
  have c1 : ¬ n < 0 := Int.not_lt.mpr h0
  have c2 : ¬ n ≥ 2 ^ 63 := Int.not_le.mpr h1
  simp only [if_neg c1, if_neg c2]
  exact wpAny_bind (wpAny_mkInt (wpAny_pure ⟨_, rfl, hq⟩))
theorem truthy_own {prog : Program} {w : World} {A : Around} {E : Value → Shared → Prop} {s : Shared} {K : PySem.W.Frag} {x C f : Addr} {ox : Obj} {od : Option Obj} {Q : Bool → Shared → Prop} (X : K.In s.heap) (J : PySem.W.InstAt s.heap x ox C od) (hb : PySem.W.findIn K (.ref C) "__bool__" = some none)
    (hs : PySem.W.findIn K (.ref C) "__len__" = some (some (.ref f))) (hf : PySem.W.isFn K (.ref f) = true) (h : wpAny (model prog w) A.in1 (call (.ref f) [.ref x]) (PySem.W.LenBack fun v s' => ∃ n t, v = .int n t ∧ Q (n != 0) s') E s) : wpAny (model prog w) A (truthy (.ref x)) Q E s := by
  unfold truthy
  refine wpAny_bind (m := callSpecial? (.ref x) (Str.ofString "__bool__")) (wpAny_bind (wpAny_bind (J.type.here ((PySem.W.looks_findIn X hb).here (wpAny_pure ?_)))))
  refine wpAny_bind (wpAny_bind (J.type.here ((PySem.W.looks_findIn X hs).here ?_)))
  simp only [Option.isNone_some, Bool.false_eq_true, if_false]
  refine wpAny_bind (wpAny_runValue (codeAny_builtin PySem.entry_len ?_))
  rw [Around.under_plainId PySem.plain_len _]
  refine wpAny_mono (len_code X J hs hf h) (fun fin s' z => ?_) fun _ _ z => z
  obtain ⟨v, rfl, n, t, rfl, q⟩ := z
  exact wpAny_pure q
theorem plain_boolnew : plainId "bool.__new__" = true := by decide +kernel
theorem bool_own {prog : Program} {w : World} {A : Around} {E : Value → Shared → Prop} {s : Shared} {K : PySem.W.Frag} {x C f : Addr} {ox : Obj} {od : Option Obj} {Q : Value → Shared → Prop} (X : K.In s.heap) (J : PySem.W.InstAt s.heap x ox C od) (hb : PySem.W.findIn K (.ref C) "__bool__" = some none)
    (hs : PySem.W.findIn K (.ref C) "__len__" = some (some (.ref f))) (hf : PySem.W.isFn K (.ref f) = true) (h : wpAny (model prog w) A.in1.in1.in1 (call (.ref f) [.ref x]) (PySem.W.LenBack fun v s' => ∃ n t, v = .int n t ∧ Q (.bool (n != 0)) s') E s) : wpAny (model prog w) A (call (.type "bool") [.ref x]) Q E s := by
  refine callType_codes (Q₁ := fun obj s₁ => s₁.TypeIs obj "bool" ∧ Q obj s₁) PySem.F.called_bool (PySem.F.typeCall_bool_1 _) PySem.F.entry_object_init ?_ fun obj s₁ h₁ => ?_
  · refine codeAny_of_tree ?_
    show wpAny _ A.in1.in1 (do checkBuiltinCall "bool.__new__" ⟨[.type "bool", .ref x], []⟩; again (.builtin "bool.__new__" ⟨[.type "bool", .ref x], []⟩)) _ _ s
    refine wpAny_bind (wpAny_of_eq (PySem.F.newCall_bool_1 _) (wpAny_pure ⟨plainId_quiet plain_boolnew _, codeAny_builtin PySem.F.entry_bool_new ?_⟩))
    rw [Around.under_plainId plain_boolnew _]
    have z : wpAny (model prog w) A.in1.in1 (truthy (.ref x)) (fun b s' => Q (.bool b) s') E s := truthy_own X J hb hs hf h
    unfold Builtin.«bool.__new__»
    have f1 := PySem.F.conv_sub_bool
    repeat (any_goals (first | assumption | (with_reducible refine wpAny_mono z (fun _ _ _ => ?_) fun _ _ y => y) | wp_step))
    rename_i bb ss qq
    exact ⟨PySem.typeIs_bool _ _, qq⟩
  · exact ⟨h₁.1, PySem.F.args_object_init_2 obj _, object_init_meets PySem.F.called_bool.init.lookup PySem.F.called_bool.made (by decide) prog w A.in1 _ s₁ ⟨h₁.1, rfl, h₁.2⟩⟩
def rBoolO (C : Addr) (sp : Sp) (E : XK) : List V → Hp → VK → Prop := fun xs H Q => ∃ a dx fs, xs = [.ref a] ∧ H a = some (.ins C dx fs) ∧ sp [.ref a] H (fun v H' => ∃ z : Int, v = .int z ∧ 0 ≤ z ∧ z < 2 ^ 63 ∧ Q (.bl (z != 0)) H') E
section
variable {X : Cx} {CX : CXT} {n : Nat} {C f : Addr} {fd : FuncData} {ps : List Str} {sp : Sp} {E : XK}
theorem call_boolO (F : FnOk X.prog X.w X.K X.mg X.base CX n f fd ps sp) (hb : Binds X.K fd ps []) (hs : PySem.W.findIn X.K (.ref C) "__len__" = some (some (.ref f))) (hf : PySem.W.isFn X.K (.ref f) = true) (h0 : PySem.W.findIn X.K (.ref C) "__bool__" = some none) (hr : Room (n + 3) X.A) (hx : Passes CX X E) : CallR X (.type "bool") (rBoolO C sp E) := by
  intro pins s σ H xs us Q I r h
  obtain ⟨a, dx, fs, rfl, ha, hsp⟩ := h
  obtain rfl := Vals.ref1 r
  obtain ⟨mA, J, _⟩ := ins_get I.hok ha
  obtain ⟨od, J, _⟩ := J.look
  refine bool_own I.kIn J h0 hs hf (own_any (A := X.A.in1.in1.in1) F hb hx hr.in1.in1.in1 rfl I (vs := [V.ref a]) (.cons rfl .nil) hsp fun v u H' s' I' rv z => ?_)
  obtain ⟨y, ez, h0, h1, q⟩ := z
  subst ez
  obtain ⟨t, rfl⟩ := rv
  exact ⟨⟨h0, h1⟩, y, _, rfl, .bl (y != 0), H', I'.tok _, rfl, q⟩
end
theorem r_boolO {H : Hp} {Q : VK} {C a dx : Addr} {fs : List (Str × V)} {sp : Sp} {E : XK} (h : H a = some (.ins C dx fs)) (q : sp [.ref a] H (fun v H' => ∃ z : Int, v = .int z ∧ 0 ≤ z ∧ z < 2 ^ 63 ∧ Q (.bl (z != 0)) H') E) : rBoolO C sp E [.ref a] H Q := ⟨a, dx, fs, rfl, h, q⟩
theorem okd_lstN {ds : List PyData} {n b : Nat} (h : OkdAll ds n b) : Okd (.list ds) (n + 1) b := .lst h
end Dg
namespace Dg
open PySem PySem.Spec PyProof.Rows L2
theorem sum_between {B : Int} : ∀ {l : List Int}, (∀ x ∈ l, 0 ≤ x ∧ x ≤ B) → 0 ≤ l.sum ∧ l.sum ≤ l.length * B
  | [], _ => by simp
  | x :: r, h => by
    obtain ⟨a, b⟩ := sum_between (l := r) fun y hy => h y (List.mem_cons_of_mem _ hy)
    obtain ⟨c, d⟩ := h x List.mem_cons_self
    rw [List.sum_cons, List.length_cons]
    have e : ((r.length + 1 : Nat) : Int) * B = r.length * B + B := by rw [Int.natCast_add, Int.add_mul]; simp
    rw [e]
    exact ⟨by omega, by omega⟩
theorem log_wide {i : Int} (h0 : 0 ≤ i) (h : i ≤ 100000000000000000000000000000000000000000000000000000000000000000000000000000000) : i.natAbs.log2 < 1920 := by
  have a : i.natAbs < 2 ^ 300 := by omega
  by_cases z : i.natAbs = 0
  · rw [z]; decide
  · have := (Nat.log2_lt z).mpr a
    omega
theorem places_log {ks : Kinds} (ok : OkK ks) : ((ks.map fun k : Int × Int => k.2).sum).natAbs.log2 < 1920 := by
  obtain ⟨a, b⟩ := sum_between (B := 1000000000000000000000000000000) (l := ks.map fun k : Int × Int => k.2) fun x hx => by
    obtain ⟨k, hk, rfl⟩ := List.mem_map.mp hx
    have := ok.2.2.all k hk
    exact ⟨by omega, by omega⟩
  rw [List.length_map] at b
  have ten := ok.2.1
  exact log_wide a (by omega)
theorem prod_le {a b : Int} (a0 : 0 ≤ a) (a1 : a ≤ 10000000000000000000000000000000) (b0 : 1 ≤ b) (b1 : b ≤ 1000000000000000000000000000000) : 0 ≤ a * b ∧ a * b ≤ 10000000000000000000000000000000000000000000000000000000000000 := by
  refine ⟨Int.mul_nonneg a0 (by omega), ?_⟩
  have := Int.mul_le_mul a1 b1 (by omega) (by decide)
  exact Int.le_trans this (by decide)
theorem ends_log {ks : Kinds} (ok : OkK ks) : ((ks.map fun k : Int × Int => k.1 * k.2).sum).natAbs.log2 < 1920 := by
  obtain ⟨a, b⟩ := sum_between (B := 10000000000000000000000000000000000000000000000000000000000000) (l := ks.map fun k : Int × Int => k.1 * k.2) fun x hx => by
    obtain ⟨k, hk, rfl⟩ := List.mem_map.mp hx
    have := ok.2.2.all k hk
    exact prod_le this.1 this.2.1 this.2.2.1 this.2.2.2
  rw [List.length_map] at b
  have ten := ok.2.1
  exact log_wide a (by omega)
end Dg

namespace Dg
open PySem PySem.Spec PyProof.Rows L2
/-! ### a degree given and taken -/
def one1 (d e : Int) : Int := if d = e then 1 else 0
/-- how many places of degree d, if one place of each of two degrees has by ties more -/
def moveF (ks : Kinds) (one mate by_ : Int) (d : Int) : Int := val ks d - one1 d one - one1 d mate + one1 d (one + by_) + one1 d (mate + by_)
section
variable {X : Cx} {K : PySem.W.Frag}
theorem opInK (h : X.K = K) : OpR X (compareOp .In) (rIn K false) := h ▸ op_in_seq
theorem opNotInK (h : X.K = K) : OpR X (compareOp .NotIn) (rIn K true) := h ▸ op_notIn_seq
end
section
variable {σ : HSt} {H : Hp} {Q : VK} {K : PySem.W.Frag} {n bk ct : HSt → Hp → Prop} {r : VK}
theorem r_notInT {x : V} {a : Addr} {xs : List V} (h : SqT K H a xs) (f : flatV x = true) (fs : xs.all flatV = true) (q : Q (.bl (!inV x xs)) H) : rIn K true x (.ref a) H Q := ⟨a, xs, rfl, .inr h, f, fs, q⟩
theorem r_daug {td ty tv : TE} {rd : V → V → Hp → VK → Prop} (h : td σ H fun x H1 => ty σ H1 fun y H2 => ∃ a v, x = .ref a ∧ DGet H2 a y (some v) ∧ tv σ H2 fun y2 H3 => rd v y2 H3 fun z H4 => ∃ H5, DPut H4 a y z H5 ∧ n σ H5) : sDAug td ty tv rd ⟨n, r, bk, ct⟩ σ H := h
theorem r_daugI {c : Addr} {cs : Kinds} {k : Int} {R : Addr → V → Prop} (h : DI H c cs) (m : k ∈ cs.map (·.1)) (q : R c (V.int (val cs k))) : ∃ a v, V.ref c = .ref a ∧ DGet H a (.int k) (some v) ∧ R a v :=
  ⟨c, _, rfl, DI.val m ▸ DGet.k (k := Sum.inl k) h.1, q⟩
theorem r_dputA {c : Addr} {cs : Kinds} {k z : Int} {R : Hp → Prop} (h : DI H c cs) (l : cs.length ≤ 100000) (q : ∀ H', But c H H' → DI H' c (putI cs k z) → (∀ b, b ≠ c → H' b = H b) → R H') : ∃ H5, DPut H c (.int k) (.int z) H5 ∧ R H5 := by
  refine ⟨_, DPut.k (k := Sum.inl k) h.1 (Nat.lt_of_le_of_lt (by rw [List.length_map]; exact l) (by decide : 100000 < sizeLine)), ?_⟩
  rw [putK_emb]
  exact q _ (fun b u n e => by rw [upd_ne n]; exact e) ⟨upd_same, nodup_put h.2⟩ fun b n => upd_ne n
theorem r_dc {wi : TI} {g : TG} {tt : TT} {tk tv : TE} {vs : List Nat} (h : wi σ H fun J H1 => ∀ D, H1 D = none → ∃ W : Nat → Nat → Hp → Prop, (∃ m, W 0 m (upd H1 D (.dK []))) ∧ ∀ i m H, W i m H →
    (J.stop i H ∧ Q (.ref D) H) ∨ (J.go i H ∧ ∃ Nx : Hp → Prop, (∀ H', Nx H' → ∃ m', m' < m ∧ W (i + 1) m' H') ∧ ∀ x H', J.yld i H x H' → g x (wipe σ vs) H' fun σ2 H2 => wipe σ2 vs = wipe σ vs ∧ tt σ2 H2 fun b H3 =>
      if b = true then tk σ2 H3 fun y H4 => tv σ2 H4 fun z H5 => ∃ kvs k, y = kV k ∧ H5 D = some (.dK kvs) ∧ kvs.length < sizeLine ∧ Nx (upd H5 D (.dK (putK kvs k z))) else Nx H3)) : tDc wi g tt tk tv vs σ H Q := h
end
end Dg

namespace Dg
open PySem PySem.Spec PyProof.Rows L2
/-! ### a tuple backwards -/
theorem adjust_back (n : Nat) : Builtin.Slice.sliceAdjust none none (-1) (n : Int) = ((n : Int) - 1, -1) := by
  unfold Builtin.Slice.sliceAdjust
  simp
theorem places_back (n : Nat) : Builtin.Slice.slicePlaces ((n : Int) - 1) (-1) (-1) = n := by
  unfold Builtin.Slice.slicePlaces
  simp
  split <;> omega
theorem fm_congr {α β : Type} {f g : α → Option β} : ∀ (l : List α), (∀ x ∈ l, f x = g x) → l.filterMap f = l.filterMap g
  | [], _ => rfl
  | x :: r, h => by
    rw [List.filterMap_cons, List.filterMap_cons, h x List.mem_cons_self, fm_congr r fun y hy => h y (List.mem_cons_of_mem _ hy)]
theorem back_list {α : Type} (l : List α) : ((List.range l.length).filterMap fun (m : Nat) => l[(((l.length : Int) - 1) + (m : Int) * (-1)).toNat]?) = l.reverse := by
  have e : ((List.range l.length).filterMap fun (m : Nat) => l[(((l.length : Int) - 1) + (m : Int) * (-1)).toNat]?) = (List.range l.length).filterMap fun m => l.reverse[m]? := by
    refine fm_congr _ fun m hm => ?_
    have hm' : m < l.length := List.mem_range.mp hm
    have z : (((l.length : Int) - 1) + (m : Int) * (-1)).toNat = l.length - 1 - m := by omega
    rw [z, List.getElem?_reverse hm']
  rw [e]
  have h : ∀ (r : List α), (List.range r.length).filterMap (fun m => r[m]?) = r := by
    intro r
    induction r with
    | nil => rfl
    | cons x t ih =>
      rw [List.length_cons, List.range_succ_eq_map, List.filterMap_cons]
      simp only [List.getElem?_cons_zero, List.filterMap_map]
      have : ((fun m => (x :: t)[m]?) ∘ Nat.succ) = fun m => t[m]? := by
        funext m
        simp
      rw [this, ih]
  have := h l.reverse
  rwa [List.length_reverse] at this
theorem pick_back (xs : Array Value) : ((List.range xs.size).filterMap fun (m : Nat) => xs[(((xs.size : Int) - 1) + (m : Int) * (-1)).toNat]?).toArray = xs.toList.reverse.toArray := by
  congr 1
  have := back_list xs.toList
  rw [Array.length_toList] at this
  rw [← this]
  simp
section
variable {prog : Program} {w : World} {A : Around} {E : Value → Shared → Prop} {s : Shared}
theorem applied_back {sl : Addr} {u : Tok} {n : Nat} {Q : Int × Int × Nat → Shared → Prop} (hs : s.heap.IsSliceOf sl .none .none (.int (-1) u)) (h : Q ((n : Int) - 1, -1, n) s) : wpAny (model prog w) A (Builtin.Slice.sliceApplied (.ref sl) (pure (n : Int))) Q E s := by
  obtain ⟨os, hos, hcs, hds⟩ := id hs
  unfold Builtin.Slice.sliceApplied Builtin.Slice.sliceFields
  refine wpAny_bind (wpAny_bind (wpAny_field hos hds (x := .none) rfl ?_))
  refine wpAny_bind (wpAny_field hos hds (x := .none) rfl ?_)
  refine wpAny_bind (wpAny_field hos hds (x := .int (-1) u) rfl (wpAny_pure ?_))
  refine wpAny_bind (slicePart_int ?_)
  show wpAny _ _ (if ((-1 : Int) == 0) = true then _ else _) _ _ s
  have c : ¬ ((-1 : Int) == 0) = true := by decide
  rw [if_neg c]
  refine wpAny_bind (slicePart_none ?_)
  refine wpAny_bind (slicePart_none ?_)
  refine wpAny_bind (wpAny_pure ?_)
  show wpAny _ _ (match Builtin.Slice.sliceAdjust none none (-1) (n : Int) with | (lo, hi) => pure (lo, (-1 : Int), Builtin.Slice.slicePlaces lo hi (-1))) _ _ s
  rw [adjust_back]
  show wpAny _ _ (pure ((n : Int) - 1, (-1 : Int), Builtin.Slice.slicePlaces ((n : Int) - 1) (-1) (-1))) _ _ s
  rw [places_back]
  exact wpAny_pure h
theorem item_back {t sl : Addr} {items : Array Value} {u : Tok} {Q : Value → Shared → Prop} (ht : IsTup s.heap t items) (hs : s.heap.IsSliceOf sl .none .none (.int (-1) u)) (few : items.size ≤ sizeLine)
    (h : Q (.ref s.heap.objs.size) { s with heap := s.heap.push { cls := .type "tuple", data := .seq items.toList.reverse.toArray } }) : wpAny (model prog w) A (getItem (.ref t) (.ref sl)) Q E s := by
  obtain ⟨os, hos, hcs, hds⟩ := id hs
  have kind : s.TypeIs (.ref sl) "slice" := ⟨os, hos, hcs⟩
  have fits : sizeOk (.seq items.toList.reverse.toArray) := by
    show items.toList.reverse.toArray.size ≤ sizeLine
    rw [List.size_toArray, List.length_reverse, Array.length_toList]
    exact few
  unfold getItem
  try with_reducible refine wpAny_holding ?_
  first | refine wpAny_bind (wpAny_pure ?_) | skip
  refine wpAny_bind (wpAny_sequenceKey ht.typeIs (by decide) ?_)
  refine wpAny_bind (wpAny_callSpecial?_slot (name := Str.ofString "__getitem__") ht.typeIs PyProof.Rows.slot_tuple_getitem (wpAny_call_entry PyProof.Rows.slot_tuple_getitem ht.typeIs entry_tuple_getitem ?_ (args_tuple_getitem _ _)))
  show wpAny _ _ (Builtin.Tuple.tupleItemsOf (.ref t) >>= _) _ _ s
  refine wpAny_bind (tupleItemsOf_ ht ?_)
  refine wpAny_bind (wpAny_typeOf kind ?_)
  rw [if_pos (by decide)]
  refine wpAny_bind (applied_back hs ?_)
  have differs : ¬ ((((items.size : Int) - 1) == 0 && (-1 : Int) == 1 && items.size == items.size) = true) := by simp
  show wpAny _ _ (if (((items.size : Int) - 1) == 0 && (-1 : Int) == 1 && items.size == items.size) = true then _ else _) _ _ s
  rw [if_neg differs, pick_back]
  first
    | exact wpAny_bind (m := Builtin.Tuple.tupleExact _) (wpAny_newObj_type (wpAny_pure ⟨_, rfl, wpAny_pure h⟩) fits)
    | exact wpAny_bind (m := Builtin.Tuple.tupleExact _) (wpAny_newObj_type (wpAny_bind (wpAny_pure (wpAny_pure ⟨_, rfl, wpAny_pure h⟩))) fits)
    | exact wpAny_bind (wpAny_bind (m := Builtin.Tuple.tupleExact _) (wpAny_newObj_type (wpAny_pure (wpAny_pure ⟨_, rfl, wpAny_pure h⟩)) fits))
    | exact wpAny_bind (wpAny_bind (m := Builtin.Tuple.tupleExact _) (wpAny_newObj_type (wpAny_pure ⟨_, rfl, wpAny_pure h⟩) fits))
end
def tRevT (K : PySem.W.Frag) (te : TE) : TE := fun σ H Q => te σ H fun x H1 => ∃ a xs, x = .ref a ∧ SqT K H1 a xs ∧ New H1 (.tup xs.reverse) Q
theorem pe_revT {X : Cx} {e : Expr} {te : TE} {k : Nat} {p1 p2 p3 pos : Pos} (he : PE X e te) : PE X (.Subscript e (.Slice none none (some (.UnaryOp .USub (.Constant (.int 1) k p1) p2)) p3) pos) (tRevT X.K te) := by
  constructor
  intro pins s σ H Q I h
  refine Subscript_ (thn (he.run pins s σ H _ I h) fun v s1 ⟨x, H1, I1, r1, q1⟩ => ?_)
  obtain ⟨a, xs, ex, hx, q⟩ := q1
  subst ex
  cases r1
  have hst : PO X (some (.UnaryOp .USub (.Constant (.int 1) k p1) p2)) (tPart (tUn (rU fun i => .int (-i)) (tC (.int 1)))) := po_some (pe_un un_neg pe_int)
  refine wpAny_Slice (thn (po_none.run pins s1 σ H1 (fun o H2 => o = none ∧ H2 = H1) I1 ⟨rfl, rfl⟩) fun vl s2 ⟨l, H2, I2, pl, el, e2⟩ => ?_)
  subst el e2
  refine thn (po_none.run pins s2 σ H2 (fun o H3 => o = none ∧ H3 = H2) I2 ⟨rfl, rfl⟩) fun vu s3 ⟨u, H3, I3, pu, eu, e3⟩ => ?_
  subst eu e3
  refine thn (hst.run pins s3 σ H3 (fun o H4 => o = some (-1) ∧ H4 = H3) I3 ⟨1, rfl, -1, rfl, rfl, rfl⟩) fun vs s4 ⟨o, H4, I4, ps, eo, e4⟩ => ?_
  subst eo e4
  cases pl
  cases pu
  cases ps with
  | int i tk =>
    have I5 : Inv X pins σ H4 { s4 with heap := s4.heap.push { cls := .type "slice", data := .fields #[.none, .none, .int (-1) tk] } } := I4.kept (t' := s4.toks) fun b ob q => Heap.get?_push_of_some _ q
    obtain ⟨its, r, ht, hz⟩ := I5.tuple hx
    have hlen := r.length
    show wpAny (model X.prog X.w) X.A (subscriptTail e (.Slice none none (some (.UnaryOp .USub (.Constant (.int 1) k p1) p2)) p3) (.ref a) (.ref s4.heap.objs.size)) (EP X pins σ Q) X.xe { s4 with heap := s4.heap.push { cls := .type "slice", data := .fields #[.none, .none, .int (-1) tk] } }
    refine tail_any (ops := [.ref a, .ref s4.heap.objs.size]) ht.typeIs (PyProof.Rows.slot_tuple_getitem.lookup) ?_ (by with_unfolding_all rfl)
    refine item_back ht (Heap.IsSliceOf.new _ .none .none (.int (-1) tk)) (by rw [List.size_toArray]; omega) ?_
    refine ⟨.ref _, _, I5.laid (t' := s4.toks) (o := .tup xs.reverse) (fun b ob q => Heap.get?_push_of_some _ q) (Nat.le_refl _) ?_, rfl, q _ (I5.hok.fresh (Nat.le_refl _))⟩
    exact ⟨by rw [List.length_reverse]; exact hz, _, r.reverse, IsTup.new _ _⟩
theorem r_revT {σ : HSt} {H : Hp} {Q : VK} {K : PySem.W.Frag} {te : TE} (h : te σ H fun x H1 => ∃ a xs, x = .ref a ∧ SqT K H1 a xs ∧ New H1 (.tup xs.reverse) Q) : tRevT K te σ H Q := h
theorem r_revTI {H : Hp} {Q : VK} {K : PySem.W.Frag} {a : Addr} {xs : List V} (h : SqT K H a xs) (q : New H (.tup xs.reverse) Q) : ∃ b ys, V.ref a = .ref b ∧ SqT K H b ys ∧ New H (.tup ys.reverse) Q := ⟨a, xs, rfl, h, q⟩
end Dg
namespace Dg
open PySem PySem.Spec PyProof.Rows L2
theorem put_fresh {cs : Kinds} {k v : Int} (h : k ∉ cs.map (·.1)) : putI cs k v = cs ++ [(k, v)] := by
  unfold putI
  rw [if_neg]
  intro z
  exact h (keyed_mem.mp z)
theorem nodup_snoc {ks : Kinds} {i : Nat} {k : Int × Int} (nd : (ks.map (·.1)).Nodup) (h : ks[i]? = some k) : k.1 ∉ (ks.take i).map (·.1) := by
  have e : ks.take (i + 1) = ks.take i ++ [k] := take_snoc h
  have z : ((ks.take (i + 1)).map (·.1)).Nodup := by
    rw [List.map_take]
    exact nd.sublist (List.take_sublist _ _)
  rw [e, List.map_append] at z
  have := (List.nodup_append.mp z).2.2
  intro m
  exact this k.1 m k.1 (by simp) rfl
/-- one place less of g, one more of g + by -/
def stepF (f : Int → Int) (g by_ : Int) (d : Int) : Int := f d - one1 d g + one1 d (g + by_)
theorem step_two (ks : Kinds) (one mate by_ d : Int) : stepF (stepF (val ks) one by_) mate by_ d = moveF ks one mate by_ d := by
  unfold stepF moveF
  omega
theorem moveF_nonneg {ks : Kinds} {one mate by_ : Int} (ok : OkK ks) (h1 : val ks one ≠ 0) (h2 : val ks mate ≠ 0) (h3 : one ≠ mate ∨ 1 < val ks one) (d : Int) : 0 ≤ moveF ks one mate by_ d := by
  have b : ∀ i, 0 ≤ val ks i := fun i => (countD_le ok (.int i)).1
  have o : ∀ x y, 0 ≤ one1 x y := fun x y => by unfold one1; split <;> omega
  have key : one1 d one + one1 d mate ≤ val ks d := by
    have b0 := b d
    unfold one1
    by_cases e1 : d = one
    · subst e1
      by_cases e2 : d = mate
      · subst e2
        rw [if_pos rfl]
        rcases h3 with h3 | h3
        · exact absurd rfl h3
        · omega
      · rw [if_pos rfl, if_neg e2]
        omega
    · rw [if_neg e1]
      by_cases e2 : d = mate
      · subst e2
        rw [if_pos rfl]
        omega
      · rw [if_neg e2]
        omega
  have o1 := o d (one + by_)
  have o2 := o d (mate + by_)
  unfold moveF
  omega
end Dg
namespace Dg
open PySem PySem.Spec PyProof.Rows L2
theorem swap_dict {kx vx : Expr} {gs : List Comprehension} {scope : Scope} {pos py : Pos} {y : Str} {l : Nat} {env : Env} (hk : env.scope.kind = .function) (hy : env.scope.names.lookup y = some .local) (hl : (py.line == pos.line) = true)
    (ha : (scope.names.any fun (n, k) => n == y && (k == .local || k == .cell)) = false) : swapsWith (.DictComp kx vx gs scope pos) (some (.Name y py)) l env = pure true := by
  have k1 : env.kindOf y = some .local := hy
  have k2 : env.blockKind = .function := by
    unfold Env.blockKind
    rw [hk]
    rfl
  unfold swapsWith
  simp only [k2, k1, ha, Expr.pos, hl]
  rfl
/-- y = {k: v for ..}, y local -/
theorem ps_setDc {X : Cx} {i : Nat} {y : Str} {py : Pos} {kx vx tg iter : Expr} {ifs : List Expr} {scope : Scope} {own : List (Str × Nat)} {pos spos : Pos} {wi : TI} {g : TG} {tt : TT} {tk tv : TE} (hc : X.calm = true) (hN : X.N.Nodup) (hy : X.N[i]? = some y) (hyl : X.env.scope.names.lookup y = some .local)
    (hsw : swapsWith (.DictComp kx vx [⟨tg, iter, ifs, 0⟩] scope pos) (some (.Name y py)) spos.line X.env = pure true) (hi : PI X tg iter wi) (ok : BlkOk X.N X.env.scope scope own)
    (hg : ∀ (s : Shared) (H : Hp) (C : Addr) (cl : List (Str × Addr)) (fp : List Addr), PG (X.blk s H scope (compEnvC scope cl C X.env) fp) tg g) (ht : ∀ (s : Shared) (H : Hp) (C : Addr) (cl : List (Str × Addr)) (fp : List Addr), PTs (X.blk s H scope (compEnvC scope cl C X.env) fp) ifs tt)
    (hk : ∀ (s : Shared) (H : Hp) (C : Addr) (cl : List (Str × Addr)) (fp : List Addr), PE (X.blk s H scope (compEnvC scope cl C X.env) fp) kx tk) (hv : ∀ (s : Shared) (H : Hp) (C : Addr) (cl : List (Str × Addr)) (fp : List Addr), PE (X.blk s H scope (compEnvC scope cl C X.env) fp) vx tv)
    (hs : ∀ x, foldedSetIterable iter X.env x = pure x := by intro _; rfl) : PS X (.Assign [.Name y py] (.DictComp kx vx [⟨tg, iter, ifs, 0⟩] scope pos) spos) (tAsg (tDc wi g tt tk tv (own.map (·.2))) (gName i)) := by
  constructor
  intro pins s σ H D I h
  rw [exec_Assign_Name_used _ _ _ _ hsw]
  refine wpAny_bind (wpAny_standAt (wpAny_bind ?_))
  show wpAny _ X.A (do let _ ← comprehension (.DictComp kx vx [⟨tg, iter, ifs, 0⟩] scope pos) scope X.env (firstIterPos [⟨tg, iter, ifs, 0⟩] pos) newDict false (eval iter X.env) (some (assign (.Name y py) X.env))) _ _ s
  have z : tDc wi g tt tk tv (own.map (·.2)) σ H (fun x H1 => gName i x σ H1 D.nx) := h
  refine wpAny_bind (thn (dc_core (Qf := fun _ s' => SP X pins D .next s') hc hN I hi ok hg ht hk hv hs z fun L C s' m H' I' q hn f => ?_) fun _ s' hq => wpAny_pure (wpAny_pure hq))
  show wpAny _ _ (assign (.Name y py) X.env (.ref L)) _ _ _
  refine wpAny_assign_Name (store_ok2 (v := V.ref L) I' hN hy (.inl hyl) rfl (fun s2 I2 ⟨a, sb, ha⟩ => ?_) (.inr hyl))
  obtain ⟨f0, f1, f2, f3, f4, f5⟩ := f
  have apart : C ≠ a := by
    rcases ha with w' | w'
    · rw [w']; exact f1
    · exact fun e => f4 y a w' e.symm
  refine ⟨m, hn.sameBut sb apart, fun h3 sb3 => ?_⟩
  exact ⟨_, H', I2.turned (t' := s2.toks) (fun b o hb e => (sb3.2 b hb).trans e) f0 f1 f3 f4 f5, q⟩
end Dg

namespace Dg
open PySem PySem.Spec PyProof.Rows L2
/-! ### sums over kinds -/
def weigh (w : Int → Int) (ps : Kinds) : Int := (ps.map fun p => w p.1 * p.2).sum
theorem weigh_cons (w : Int → Int) (p : Int × Int) (r : Kinds) : weigh w (p :: r) = w p.1 * p.2 + weigh w r := by
  unfold weigh
  rw [List.map_cons, List.sum_cons]
theorem weigh_app (w : Int → Int) (ps qs : Kinds) : weigh w (ps ++ qs) = weigh w ps + weigh w qs := by
  unfold weigh
  rw [List.map_append, List.sum_append]
theorem sumOf_cons (p : Int × Int) (r : Kinds) (d : Int) : sumOf (p :: r) d = (if p.1 = d then p.2 else 0) + sumOf r d := by
  unfold sumOf
  rw [List.filter_cons]
  by_cases e : p.1 = d
  · simp [e]
  · simp [e]
theorem sumOf_app (ps qs : Kinds) (d : Int) : sumOf (ps ++ qs) d = sumOf ps d + sumOf qs d := by
  induction ps with
  | nil => simp [sumOf_nil]
  | cons p r ih =>
    rw [List.cons_append, sumOf_cons, sumOf_cons, ih]
    omega
theorem weigh_split (w : Int → Int) (e : Int) : ∀ (ps : Kinds), weigh w ps = w e * sumOf ps e + weigh w (ps.filter fun p => decide (p.1 ≠ e))
  | [] => by simp [weigh, sumOf_nil]
  | p :: r => by
    rw [weigh_cons, sumOf_cons, weigh_split w e r, List.filter_cons]
    by_cases z : p.1 = e
    · rw [if_pos z, if_neg (by simp [z]), z, Int.mul_add]
      omega
    · rw [if_neg z, if_pos (by simp [z]), weigh_cons, Int.zero_add]
      omega
theorem sumOf_filter (e : Int) : ∀ (ps : Kinds) (d : Int), sumOf (ps.filter fun p => decide (p.1 ≠ e)) d = if d = e then 0 else sumOf ps d
  | [], d => by simp [sumOf_nil]
  | p :: r, d => by
    rw [List.filter_cons]
    by_cases z : p.1 = e
    · rw [if_neg (by simp [z]), sumOf_filter e r d, sumOf_cons]
      by_cases y : d = e
      · rw [if_pos y, if_pos y]
      · rw [if_neg y, if_neg y, if_neg (by omega), Int.zero_add]
    · rw [if_pos (by simp [z]), sumOf_cons, sumOf_filter e r d, sumOf_cons]
      by_cases y : d = e
      · rw [if_pos y, if_pos y, if_neg (by omega), Int.zero_add]
      · rw [if_neg y, if_neg y]
theorem weigh_zero (w : Int → Int) : ∀ (n : Nat) (ps : Kinds), ps.length ≤ n → (∀ d, sumOf ps d = 0) → weigh w ps = 0
  | _, [], _, _ => rfl
  | 0, p :: r, h, _ => absurd h (by simp)
  | n + 1, p :: r, h, z => by
    rw [weigh_split w p.1, z, Int.mul_zero, Int.zero_add]
    refine weigh_zero w n _ ?_ fun d => ?_
    · rw [List.filter_cons, if_neg (by simp)]
      have := List.length_filter_le (fun q : Int × Int => decide (q.1 ≠ p.1)) r
      rw [List.length_cons] at h
      omega
    · rw [sumOf_filter, z]
      split <;> rfl
theorem weigh_same {ps qs : Kinds} (w : Int → Int) (h : ∀ d, sumOf ps d = sumOf qs d) : weigh w ps = weigh w qs := by
  have neg : ∀ (l : Kinds), weigh w (l.map fun p => (p.1, -p.2)) = -weigh w l ∧ ∀ d, sumOf (l.map fun p => (p.1, -p.2)) d = -sumOf l d := by
    intro l
    induction l with
    | nil => exact ⟨by simp [weigh], fun d => by simp [sumOf_nil]⟩
    | cons p r ih =>
      obtain ⟨i1, i2⟩ := ih
      refine ⟨?_, fun d => ?_⟩
      · rw [List.map_cons, weigh_cons, weigh_cons, i1]
        show w p.1 * -p.2 + -weigh w r = _
        rw [Int.mul_neg]
        omega
      · rw [List.map_cons, sumOf_cons, sumOf_cons, i2]
        show (if p.1 = d then -p.2 else 0) + -sumOf r d = _
        split <;> omega
  have z := weigh_zero w _ (ps ++ qs.map fun p => (p.1, -p.2)) (Nat.le_refl _) fun d => by
    rw [sumOf_app, (neg qs).2, h]
    omega
  rw [weigh_app, (neg qs).1] at z
  omega
theorem weigh_ends (ks : Kinds) : (ks.map fun k => k.1 * k.2).sum = weigh (fun d => d) ks := rfl
theorem weigh_places (ks : Kinds) : (ks.map fun k : Int × Int => k.2).sum = weigh (fun _ => 1) ks := by
  unfold weigh
  simp
/-! ### a degree given and taken -/
def moved (ks : Kinds) (g m b : Int) : Kinds := ks ++ [(g, -1), (m, -1), (g + b, 1), (m + b, 1)]
theorem sumOf_moved {ks : Kinds} (nd : (ks.map (·.1)).Nodup) (g m b d : Int) : sumOf (moved ks g m b) d = moveF ks g m b d := by
  unfold moved moveF one1
  rw [sumOf_app, sumOf_val nd, sumOf_cons, sumOf_cons, sumOf_cons, sumOf_cons, sumOf_nil]
  simp only [eq_comm (a := d)]
  split <;> split <;> split <;> split <;> omega
theorem val_moved {ks due : Kinds} {g m b : Int} (ok : OkK ks) (h1 : val ks g ≠ 0) (h2 : val ks m ≠ 0) (h3 : g ≠ m ∨ 1 < val ks g) (k : KindsOf (moveF ks g m b) due) (d : Int) : val due d = moveF ks g m b d := val_of k d (moveF_nonneg ok h1 h2 h3 d)
theorem sum_moved {ks due : Kinds} {g m b : Int} (ok : OkK ks) (h1 : val ks g ≠ 0) (h2 : val ks m ≠ 0) (h3 : g ≠ m ∨ 1 < val ks g) (k : KindsOf (moveF ks g m b) due) (w : Int → Int) : weigh w due = weigh w ks - w g - w m + w (g + b) + w (m + b) := by
  have z := weigh_same (ps := due) (qs := moved ks g m b) w fun d => by
    rw [sumOf_val (DescP.nodup k.1), val_moved ok h1 h2 h3 k, sumOf_moved ok.nodup]
  rw [z]
  unfold moved
  rw [weigh_app]
  unfold weigh
  simp only [List.map_cons, List.map_nil, List.sum_cons, List.sum_nil]
  omega
theorem kinds_self {ks : Kinds} (ok : OkK ks) : KindsOf (val ks) ks := by
  refine ⟨ok.descP, fun d c => ⟨fun h => ?_, fun h => ?_⟩⟩
  · have e := val_memN ok.nodup h
    have := ok.2.2.all _ h
    exact ⟨e.symm, by omega⟩
  · obtain ⟨e, p⟩ := h
    rw [e]
    exact mem_val (by omega)
/-- taken again -/
theorem moved_back {ks due : Kinds} {g m : Int} (ok : OkK ks) (okd : OkK due) (h1 : val ks g ≠ 0) (h2 : val ks m ≠ 0) (h3 : g ≠ m ∨ 1 < val ks g) (k : KindsOf (moveF ks g m 1) due) :
    val due (m + 1) ≠ 0 ∧ val due (g + 1) ≠ 0 ∧ (m + 1 ≠ g + 1 ∨ 1 < val due (m + 1)) ∧ KindsOf (moveF due (m + 1) (g + 1) (-1)) ks ∧ KindsOf (moveF due (g + 1) (m + 1) (-1)) ks := by
  have nn : ∀ i, 0 ≤ val ks i := fun i => (countD_le ok (.int i)).1
  have v := val_moved ok h1 h2 h3 k
  have n1 := nn g
  have n2 := nn m
  have n3 := nn (g + 1)
  have n4 := nn (m + 1)
  have a1 : 0 < val due (g + 1) := by
    rw [v]
    unfold moveF one1
    rw [if_neg (show ¬ g + 1 = g by omega), if_pos rfl]
    by_cases z : g + 1 = m
    · rw [if_pos z, z]; split <;> omega
    · rw [if_neg z]; split <;> omega
  have a2 : 0 < val due (m + 1) := by
    rw [v]
    unfold moveF one1
    rw [if_neg (show ¬ m + 1 = m by omega), if_pos (show m + 1 = m + 1 from rfl)]
    by_cases z : m + 1 = g
    · rw [if_pos z, z]; split <;> omega
    · rw [if_neg z]; split <;> omega
  have back1 : ∀ d, moveF due (m + 1) (g + 1) (-1) d = val ks d := fun d => by
    have e1 : m + 1 + -1 = m := by omega
    have e2 : g + 1 + -1 = g := by omega
    unfold moveF
    rw [v, e1, e2]
    unfold moveF
    omega
  have back2 : ∀ d, moveF due (g + 1) (m + 1) (-1) d = val ks d := fun d => by
    have e1 : m + 1 + -1 = m := by omega
    have e2 : g + 1 + -1 = g := by omega
    unfold moveF
    rw [v, e1, e2]
    unfold moveF
    omega
  refine ⟨by omega, by omega, ?_, (kinds_self ok).congr (funext fun d => (back1 d).symm), (kinds_self ok).congr (funext fun d => (back2 d).symm)⟩
  by_cases z : m = g
  · right
    subst z
    rw [v]
    unfold moveF one1
    rw [if_neg (show ¬ m + 1 = m by omega), if_pos (show m + 1 = m + 1 from rfl)]
    omega
  · left
    omega
theorem moved_swap {ks due : Kinds} {g m b : Int} (k : KindsOf (moveF ks g m b) due) : KindsOf (moveF ks m g b) due := k.congr (funext fun d => by unfold moveF; omega)
/-! ### the row the other way round -/
def placesK (ks : Kinds) : Int := (ks.map fun k : Int × Int => k.2).sum
def oppK (ks : Kinds) : Kinds := ks.reverse.map fun k => (placesK ks - 1 - k.1, k.2)
theorem mem_opp {ks : Kinds} {d c : Int} : (d, c) ∈ oppK ks ↔ (placesK ks - 1 - d, c) ∈ ks := by
  unfold oppK
  rw [List.mem_map]
  constructor
  · rintro ⟨k, hk, e⟩
    have e1 := congrArg Prod.fst e
    have e2 := congrArg Prod.snd e
    simp only at e1 e2
    have : (placesK ks - 1 - d, c) = k := by
      rw [← e1, ← e2]
      exact Prod.ext (by simp; omega) rfl
    rw [this]
    exact List.mem_reverse.mp hk
  · intro h
    exact ⟨_, List.mem_reverse.mpr h, Prod.ext (by simp; omega) rfl⟩
theorem places_le {ks : Kinds} (ok : OkK ks) : placesK ks ≤ 10000000000000000000000000000000 := by
  obtain ⟨a, b⟩ := sum_between (B := 1000000000000000000000000000000) (l := ks.map fun k : Int × Int => k.2) fun x hx => by
    obtain ⟨k, hk, rfl⟩ := List.mem_map.mp hx
    have := ok.2.2.all k hk
    exact ⟨by omega, by omega⟩
  rw [List.length_map] at b
  have ten := ok.2.1
  show (ks.map fun k : Int × Int => k.2).sum ≤ _
  omega
theorem opp_desc {ks : Kinds} (h : DescP ks) : DescP (oppK ks) := by
  unfold DescP oppK at *
  rw [List.pairwise_map, List.pairwise_reverse]
  refine h.imp ?_
  intro a b hab
  show placesK ks - 1 - a.1 < placesK ks - 1 - b.1
  have : b.1 < a.1 := hab
  omega
theorem opp_ok {ks : Kinds} (ok : OkK ks) (h : ∀ k ∈ ks, k.1 ≤ placesK ks - 1) : OkK (oppK ks) := by
  have pl := places_le ok
  refine okK_of (opp_desc ok.descP) (fun k hk => ?_) ?_ ?_
  · have z := mem_opp.mp (show (k.1, k.2) ∈ oppK ks from hk)
    have a := ok.2.2.all _ z
    have b := h _ z
    simp only at a b
    exact ⟨by omega, by omega, a.2.2.1, a.2.2.2⟩
  · unfold oppK
    rw [List.length_map, List.length_reverse]
    exact ok.2.1
  · intro z
    unfold oppK at z
    exact ok.1 (List.reverse_eq_nil_iff.mp (List.map_eq_nil_iff.mp z))
theorem val_opp {ks : Kinds} (ok : OkK ks) (d : Int) : val (oppK ks) d = val ks (placesK ks - 1 - d) := by
  by_cases z : val ks (placesK ks - 1 - d) = 0
  · rw [z]
    by_cases y : val (oppK ks) d = 0
    · exact y
    · have m := mem_opp.mp (mem_val y)
      have e := val_memN ok.nodup m
      rw [z] at e
      exact e.symm
  · exact val_memN (DescP.nodup (opp_desc ok.descP)) (mem_opp.mpr (mem_val z))
end Dg

namespace Dg
open PySem PySem.Spec PyProof.Rows L2
/-! ### kinds, place by place -/
def RightAt (ks : Kinds) (i : Nat) : Prop := i < 10 ∧ ∃ x, ks[i]? = some x ∧ 0 ≤ x.1 ∧ x.1 ≤ 10000000000000000000000000000000 ∧ 1 ≤ x.2 ∧ x.2 ≤ 1000000000000000000000000000000 ∧ ∀ l, 0 < i → ks[i - 1]? = some l → x.1 < l.1
theorem not_right {ks : Kinds} {i : Nat} (hi : i < ks.length) (nr : ¬ RightAt ks i) : ¬ OkK ks := fun ok => by
  refine nr ⟨by have := ok.2.1; omega, ks[i], List.getElem?_eq_getElem hi, ?_⟩
  have a := ok.2.2.all _ (List.getElem_mem hi)
  refine ⟨a.1, a.2.1, a.2.2.1, a.2.2.2, fun l h0 hl => ?_⟩
  have hi' : i - 1 < ks.length := by omega
  rw [List.getElem?_eq_getElem hi'] at hl
  cases hl
  exact List.pairwise_iff_getElem.mp ok.descP (i - 1) i hi' hi (by omega)
theorem right_ok {ks : Kinds} (ne : ¬ ks = []) (ri : ∀ j, j < ks.length → RightAt ks j) : OkK ks := by
  have one : ∀ i (hi : i < ks.length), 0 ≤ ks[i].1 ∧ ks[i].1 ≤ 10000000000000000000000000000000 ∧ 1 ≤ ks[i].2 ∧ ks[i].2 ≤ 1000000000000000000000000000000 := fun i hi => by
    obtain ⟨_, x, ex, a, b, c, d, _⟩ := ri i hi
    rw [List.getElem?_eq_getElem hi] at ex
    cases ex
    exact ⟨a, b, c, d⟩
  have step : ∀ j (hj : j < ks.length), ∀ i (hi : i < j), ks[j].1 < (ks[i]'(Nat.lt_trans hi hj)).1 := by
    intro j
    induction j with
    | zero => intro _ i hi; exact absurd hi (Nat.not_lt_zero i)
    | succ j ih =>
      intro hj i hi
      obtain ⟨_, x, ex, _, _, _, _, z⟩ := ri (j + 1) hj
      rw [List.getElem?_eq_getElem hj] at ex
      cases ex
      have hj' : j < ks.length := by omega
      have z1 := z ks[j] (by omega) (by simpa using List.getElem?_eq_getElem hj')
      by_cases e : i = j
      · subst e; exact z1
      · have := ih hj' i (by omega)
        omega
  refine okK_of ?_ (fun k hk => ?_) ?_ ne
  · exact List.pairwise_iff_getElem.mpr fun i j hi hj hij => step j hj i hij
  · obtain ⟨i, hi, rfl⟩ := List.getElem_of_mem hk
    exact one i hi
  · by_cases h : ks.length ≤ 10
    · exact h
    · have := (ri 10 (by omega)).1
      omega
end Dg

namespace Dg
open PySem PySem.Spec PyProof.Rows L2
/-! ### try: body, except (x, y, z) as n: suite; one of the three always fits -/
theorem FlyingZ_kept {B h h' : Heap} {l : List Env} {a : Addr} {Z : Obj → Prop} (f : PySem.HandSPX.FlyingZ B l a Z h) (k : ∀ b o, h.get? b = some o → h'.get? b = some o) : PySem.HandSPX.FlyingZ B l a Z h' := by
  obtain ⟨f1, f2, f3, oe, vs, T, oT, ts, g1, g2, g3, g4, g5, g6, g7, g8, g9⟩ := f
  exact ⟨fun b o e => k b o (f1 b o e), f2, f3.of_keeps fun b o e _ => ⟨o, k b o e, rfl⟩, oe, vs, T, oT, ts, k _ _ g1, g2, g3, g4, g5, g6, k _ _ g7, g8, g9⟩
def wAs3 (K : PySem.W.Frag) (m : Nat) (cs : List Value) (i : Nat) (ts : Addr → Value → Option Addr → TS) (D : Ends) : WX := fun cls d σ H =>
  PySem.W.exmAny K cls cs = some true ∧ ∀ a, H a = none → σ.length = m → ts a cls d { nx := fun σ' H' => D.nx (σ'.set i none) H', rt := D.rt, bk := fun σ' H' => D.bk (σ'.set i none) H', ct := fun σ' H' => D.ct (σ'.set i none) H' } (σ.set i (some (.ref a))) H
section
variable {X : Cx} {x1 x2 x3 n : Str} {c1 c2 c3 : Value} {i : Nat} {body suite : List Stmt} {b₀ : Stmt} {p1 p2 p3 np pos pos' : Pos} {kk : Nat} {tb : WX → TS} {ts : Addr → Value → Option Addr → TS}
theorem ps_try_as3 (hs : X.stack = X.env :: X.outer) (hf : X.env.frame = some X.env.locals) (hN : X.N.Nodup) (hi : X.N[i]? = some n) (hln : X.env.kindOf n = some .local)
    (g1 : Gl X x1) (m1 : X.mg x1 = some c1) (g2 : Gl X x2) (m2 : X.mg x2 = some c2) (g3 : Gl X x3) (m3 : X.mg x3 = some c3)
    (hb : ∀ (W : WX) (pn : List (Addr × Obj)) (xe : Value → Shared → Prop), Takes (X.tr pn xe) W → PassesOwn (model X.prog X.w) X.A X.env xe → PSs (X.tr pn xe) body (tb W))
    (hsu : ∀ (a : Addr) (oe : Obj) (cls : Value) (d : Option Addr) (pn : List (Addr × Obj)), Zc cls d oe → (∃ vs, oe.data = .fields vs) → PSs (X.suite a ((a, oe) :: pn)) (b₀ :: suite) (ts a cls d))
    (d1 : (x1 == ("__debug__" : Str)) = false := by decide) (d2 : (x2 == ("__debug__" : Str)) = false := by decide) (d3 : (x3 == ("__debug__" : Str)) = false := by decide)
    (hst : ∀ env : Env, starEach [.Name x1 p1, .Name x2 p2, .Name x3 p3] env = [(false, eval (.Name x1 p1) env), (false, eval (.Name x2 p2) env), (false, eval (.Name x3 p3) env)] := by intro _; rfl) :
    PS X (.Try body [.ExceptHandler (some (.Tuple [.Name x1 p1, .Name x2 p2, .Name x3 p3] kk np)) (some n) (b₀ :: suite) pos'] [] [] pos) (fun D σ H => tb (wAs3 X.K X.N.length [c1, c2, c3] i ts D) D σ H) := by
  refine ⟨fun pins s σ H D I h => ?_⟩
  have ok := I.ok
  have hfr : X.A.frames = some (X.env :: X.outer) := by rw [ok.frames, hs]
  have hloc : Loc X.env.scope n := .inl hln
  refine wpAny_Try_except ?_
  refine wpAny_mono ((hb (wAs3 X.K X.N.length [c1, c2, c3] i ts D) (X.pn ++ pins) (fun e s₁ => wpAny (model X.prog X.w) X.A (noteFrame e X.env) (fun _ s₂ => wpAny (model X.prog X.w) X.A (setFlight e none) (fun _ s₃ =>
    wpAny (model X.prog X.w) X.A (handleBy e X.env [.ExceptHandler (some (.Tuple [.Name x1 p1, .Name x2 p2, .Name x3 p3] kk np)) (some n) (b₀ :: suite) pos']) (SP X pins D) X.xe s₃) X.xe s₂) X.xe s₁) (fun u s' xx => ?_) PassesOwn.looking).run [] s σ H D (I.toTry _) h) (fun f s1 hsp => ?_) (fun e s1 he => he)
  · obtain ⟨a, B, sI, pins', σ', H', cls, d, rfl, J', nb, up, sky, na, os, ag, hb1, hyes⟩ := xx
    have J : Inv X pins σ' H' sI := J'.ofTry ok
    have sky' : Sky B (X.env :: X.outer) a (Zc cls d) X.env.locals s'.heap := by rw [← hs]; exact sky
    show wpAny (model X.prog X.w) X.A (noteFrame (.ref a) X.env) _ _ _
    refine Sky.land Zc.steady hfr hf sky' fun h3 fl3 up3 => ?_
    have J3 : Inv X pins σ' H' { s' with heap := h3 } := J.landed nb fl3.1 (up.trans up3) os ag
    obtain ⟨oe3, vs3, he3, hz3, hd3⟩ := fl3.there
    have notFr : ∀ {h : Heap} {o : Obj} {vs : Array Value}, h.FunFrames B (X.env :: X.outer) → h.get? a = some o → o.data = .fields vs → a ∉ frs (X.env :: X.outer) := fun {h o vs} ff e dd hm => by
      obtain ⟨_, o', e', hnf⟩ := ff.mem hm
      rw [e] at e'; cases e'
      exact hnf _ dd
    have nfr := notFr fl3.2.2.1 he3 hd3
    have nL : a ≠ X.env.locals := fun z => nfr (List.mem_filterMap.mpr ⟨X.env, List.mem_cons_self, by rw [hf, z]⟩)
    have nF : a ∉ X.fs := fun hm => by
      obtain ⟨e, he, q⟩ := List.mem_filterMap.mp hm
      exact nfr (List.mem_filterMap.mpr ⟨e, List.mem_cons_of_mem _ he, q⟩)
    have S3 := J3.suite he3 hd3 na nL nF
    refine wpAny_handleBy_cons (codeAny_handlers_test ?_) (by intro q; cases q)
    refine wpAny_Tuple_spliced ?_
    show wpAny _ _ (spliced (backTo np (starEach [.Name x1 p1, .Name x2 p2, .Name x3 p3] X.env))) _ _ _
    rw [hst]
    refine Calls.spliced_cons (ld_glob (X := X.suite a ((a, oe3) :: (X.pn ++ pins))) S3 g1 m1 ?_ d1)
    refine Calls.spliced_cons (ld_glob (X := X.suite a ((a, oe3) :: (X.pn ++ pins))) S3 g2 m2 ?_ d2)
    refine Calls.spliced_cons (ld_glob (X := X.suite a ((a, oe3) :: (X.pn ++ pins))) S3 g3 m3 ?_ d3)
    refine Calls.spliced_nil ⟨(show 3 ≤ sizeLine by decide), ?_⟩
    have kp : ∀ b o, h3.get? b = some o → (h3.push { cls := .type "tuple", data := .seq [c1, c2, c3].toArray }).get? b = some o := fun b o e => Heap.get?_push_of_some _ e
    have fl3' := FlyingZ_kept fl3 kp
    have tup : (h3.push { cls := .type "tuple", data := .seq [c1, c2, c3].toArray }).get? h3.objs.size = some { cls := .type "tuple", data := .seq [c1, c2, c3].toArray } := Heap.get?_push_size _ rfl
    have LT : PySem.W.Looks (model X.prog X.w) (h3.push { cls := .type "tuple", data := .seq [c1, c2, c3].toArray }) (typeOf (.ref a)) cls := fun A Q E s k q => wpAny_typeOf_ref (k _ _ (kp _ _ he3)) (by rw [hz3.1]; exact q)
    have LM := PySem.W.exm_tup3 (M := model X.prog X.w) (J3.kIn.keeps kp) LT tup hb1
    refine LM.here ?_
    refine codeAny_handlers_suite_as ?_
    have fl3'' : PySem.HandSPX.FlyingZ B (X.env :: X.outer) a (Zc cls d) (Shared.heap { s' with heap := h3.push { cls := .type "tuple", data := .seq [c1, c2, c3].toArray } }) := fl3'
    refine PySem.HandSPX.lands_againZ fl3'' fun h4 fl4 up4 => ?_
    have up34 : h3.UpToSlots h4 := (Heap.UpToSlots.of_keeps kp).trans up4
    have J4 : Inv X pins σ' H' { s' with heap := h4 } := J.landed nb fl4.1 ((up.trans up3).trans up34) os ag
    obtain ⟨oe4, vs4, he4, hz4, hd4⟩ := fl4.there
    have S4 := J4.suite he4 hd4 na nL nF
    refine store_ok (X := X.suite a ((a, oe4) :: (X.pn ++ pins))) (v := .ref a) S4 hN hi hloc rfl (fun s5 S5 => ?_) (.inr hln)
    refine wpAny_mono ((hsu a oe4 cls d (X.pn ++ pins) hz4 ⟨_, hd4⟩).run [] s5 _ H' _ S5 (hyes a na J.len)) (fun f s6 hsp => ?_) (fun _ _ z => False.elim z)
    have end_ : ∀ {σ6 : L2.St} {H6 : Hp} {Q : Shared → Prop}, Inv (X.suite a ((a, oe4) :: (X.pn ++ pins))) [] σ6 H6 s6 → (∀ s7, Inv X pins (σ6.set i none) H6 s7 → Q s7) →
        wpAny (model X.prog X.w) X.A (do bindName X.env n .none; unbindBehindTheSuite X.env n pos') (fun _ s7 => Q s7) X.xe s6 := fun {σ6 H6 Q} S6 hq => gone_ok (S6.unsuite ok) hN hi hln hq
    cases f with
    | next =>
      obtain ⟨σ6, H6, S6, q6⟩ := hsp
      exact end_ S6 fun s7 J7 => ⟨_, _, J7, q6⟩
    | brk =>
      obtain ⟨σ6, H6, S6, q6⟩ := hsp
      exact end_ S6 fun s7 J7 => ⟨_, _, J7, q6⟩
    | cont =>
      obtain ⟨σ6, H6, S6, q6⟩ := hsp
      exact end_ S6 fun s7 J7 => ⟨_, _, J7, q6⟩
    | ret u =>
      obtain ⟨v6, σ6, H6, S6, r6, q6⟩ := hsp
      exact end_ S6 fun s7 J7 => ⟨_, _, _, J7, r6, q6⟩
  · cases f with
    | next =>
      obtain ⟨σ', H', J', q⟩ := hsp
      exact wpAny_execs_nil ⟨σ', H', J'.ofTry ok, q⟩
    | brk =>
      obtain ⟨σ', H', J', q⟩ := hsp
      exact ⟨σ', H', J'.ofTry ok, q⟩
    | cont =>
      obtain ⟨σ', H', J', q⟩ := hsp
      exact ⟨σ', H', J'.ofTry ok, q⟩
    | ret u =>
      obtain ⟨v, σ', H', J', r, q⟩ := hsp
      exact ⟨v, σ', H', J'.ofTry ok, r, q⟩
end
end Dg

namespace Dg
open PySem PySem.Spec PyProof.Rows L2 L2H
/-! ### a def that is called with the exception that is handled -/
/-- the promise: of an exception at a, of the class cls, its dict d -/
abbrev SpE := Value → Option Addr → Addr → Hp → VK → Prop
structure FnE (P : Program) (w : World) (K : PySem.W.Frag) (mg : Str → Option Value) (base : Heap) (k : Nat) (f : Addr) (fd : FuncData) (x : Str) (sp : SpE) : Prop where
  go : ∀ (A : Around) (outer : List Env) (s : Shared) (H : Hp) (args : Args) (Q : VK) (p : Addr × Obj) (cls : Value) (d : Option Addr), A.guards = some [] → RoomH k A → Zc cls d p.2 → (∃ vs, p.2.data = .fields vs) → PinOk outer H s p →
    Env0 P w K mg base A outer s H → BindsTo s fd args [(x, .ref p.1)] → sp cls d p.1 H Q → codeAny (model P w) A (.call (.ref f) args) (CR C8.CX0 outer P w H s Q fun _ _ _ => False) s
section
variable {P : Program} {w : World} {K : PySem.W.Frag} {mg : Str → Option Value} {base : Heap} {k : Nat}
theorem fnE_of {f : Addr} {name qual x : Str} {params : Arguments} {body : List Stmt} {scope : Scope} {dV kV doc pm cdv ct oc : Value} {an od : Option Addr} {osl : Array (Option Value)} {N : List Str} {sp : SpE}
    (lk : K.lookup f = some ⟨oc, od, .func (PySem.W.fnOf name qual params body scope dV kV doc pm an cdv ct), osl⟩) (hcd : PySem.W.codeIn K cdv qual = true) (S : FnScope N [x] scope)
    (B : ∀ (A : Around) (outer : List Env) (s : Shared) (H : Hp) (Q : VK) (p : Addr × Obj) (cls : Value) (d : Option Addr), (A.deeper (envOfC qual scope s.heap.objs.size f cdv)).guards = some [] → RoomH k (A.deeper (envOfC qual scope s.heap.objs.size f cdv)) → Zc cls d p.2 → (∃ vs, p.2.data = .fields vs) → sp cls d p.1 H Q →
      ∃ t, PSs (cxH C8.CX0 P w K mg base N qual scope f cdv A outer s H (fun _ _ _ => False) p) body t ∧ t { nx := fun _ H' => Q .non H', rt := Q } (L2.start N [.ref p.1]) H) :
    FnE P w K mg base (k + 1) f (PySem.W.fnOf name qual params body scope dV kV doc pm an cdv ct) x sp := by
  refine ⟨fun A outer s H args Q p cls d hg hr hz hf hpin e0 hb hsp => ?_⟩
  have KX : K.In s.heap := e0.mod.kin.keeps fun b o e => (e0.bs b o e).1
  have lim : s.heap.NoLimit := e0.mod.nolimit.keeps fun b o e => (e0.bs b o e).1
  have r : Vals [V.ref p.1] [Value.ref p.1] := .cons rfl .nil
  have ez : [x].zip [Value.ref p.1] = [(x, Value.ref p.1)] := rfl
  rw [← ez] at hb
  have hkind : ∀ y ∈ [x].zip [Value.ref p.1], scope.names.lookup y.1 = some .local ∨ (scope.names.lookup y.1 = some .cell ∧ ((cellsFrom (s.heap.objs.size + 1) scope.names []).lookup y.1).isSome = true) := fun ⟨n, v⟩ hy => by
    rcases S.par n (List.of_mem_zip hy).1 with q | q
    · exact .inl q
    · exact .inr ⟨q, PySem.W.cellsFrom_some _ _ _ (.inl q)⟩
  refine codeAny_call_function hr.depth (KX _ _ lk) rfl S.co S.gen rfl (PySem.W.codeRec_of KX hcd) (hb _ _ _ _ ?_)
  refine wpAny_newFunctionEnv_cells S.kind hkind fun env he s1 x' => ?_
  subst he
  refine ⟨lim.keeps x'.toInCall.keep, codeAny_func ?_⟩
  obtain ⟨t, ht, hq⟩ := B A outer s H Q p cls d hg (hr.deeper _) hz hf hsp
  have I : Inv (cxH C8.CX0 P w K mg base N qual scope f cdv A outer s H (fun _ _ _ => False) p) [] (L2.start N [V.ref p.1]) H s1 := inv_startH S hpin e0 rfl r x'
  refine wpAny_mono (ht.run [] s1 (L2.start N [V.ref p.1]) H _ I hq) (fun fl s' hs => ?_) fun e s' hs => hs
  have fin : ∀ {σ' : L2.St} {H' : Hp} {v : V} {u : Value}, Inv (cxH C8.CX0 P w K mg base N qual scope f cdv A outer s H (fun _ _ _ => False) p) [] σ' H' s' → RelV v u → Q v H' → CE outer P w H s Q u s' :=
    fun {σ' H' v u} J rv q => ⟨v, H', J.os, J.bare, J.base, J.hok, rv, q⟩
  cases fl with
  | ret u =>
    obtain ⟨v, σ', H', J, rv, q⟩ := hs
    exact fin J rv q
  | next =>
    obtain ⟨σ', H', J, q⟩ := hs
    exact fin (v := V.non) (u := Value.none) J rfl q
  | brk =>
    obtain ⟨_, _, _, q⟩ := hs
    exact False.elim q
  | cont =>
    obtain ⟨_, _, _, q⟩ := hs
    exact False.elim q
theorem funE {x qual y : Str} {st : Stmt} {f : Addr} {fd : FuncData} {N : List Str} {sp : SpE} (F : Fun K x qual st f fd) (S : FnScope N [y] (defScope st))
    (B : ∀ (cdv : Value) (A : Around) (outer : List Env) (s : Shared) (H : Hp) (Q : VK) (p : Addr × Obj) (cls : Value) (d : Option Addr), (A.deeper (envOfC qual (defScope st) s.heap.objs.size f cdv)).guards = some [] → RoomH k (A.deeper (envOfC qual (defScope st) s.heap.objs.size f cdv)) → Zc cls d p.2 → (∃ vs, p.2.data = .fields vs) → sp cls d p.1 H Q →
      ∃ t, PSs (cxH C8.CX0 P w K mg base N qual (defScope st) f cdv A outer s H (fun _ _ _ => False) p) (defBody st) t ∧ t { nx := fun _ H' => Q .non H', rt := Q } (L2.start N [.ref p.1]) H) : FnE P w K mg base (k + 1) f fd y sp := by
  obtain ⟨oc, od, kV, doc, pm, an, cdv, ct, osl, rfl, lk, hcd⟩ := F.ex
  exact fnE_of lk hcd S fun A outer s H Q p cls d hg hr hz hf hsp => B cdv A outer s H Q p cls d hg hr hz hf hsp
end
/-- f(e), e the exception that the suite handles -/
def tCallE (a : Addr) (cls : Value) (d : Option Addr) (sp : SpE) (te : TE) : TE := fun σ H Q => te σ H fun x H1 => x = .ref a ∧ sp cls d a H1 Q
section
variable {X : Cx} {k : Nat} {f a : Addr} {oe : Obj} {cls : Value} {d : Option Addr} {fd : FuncData} {x y : Str} {sp : SpE} {e : Expr} {te : TE} {q pos : Pos}
theorem pe_callE (F : FnE X.prog X.w X.K X.mg X.base k f fd y sp) (hgd : X.A.guards = some []) (hr : RoomH k X.A) (hp : (a, oe) ∈ X.pn) (hz : Zc cls d oe) (hf : ∃ vs, oe.data = .fields vs) (hg : Gl X x) (hm : X.mg x = some (.ref f)) (hk : PySem.W.keepIn X.K (.ref f) = true)
    (hb : Binds X.K fd [y] []) (he : PE X e te) (hdb : (x == ("__debug__" : Str)) = false := by decide) (hs : starEach [e] X.env = (false, eval e X.env) :: starEach [] X.env := by rfl) (hpl : (backTo pos (starEach [] X.env)).any (·.1) = false := by rfl) :
    PE X (.Call (.Name x q) [e] [] pos) (tCallE a cls d sp te) := by
  refine ⟨fun pins s σ H Q I h => ?_⟩
  refine wpAny_Call_Name_kw (ld_glob I hg hm ?_ hdb)
  refine PySem.W.callWith_K (h₀ := X.base) I.ok.mod.kin hk ?_ hs hpl
  rw [hs]
  show wpAny _ _ (spliced ((false, eval e X.env) :: backTo pos (starEach [] X.env))) _ _ s
  refine Calls.spliced_cons (thn (he.run pins s σ H _ I h) fun u s1 ⟨v, H1, I1, r1, ev, q1⟩ => ?_)
  subst ev
  obtain rfl : u = Value.ref a := r1
  refine Calls.spliced_nil ⟨I1.kIn, ?_⟩
  have P1 := I1.pin (a, oe) (List.mem_append_left _ hp)
  have hpin : PinOk X.stack H1 s1 (a, oe) := ⟨P1.1, P1.2.1, fun hm => (List.mem_cons.mp (I1.stkSub a hm)).elim P1.2.2.1 P1.2.2.2.1, P1.2.2.2.2⟩
  have b := hb s1 [.ref a] I1.kIn rfl
  show wpAny _ _ (call (.ref f) [.ref a]) _ _ _
  refine wpAny_call (codeAny_mono (F.go X.A X.stack s1 H1 ⟨[.ref a], []⟩ Q (a, oe) cls d hgd hr hz hf hpin I1.env0 b q1) fun r s' hq => ?_)
  cases r with
  | error e => exact (show False from hq).elim
  | ok fl =>
    cases fl with
    | ret u => exact I1.after hq
    | next => exact False.elim hq
    | brk => exact False.elim hq
    | cont => exact False.elim hq
end
/-! ### isinstance, fields of it -/
/-- what an own exception class says, so that isinstance asks its instances rightly -/
structure ExcI (K : PySem.W.Frag) (D : Addr) : Prop where
  cl : (PySem.W.clsIn K D).isSome = true
  hg : PySem.W.findIn K (.ref D) "__getattribute__" = some (some (.builtin "BaseException.__getattribute__"))
  hk : PySem.W.findIn K (.ref D) "__getattr__" = some none
  hs : PySem.W.subIn K (.ref D) (.type "BaseException") = some true
  hd : PySem.W.hasDictIn K D = true
  ha : PySem.W.findIn K (.ref D) "__class__" = some (some (.builtin "object.__class__"))
  hn : PySem.W.specialIn K (.builtin "object.__class__") "__get__" = some (some (.builtin "getset_descriptor.__get__"))
  ht : PySem.W.takesIn K (.builtin "object.__class__") = some true
  hm : PySem.W.mroIn K D (.type "object") = some true
def rIsX (K : PySem.W.Frag) (D a dd : Addr) : List V → Hp → VK → Prop := fun xs H Q => ∃ (c : V) (cv : Value) (b : Bool) (fs : List (Str × V)), xs = [.ref a, c] ∧ (∀ u, RelV c u → u = cv) ∧ H dd = some (.xd fs) ∧ PySem.W.kitOne K (.ref D) cv = some b ∧ Q (.bl b) H
section
variable {X : Cx} {a D dd : Addr} {oe : Obj} {K : PySem.W.Frag}
theorem inst_of {pins : List (Addr × Obj)} {s : Shared} {σ : L2.St} {H : Hp} {fs : List (Str × V)} (I : Inv X pins σ H s) (hp : (a, oe) ∈ X.pn) (hz : Zc (.ref D) (some dd) oe) (hf : ∃ vs, oe.data = .fields vs) (ea : H dd = some (.xd fs)) :
    ∃ od, PySem.W.InstAt s.heap a oe D (some od) ∧ ∀ n, RelO (fs.lookup n) ((PySem.W.lookIn n od).getD none) ∧ ∃ v, PySem.W.lookIn n od = some v := by
  obtain ⟨ha, _⟩ := I.pin (a, oe) (List.mem_append_left _ hp)
  obtain ⟨vs, hd⟩ := hf
  have hx : ObjOk X.prog X.w H s.heap dd (.xd fs) := I.hok dd _ ea
  obtain ⟨mA, hns, hr⟩ := hx
  obtain ⟨od, ho, hl⟩ := lookIn_ns hns
  refine ⟨od, ⟨ha, hz.1, by unfold PySem.W.notCls; rw [hd] <;> rfl, by rw [hz.2]; exact ho⟩, fun n => ⟨?_, _, hl n⟩⟩
  rw [hl n]
  exact hr n
theorem call_isX (hK : X.K = K) (C : ExcI K D) (hp : (a, oe) ∈ X.pn) (hz : Zc (.ref D) (some dd) oe) (hf : ∃ vs, oe.data = .fields vs) : CallR X (.builtin "isinstance") (rIsX K D a dd) := by
  subst hK
  intro pins s σ H xs us Q I r h
  obtain ⟨c, cv, b, fs, rfl, hcv, ea, e, q⟩ := h
  cases r with
  | cons rx rr =>
    cases rr with
    | cons rt rr =>
      cases rr
      cases rx
      have ec := hcv _ rt
      subst ec
      obtain ⟨od, J, _⟩ := inst_of I hp hz hf ea
      exact PySem.W.kia_one (PySem.W.kitx_exc C.cl C.hg C.hk C.hs C.ha C.hn C.ht C.hm) I.kIn J e (fun z => nomatch z) fun tk => ⟨.bl b, H, I.kept (t' := tk) fun _ _ z => z, rfl, q⟩
def tXfX (a dd : Addr) (f : Str) (te : TE) : TE := fun σ H Q => te σ H fun x H1 => x = .ref a ∧ ∃ (fs : List (Str × V)) (v : V), H1 dd = some (.xd fs) ∧ fs.lookup f = some v ∧ Q v H1
theorem pe_xfX {e : Expr} {te : TE} {pos : Pos} {n : Str} (hK : X.K = K) (C : ExcI K D) (hno : PySem.W.findIn K (.ref D) n = some none) (hp : (a, oe) ∈ X.pn)
    (hz : Zc (.ref D) (some dd) oe) (hf : ∃ vs, oe.data = .fields vs) (he : PE X e te) (hb : attributeBase e n X.env (eval e X.env) = eval e X.env := by rfl) :
    PE X (.Attribute e n pos) (tXfX a dd n te) := by
  subst hK
  refine ⟨fun pins s σ H Q I h => ?_⟩
  refine attr_of hb (thn (he.run pins s σ H _ I h) fun u s1 hh => ?_)
  obtain ⟨x, H1, I1, rx, ex, fs, v, ea, l, q⟩ := hh
  subst ex
  obtain rfl : u = Value.ref a := rx
  obtain ⟨od, J, hl⟩ := inst_of I1 hp hz hf ea
  obtain ⟨hrel, v0, hv0⟩ := hl n
  rw [l, hv0] at hrel
  obtain ⟨u, hu, ru⟩ := RelO.some_of (v := v) (o := v0) hrel
  exact HandSPX.exc_get I1.kIn J C.hg C.hk C.hs (PySem.W.findObj_own C.hd hno rfl (by rw [hv0, hu])) (handed_of ru) ⟨v, H1, I1.tok _, ru, q⟩
end
end Dg

namespace Dg
open PySem PySem.Spec PyProof.Rows L2 L2H LamX
/-! ### answer(lambda: ..): try: got = call_here() / except (x, y, z) as e: return sort(e) / return ['back', got] -/
/-- what is wished for of an exception: one of the three classes fits, the sort's promise -/
def tAns (K : PySem.W.Frag) (cs : List Value) (sp : SpE) : (XK → Hp → VK → Prop) → Hp → VK → Prop := fun tl H Q =>
  tl (fun cls d H' => PySem.W.exmAny K cls cs = some true ∧ ∀ a, H' a = none → sp cls d a H' Q) H (fun v H' => New H' (.lst [.str "back", v]) Q)
section
abbrev ansN : List Str := ["call_here", "got", "e"]
variable {X : Cx} {q : Str} {sg : Scope} {g gs : Addr} {cdg : Value} {fs : FuncData} {c1 c2 c3 : Value} {sp : SpE} {k : Nat}
  {p1 p2 p3 p4 p5 p6 p7 p8 p9 p10 p11 p12 p13 p14 p15 p16 p17 p18 : Pos} {kk k1 : Nat}
theorem answer_gives (l1 : sg.names.lookup ("got" : Str) = some .local) (l2 : sg.names.lookup ("e" : Str) = some .local)
    (g1 : sg.names.lookup ("WrongValue" : Str) = some .globalImplicit) (g2 : sg.names.lookup ("WrongName" : Str) = some .globalImplicit) (g3 : sg.names.lookup ("NotPossible" : Str) = some .globalImplicit) (g4 : sg.names.lookup ("_law_sort" : Str) = some .globalImplicit)
    (m1 : X.mg "WrongValue" = some c1) (m2 : X.mg "WrongName" = some c2) (m3 : X.mg "NotPossible" = some c3) (m4 : X.mg "_law_sort" = some (.ref gs))
    (F : FnE X.prog X.w X.K X.mg X.base k gs fs "e" sp) (hk : PySem.W.keepIn X.K (.ref gs) = true) (hb : Binds X.K fs ["e"] []) (hgd : X.A.guards = some []) (hr : Room (k + 1) X.A) :
    GivesTo X ansN "_law_answer" sg g cdg [.Try [.Assign [.Name "got" p1] (.Call (.Name "call_here" p2) [] [] p3) p4] [.ExceptHandler (some (.Tuple [.Name "WrongValue" p5, .Name "WrongName" p6, .Name "NotPossible" p7] kk p8)) (some "e") [.Return (some (.Call (.Name "_law_sort" p9) [.Name "e" p10] [] p11)) p12] p13] [] [] p14,
      .Return (some (.List [.Constant (.str "back") k1 p15, .Name "got" p16] p17)) p18] "call_here" q (tAns X.K [c1, c2, c3] sp) := by
  intro f c' s H Q tl act hc h
  have h0 : ∀ f : Addr, (L2.start ansN [V.ref f])[0]? = some (some (V.ref f)) := fun f => rfl
  have nd : ansN.Nodup := by decide +kernel
  have n1 : ansN[1]? = some ("got" : Str) := rfl
  have n2 : ansN[2]? = some ("e" : Str) := rfl
  have v1 : Vis sg "got" := .inl l1
  have v2 : Vis sg "e" := .inl l2
  have gl : ∀ {x : Str}, sg.names.lookup x = some .globalImplicit → Gl (cxOf C8.CX0 X.prog X.w X.K X.mg X.base ansN "_law_answer" sg g cdg X.A X.stack s H C8.E0).nox x := fun z => z
  refine ⟨_, pss_cons (ps_try_as3 (X := (cxOf C8.CX0 X.prog X.w X.K X.mg X.base ansN "_law_answer" sg g cdg X.A X.stack s H C8.E0).nox) (c1 := c1) (c2 := c2) (c3 := c3) (i := 2)
      (tb := fun W D σ H => ∃ Ech : XK, (∀ cls d σ' H', Ech cls d H' → W cls d σ' H') ∧ σ[0]? = some (some (.ref f)) ∧ H c' = some (CodeO c' q) ∧ tl Ech H (fun v H' => D.nx (σ.set 1 (some v)) H'))
      rfl rfl nd n2 l2 (gl g1) m1 (gl g2) m2 (gl g3) m3 (fun W pn xe tk _ => ?_) (fun a oe cls d pn hz hf => pss_one (ps_ret (pe_callE (a := a) (oe := oe) (cls := cls) (d := d) F (show X.A.guards = some [] from hgd) ⟨(hr.deeper (envOfC "_law_answer" sg s.heap.objs.size g cdg)).dp, (hr.deeper (envOfC "_law_answer" sg s.heap.objs.size g cdg)).un⟩ List.mem_cons_self hz hf g4 m4 hk hb (pe_var (i := 2) n2 v2)))))
      (pss_one (ps_ret (pe_lst (pa_cons pe_str (pa_cons (pe_var (i := 1) n1 v1) pa_nil))))), ?_⟩
  · refine ⟨fun pins s' σ H' D I h' => ?_⟩
    obtain ⟨Ech, hW, h1, h2, h3⟩ := h'
    have hp := act W pn xe Ech p2 p3 tk hW
    have hq := pss_one (ps_set (X := (cxOf C8.CX0 X.prog X.w X.K X.mg X.base ansN "_law_answer" sg g cdg X.A X.stack s H C8.E0).nox.tr pn xe) (i := 1) (pos' := p1) (pos := p4) nd n1 (Or.inl l1) hp)
    exact hq.run pins s' σ H' D I ⟨h1, h2, h3⟩
  · refine ⟨fun cls d H' => PySem.W.exmAny X.K cls [c1, c2, c3] = some true ∧ ∀ a, H' a = none → sp cls d a H' Q, fun cls d σ' H' z => ⟨z.1, fun a ha hl => ?_⟩, h0 f, hc, ?_⟩
    · have e2 : (σ'.set 2 (some (V.ref a)))[2]? = some (some (V.ref a)) := List.getElem?_set_self (by rw [hl]; show 2 < 3; decide)
      exact ⟨V.ref a, e2, rfl, z.2 a ha⟩
    · unfold tAns at h
      have e : (fun v H' => New H' (.lst [.str "back", v]) Q) = fun v H' => (tRet (tLst (tCons (tC (V.str (Str.ofString "back"))) (tCons (tVar 1) tNil))) { nx := fun (_ : L2.St) H' => Q V.non H', rt := Q } : L2.St → Hp → Prop) (List.set (L2.start ansN [V.ref f]) 1 (some v)) H' := by
        funext v H'
        refine propext ⟨fun z => ⟨v, rfl, (show 2 ≤ sizeLine by decide), z⟩, fun z => ?_⟩
        obtain ⟨v', ev, _, z⟩ := z
        have ev' : some (some v) = some (some v') := ev
        cases ev'
        exact z
      rw [e] at h
      exact h
end
end Dg

namespace Dg
open PySem PySem.Spec PyProof.Rows L2 L2H LamX
/-! ### a law's end: promises where no repr is under way, tables of code objects -/
theorem law_goT {P : Program} {w : World} {K : PySem.W.Frag} {mg mb : Str → Option Value} {k : Nat} {fa a : Addr} {cs : List (Addr × Addr)} {fd : FuncData} {x : Str} {sp : Sp} {s₁ : Shared} {vs : List Value} {ns : List Int}
    (KX : K.In s₁.heap) (hns : s₁.heap.Ns mainGlobals mg) (hb : s₁.heap.Ns builtinsNs mb) (hbb : ∀ x : Str, x ≠ "__name__" → mb x = bootBuiltins x) (hlim : s₁.heap.NoLimit) (hg : s₁.gens = #[])
    (hT : ∀ p ∈ cs, s₁.heap.get? p.2 = some { cls := .none, data := .fields #[] }) (nT : ∀ p ∈ cs, K.lookup p.2 = none) (C : ∀ p ∈ cs, PySem.W.CodeHd s₁.heap p.1 p.2)
    (hbm : ∃ (bm : Addr) (ob : Obj), mg "__builtins__" = some (.ref bm) ∧ bm ≠ builtinsNs ∧ s₁.heap.get? bm = some ob ∧ ob.cls = .type "module" ∧ ob.dict = some builtinsNs ∧ ob.data = .plain)
    (ha : s₁.heap.get? a = some { cls := .type "list", data := .seq vs.toArray }) (hi : IntsAre vs ns) (hl : ns.length ≤ sizeLine) (hr : Room k callerA)
    (F : ∀ base : Heap, K.In base → base.Ns mainGlobals mg → (∀ p ∈ cs, TabB base mg p.1 p.2) → FnG P w K mg base C8.CX0 k fa fd [x] sp) (hbind : ∀ (s : Shared) (u : Value), BindsTo s fd ⟨[u], []⟩ [(x, u)])
    (hsp : ∀ H : Hp, (∀ p ∈ cs, H p.2 = some (.tbl #[])) → SqL K H a (ns.map V.int) → sp [.ref a] H (fun v _ => v = .bl true) fun _ _ _ => False) :
    codeAny (model P w) callerA (.call (.ref fa) ⟨[.ref a], []⟩) (fun r s' => r = .ok (.ret (.bool true)) ∧ OldK s₁.heap s'.heap ∧ s'.os = s₁.os ∧ AllBare s'.gens) s₁ := by
  have rv := vals_ints hi
  have lenV := hi.length
  have isT : ∀ b : Addr, b ∈ cs.map (·.2) → s₁.heap.get? b = some { cls := .none, data := .fields #[] } := fun b hb => by
    obtain ⟨p, hp, e⟩ := List.mem_map.mp hb
    rw [← e]
    exact hT p hp
  have aT : a ∉ cs.map (·.2) := fun z => by
    have q := isT a z
    rw [ha] at q
    have z' : Data.seq vs.toArray _ = Data.fields #[] := congrArg Obj.data (Option.some.inj q)
    cases z'
  have memT : ∀ p ∈ cs, p.2 ∈ cs.map (·.2) := fun p hp => List.mem_map.mpr ⟨p, hp, rfl⟩
  have core : ∀ H : Hp, (∀ p ∈ cs, H p.2 = some (.tbl #[])) → (∀ b, H b = none ∨ b ∈ cs.map (·.2) ∨ ∃ o xs, H b = some (.frz o (.lst xs))) → SqL K H a (ns.map V.int) → HOk P w H s₁.heap → (∀ b, H b ≠ none → b = a ∨ b ∈ cs.map (·.2)) → (H a ≠ none → K.lookup a = none) →
      codeAny (model P w) callerA (.call (.ref fa) ⟨[.ref a], []⟩) (fun r s' => r = .ok (.ret (.bool true)) ∧ OldK s₁.heap s'.heap ∧ s'.os = s₁.os ∧ AllBare s'.gens) s₁ := by
    intro H hH hO hS hok hA hK
    have base_of : ∀ {b : Addr} {o : Obj}, s₁.heap.get? b = some o → H b = none → (hidT s₁.heap H).get? b = some o := fun e n => hidT_get e n
    have noD : ∀ {b : Addr} {o : Obj}, s₁.heap.get? b = some o → (∀ vs n, o.data ≠ .seq vs n) → o.data ≠ .fields #[] → H b = none := fun {b o} e h1 h2 => by
      cases q : H b with
      | none => rfl
      | some u =>
        rcases hA b (by rw [q]; simp) with e' | e'
        · rw [e', ha] at e
          cases e
          exact (h1 _ _ rfl).elim
        · rw [isT b e'] at e
          cases e
          exact (h2 rfl).elim
    have noA : ∀ {b : Addr} {o : Obj} {es : Array DictEntry} {ep : Nat}, s₁.heap.get? b = some o → o.data = .dict es ep → H b = none := fun {b o es ep} e d => by
      refine noD e (fun vs n z => ?_) fun z => ?_
      · rw [d] at z
        cases z
      · rw [d] at z
        cases z
    have nsK : ∀ {b : Addr} {m : Str → Option Value}, s₁.heap.Ns b m → (hidT s₁.heap H).Ns b m := fun {b m} ⟨o, es, ep, e, d, r⟩ => ⟨o, es, ep, base_of e (noA e d), d, r⟩
    have hKb : K.In (hidT s₁.heap H) := fun b o e => base_of (KX b o e) (by
      cases q : H b with
      | none => rfl
      | some u =>
        rcases hA b (by rw [q]; simp) with e' | e'
        · rw [e'] at e q
          rw [hK (by rw [q]; simp)] at e
          cases e
        · obtain ⟨p, hp, ep⟩ := List.mem_map.mp e'
          rw [← ep, nT p hp] at e
          cases e)
    have hM : L2.Mod K mg (hidT s₁.heap H) := ⟨hKb, nsK hns, ⟨mb, nsK hb, hbb⟩, let ⟨mc, h1, h2⟩ := hlim; ⟨mc, nsK h1, h2⟩⟩
    have TB : ∀ p ∈ cs, TabB (hidT s₁.heap H) mg p.1 p.2 := fun p hp => by
      have hTp := hT p hp
      refine ⟨?_, ?_, fun z => ?_⟩
      · obtain ⟨o, us, file, tf, flags, tg, inF, text, tt, e1, r1, r2, r3, r4, r5, r6, r7, r8, hne⟩ := C p hp
        refine ⟨o, us, file, tf, flags, tg, inF, text, tt, base_of e1 (noD e1 (fun vs n z => ?_) fun z => ?_), r1, r2, r3, r4, r5, r6, r7, r8, hne⟩
        · rw [r2] at z
          cases z
        · rw [r2] at z
          cases z
          simp at r3
      · obtain ⟨bm, ob, b1, b2, b3, b4, b5, b6⟩ := hbm
        have nG : bm ≠ mainGlobals := fun q => by
          obtain ⟨o, es, ep, e, hd, _⟩ := hns
          rw [q, e] at b3
          cases b3
          rw [hd] at b6
          cases b6
        have nP : bm ≠ p.2 := fun q => by
          rw [q, hTp] at b3
          cases b3
          cases b6
        refine ⟨bm, ob, b1, b2, nG, nP, base_of b3 (noD b3 (fun vs n z => ?_) fun z => ?_), b4, b5, b6⟩
        · rw [b6] at z
          cases z
        · rw [b6] at z
          cases z
      · obtain ⟨o, es, ep, e, hd, _⟩ := hns
        rw [z, hTp] at e
        cases e
        cases hd
    have e0 : Env0 P w K mg (hidT s₁.heap H) callerA [] s₁ H := ⟨rfl, hM, fun b o e => of_hidT e, Nat.le_of_eq (hidT_size _ _), trivial, fun b hb => absurd (show b ∈ ([] : List Addr) from hb) (by simp), hok, .of_eq hg⟩
    refine codeAny_mono ((F _ hKb (nsK hns) TB).go callerA [] s₁ H ⟨[.ref a], []⟩ [.ref a] [.ref a] _ _ rfl hr e0 (hbind s₁ (.ref a)) (.cons rfl .nil) (hsp H hH hS)) fun r s' h => ?_
    cases r with
    | error e => exact (show False from h).elim
    | ok fl =>
      cases fl with
      | next => exact False.elim h
      | brk => exact False.elim h
      | cont => exact False.elim h
      | ret u =>
        obtain ⟨v, H', os, bare, un, hok', r', q⟩ := h
        have q' : v = .bl true := q
        subst q'
        obtain rfl : u = Value.bool true := r'
        have key : ∀ b o, b ∉ cs.map (·.2) → s₁.heap.get? b = some o → s'.heap.get? b = some o := fun b o nb e => by
          cases q : H b with
          | none => exact un.keep b o e q (by intro z; exact absurd (show b ∈ ([] : List Addr) from z) (by simp)) (by simp)
          | some u =>
            rcases hO b with z | z | ⟨ob, xs, z⟩
            · rw [q] at z; cases z
            · exact absurd z nb
            · have z2 := un.frzs b ob _ z
              obtain ⟨e1, _⟩ := hok b _ z
              obtain ⟨e2, _⟩ := hok' b _ z2
              rw [e] at e1; cases e1
              exact e2
        have grown : ∀ p ∈ cs, ∃ more : Array Value, s'.heap.get? p.2 = some { cls := .none, data := .fields more } := fun p hp => by
          obtain ⟨more, z⟩ := un.tbls p.2 #[] (hH p hp)
          exact ⟨_, hok' p.2 _ z⟩
        refine ⟨rfl, ⟨fun b o e => ?_, fun b o e => ?_⟩, os, bare⟩
        · by_cases hb : b ∈ cs.map (·.2)
          · obtain ⟨p, hp, ep⟩ := List.mem_map.mp hb
            obtain ⟨more, hm⟩ := grown p hp
            rw [← ep] at e ⊢
            rw [hT p hp] at e
            cases e
            exact .inr (.inl ⟨((C p hp).tab (hT p hp)).isCodeTable, rfl, #[], more, rfl, by rw [Array.empty_append]; exact hm⟩)
          · exact .inl (key b o hb e)
        · by_cases hb : b ∈ cs.map (·.2)
          · obtain ⟨p, hp, ep⟩ := List.mem_map.mp hb
            obtain ⟨more, hm⟩ := grown p hp
            rw [← ep]
            exact ⟨_, hm⟩
          · exact ⟨o, key b o hb e⟩
  cases hk : K.lookup a with
  | some o =>
    have e := KX a o hk
    rw [ha] at e
    cases e
    refine core (fun b => if b ∈ cs.map (·.2) then some (.tbl #[]) else none) (fun p hp => if_pos (memT p hp)) (fun b => ?_) (.inr ⟨_, vs.toArray, _, hk, rfl, rfl, rfl, by rw [List.size_toArray, lenV]; exact hl, by simpa using rv⟩) (fun b u z => ?_) (fun b z => ?_) fun z => absurd (show (if a ∈ cs.map (·.2) then some (HO.tbl #[]) else none) = none from if_neg aT) z
    · by_cases hb : b ∈ cs.map (·.2)
      · exact .inr (.inl hb)
      · exact .inl (if_neg hb)
    · by_cases hb : b ∈ cs.map (·.2)
      · have z' := (if_pos hb).symm.trans z
        cases z'
        exact isT b hb
      · have z' := (if_neg hb).symm.trans z
        cases z'
    · by_cases hb : b ∈ cs.map (·.2)
      · exact .inr hb
      · exact absurd (if_neg hb) z
  | none =>
    refine core (fun b => if b = a then some (.frz { cls := .type "list", data := .seq vs.toArray } (.lst (ns.map V.int))) else if b ∈ cs.map (·.2) then some (.tbl #[]) else none) (fun p hp => (if_neg (show ¬ p.2 = a from fun z => aT (by rw [← z]; exact memT p hp))).trans (if_pos (memT p hp))) (fun b => ?_)
      (.inl (.inr ⟨{ cls := .type "list", data := .seq vs.toArray }, if_pos rfl⟩)) (fun b u z => ?_) (fun b z => ?_) fun _ => hk
    · by_cases hb : b = a
      · exact .inr (.inr ⟨_, _, if_pos hb⟩)
      · by_cases hb2 : b ∈ cs.map (·.2)
        · exact .inr (.inl hb2)
        · exact .inl ((if_neg hb).trans (if_neg hb2))
    · by_cases hb : b = a
      · have z' := (if_pos hb).symm.trans z
        cases z'
        rw [hb]
        exact ⟨ha, by rw [List.length_map]; exact hl, vs, _, rv, ha⟩
      · have z1 := (if_neg hb).symm.trans z
        by_cases hb2 : b ∈ cs.map (·.2)
        · have z' := (if_pos hb2).symm.trans z1
          cases z'
          exact isT b hb2
        · have z' := (if_neg hb2).symm.trans z1
          cases z'
    · by_cases hb : b = a
      · exact .inl hb
      · by_cases hb2 : b ∈ cs.map (·.2)
        · exact .inr hb2
        · exact absurd ((if_neg hb).trans (if_neg hb2)) z
/-- a law row's end, with tables: xs, the defs that hold lambdas -/
theorem walk_GT {l : PySem.W.OpenLaw} {n k : Nat} {q : Program} {loose : List Str} {XP : (Str → Option Value) → Heap → Prop} {YP : World → Heap → Prop} {d : DefRec} {K : Params → PySem.W.Frag} {sp : PySem.W.Frag → List (Addr × Addr) → Sp} {x : Str}
    (most : l.most = some n) (few : n ≤ sizeLine) (hdf : d.params.defaults = []) (hr : Room k callerA) (hY : ∀ (w : World) (h : Heap), YP w h → (K w.params).In h) (xs : List Str) (hrec : (xs.all fun y => (recsOf q).any fun e => e.name == y) = true)
    (cs : Params → List (Addr × Addr)) (hcs : ∀ p : Params, xs.map (PySem.W.tabIn (K p)) = (cs p).map some) (nT : ∀ (p : Params), ((cs p).all fun c => ((K p).lookup c.2).isNone) = true)
    (F : ∀ (w : World) (mg : Str → Option Value) (fa : Addr) (h : Heap), (K w.params).In h → h.Ns mainGlobals mg → mg d.name = some (.ref fa) →
      ∃ fd : FuncData, (∀ (s : Shared) (u : Value), BindsTo s fd ⟨[u], []⟩ [(x, u)]) ∧ ∀ base : Heap, (K w.params).In base → base.Ns mainGlobals mg → (∀ p ∈ cs w.params, TabB base mg p.1 p.2) → FnG l.prog w (K w.params) mg base C8.CX0 k fa fd [x] (sp (K w.params) (cs w.params)))
    (hsp : ∀ (K : PySem.W.Frag) (cs : List (Addr × Addr)) (H : Hp) (a : Addr) (ns : List Int), ns.length ≤ n → (∀ z ∈ ns, Builtin.Int.intBits z ≤ 1048576) → (∀ p ∈ cs, H p.2 = some (.tbl #[])) → SqL K H a (ns.map V.int) → sp K cs [.ref a] H (fun v _ => v = .bl true) fun _ _ _ => False) :
    PySem.W.WalkO q loose XP YP l.row.toRowW d [] (fun f vs => PySem.call f vs) := by
  refine Att.attach_callB most hdf ?_
  intro w s0 s1 mg mb fa o pm cd doc a vs ns G Y ho hd hcd hmg obj hints len bits gens
  have KX := hY w _ Y
  obtain ⟨fd, hb, hF⟩ := F w mg fa _ KX G.T.g hmg
  have tab : ∀ p ∈ cs w.params, PySem.W.CodeHd s1.heap p.1 p.2 ∧ s1.heap.get? p.2 = some { cls := .none, data := .fields #[] } := fun p hp => by
    have e : some p ∈ xs.map (PySem.W.tabIn (K w.params)) := by
      rw [hcs w.params]
      exact List.mem_map_of_mem hp
    obtain ⟨y, hy, ey⟩ := List.mem_map.mp e
    have hr := List.all_eq_true.mp hrec y hy
    obtain ⟨dL, hm⟩ : ∃ dL, (recsOf q).find? (fun e => e.name == y) = some dL := Option.isSome_iff_exists.mp (by rw [List.find?_isSome]; exact List.any_eq_true.mp hr)
    exact PySem.W.tab_of G.T KX hm ey
  have non : ∀ p ∈ cs w.params, (K w.params).lookup p.2 = none := fun p hp => Option.isNone_iff_eq_none.mp (List.all_eq_true.mp (nT w.params) p hp)
  exact law_goT KX G.T.g G.T.b G.T.builtins G.T.nolimit gens (fun p hp => (tab p hp).2) non (fun p hp => (tab p hp).1) G.T.bmain obj hints (Nat.le_trans len few) hr hF hb fun H hH hS => hsp (K w.params) (cs w.params) H a ns len bits hH hS
end Dg

namespace Dg
open PySem PySem.Spec PyProof.Rows L2 L2H LamX
/-! ### a def whose code object is known -/
structure FunC (K : PySem.W.Frag) (x qual : Str) (st : Stmt) (f : Addr) (fd : FuncData) (c : Addr) : Prop where
  ex : ∃ (oc : Value) (od : Option Addr) (kV doc pm : Value) (an : Option Addr) (ct : Value) (osl : Array (Option Value)),
    fd = PySem.W.fnOf x qual (defArgs st) (defBody st) (defScope st) .none kV doc pm an (.ref c) ct ∧ K.lookup f = some ⟨oc, od, .func fd, osl⟩ ∧ PySem.W.codeIn K (.ref c) qual = true
section
variable {P : Program} {w : World} {K : PySem.W.Frag} {mg : Str → Option Value} {base : Heap} {k : Nat}
theorem funGC {x qual : Str} {st : Stmt} {f c : Addr} {fd : FuncData} {N ps : List Str} {sp : Sp} (F : FunC K x qual st f fd c) (S : FnScope N ps (defScope st)) (len : ∀ vs H Q E, sp vs H Q E → vs.length = ps.length)
    (B : ∀ (A : Around) (outer : List Env) (s : Shared) (H : Hp) (vs : List V) (Q : VK) (E : XK), (A.deeper (envOfC qual (defScope st) s.heap.objs.size f (.ref c))).guards = some [] → Room k (A.deeper (envOfC qual (defScope st) s.heap.objs.size f (.ref c))) → sp vs H Q E →
      ∃ t, PSs (cxOf CX0 P w K mg base N qual (defScope st) f (.ref c) A outer s H E).nox (defBody st) t ∧ t { nx := fun _ H' => Q .non H', rt := Q } (start N vs) H) : FnG P w K mg base CX0 (k + 1) f fd ps sp := by
  obtain ⟨oc, od, kV, doc, pm, an, ct, osl, rfl, lk, hcd⟩ := F.ex
  refine fnG_body lk hcd S len fun A outer s H vs Q E hg hr hsp => ?_
  obtain ⟨t, h, q⟩ := B A outer s H vs Q E (deeper_guards hg) hr hsp
  exact ⟨t, h.nox, q⟩
end
/-! ### answer(lambda: ..) by the text of answer -/
def ansB (sc : Scope) : Bool := decide (sc.names.lookup ("got" : Str) = some .local) && decide (sc.names.lookup ("e" : Str) = some .local) && decide (sc.names.lookup ("WrongValue" : Str) = some .globalImplicit) && decide (sc.names.lookup ("WrongName" : Str) = some .globalImplicit) &&
  decide (sc.names.lookup ("NotPossible" : Str) = some .globalImplicit) && decide (sc.names.lookup ("_law_sort" : Str) = some .globalImplicit) && decide (sc.names.lookup ("call_here" : Str) = some .local)
section
variable {X : Cx} {T : List (Addr × Str)} {st : Stmt} {g gs c P : Addr} {d ds : FuncData} {c1 c2 c3 : Value} {sp : SpE} {k ks : Nat}
  {p1 p2 p3 p4 p5 p6 p7 p8 p9 p10 p11 p12 p13 p14 p15 p16 p17 p18 p lpos pos : Pos} {kk k1 : Nat} {params : Arguments} {body : Expr} {scope : Scope} {t : XK → TE}
theorem pe_ans (Fa : Fun X.K "_law_answer" "_law_answer" st g d) (Sa : FnScope ansN ["call_here"] (defScope st)) (hab : ansB (defScope st) = true)
    (hbd : defBody st = [.Try [.Assign [.Name "got" p1] (.Call (.Name "call_here" p2) [] [] p3) p4] [.ExceptHandler (some (.Tuple [.Name "WrongValue" p5, .Name "WrongName" p6, .Name "NotPossible" p7] kk p8)) (some "e") [.Return (some (.Call (.Name "_law_sort" p9) [.Name "e" p10] [] p11)) p12] p13] [] [] p14,
      .Return (some (.List [.Constant (.str "back") k1 p15, .Name "got" p16] p17)) p18])
    (hba : Binds X.K d ["call_here"] []) (m0 : X.mg "_law_answer" = some (.ref g)) (m1 : X.mg "WrongValue" = some c1) (m2 : X.mg "WrongName" = some c2) (m3 : X.mg "NotPossible" = some c3) (m4 : X.mg "_law_sort" = some (.ref gs))
    (Fs : FnE X.prog X.w X.K X.mg X.base ks gs ds "e" sp) (hks : PySem.W.keepIn X.K (.ref gs) = true) (hbs : Binds X.K ds ["e"] []) (hgd : X.A.guards = some []) (hrs : Room (ks + 1) X.A) (hg : Gl X "_law_answer")
    (TB : TabB X.base X.mg c P) (hcode : X.env.code = .ref c) (hmT : (P, X.env.qual ++ "<lambda>") ∈ T) (hu : ∀ p ∈ T, p.1 = P → p.2 = X.env.qual ++ "<lambda>") (hr : Room (k + 2) X.A) (L : LamS X.env.scope scope) (hdef : defaultsOf params X.env = ([], []))
    (hbind : ∀ (q : Str) (cl : List (Str × Addr)) (pm cv ctv : Value), bindArgs (PySem.W.kla_fn "<lambda>" q params body scope cl pm cv ctv) ⟨[], []⟩ = pure [])
    (hbody : ∀ (A : Around) (outer : List Env) (s : Shared) (H : Hp) (E : XK) (f c' : Addr), Room k (A.deeper (lamEnv X scope s.heap.objs.size f c')) → PE (lamCx X A outer s H E scope f c') body (t E)) :
    PE X (.Call (.Name "_law_answer" p) [.Lambda params body scope lpos] [] pos) (tLam T (tAns X.K [c1, c2, c3] sp) t) := by
  obtain ⟨oc, od, kV, doc, pm, an, cdv, ct, osl, rfl, lk, hcd⟩ := Fa.ex
  unfold ansB at hab
  simp only [Bool.and_eq_true, decide_eq_true_eq] at hab
  obtain ⟨⟨⟨⟨⟨⟨l1, l2⟩, g1⟩, g2⟩, g3⟩, g4⟩, l0⟩ := hab
  refine pe_lamcall (T := T) (Ng := ansN) hg m0 Fa.kp lk hcd hba Sa rfl (.inl l0) ?_ TB hcode hmT hu hr L hdef hbind hbody
  rw [hbd]
  exact answer_gives l1 l2 g1 g2 g3 g4 m1 m2 m3 m4 Fs hks hbs hgd hrs
end
/-! ### where an exception is handled -/
section
variable {X : Cx}
theorem roomH_units {A : Around} {k : Nat} (hr : RoomH k A) : A.units + 64 < cLine := by have := hr.un; omega
theorem opEqH {k : Nat} (hr : RoomH k X.A) : OpR X (compareOp .Eq) (rEqA X.K) := op_eq.or (op_eqD (roomH_units hr))
theorem opEqHK {K : PySem.W.Frag} {k : Nat} (hr : RoomH k X.A) (h : X.K = K) : OpR X (compareOp .Eq) (rEqA K) := h ▸ opEqH hr
theorem call_reprH {K : PySem.W.Frag} {k : Nat} (hK : X.K = K) (hg : X.A.guards = some []) (hr : RoomH k X.A) : CallR X (.builtin "repr") (rRepr K) := by
  subst hK
  intro pins s σ H xs us Q I r h
  obtain ⟨a, d, rfl, hd, h1, h2, h3, h4, q⟩ := h
  obtain ⟨u, rfl, ru⟩ := vals1 r
  obtain ⟨as, rd⟩ := Dp.reads I d _ _ hd ru
  cases ru
  have room := roomH_units hr
  refine repr_of_reads' rd h1 (fun e => by rw [h2] at e; cases e) hg (by omega) (fun _ _ e => e) (fun h' u tk hk => ?_) h4
  exact ⟨.str d.shown, H, I.kept (t' := tk) hk, ⟨u, rfl⟩, q⟩
def rCntB (K : PySem.W.Frag) : V → List V → Hp → VK → Prop := fun x xs H Q => ∃ (p : Addr) (bs : List Bool) (k : Bool), x = .ref p ∧ xs = [.bl k] ∧ SqL K H p (bs.map V.bl) ∧ Q (.int (bs.count k : Nat)) H
def eqb (k : Bool) (v : Value) : Bool := match v with
  | .bool n => n == k
  | _ => false
theorem bools_of : ∀ {bs : List Bool} {us : List Value}, Vals (bs.map V.bl) us → us = bs.map Value.bool
  | [], _, r => by cases r; rfl
  | b :: r, _, h => by
    cases h with
    | cons h t =>
      have e : _ = Value.bool b := h
      rw [e, bools_of t]
      rfl
theorem eqb_count {k : Bool} : ∀ {bs : List Bool}, (bs.map Value.bool).countP (eqb k) = bs.count k
  | [] => rfl
  | b :: r => by
    have ih := eqb_count (k := k) (bs := r)
    rw [List.map_cons, List.countP_cons, List.count_cons, ih]
    rfl
theorem mt_lcountB : MtR X "list.count" (rCntB X.K) := by
  intro pins s σ H x xs v us Q I rx rxs h
  obtain ⟨p, bs, k, rfl, rfl, hs, q⟩ := h
  cases rx
  obtain ⟨u, rfl, ru⟩ := rxs.one
  have eu : u = Value.bool k := ru
  subst eu
  obtain ⟨its, rv, ⟨⟨cls, dd, data, sl⟩, n, ho, hc, hdn, hd⟩, hlen⟩ := I.list hs
  simp only at hc hd
  subst hc hd
  have hi := bools_of rv
  subst hi
  refine call_meets PySem.F.slot_list_count ⟨_, ho, rfl⟩ PySem.F.entry_list_count (PySem.F.args_list_count_2 _ _)
    (SeqAt.list_countAt p (bs.map Value.bool).toArray n dd sl (.bool k) (eqb k)) ⟨ho, fun y hy => ?_, ?_⟩
  · have hy' : y ∈ bs.map Value.bool := by simpa using hy
    obtain ⟨b, _, rfl⟩ := List.mem_map.mp hy'
    exact SeqAt.EqAt.bool_bool b k
  have ec : (bs.map Value.bool).toArray.toList.countP (eqb k) = bs.count k := eqb_count
  refine ⟨.int (bs.count k : Nat), H, I.tok _, ⟨s.toks, ?_⟩, q⟩
  show Value.int (((bs.map Value.bool).toArray.toList.countP (eqb k) : Nat) : Int) s.toks = Value.int ((bs.count k : Nat) : Int) s.toks
  rw [ec]
theorem mtCountB {K : PySem.W.Frag} (h : X.K = K) : MtR X "list.count" (rCntB K) := h ▸ mt_lcountB
end
theorem r_countB {K : PySem.W.Frag} {H : Hp} {Q : VK} {p : Addr} {bs : List Bool} {k : Bool} (h : SqL K H p (bs.map V.bl)) (q : Q (.int (bs.count k : Nat)) H) : rCntB K (.ref p) [.bl k] H Q := ⟨p, bs, k, rfl, rfl, h, q⟩
/-! ### heaps with tables -/
def NoTbl (o : HO) : Prop := ∀ ps, o ≠ .tbl ps
def ButT (l : Addr) (H H' : Hp) : Prop := ∀ b o, b ≠ l → NoTbl o → H b = some o → H' b = some o
theorem ButT.refl {l : Addr} {H : Hp} : ButT l H H := fun _ _ _ _ h => h
theorem ButT.trans {l : Addr} {H H1 H2 : Hp} (a : ButT l H H1) (b : ButT l H1 H2) : ButT l H H2 := fun c o n t h => b c o n t (a c o n t h)
theorem ButT.but {l : Addr} {H H' : Hp} (e : But l H H') : ButT l H H' := fun b o n _ h => e b o n h
theorem ButT.same {l : Addr} {H H' : Hp} (e : Same H H') : ButT l H H' := fun b o _ _ h => e b o h
theorem ButT.ext {l : Addr} {H H' : Hp} (e : ExtN H H') : ButT l H H' := fun b o _ t h => e b o h t
theorem NoTbl.lst {xs : List V} : NoTbl (.lst xs) := fun _ z => nomatch z
theorem NoTbl.dK {kvs : List (Key × V)} : NoTbl (.dK kvs) := fun _ z => nomatch z
theorem NoTbl.xd {fs : List (Str × V)} : NoTbl (.xd fs) := fun _ z => nomatch z
theorem NoTbl.tup {xs : List V} : NoTbl (.tup xs) := fun _ z => nomatch z
theorem NoTbl.ins {C dx : Addr} {fs : List (Str × V)} : NoTbl (.ins C dx fs) := fun _ z => nomatch z
theorem NoTbl.frz {o : HO} (h : Frozen o) : NoTbl o := fun ps z => by
  rw [z] at h
  exact h
theorem Kp.butT {l : Addr} {H H' : Hp} {xs : List V} (e : ButT l H H') (h : H l = some (.lst xs)) : Kp H H' := fun b u fu hb => e b u (fun z => by
  subst z
  rw [h] at hb
  cases hb
  exact fu) (NoTbl.frz fu) hb
theorem Kp.ext {H H' : Hp} (e : ExtN H H') : Kp H H' := fun b u fu hb => e b u hb (NoTbl.frz fu)
theorem Pail.kpT {H H' : Hp} {p : Addr} (h : Pail H p) (e : ButT p H H') : Kp H H' := by
  obtain ⟨a, b, c, h1, _⟩ := h
  exact Kp.butT e h1
theorem Pail.ext {H H' : Hp} {p : Addr} (e : ExtN H H') (h : Pail H p) : Pail H' p := by
  obtain ⟨a, b, c, h1, h2⟩ := h
  exact ⟨a, b, c, e _ _ h1 NoTbl.lst, h2⟩
theorem Pail.butT {H H' : Hp} {p l : Addr} (e : ButT l H H') (n : p ≠ l) (h : Pail H p) : Pail H' p := by
  obtain ⟨a, b, c, h1, h2⟩ := h
  exact ⟨a, b, c, e _ _ n NoTbl.lst h1, h2⟩
theorem codeO_lst {c : Addr} {q : Str} {xs : List V} : CodeO c q ≠ .lst xs := fun z => by
  unfold CodeO at z
  cases z
theorem Tabs.butL {T : List (Addr × Str)} {H H' : Hp} {l : Addr} {xs : List V} (t : Tabs T H) (e : But l H H') (h : H l = some (.lst xs)) : Tabs T H' := fun p hp => by
  obtain ⟨ps, h1, h2, h3⟩ := t p hp
  refine ⟨ps, e _ _ (fun z => ?_) h1, h2, fun pos cv hc => ?_⟩
  · rw [z, h] at h1
    cases h1
  · obtain ⟨c, e1, e2⟩ := h3 pos cv hc
    refine ⟨c, e1, e _ _ (fun z => ?_) e2⟩
    rw [z, h] at e2
    exact codeO_lst (Option.some.inj e2).symm
theorem Tabs.butP {T : List (Addr × Str)} {H H' : Hp} {p : Addr} (t : Tabs T H) (e : But p H H') (h : Pail H p) : Tabs T H' := by
  obtain ⟨a, b, c, h1, _⟩ := h
  exact Tabs.butL t e h1
theorem Tabs.same {T : List (Addr × Str)} {H H' : Hp} (t : Tabs T H) (e : Same H H') : Tabs T H' := Tabs.ext t e
/-! ### readings -/
section
variable {σ : HSt} {H : Hp} {Q : VK} {K : PySem.W.Frag} {n bk ct : HSt → Hp → Prop} {r : VK}
theorem r_lam {T : List (Addr × Str)} {TT : (XK → Hp → VK → Prop) → Hp → VK → Prop} {t : XK → TE} (hT : Tabs T H) (h : ∀ H1, ExtN H H1 → Tabs T H1 → TT (fun E H' Q' => t E σ H' Q') H1 Q) : tLam T TT t σ H Q := ⟨hT, h⟩
theorem r_ans {cs : List Value} {sp : SpE} {tl : XK → Hp → VK → Prop} (h : tl (fun cls d H' => PySem.W.exmAny K cls cs = some true ∧ ∀ a, H' a = none → sp cls d a H' Q) H (fun v H' => New H' (.lst [.str "back", v]) Q)) : tAns K cs sp tl H Q := h
theorem r_isX {D a dd : Addr} {c : V} {cv : Value} {b : Bool} {fs : List (Str × V)} (hc : ∀ u, RelV c u → u = cv) (h : H dd = some (.xd fs)) (e : PySem.W.kitOne K (.ref D) cv = some b) (q : Q (.bl b) H) : rIsX K D a dd [.ref a, c] H Q := ⟨c, cv, b, fs, rfl, hc, h, e, q⟩
theorem r_xfX {a dd : Addr} {f : Str} {te : TE} (h : te σ H fun x H1 => x = .ref a ∧ ∃ (fs : List (Str × V)) (v : V), H1 dd = some (.xd fs) ∧ fs.lookup f = some v ∧ Q v H1) : tXfX a dd f te σ H Q := h
theorem r_xfI {a dd : Addr} {f : Str} {v : V} {R : V → Prop} (h : H dd = some (.xd [(f, v)])) (q : R v) : V.ref a = .ref a ∧ ∃ (fs : List (Str × V)) (v : V), H dd = some (.xd fs) ∧ fs.lookup f = some v ∧ R v :=
  ⟨rfl, _, v, h, by simp [List.lookup], q⟩
end
end Dg

/-! ### own exception classes over any of the bases, by what their chain says -/
namespace PySem
namespace HandSPX
open Builtin Builtin.ObjectAttr
section
variable {prog : Program} {w : World} {A : Around} {E : Value → Shared → Prop} {R : Result → Shared → Prop} {hp : Heap} {g : Array GenState} {d : Drawn} {t : Nat} {os : OsState}
theorem exc_osaB {K : W.Frag} {name : Str} {tk : Tok} {v : Value} {x C : Addr} {fv : Array Value} {cd : ClassData}
    (X : K.In hp) (hx : hp.get? x = some { cls := .ref C, data := .fields fv }) (hcd : W.clsIn K C = some cd) (hps : ∀ self, refuseLoop self "__setattr__" cd.mro = pure ()) (hob : cd.mro.contains (.type "object") = true) (ne : cd.mro.isEmpty = false) (hh : cd.hasDict = true) (ha : W.findIn K (.ref C) name = some none)
    (hq : ∀ h' tk' dx, (∀ b o, b ≠ x → hp.get? b = some o → h'.get? b = some o) → hp.objs.size ≤ dx → dx ≠ x → h'.get? x = some { cls := .ref C, dict := some dx, data := .fields fv } →
      h'.Ns1 dx (fun y => if y = name then some v else none) → R (.ok (.ret .none)) ⟨h', g, d, tk', os⟩) :
    codeAny (model prog w) A (.call (.builtin "object.__setattr__") ⟨[.ref x, .str name tk, v], []⟩) R ⟨hp, g, d, t, os⟩ := by
  have I : W.InstAt hp x { cls := .ref C, data := .fields fv } C none := ⟨hx, rfl, rfl, trivial⟩
  have SF := F.store_object
  have hxs : x ≠ hp.objs.size := Nat.ne_of_lt (Heap.lt_size hx)
  have sub : W.Looks (model prog w) hp (isInstance (.ref x) (.type "object")) true := I.type.andThen (W.looks_mroIn X (by unfold W.mroIn; rw [hcd, Option.bind_some, if_neg (by rw [ne]; decide), hob]))
  refine codeAny_call_builtin SF.slot.plain SF.entry (@W.check_slot (model prog w) _ _ ⟨hp, g, d, t, os⟩ "object.__setattr__" "object" "__setattr__" (.ref x) [.str name tk, v] [] _ SF.kind SF.split sub (SF.args (.ref x) (.str name tk) v) ?_)
  have hmr : W.Looks (model prog w) hp (mroOf (.ref C)) cd.mro := (W.looks_clsIn X hcd).andThen .now
  have L3 : W.Looks (model prog w) hp (storeTaker? none) none := .now
  have hcls : W.Looks (model prog w) hp (classData C) cd := W.looks_clsIn X hcd
  rw [W.osa_eq, refuse_eq]
  refine wpAny_bind (wpAny_bind (I.type.at (wpAny_bind (hmr.at ?_))))
  rw [hps]
  refine wpAny_pure (wpAny_bind (I.type.at (wpAny_bind ((W.looks_findIn X ha).at (wpAny_bind (L3.at ?_))))))
  show wpAny _ _ (storeInOwnDict (.ref x) (.ref C) (.str name tk) name v false) _ _ _
  obtain ⟨nm, bs, mro, ns, qn, hd, sn, sb, ab, col, del⟩ := cd
  dsimp only at hh
  subst hh
  unfold storeInOwnDict ownDictForStores
  repeat (first | with_reducible refine store_in_new ?_ ?_ | with_reducible refine wpAny_loadPart_at hx ?_ | with_reducible refine hcls.at ?_ | wp_step)
  · exact ⟨_, #[], _, (Heap.get?_update_ne _ _ _ _ hxs.symm).trans (Heap.get?_push_at rfl rfl), rfl, fun e he => absurd he (by simp), fun _ => rfl⟩
  · intro h' tk' hn' hs
    have hx₁ : (hp.push { cls := .type "dict", data := .dict #[] }).get? x = some { cls := .ref C, data := .fields fv } := Heap.get?_push_of_some _ hx
    refine hq h' tk' hp.objs.size (fun b o hb ho => ?_) (Nat.le_refl _) hxs.symm ?_ hn'
    · exact (hs.2 b (Nat.ne_of_lt (Heap.lt_size ho))).trans ((Heap.get?_update_ne _ _ _ _ hb).trans (Heap.get?_push_of_some _ ho))
    · exact (hs.2 x hxs).trans (Heap.get?_update_self _ hx₁ rfl)
end
/-- own classes, then a built-in chain -/
def refsB (tail : List Value) : List Value → Bool
  | .ref _ :: r => refsB tail r
  | l => l == tail
theorem refsB_cases {tail : List Value} : ∀ l : List Value, refsB tail l = true → (∃ c r, l = .ref c :: r ∧ refsB tail r = true) ∨ l = tail
  | [], e => .inr (beq_iff_eq.mp e)
  | .ref c :: r, e => .inl ⟨c, r, rfl, e⟩
  | .none :: _, e => .inr (beq_iff_eq.mp e)
  | .ellipsis :: _, e => .inr (beq_iff_eq.mp e)
  | .notImplemented :: _, e => .inr (beq_iff_eq.mp e)
  | .bool _ :: _, e => .inr (beq_iff_eq.mp e)
  | .int _ _ :: _, e => .inr (beq_iff_eq.mp e)
  | .float _ _ :: _, e => .inr (beq_iff_eq.mp e)
  | .str _ _ :: _, e => .inr (beq_iff_eq.mp e)
  | .bytes _ _ :: _, e => .inr (beq_iff_eq.mp e)
  | .type _ :: _, e => .inr (beq_iff_eq.mp e)
  | .builtin _ :: _, e => .inr (beq_iff_eq.mp e)
theorem refsB_pass {tail : List Value} (ht : ∀ self, refuseLoop self "__setattr__" tail = pure ()) (self : Value) : ∀ l : List Value, refsB tail l = true → refuseLoop self "__setattr__" l = pure () := by
  intro l
  induction l with
  | nil =>
    intro e
    rcases refsB_cases [] e with ⟨c, r, q, _⟩ | q
    · cases q
    · rw [q]; exact ht self
  | cons a r ih =>
    intro e
    rcases refsB_cases (a :: r) e with ⟨c, r', q, h⟩ | q
    · obtain ⟨rfl, rfl⟩ := List.cons.inj q
      rw [refuseLoop_ref]; exact ih h
    · rw [q]; exact ht self
theorem refsB_contains {tail : List Value} (X : String) : ∀ l : List Value, refsB tail l = true → l.contains (.type X) = tail.contains (.type X) := by
  intro l
  induction l with
  | nil =>
    intro e
    rcases refsB_cases [] e with ⟨c, r, q, _⟩ | q
    · cases q
    · rw [← q]
  | cons a r ih =>
    intro e
    rcases refsB_cases (a :: r) e with ⟨c, r', q, h⟩ | q
    · obtain ⟨rfl, rfl⟩ := List.cons.inj q
      rw [List.contains_cons, ih h]; rfl
    · rw [q]
abbrev aeTail : List Value := [.type "ArithmeticError", .type "Exception", .type "BaseException", .type "object"]
abbrev leTail : List Value := [.type "LookupError", .type "Exception", .type "BaseException", .type "object"]
end HandSPX
end PySem
namespace Dg
open PySem PySem.Spec PyProof.Rows L2 L2H LamX PySem.HandSPX

structure OexB (K : PySem.W.Frag) (C : Addr) : Prop where
  cls : ∃ (B newId initId : String) (bmB : List Value), ExcBaseFacts B newId initId bmB ∧ ∃ nm q N bs bm sn sub ab col dd k0 k1 k2 k3 k5, K.lookup C = some (excClassObj nm q C N bs bm true sn sub ab col dd k0 k1 k2 k3 k5 newId) ∧
    (∀ X : String, bm.contains (.type X) = bmB.contains (.type X)) ∧ (∀ self, refuseLoop self "__setattr__" (.ref C :: bm) = pure ()) ∧ (Value.ref C :: bm).contains (.type "object") = true
  sa : PySem.W.findIn K (.ref C) "__setattr__" = some (some (.builtin "object.__setattr__"))
  exC : PySem.W.subIn K (.ref C) (.type "BaseException") = some true
  tyC : PySem.W.typeIn K (.ref C) = some (.type "type")
  kC : PySem.W.keepIn K (.ref C) = true
theorem OexB.ve {K : PySem.W.Frag} {C : Addr} {nm q : Str} {N : Addr} {bs bm : List Value} {sn : List Str} {sub : List Value} {ab : Bool} {col : Option Bool} {dd : Option Addr} {k0 k1 k2 k3 k5 : Option Value}
    (h : K.lookup C = some (excClassObj nm q C N bs bm true sn sub ab col dd k0 k1 k2 k3 k5 "ValueError.__new__")) (hb : PySem.HandSPX.refsB PySem.HandSPX.veTail bm = true)
    (sa : PySem.W.findIn K (.ref C) "__setattr__" = some (some (.builtin "object.__setattr__"))) (exC : PySem.W.subIn K (.ref C) (.type "BaseException") = some true) (tyC : PySem.W.typeIn K (.ref C) = some (.type "type")) (kC : PySem.W.keepIn K (.ref C) = true) : OexB K C :=
  ⟨⟨_, _, _, _, F.excBase_ValueError, nm, q, N, bs, bm, sn, sub, ab, col, dd, k0, k1, k2, k3, k5, h, fun Y => PySem.HandSPX.refsB_contains Y bm hb, fun self => PySem.HandSPX.refsB_pass (fun self => F.store_ValueError.passes self) self (.ref C :: bm) hb, (PySem.HandSPX.refsB_contains "object" (.ref C :: bm) hb).trans (by decide +kernel)⟩, sa, exC, tyC, kC⟩
theorem OexB.ae {K : PySem.W.Frag} {C : Addr} {nm q : Str} {N : Addr} {bs bm : List Value} {sn : List Str} {sub : List Value} {ab : Bool} {col : Option Bool} {dd : Option Addr} {k0 k1 k2 k3 k5 : Option Value}
    (h : K.lookup C = some (excClassObj nm q C N bs bm true sn sub ab col dd k0 k1 k2 k3 k5 "ArithmeticError.__new__")) (hb : PySem.HandSPX.refsB PySem.HandSPX.aeTail bm = true)
    (sa : PySem.W.findIn K (.ref C) "__setattr__" = some (some (.builtin "object.__setattr__"))) (exC : PySem.W.subIn K (.ref C) (.type "BaseException") = some true) (tyC : PySem.W.typeIn K (.ref C) = some (.type "type")) (kC : PySem.W.keepIn K (.ref C) = true) : OexB K C :=
  ⟨⟨_, _, _, _, F.excBase_ArithmeticError, nm, q, N, bs, bm, sn, sub, ab, col, dd, k0, k1, k2, k3, k5, h, fun Y => PySem.HandSPX.refsB_contains Y bm hb, fun self => PySem.HandSPX.refsB_pass (fun self => F.store_ArithmeticError.passes self) self (.ref C :: bm) hb, (PySem.HandSPX.refsB_contains "object" (.ref C :: bm) hb).trans (by decide +kernel)⟩, sa, exC, tyC, kC⟩
theorem OexB.le {K : PySem.W.Frag} {C : Addr} {nm q : Str} {N : Addr} {bs bm : List Value} {sn : List Str} {sub : List Value} {ab : Bool} {col : Option Bool} {dd : Option Addr} {k0 k1 k2 k3 k5 : Option Value}
    (h : K.lookup C = some (excClassObj nm q C N bs bm true sn sub ab col dd k0 k1 k2 k3 k5 "LookupError.__new__")) (hb : PySem.HandSPX.refsB PySem.HandSPX.leTail bm = true)
    (sa : PySem.W.findIn K (.ref C) "__setattr__" = some (some (.builtin "object.__setattr__"))) (exC : PySem.W.subIn K (.ref C) (.type "BaseException") = some true) (tyC : PySem.W.typeIn K (.ref C) = some (.type "type")) (kC : PySem.W.keepIn K (.ref C) = true) : OexB K C :=
  ⟨⟨_, _, _, _, F.excBase_LookupError, nm, q, N, bs, bm, sn, sub, ab, col, dd, k0, k1, k2, k3, k5, h, fun Y => PySem.HandSPX.refsB_contains Y bm hb, fun self => PySem.HandSPX.refsB_pass (fun self => F.store_LookupError.passes self) self (.ref C :: bm) hb, (PySem.HandSPX.refsB_contains "object" (.ref C :: bm) hb).trans (by decide +kernel)⟩, sa, exC, tyC, kC⟩
section
variable {X : Cx} {pins : List (Addr × Obj)} {σ : L2.St} {H : Hp} {s : Shared} {a C dx : Addr} {f : Str} {y : V} {u : Value} {fs : List (Str × V)} {E : Value → Shared → Prop} {A : Around}
/-- self.f = y, the first one -/
theorem ost_newB {Q : Unit → Shared → Prop} (T : OexB X.K C) (I : Inv X pins σ H s) (e : H a = some (exo a C none)) (hno : PySem.W.findIn X.K (.ref C) f = some none) (ry : RelV y u)
    (h : ∀ dx s', H dx = none → dx ≠ a → Inv X pins σ (upd (upd H dx (exd dx [(f, y)])) a (exo a C (some dx))) s' → Q () s') : wpAny (model X.prog X.w) A (setAttr (.ref a) f u) Q E s := by
  obtain ⟨_, _, _, _, _, nm, q, N, bs, bm, sn, sub, ab, col, dd, k0, k1, k2, k3, k5, hC, _, hps, hob⟩ := T.cls
  have hcl : PySem.W.clsIn X.K C = some { name := nm, bases := bs, mro := .ref C :: bm, ns := N, qualname := q, hasDict := true, slotNames := sn, subclasses := sub, abstract := ab, collection := col, hasDel := false } := by unfold PySem.W.clsIn; rw [hC] <;> rfl
  obtain ⟨t1, ho⟩ := exo_at I.hok e
  obtain ⟨hp, g, d, t, os⟩ := s
  refine PySem.W.set_plain I.kIn (ox := { cls := .ref C, dict := none, data := .fields #[.ref t1, .none, .none, .none, .bool false, .none] }) (od := none) ⟨ho, rfl, rfl, trivial⟩ T.sa ?_
  refine PySem.HandSPX.exc_osaB I.kIn ho hcl hps hob rfl rfl hno (fun h' tk' dx k dn dne hx hn => ?_)
  have hnd : H dx = none := I.hok.fresh dn
  have nd : ∀ {b : Addr} {o : Obj}, hp.get? b = some o → b ≠ dx := fun {b o} q => Nat.ne_of_lt (Nat.lt_of_lt_of_le (Heap.lt_size q) dn)
  have na : ∀ {b : Addr}, H b = none → b ≠ a := fun {b} n z => by
    rw [z, e] at n
    cases n
  have Un1 : Un X.fs [] H (upd (upd H dx (exd dx [(f, y)])) a (exo a C (some dx))) hp h' := {
    keep := fun b o q n _ _ => k b o (na n) q
    slot := fun b o q n _ _ => ⟨o.slots, k b o (na n) q⟩
    free := fun b o q n _ => by rw [upd_ne (na n), upd_ne (nd q)]; exact n
    there := fun b o q _ => by
      by_cases hb : b = a
      · exact ⟨_, by rw [hb]; exact hx⟩
      · exact ⟨o, k b o hb q⟩
    tups := fun b xs q => by rw [upd_ne (at_ne e q exo_tup), upd_ne (ne_of_none q hnd)]; exact q
    frzs := fun b o v q => by rw [upd_ne (at_ne e q exo_frz), upd_ne (ne_of_none q hnd)]; exact q
    tbls := fun b ps q => ⟨#[], by rw [upd_ne (at_ne e q exo_tbl), upd_ne (ne_of_none q hnd), q]; simp⟩ }
  refine h dx _ hnd dne (I.un (t' := tk') Un1 fun b o q => ?_)
  by_cases hb : b = a
  · subst hb
    rw [upd_same] at q
    cases q
    exact exo_ok hx
  · rw [upd_ne hb] at q
    by_cases hd : b = dx
    · subst hd
      rw [upd_same] at q
      cases q
      exact exd_ok hn (relO_put (fs := []) ry fun g => True.intro)
    · rw [upd_ne hd] at q
      exact (I.hok b o q).stay (fun c v hc z => k c v (by
          rcases hc with hc | hc
          · rw [hc]
            exact hb
          · exact at_ne e hc exo_own) z)
        (fun c hc => by rw [upd_ne (at_ne e hc exo_own), upd_ne (ne_of_none hc hnd)]; exact hc) (fun c xs hc => by rw [upd_ne (at_ne e hc exo_tup), upd_ne (ne_of_none hc hnd)]; exact hc)
/-- self.f = e -/
def tOstB (K : PySem.W.Frag) (f : Str) (to te : TE) : TS := fun D σ H => te σ H fun y H1 => to σ H1 fun x H2 => ∃ a C : Addr, x = .ref a ∧ OexB K C ∧ PySem.W.findIn K (.ref C) f = some none ∧
  (H2 a = some (exo a C none) ∧ ∀ dx, H2 dx = none → dx ≠ a → D.nx σ (upd (upd H2 dx (exd dx [(f, y)])) a (exo a C (some dx))))
variable {o e : Expr} {es : List Expr} {to te : TE} {ta : TA} {p p' pos : Pos}
theorem ps_ostB (ho : PE X o to) (he : PE X e te) (hs : swapsWith e (some (.Attribute o f p')) pos.line X.env = pure false := by rfl) : PS X (.Assign [.Attribute o f p'] e pos) (tOstB X.K f to te) := by
  refine ⟨fun pins s σ H D I h => ?_⟩
  refine plainObj_wpAny_Assign_Attribute (thn (he.run pins s σ H _ I h) fun v s1 ⟨y, H1, I1, r1, q1⟩ => thn (ho.run pins s1 σ H1 _ I1 q1) fun u s2 ⟨x, H2, I2, r2, a, C, ex, T, hno, q⟩ => ?_) hs
  subst ex
  obtain rfl : u = Value.ref a := r2
  obtain ⟨ea, q⟩ := q
  exact ost_newB T I2 ea hno r1 fun dx s' n ne J => ⟨σ, _, J, q dx n ne⟩
theorem pmk_oexB {CX : CXT} {x : Str} {C fI : Addr} {k : Nat} {fd : FuncData} {ps : List Str} {sp : Sp} {ds : List Value} {dvs : List V} (T : OexB X.K C) (iC : PySem.W.findIn X.K (.ref C) "__init__" = some (some (.ref fI))) (tI : PySem.W.typeIn X.K (.ref fI) = some (.type "function"))
    (F1 : FnOk X.prog X.w X.K X.mg X.base CX k fI fd ps sp) (hr : Room (k + 1) X.A) (hb : L2.Binds X.K fd ps ds) (hd : Vals dvs ds) (hx : Passes CX X (fun _ _ _ => False)) (hg : Gl X x) (hm : X.mg x = some (.ref C)) (ha : PA X (e :: es) ta)
    (hdb : (x == ("__debug__" : Str)) = false := by decide) (he : starEach (e :: es) X.env = (false, eval e X.env) :: starEach es X.env := by rfl) (hpl : (backTo pos (starEach es X.env)).any (·.1) = false := by rfl) :
    L2.PMk X (.Call (.Name x p) (e :: es) [] pos) (tMkO C sp dvs ta) := by
  intro pins s σ H Q I h
  obtain ⟨B, newId, initId, bmB, FB, nm, q, N, bs, bm, sn, sub, ab, col, dd, k0, k1, k2, k3, k5, hC, hbm, hps, hob⟩ := T.cls
  refine wpAny_Call_Name_kw (ld_glob I hg hm ?_ hdb)
  refine PySem.W.callWith_K (h₀ := X.base) I.ok.mod.kin T.kC (thn (ha.run pos pins s σ H _ I h) fun us s1 ⟨vs, H1, I1, r1, hz, q1⟩ => ⟨I1.kIn, ?_⟩) he hpl
  show wpAny _ _ (call (.ref C) us) _ _ _
  obtain ⟨hp, g, dr, tk, os⟩ := s1
  have hsz : hp.objs.size ≤ hp.objs.size + 1 := Nat.le_succ _
  have hn : H1 (hp.objs.size + 1) = none := I1.hok.fresh hsz
  have hq := q1 (hp.objs.size + 1) hn
  have kk : ∀ b o, hp.get? b = some o → ((hp.push (PySem.W.kdv_tup us)).push (PySem.HandSPX.excO C hp.objs.size)).get? b = some o := fun b o e => Heap.get?_push_of_some _ (Heap.get?_push_of_some _ e)
  have hget : ((hp.push (PySem.W.kdv_tup us)).push (PySem.HandSPX.excO C hp.objs.size)).get? (hp.objs.size + 1) = some (PySem.HandSPX.excO C hp.objs.size) := by heap_get
  have I2 : Inv X pins σ (upd H1 (hp.objs.size + 1) (exo (hp.objs.size + 1) C none)) ⟨(hp.push (PySem.W.kdv_tup us)).push (PySem.HandSPX.excO C hp.objs.size), g, dr, tk, os⟩ :=
    I1.laid (t' := tk) (a := hp.objs.size + 1) (o := exo (hp.objs.size + 1) C none) (h' := (hp.push (PySem.W.kdv_tup us)).push (PySem.HandSPX.excO C hp.objs.size)) kk hsz (exo_ok hget)
  have r2 : Vals (V.ref (hp.objs.size + 1) :: (vs ++ dvs)) (Value.ref (hp.objs.size + 1) :: (us ++ ds)) := .cons rfl (r1.append hd)
  have hl : (Value.ref (hp.objs.size + 1) :: us ++ ds).length = ps.length := by
    have e := r2.length
    rw [F1.len _ _ _ _ hq] at e
    exact e.symm
  have hus : us.length ≤ sizeLine := by
    rw [← Paired.length r1, sizeLine_eq]
    omega
  refine wpAny_call (PySem.HandSPX.call_own FB hbm (I1.kIn _ _ hC) (PySem.W.looks_findIn I1.kIn iC) (fun self => PySem.W.bind_fn I1.kIn self tI) hus
    (codeAny_mono (F1.run _ X.stack _ _ ⟨Value.ref (hp.objs.size + 1) :: us, []⟩ (Value.ref (hp.objs.size + 1) :: (us ++ ds)) _ _ (fun _ _ _ => False) (hr.make C us []) (I2.env0.make C us []) (hb _ (Value.ref (hp.objs.size + 1) :: us) I2.kIn hl) r2 hq) fun r s' hq' => ?_))
  cases r with
  | error er => exact hx pins σ _ _ er s' I2 hq'
  | ok fl =>
    cases fl with
    | ret u =>
      obtain ⟨v, H2, os2, bare2, un2, hok2, rv, ev, d, fs, ea, ed, hd1, q2⟩ := hq'
      subst ev
      obtain ⟨h2, g2, d2, t2, os'⟩ := s'
      exact ⟨rv, mk_end (raises_own T.exC T.tyC) I1 hsz kk un2 hok2 os2 bare2 ea ed hd1 q2⟩
    | next => exact False.elim hq'
    | brk => exact False.elim hq'
    | cont => exact False.elim hq'
end
end Dg

namespace Dg
open PySem PySem.Spec PyProof.Rows L2 L2H LamX
/-! ### a def called while an exception is handled -/
structure FnP (P : Program) (w : World) (K : PySem.W.Frag) (mg : Str → Option Value) (base : Heap) (k : Nat) (f : Addr) (fd : FuncData) (ps : List Str) (sp : Sp) : Prop where
  many : ∀ vs H Q E, sp vs H Q E → vs.length = ps.length
  go : ∀ (A : Around) (outer : List Env) (s : Shared) (H : Hp) (args : Args) (us : List Value) (vs : List V) (Q : VK) (p : Addr × Obj), RoomH k A → PinOk outer H s p →
    Env0 P w K mg base A outer s H → BindsTo s fd args (ps.zip us) → Vals vs us → sp vs H Q E0 → codeAny (model P w) A (.call (.ref f) args) (CR CX0 outer P w H s Q E0) s
section
variable {P : Program} {w : World} {K : PySem.W.Frag} {mg : Str → Option Value} {base : Heap} {k : Nat}
theorem fnP_of {f : Addr} {name qual : Str} {params : Arguments} {body : List Stmt} {scope : Scope} {dV kV doc pm cdv ct oc : Value} {an od : Option Addr} {osl : Array (Option Value)} {N ps : List Str} {sp : Sp}
    (lk : K.lookup f = some ⟨oc, od, .func (PySem.W.fnOf name qual params body scope dV kV doc pm an cdv ct), osl⟩) (hcd : PySem.W.codeIn K cdv qual = true) (S : FnScope N ps scope) (len : ∀ vs H Q E, sp vs H Q E → vs.length = ps.length)
    (B : ∀ (A : Around) (outer : List Env) (s : Shared) (H : Hp) (vs : List V) (Q : VK) (p : Addr × Obj), RoomH k (A.deeper (envOfC qual scope s.heap.objs.size f cdv)) → sp vs H Q E0 →
      ∃ t, PSs (cxH CX0 P w K mg base N qual scope f cdv A outer s H E0 p) body t ∧ t { nx := fun _ H' => Q .non H', rt := Q } (L2.start N vs) H) :
    FnP P w K mg base (k + 1) f (PySem.W.fnOf name qual params body scope dV kV doc pm an cdv ct) ps sp := by
  refine ⟨len, fun A outer s H args us vs Q p hr hpin e0 hb r hsp => ?_⟩
  have hl := len _ _ _ _ hsp
  have KX : K.In s.heap := e0.mod.kin.keeps fun b o e => (e0.bs b o e).1
  have lim : s.heap.NoLimit := e0.mod.nolimit.keeps fun b o e => (e0.bs b o e).1
  have hkind : ∀ y ∈ ps.zip us, scope.names.lookup y.1 = some .local ∨ (scope.names.lookup y.1 = some .cell ∧ ((cellsFrom (s.heap.objs.size + 1) scope.names []).lookup y.1).isSome = true) := fun ⟨n, v⟩ hy => by
    rcases S.par n (List.of_mem_zip hy).1 with q | q
    · exact .inl q
    · exact .inr ⟨q, PySem.W.cellsFrom_some _ _ _ (.inl q)⟩
  refine codeAny_call_function hr.depth (KX _ _ lk) rfl S.co S.gen rfl (PySem.W.codeRec_of KX hcd) (hb _ _ _ _ ?_)
  refine wpAny_newFunctionEnv_cells S.kind hkind fun env he s1 x' => ?_
  subst he
  refine ⟨lim.keeps x'.toInCall.keep, codeAny_func ?_⟩
  obtain ⟨t, ht, hq⟩ := B A outer s H vs Q p (hr.deeper _) hsp
  have I : Inv (cxH CX0 P w K mg base N qual scope f cdv A outer s H E0 p) [] (L2.start N vs) H s1 := inv_startH S hpin e0 hl r x'
  refine wpAny_mono (ht.run [] s1 (L2.start N vs) H _ I hq) (fun fl s' hs => ?_) fun e s' hs => hs
  have fin : ∀ {σ' : L2.St} {H' : Hp} {v : V} {u : Value}, Inv (cxH CX0 P w K mg base N qual scope f cdv A outer s H E0 p) [] σ' H' s' → RelV v u → Q v H' → CE outer P w H s Q u s' :=
    fun {σ' H' v u} J rv q => ⟨v, H', J.os, J.bare, J.base, J.hok, rv, q⟩
  cases fl with
  | ret u =>
    obtain ⟨v, σ', H', J, rv, q⟩ := hs
    exact fin J rv q
  | next =>
    obtain ⟨σ', H', J, q⟩ := hs
    exact fin (v := V.non) (u := Value.none) J rfl q
  | brk =>
    obtain ⟨_, _, _, q⟩ := hs
    exact False.elim q
  | cont =>
    obtain ⟨_, _, _, q⟩ := hs
    exact False.elim q
theorem funP {x qual : Str} {st : Stmt} {f : Addr} {fd : FuncData} {N ps : List Str} {sp : Sp} (F : Fun K x qual st f fd) (S : FnScope N ps (defScope st)) (len : ∀ vs H Q E, sp vs H Q E → vs.length = ps.length)
    (B : ∀ (cdv : Value) (A : Around) (outer : List Env) (s : Shared) (H : Hp) (vs : List V) (Q : VK) (p : Addr × Obj), RoomH k (A.deeper (envOfC qual (defScope st) s.heap.objs.size f cdv)) → sp vs H Q E0 →
      ∃ t, PSs (cxH CX0 P w K mg base N qual (defScope st) f cdv A outer s H E0 p) (defBody st) t ∧ t { nx := fun _ H' => Q .non H', rt := Q } (L2.start N vs) H) : FnP P w K mg base (k + 1) f fd ps sp := by
  obtain ⟨oc, od, kV, doc, pm, an, cdv, ct, osl, rfl, lk, hcd⟩ := F.ex
  exact fnP_of lk hcd S len fun A outer s H vs Q p hr hsp => B cdv A outer s H vs Q p hr hsp
end
section
variable {X : Cx} {n : Nat} {C f : Addr} {fd : FuncData} {ps : List Str} {sp : Sp}
theorem own_anyP {A : Around} {pins : List (Addr × Obj)} {s : Shared} {σ : L2.St} {H : Hp} {vs : List V} {us : List Value} {Q : VK} {R : Value → Shared → Prop} {p : Addr × Obj} (F : FnP X.prog X.w X.K X.mg X.base n f fd ps sp) (hb : Binds X.K fd ps []) (hr : RoomH n A) (hp : p ∈ X.pn) (hfr : A.frames = X.A.frames)
    (I : Inv X pins σ H s) (r2 : Vals vs us) (h : sp vs H Q E0) (hR : ∀ v u H' s', Inv X pins σ H' s' → RelV v u → Q v H' → R u s') : wpAny (model X.prog X.w) A (call (.ref f) us) R X.xe s := by
  have e0 : Env0 X.prog X.w X.K X.mg X.base A X.stack s H := by
    have e := I.env0
    exact ⟨by rw [hfr]; exact e.frames, e.mod, e.bs, e.bsz, e.funs, e.frf, e.hok, e.bare⟩
  have hl := F.many _ _ _ _ h
  have lus : us.length = ps.length := r2.length.symm.trans hl
  have P1 := I.pin p (List.mem_append_left _ hp)
  have hpin : PinOk X.stack H s p := ⟨P1.1, P1.2.1, fun hm => (List.mem_cons.mp (I.stkSub p.1 hm)).elim P1.2.2.1 P1.2.2.2.1, P1.2.2.2.2⟩
  refine wpAny_call (codeAny_mono (F.go A X.stack s H ⟨us, []⟩ us vs Q p hr hpin e0 (by
    have z := hb s us I.kIn (by simpa using lus)
    simpa using z) r2 h) fun r s' hq => ?_)
  cases r with
  | error e => exact (show False from hq).elim
  | ok fl =>
    cases fl with
    | ret u =>
      obtain ⟨z, H', I', rz, q⟩ := I.after hq
      exact hR z u H' s' I' rz q
    | next => exact hq.elim
    | brk => exact hq.elim
    | cont => exact hq.elim
theorem roomH_in1 {k : Nat} {A : Around} (r : RoomH (k + 1) A) : RoomH k A.in1 :=
  ⟨by have := r.dp; show A.depth + 3 * k + 5 < _; omega, by have := r.un; show A.units + 1 + 16 * k + 200 < _; omega⟩
theorem call_reprOP {p : Addr × Obj} (F : FnP X.prog X.w X.K X.mg X.base n f fd ps sp) (hb : Binds X.K fd ps []) (hs : PySem.W.findIn X.K (.ref C) "__repr__" = some (some (.ref f))) (hf : PySem.W.isFn X.K (.ref f) = true) (hr : RoomH (n + 1) X.A) (hp : p ∈ X.pn) : CallR X (.builtin "repr") (rStrO C sp E0) := by
  intro pins s σ H xs us Q I r h
  obtain ⟨a, dx, fs, rfl, ha, hsp⟩ := h
  obtain rfl := Vals.ref1 r
  obtain ⟨mA, J, _⟩ := ins_get I.hok ha
  obtain ⟨od, J, _⟩ := J.look
  obtain ⟨m, hF⟩ := I.fr
  refine PySem.W.repr_K (A := X.A) (by have := roomH_units hr; show X.A.units + 1 < cLine; omega) hF I.ok.mod.kin J hs hf (own_anyP (A := X.A.in1) F hb (roomH_in1 hr) hp rfl I (vs := [V.ref a]) (.cons rfl .nil) hsp fun v u H' s' I' rv z => ?_)
  obtain ⟨y, ez, q⟩ := z
  subst ez
  obtain ⟨t, rfl⟩ := rv
  exact ⟨.str y, H', I', ⟨t, rfl⟩, q⟩
end
/-! ### repr of any data -/
def rReprA (K : PySem.W.Frag) : List V → Hp → VK → Prop := fun xs H Q => ∃ (x : V) (d : PyData), xs = [x] ∧ Dp K H x d ∧ d.showable = true ∧ d.hasDict = false ∧ d.depth ≤ 60 ∧ d.shown.length ≤ sizeLine ∧ Q (.str d.shown) H
section
variable {X : Cx} {K : PySem.W.Frag}
theorem call_reprU (hK : X.K = K) (hg : X.A.guards = some []) (hu : X.A.units + 64 < cLine) : CallR X (.builtin "repr") (rReprA K) := by
  subst hK
  intro pins s σ H xs us Q I r h
  obtain ⟨x, d, rfl, hd, h1, h2, h3, h4, q⟩ := h
  obtain ⟨u, rfl, ru⟩ := vals1 r
  have go : ∀ a : Addr, x = .ref a → wpAny (model X.prog X.w) X.A (call (.builtin "repr") [u]) (EP X pins σ Q) X.xe s := fun a e => by
    subst e
    obtain ⟨as, rd⟩ := Dp.reads I d _ _ hd ru
    cases ru
    refine repr_of_reads' rd h1 (fun e => by rw [h2] at e; cases e) hg (by omega) (fun _ _ e => e) (fun h' u tk hk => ?_) h4
    exact ⟨.str d.shown, H, I.kept (t' := tk) hk, ⟨u, rfl⟩, q⟩
  cases hd with
  | non =>
    cases ru
    exact PySem.P.repr_of_none ⟨.str _, H, I.tok _, ⟨_, rfl⟩, q⟩
  | bl b =>
    cases ru
    exact PySem.P.repr_of_bool ⟨.str _, H, I.tok _, ⟨_, rfl⟩, q⟩
  | int i =>
    obtain ⟨t, rfl⟩ := ru
    exact PySem.P.repr_of_int (of_decide_eq_true h1) ⟨.str _, H, I.tok _, ⟨_, rfl⟩, q⟩
  | str z =>
    obtain ⟨t, rfl⟩ := ru
    exact PySem.P.repr_of_str ⟨.str _, H, I.tok _, ⟨_, rfl⟩, q⟩ h4
  | _ => exact go _ rfl
end
end Dg

namespace Dg
open PySem PySem.Spec PyProof.Rows L2 L2H LamX
/-! ### the end of a law with tables, all at one place -/
def LawG (l : PySem.W.OpenLaw) (w : World) (K : PySem.W.Frag) (k n : Nat) (x : Str) (mg : Str → Option Value) (fa : Addr) (xs : List Str) : Prop :=
  ∃ (fd : FuncData) (cs : List (Addr × Addr)) (sp : Sp), xs.map (PySem.W.tabIn K) = cs.map some ∧ (∀ p ∈ cs, K.lookup p.2 = none) ∧ (∀ (s : Shared) (u : Value), BindsTo s fd ⟨[u], []⟩ [(x, u)]) ∧
    (∀ (H : Hp) (a : Addr) (ns : List Int), ns.length ≤ n → (∀ z ∈ ns, Builtin.Int.intBits z ≤ 1048576) → (∀ p ∈ cs, H p.2 = some (.tbl #[])) → SqL K H a (ns.map V.int) → sp [.ref a] H (fun v _ => v = .bl true) fun _ _ _ => False) ∧
    ∀ base : Heap, K.In base → base.Ns mainGlobals mg → (∀ p ∈ cs, TabB base mg p.1 p.2) → FnG l.prog w K mg base C8.CX0 k fa fd [x] sp
theorem walk_GL {l : PySem.W.OpenLaw} {n k : Nat} {q : Program} {loose : List Str} {XP : (Str → Option Value) → Heap → Prop} {YP : World → Heap → Prop} {d : DefRec} {K : Params → PySem.W.Frag} {x : Str}
    (most : l.most = some n) (few : n ≤ sizeLine) (hdf : d.params.defaults = []) (hr : Room k callerA) (hY : ∀ (w : World) (h : Heap), YP w h → (K w.params).In h) (xs : List Str) (hrec : (xs.all fun y => (recsOf q).any fun e => e.name == y) = true)
    (F : ∀ (w : World) (mg : Str → Option Value) (fa : Addr) (h : Heap), (K w.params).In h → h.Ns mainGlobals mg → mg d.name = some (.ref fa) → LawG l w (K w.params) k n x mg fa xs) :
    PySem.W.WalkO q loose XP YP l.row.toRowW d [] (fun f vs => PySem.call f vs) := by
  refine Att.attach_callB most hdf ?_
  intro w s0 s1 mg mb fa o pm cd doc a vs ns G Y ho hd hcd hmg obj hints len bits gens
  have KX := hY w _ Y
  obtain ⟨fd, cs, sp, hcs, non, hb, hsp, hF⟩ := F w mg fa _ KX G.T.g hmg
  have tab : ∀ p ∈ cs, PySem.W.CodeHd s1.heap p.1 p.2 ∧ s1.heap.get? p.2 = some { cls := .none, data := .fields #[] } := fun p hp => by
    have e : some p ∈ xs.map (PySem.W.tabIn (K w.params)) := by
      rw [hcs]
      exact List.mem_map_of_mem hp
    obtain ⟨y, hy, ey⟩ := List.mem_map.mp e
    have hr := List.all_eq_true.mp hrec y hy
    obtain ⟨dL, hm⟩ : ∃ dL, (recsOf q).find? (fun e => e.name == y) = some dL := Option.isSome_iff_exists.mp (by rw [List.find?_isSome]; exact List.any_eq_true.mp hr)
    exact PySem.W.tab_of G.T KX hm ey
  exact law_goT KX G.T.g G.T.b G.T.builtins G.T.nolimit gens (fun p hp => (tab p hp).2) non (fun p hp => (tab p hp).1) G.T.bmain obj hints (Nat.le_trans len few) hr hF hb fun H hH hS => hsp H a ns len bits hH hS
section
variable {K : PySem.W.Frag}
theorem tab_mk {x : Str} {f c P : Addr} {oc e : Value} {od dd : Option Addr} {fd : FuncData} {sl sl' : Array (Option Value)} {vs : Array Value} (a : PySem.W.nsIn K mainGlobals x = some (some (.ref f))) (l : K.lookup f = some ⟨oc, od, .func fd, sl⟩) (hc : fd.code = .ref c)
    (lc : K.lookup c = some ⟨e, dd, .fields vs, sl'⟩) (h11 : vs[11]? = some (.ref P)) : PySem.W.tabIn K x = some (c, P) := by
  unfold PySem.W.tabIn
  rw [a]
  simp only [l, hc, lc, h11]
theorem kit_own {D C : Addr} {b : Bool} (ic : PySem.W.isClsIn K C = true) (ty : PySem.W.typeIn K (.ref C) = some (.type "type")) (h : PySem.W.subIn K (.ref D) (.ref C) = some b) (hb : b = true ∨ D ≠ C) : PySem.W.kitOne K (.ref D) (.ref C) = some b := by
  have e2 : ((PySem.W.clsIn K C).isSome && PySem.W.typeIn K (.ref C) == some (.type "type")) = true := by
    have ic' : (PySem.W.clsIn K C).isSome = true := ic
    rw [ic', ty] <;> rfl
  have k : PySem.W.kitCls K (.ref D) (.ref C) = some b := by
    show (if ((PySem.W.clsIn K C).isSome && PySem.W.typeIn K (.ref C) == some (.type "type")) = true then PySem.W.subIn K (.ref D) (.ref C) else none) = some b
    rw [if_pos e2]
    exact h
  unfold PySem.W.kitOne
  by_cases q : (Value.ref D == Value.ref C) = true
  · rw [if_pos q]
    rcases hb with e | e
    · rw [e]
    · exact absurd (Value.ref.inj (beq_iff_eq.mp q)) e
  · rw [if_neg q]
    exact k
theorem kit_bty {D : Addr} {T : String} {b : Bool} (m : PySem.W.kitMeta T = true) (h : PySem.W.subIn K (.ref D) (.type T) = some b) : PySem.W.kitOne K (.ref D) (.type T) = some b := by
  unfold PySem.W.kitOne
  rw [if_neg (by simp)]
  show (if PySem.W.kitMeta T = true then PySem.W.subIn K (.ref D) (.type T) else none) = some b
  rw [if_pos m]
  exact h
theorem exm_own {D C : Addr} {b : Bool} (eb : PySem.W.subIn K (.ref C) (.type "BaseException") = some true) (ic : PySem.W.isClsIn K C = true) (ty : PySem.W.typeIn K (.ref C) = some (.type "type")) (h : PySem.W.subIn K (.ref D) (.ref C) = some b) : PySem.W.exmOne K (.ref D) (.ref C) = some b := by
  have e1 : (PySem.W.subIn K (.ref C) (.type "BaseException") == some true) = true := by rw [eb] <;> rfl
  have e2 : ((PySem.W.clsIn K C).isSome && PySem.W.typeIn K (.ref C) == some (.type "type")) = true := by
    have ic' : (PySem.W.clsIn K C).isSome = true := ic
    rw [ic', ty] <;> rfl
  show (if (PySem.W.subIn K (.ref C) (.type "BaseException") == some true) = true then (if ((PySem.W.clsIn K C).isSome && PySem.W.typeIn K (.ref C) == some (.type "type")) = true then PySem.W.subIn K (.ref D) (.ref C) else none) else none) = some b
  rw [if_pos e1, if_pos e2]
  exact h
theorem exm_any3 {D : Value} {c1 c2 c3 : Value} {b1 b2 b3 : Bool} (h1 : PySem.W.exmOne K D c1 = some b1) (h2 : PySem.W.exmOne K D c2 = some b2) (h3 : PySem.W.exmOne K D c3 = some b3) (h : (b1 || (b2 || b3)) = true) : PySem.W.exmAny K D [c1, c2, c3] = some true := by
  unfold PySem.W.exmAny PySem.W.exmAny PySem.W.exmAny PySem.W.exmAny
  rw [h1, h2, h3]
  simp only [Bool.or_false]
  rw [h]
end
end Dg

namespace Dg
open PySem PySem.Spec PyProof.Rows L2 L2H LamX
/-! ### def __init__(self, f): self.f = f, of an exception class -/
def spInit (f : Str) (K : PySem.W.Frag) : Sp := fun vs H Q _ => ∃ (p D : Addr) (v : V), vs = [.ref p, v] ∧ H p = some (exo p D none) ∧ OexB K D ∧ PySem.W.findIn K (.ref D) f = some none ∧
  ∀ d, H d = none → d ≠ p → Q .non (upd (upd H d (exd d [(f, v)])) p (exo p D (some d)))
theorem spInit_len {f : Str} {K : PySem.W.Frag} : ∀ vs H Q E, spInit f K vs H Q E → vs.length = 2 := fun vs H Q E h => by
  obtain ⟨p, D, v, rfl, _⟩ := h
  rfl
theorem init_go {X : Cx} {f : Str} {K : PySem.W.Frag} {vs : List V} {H : Hp} {Q : VK} {E : XK} {N : List Str} (h : spInit f K vs H Q E) : tOstB K f (tVar 0) (tVar 1) { nx := fun _ H' => Q .non H', rt := Q } (L2.start N vs) H := by
  obtain ⟨p, D, v, rfl, hp, ox, no, q⟩ := h
  exact ⟨v, rfl, .ref p, rfl, p, D, rfl, ox, no, hp, q⟩
/-- raise C(v) -/
theorem r_mkO {f : Str} {K : PySem.W.Frag} {C : Addr} {v : V} {H : Hp} {Q : XK} (ox : OexB K C) (no : PySem.W.findIn K (.ref C) f = some none)
    (q : ∀ d H', H d = none → Same H H' → H' d = some (.xd [(f, v)]) → Q (.ref C) (some d) H') : [v].length ≤ 1000 ∧ ∀ a, H a = none → spInit f K (.ref a :: ([v] ++ [])) (upd H a (exo a C none))
      (fun r H2 => r = .non ∧ ∃ (d : Addr) (fs : List (Str × V)), H2 a = some (exo a C (some d)) ∧ H2 d = some (exd d fs) ∧ H d = none ∧ Q (.ref C) (some d) (upd (del H2 a) d (.xd fs))) (fun _ _ _ => False) := by
  refine ⟨(show 1 ≤ 1000 by decide), fun a ha => ⟨a, C, v, rfl, upd_same, ox, no, fun d hd nd => ⟨rfl, d, [(f, v)], upd_same, ?_, ?_, ?_⟩⟩⟩
  · rw [upd_ne nd, upd_same]
  · rw [upd_ne nd] at hd
    exact hd
  · rw [upd_ne nd] at hd
    refine q d _ hd (fun b u e => ?_) upd_same
    have nb : b ≠ d := ne_of_none e hd
    have na : b ≠ a := ne_of_none e ha
    rw [upd_ne nb, del_ne na, upd_ne na, upd_ne nb, upd_ne na]
    exact e
theorem r_tmkO {σ : HSt} {H : Hp} {Q : XK} {C : Addr} {sp : Sp} {ta : TA} (h : ta σ H fun vs H1 => vs.length ≤ 1000 ∧ ∀ a, H1 a = none → sp (.ref a :: (vs ++ [])) (upd H1 a (exo a C none))
  (fun v H2 => v = .non ∧ ∃ (d : Addr) (fs : List (Str × V)), H2 a = some (exo a C (some d)) ∧ H2 d = some (exd d fs) ∧ H1 d = none ∧ Q (.ref C) (some d) (upd (del H2 a) d (.xd fs))) (fun _ _ _ => False)) : tMkO C sp [] ta σ H Q := h
/-! ### tables -/
theorem hu_1_0 {P : Addr} {q : Str} : ∀ p ∈ [(P, q)], p.1 = P → p.2 = q := fun p hp _ => by
  rw [List.mem_singleton.mp hp]
theorem hu_2_0 {P R : Addr} {q r : Str} (ne : P ≠ R) : ∀ p ∈ [(P, q), (R, r)], p.1 = P → p.2 = q := fun p hp e => by
  rcases List.mem_cons.mp hp with z | z
  · rw [z]
  · rw [List.mem_singleton.mp z] at e
    exact absurd e.symm ne
theorem hu_2_1 {P R : Addr} {q r : Str} (ne : P ≠ R) : ∀ p ∈ [(P, q), (R, r)], p.1 = R → p.2 = r := fun p hp e => by
  rcases List.mem_cons.mp hp with z | z
  · rw [z] at e
    exact absurd e ne
  · rw [List.mem_singleton.mp z]
theorem tabs_nil {T : List (Addr × Str)} {H : Hp} (h : ∀ p ∈ T, H p.1 = some (.tbl #[])) : Tabs T H := fun p hp => TabS.nil (h p hp)
/-! ### o.m(k = v, ..) -/
def tMethKw (C : Addr) (m : Str) (n : Nat) (sp : Sp) (gV : List V → List V → List V) (E : XK) (ta : TE) (tk : TA) : TE := fun σ H Q => ta σ H fun x H1 => ∃ a dx fs, x = .ref a ∧ H1 a = some (.ins C dx fs) ∧ fs.lookup m = none ∧ tk σ H1 fun zs H2 => zs.length = n ∧ sp (gV [x] zs) H2 Q E
section
variable {X : Cx} {CX : CXT} {k : Nat} {C f : Addr} {fd : FuncData} {ps ks : List Str} {sp : Sp} {E : XK} {o : Expr} {kws : List Keyword} {m : Str} {pos apos : Pos} {ta : TE} {tk : TA} {pl : Sem Bool}
  {gg : List Value → List Value → List Value} {gV : List V → List V → List V}
theorem pe_methKw (he : PE X o ta) (c : Cls X.K C) (hm : Meth X.K C m f) (F : FnOk X.prog X.w X.K X.mg X.base CX k f fd ps sp) (hr : Room k X.A) (hb : KBn X.K fd ps 1 ks gg gV) (hx : Passes CX X E) (hk : PK X kws tk)
    (hall : (backToKw pos (keywordEach kws X.env)).all (·.1.isSome) = true := by rfl) (hks : (backToKw pos (keywordEach kws X.env)).filterMap (·.1) = ks := by rfl)
    (hpl : ((backTo pos (starEach [] X.env)).any (·.1) || (backToKw pos (keywordEach kws X.env)).any (·.1.isNone)) = false := by rfl)
    (ht : eval (.Call (.Attribute o m apos) [] kws pos) X.env = (do
      let ov ← eval o X.env
      standAt apos.atName
      let (f, first) ← holding [ov] (getMethod ov m pl)
      callWith pos f first (backTo pos (starEach [] X.env)) (backToKw pos (keywordEach kws X.env))) := by rfl) :
    PE X (.Call (.Attribute o m apos) [] kws pos) (tMethKw C m ks.length sp gV E ta tk) := by
  constructor
  intro pins s σ H Q I h
  refine PySem.W.methodCall_KW (pl := pl) (thn (he.run pins s σ H _ I h) fun u s1 ⟨x, H1, I1, rx, a, dx, fs, ex, ea, l, q⟩ => ?_) ht
  subst ex
  obtain rfl : u = Value.ref a := rx
  refine getmeth_ok I1 ea c hm l ?_
  refine PySem.W.callWith_of (P := fun h => X.K.In h) hpl (PySem.W.keeps_K hm.kp) (evalArgs_kw2_nil hall (thn (hk.run pos _ s1 σ H1 _ I1 q) fun ws s3 ⟨zs, H2, I3, rz, l2, q2⟩ => ⟨I3.kIn, ?_⟩))
  rw [hks]
  show wpAny (model X.prog X.w) X.A (call (.ref f) ([.ref a] ++ []) (ks.zip ws)) (EP X pins σ Q) X.xe s3
  have r2 := hb.rel (vs := [V.ref a]) (us := [Value.ref a]) (.cons rfl .nil) rz
  refine wpAny_call (codeAny_mono (F.run X.A X.stack s3 H2 ⟨[.ref a], ks.zip ws⟩ (gg [.ref a] ws) (gV [.ref a] zs) Q E hr I3.env0 (hb.to s3 [.ref a] ws I3.kIn rfl (rz.length.symm.trans l2)) r2 q2) fun r s' hq => ?_)
  cases r with
  | error e => exact hx _ σ H2 s3 e s' I3 hq
  | ok fl =>
    cases fl with
    | ret u => exact I3.after hq
    | next => exact hq.elim
    | brk => exact hq.elim
    | cont => exact hq.elim
end
theorem r_methKw {σ : HSt} {H : Hp} {Q : VK} {C : Addr} {m : Str} {n : Nat} {sp : Sp} {gV : List V → List V → List V} {E : XK} {ta : TE} {tk : TA} (h : ta σ H fun x H1 => ∃ a dx fs, x = .ref a ∧ H1 a = some (.ins C dx fs) ∧ fs.lookup m = none ∧ tk σ H1 fun zs H2 => zs.length = n ∧ sp (gV [x] zs) H2 Q E) : tMethKw C m n sp gV E ta tk σ H Q := h
theorem r_reprA {K : PySem.W.Frag} {H : Hp} {Q : VK} {x : V} {d : PyData} {n b : Nat} (h : Dp K H x d) (o : Okd d n b) (hn : n ≤ 60) (hb : b ≤ 8000) (q : Q (.str d.shown) H) : rReprA K [x] H Q := ⟨x, d, rfl, h, o.sh, o.hd, Nat.le_trans o.dp hn, o.short hb, q⟩
end Dg

namespace Dg
open PySem PySem.Spec PyProof.Rows L2
theorem sumOf_key {ps : Kinds} {d : Int} (h : sumOf ps d ≠ 0) : d ∈ ps.map (·.1) := by
  induction ps with
  | nil => exact absurd rfl h
  | cons p r ih =>
    rw [sumOf_cons] at h
    by_cases e : p.1 = d
    · rw [← e]; exact List.mem_cons_self
    · rw [if_neg e, Int.zero_add] at h
      exact List.mem_cons_of_mem _ (ih h)
theorem kinds_few {ps ks : Kinds} (k : KindsOf (sumOf ps) ks) : ks.length ≤ ps.length := by
  have z := sub_len (DescP.nodup k.1) (S := ps.map (·.1)) fun d hd => by
    obtain ⟨q, hq, rfl⟩ := List.mem_map.mp hd
    have y := (k.2 q.1 q.2).mp hq
    refine sumOf_key fun z0 => ?_
    rw [z0] at y
    omega
  rw [List.length_map, List.length_map] at z
  exact z
theorem sumOf_flip (t : Int) : ∀ (ks : Kinds) (d : Int), sumOf (ks.map fun k => (t - k.1, k.2)) d = sumOf ks (t - d)
  | [], d => by simp [sumOf_nil]
  | k :: r, d => by
    rw [List.map_cons, sumOf_cons, sumOf_cons, sumOf_flip t r d]
    by_cases e : k.1 = t - d
    · rw [if_pos (show t - k.1 = d by omega), if_pos e]
    · rw [if_neg (show ¬ t - k.1 = d by omega), if_neg e]
theorem kinds_opp {ks due : Kinds} (ok : OkK ks) (k : KindsOf (sumOf (ks.map fun k => (placesK ks - 1 - k.1, k.2))) due) : due = oppK ks := by
  refine k.one ⟨opp_desc ok.descP, fun d c => ?_⟩
  rw [mem_opp, sumOf_flip, sumOf_val ok.nodup]
  exact (kinds_self ok).2 _ _
theorem sum_rev {α : Type} (f : α → Int) : ∀ (l : List α), (l.reverse.map f).sum = (l.map f).sum
  | [] => rfl
  | x :: r => by
    rw [List.reverse_cons, List.map_append, List.sum_append, sum_rev f r, List.map_cons, List.sum_cons, List.map_cons, List.map_nil, List.sum_cons, List.sum_nil]
    omega
theorem ends_opp (ks : Kinds) : (ks.map fun k : Int × Int => k.1 * k.2).sum + ((oppK ks).map fun k : Int × Int => k.1 * k.2).sum = (ks.map fun k : Int × Int => k.2).sum * (placesK ks - 1) := by
  have g : ∀ (t : Int) (l : Kinds), (l.map fun k : Int × Int => k.1 * k.2).sum + (l.map fun k : Int × Int => (t - k.1) * k.2).sum = (l.map fun k : Int × Int => k.2).sum * t := by
    intro t l
    induction l with
    | nil => simp
    | cons k r ih =>
      simp only [List.map_cons, List.sum_cons]
      rw [Int.add_mul, ← ih, Int.sub_mul, Int.mul_comm k.2 t]
      omega
  have e : ((oppK ks).map fun k : Int × Int => k.1 * k.2).sum = (ks.map fun k : Int × Int => (placesK ks - 1 - k.1) * k.2).sum := by
    unfold oppK
    rw [List.map_map]
    exact sum_rev (fun k : Int × Int => (placesK ks - 1 - k.1) * k.2) ks
  rw [e]
  exact g _ ks
theorem kp_flip {H H' : Hp} {p : Addr} (h : Pail H p) (e : ButT p H H') : Kp H H' := h.kpT e
end Dg

namespace Dg
open PySem PySem.Spec PyProof.Rows L2 Builtin.Str
/-! ### tuples put together and cut, of any length -/
section
variable {X : Cx} {σ : HSt} {H : Hp} {Q : VK} {K : PySem.W.Frag}
def rAddB (K : PySem.W.Frag) : R2 := fun x y H Q => rAddA K x y H Q ∨ rCatA K x y H Q
theorem opAddB (h : X.K = K) : OpR X (binaryOp .Add) (rAddB K) := h ▸ opAdd.or op_catA
theorem r_addIB {i j : Int} (h : Q (.int (i + j)) H) : rAddB K (.int i) (.int j) H Q := .inl (r_addI h)
theorem r_addB {x y : V} (h : rAddA K x y H Q) : rAddB K x y H Q := .inl h
theorem r_catB {a b : Addr} {xs ys : List V} (ha : H a = some (.tup xs)) (hb : H b = some (.tup ys)) (hz : xs.length + ys.length ≤ 100000) (q : ∀ p H', Same H H' → H' p = some (.tup (xs ++ ys)) → Q (.ref p) H') : rAddB K (.ref a) (.ref b) H Q := by
  refine .inr ⟨a, b, xs, ys, rfl, rfl, .of ha, .of hb, Nat.le_trans hz (by decide), fun e => ?_, fun _ e => ?_, fun _ _ p hp => ?_⟩
  · subst e
    exact q b H (Same.refl H) hb
  · subst e
    exact q a H (Same.refl H) (by rw [List.append_nil]; exact ha)
  · exact q p _ (fun c u e => by rw [upd_ne (ne_of_none e hp)]; exact e) upd_same
def slB (K : PySem.W.Frag) : V → Option Int → Option Int → Hp → VK → Prop := fun x lo hi H Q => rSlL K x lo hi H Q ∨ rSlA K x lo hi H Q
theorem slBK (h : X.K = K) : SlR X (slB K) := h ▸ sl_list.or sl_tupA
theorem r_slLB {a : Addr} {xs : List V} {lo hi : Option Int} (h : SqL K H a xs) (q : New H (.lst (cutV xs lo hi)) Q) : slB K (.ref a) lo hi H Q := .inl ⟨a, xs, rfl, h, q⟩
theorem r_slTB {a : Addr} {xs : List V} {lo hi : Option Int} (h : H a = some (.tup xs)) (q : ∀ p H', Same H H' → H' p = some (.tup (cutV xs lo hi)) → Q (.ref p) H') : slB K (.ref a) lo hi H Q := by
  refine .inr ⟨a, xs, rfl, .of h, fun e => ?_, fun _ p hp => ?_⟩
  · refine q a H (Same.refl H) ?_
    unfold cutV
    rw [e.1, e.2, List.drop_zero, Nat.sub_zero, List.take_length]
    exact h
  · exact q p _ (fun c u e => by rw [upd_ne (ne_of_none e hp)]; exact e) upd_same
end
theorem cut_from {xs : List V} {j : Int} (h : 0 ≤ j) : cutV xs (some j) none = xs.drop j.toNat := by
  obtain ⟨n, rfl⟩ := Int.eq_ofNat_of_zero_le h
  unfold cutV
  rw [HT.sIx_none, HT.sIx_nat, Int.toNat_natCast]
  by_cases l : n ≤ xs.length
  · rw [Nat.min_eq_left l]
    exact List.take_of_length_le (by rw [List.length_drop]; exact Nat.le_refl _)
  · rw [Nat.min_eq_right (by omega), List.drop_of_length_le (Nat.le_refl _), List.drop_of_length_le (by omega)]
    exact List.take_nil
theorem FzAll.take {H : Hp} : ∀ (n : Nat) {vs : List V} {ds : List PyData}, FzAll H vs ds → FzAll H (vs.take n) (ds.take n)
  | 0, _, _, _ => .nil
  | _ + 1, _, _, .nil => .nil
  | n + 1, _, _, .cons h t => .cons h (FzAll.take n t)
theorem FzAll.drop {H : Hp} : ∀ (n : Nat) {vs : List V} {ds : List PyData}, FzAll H vs ds → FzAll H (vs.drop n) (ds.drop n)
  | 0, _, _, h => h
  | _ + 1, _, _, .nil => .nil
  | n + 1, _, _, .cons _ t => FzAll.drop n t
theorem FzAll.app {H : Hp} : ∀ {vs ws : List V} {ds es : List PyData}, FzAll H vs ds → FzAll H ws es → FzAll H (vs ++ ws) (ds ++ es)
  | _, _, _, _, .nil, h => h
  | _, _, _, _, .cons h t, h' => .cons h (FzAll.app t h')
/-! ### small kinds: of up to eleven pairs, of any right numbers -/
def SmK (ks : Kinds) : Prop := ks.length ≤ 11 ∧ ∀ k ∈ ks, 0 ≤ k.1 ∧ k.1 ≤ 10000000000000000000000000000000 ∧ 0 ≤ k.2 ∧ k.2 ≤ 10000000000000000000000000000000
theorem OkK.sm {ks : Kinds} (ok : OkK ks) : SmK ks := ⟨by have := ok.2.1; omega, fun k hk => by have := ok.2.2.all k hk; omega⟩
theorem SmK.short {ks : Kinds} (sm : SmK ks) : (sheet ks).length ≤ 800 := by
  unfold sheet
  rw [TL.join_eq]
  refine Nat.le_trans (StrLaws.join_length_le _ _) ?_
  have ten := sm.1
  have a : ((ks.map kindText).map (·.length)).sum ≤ ((ks.map kindText).map (·.length)).length * 67 := sum_le fun x hx => by
    obtain ⟨y, hy, rfl⟩ := List.mem_map.mp hx
    obtain ⟨k, hk, rfl⟩ := List.mem_map.mp hy
    have kk := sm.2 k hk
    exact kind_len kk.1 kk.2.1 kk.2.2.1 kk.2.2.2
  rw [List.length_map, List.length_map] at a
  rw [List.map_cons, List.sum_cons, List.length_cons, List.length_map]
  have e1 : ("row" : Str).length = 3 := by decide +kernel
  have e2 : ("\n" : Str).length = 1 := by decide +kernel
  rw [e1, e2]
  omega
theorem SmK.small {ks : Kinds} (sm : SmK ks) : ∀ c ∈ TL.tl (sheet ks), c < 128 := by
  intro c hc
  unfold sheet at hc
  rw [TL.join_eq, TL.tl_join] at hc
  rcases mem_joinL hc with h | ⟨p, hp, h⟩
  · have : ∀ c ∈ TL.tl ("\n" : Str), c < 128 := by decide
    exact this c h
  · obtain ⟨x, hx, rfl⟩ := List.mem_map.mp hp
    rcases List.mem_cons.mp hx with rfl | hx
    · have : ∀ c ∈ TL.tl ("row" : Str), c < 128 := by decide
      exact this c h
    · obtain ⟨k, hk, rfl⟩ := List.mem_map.mp hx
      have kk := sm.2 k hk
      exact kind_small kk.1 kk.2.2.1 c h
theorem SmK.okd {ks : Kinds} (sm : SmK ks) : Okd (.str (sheet ks)) 0 800 := okd_str sm.small sm.short (by decide)
theorem rows_fitS {ys : List Str} (ten : ys.length ≤ 11) (len : ∀ y ∈ ys, y.length ≤ 1000) : ((("row" : Str) :: ys).map (·.length)).sum + (("row" : Str) :: ys).length * ("\n" : Str).length ≤ 16777216 := by
  have a : (ys.map (·.length)).sum ≤ (ys.map (·.length)).length * 1000 := sum_le fun x hx => by
    obtain ⟨y, hy, rfl⟩ := List.mem_map.mp hx
    exact len y hy
  rw [List.length_map] at a
  rw [List.map_cons, List.sum_cons, List.length_cons]
  have e1 : ("row" : Str).length = 3 := by decide +kernel
  have e2 : ("\n" : Str).length = 1 := by decide +kernel
  rw [e1, e2]
  omega
/-! ### what is wrong with kinds of whole numbers -/
theorem desc_wrong : ∀ (ks : Kinds) (i : Nat) (m : Int), i ≤ 10 → wrongFrom (ks.map kD) i m = none → i + ks.length ≤ 10 ∧ Desc m ks
  | [], i, m, hi, _ => ⟨hi, True.intro⟩
  | k :: r, i, m, hi, h => by
    have h' : (if i = 10 ∨ kindD (kD k) m = false then some i else wrongFrom (r.map kD) (i + 1) (k.1 - 1)) = none := h
    by_cases c : i = 10 ∨ kindD (kD k) m = false
    · rw [if_pos c] at h'; cases h'
    · rw [if_neg c] at h'
      have c1 : i ≠ 10 := fun z => c (.inl z)
      have c2 : kindD (kD k) m = true := by
        cases z : kindD (kD k) m
        · exact absurd (.inr z) c
        · rfl
      obtain ⟨a, b⟩ := desc_wrong r (i + 1) (k.1 - 1) (by omega) h'
      have kk := kindD_kD.mp c2
      refine ⟨by rw [List.length_cons]; omega, kk.1, kk.2.1, kk.2.2.1, kk.2.2.2, b⟩
theorem okK_okD {ks : Kinds} (h : okD (KD ks) = true) : OkK ks := by
  have h' : (filledD (KD ks) && (wrongD (KD ks)).isNone) = true := h
  obtain ⟨a, b⟩ := Bool.and_eq_true_iff.mp h'
  have ne : ks ≠ [] := by
    rintro rfl
    cases a
  have z : wrongFrom (ks.map kD) 0 10000000000000000000000000000000 = none := by
    have e : wrongD (KD ks) = (if ks.map kD = [] then none else wrongFrom (ks.map kD) 0 10000000000000000000000000000000) := rfl
    rw [e, if_neg (fun y => ne (List.map_eq_nil_iff.mp y))] at b
    exact Option.isNone_iff_eq_none.mp b
  obtain ⟨l, d⟩ := desc_wrong ks 0 _ (by decide) z
  exact ⟨ne, by omega, d⟩
theorem okD_no {ks : Kinds} (h : ¬ OkK ks) : okD (KD ks) = false := by
  cases z : okD (KD ks)
  · rfl
  · exact absurd (okK_okD z) h
theorem wrong_app : ∀ (ks : Kinds) (i : Nat) (m : Int), i + ks.length ≤ 10 → Desc m ks → ∃ m', ∀ ls : Kinds, wrongFrom ((ks ++ ls).map kD) i m = wrongFrom (ls.map kD) (i + ks.length) m'
  | [], i, m, _, _ => ⟨m, fun ls => rfl⟩
  | k :: r, i, m, hl, hd => by
    rw [List.length_cons] at hl
    obtain ⟨m', h⟩ := wrong_app r (i + 1) (k.1 - 1) (by omega) hd.2.2.2.2
    refine ⟨m', fun ls => ?_⟩
    show (if i = 10 ∨ kindD (kD k) m = false then some i else wrongFrom ((r ++ ls).map kD) (i + 1) (k.1 - 1)) = _
    rw [if_neg, h ls]
    · rw [List.length_cons, Nat.add_assoc, Nat.add_comm 1]
    · rintro (z | z)
      · omega
      · rw [kindD_kD.mpr ⟨hd.1, hd.2.1, hd.2.2.1, hd.2.2.2.1⟩] at z
        cases z
theorem Desc.take : ∀ (n : Nat) (m : Int) (ks : Kinds), Desc m ks → Desc m (ks.take n)
  | 0, _, _, _ => True.intro
  | _ + 1, _, [], _ => True.intro
  | n + 1, _, k :: r, h => ⟨h.1, h.2.1, h.2.2.1, h.2.2.2.1, Desc.take n _ r h.2.2.2.2⟩
/-- an eleventh one -/
theorem wrong_eleven {ks : Kinds} (ok : OkK ks) (l : ks.length = 10) (k : Int × Int) : wrongD (KD (ks ++ [k])) = some 10 := by
  obtain ⟨m', h⟩ := wrong_app ks 0 _ (by omega) ok.2.2
  show (if (ks ++ [k]).map kD = [] then none else wrongFrom ((ks ++ [k]).map kD) 0 10000000000000000000000000000000) = _
  rw [if_neg (by simp), h [k], l]
  exact if_pos (.inl rfl)
/-- a count too great -/
theorem wrong_great {ks : Kinds} (ok : OkK ks) {n : Nat} (l : n < ks.length) (d : Int) (r : Kinds) : wrongD (KD (ks.take n ++ (d, 1000000000000000000000000000001) :: r)) = some n := by
  have ten := ok.2.1
  have e : (ks.take n).length = n := by rw [List.length_take]; omega
  obtain ⟨m', h⟩ := wrong_app (ks.take n) 0 _ (by omega) (Desc.take n _ _ ok.2.2)
  show (if (ks.take n ++ (d, 1000000000000000000000000000001) :: r).map kD = [] then none else wrongFrom ((ks.take n ++ (d, 1000000000000000000000000000001) :: r).map kD) 0 10000000000000000000000000000000) = _
  rw [if_neg (by simp), h _, e, Nat.zero_add]
  refine if_pos (.inr ?_)
  cases z : kindD (kD (d, 1000000000000000000000000000001)) m'
  · rfl
  · have := (kindD_kD.mp z).2.2.2
    exact absurd (show (1000000000000000000000000000001 : Int) ≤ 1000000000000000000000000000000 from this) (by decide)
theorem okD_wrong {ks : Kinds} {i : Nat} (h : wrongD (KD ks) = some i) : okD (KD ks) = false := by
  show (filledD (KD ks) && (wrongD (KD ks)).isNone) = false
  rw [h]
  exact Bool.and_false _
theorem r_pow61 {H : Hp} {Q : VK} (h : Q (.int 10000000000000000000000000000000000000000000000000000000000000) H) : rPowA (.int 10) (.int 61) H Q := r_powL (by decide) (by decide) (by decide) (by decide +kernel) h
/-! ### the repr of a small text -/
theorem reprChar_small {c q : Nat} (h : c < 128) (hq : q = 34 ∨ q = 39) : ∀ d ∈ reprChar q c, d < 128 := by
  have a : ∀ c : Fin 128, ((reprChar 34 c.val).all fun d => decide (d < 128)) = true ∧ ((reprChar 39 c.val).all fun d => decide (d < 128)) = true := by decide +kernel
  intro d hd
  rcases hq with rfl | rfl
  · exact of_decide_eq_true (List.all_eq_true.mp (a ⟨c, h⟩).1 d hd)
  · exact of_decide_eq_true (List.all_eq_true.mp (a ⟨c, h⟩).2 d hd)
theorem fold_small {q : Nat} (hq : q = 34 ∨ q = 39) : ∀ (l : List Nat) (acc : Array Nat), (∀ c ∈ l, c < 128) → (∀ d ∈ acc.toList, d < 128) → ∀ d ∈ (l.foldl (fun out c => out ++ (reprChar q c).toArray) acc).toList, d < 128
  | [], _, _, h => h
  | c :: r, acc, hl, h => by
    refine fold_small hq r _ (fun d hd => hl d (List.mem_cons_of_mem _ hd)) fun d hd => ?_
    rw [Array.toList_append, List.mem_append] at hd
    rcases hd with z | z
    · exact h d z
    · exact reprChar_small (hl c List.mem_cons_self) hq d z
theorem quote_two (x : Str) : reprQuote x = 34 ∨ reprQuote x = 39 := by
  unfold reprQuote
  split
  · exact .inl rfl
  · exact .inr rfl
theorem repr_small {x : Str} (h : ∀ c ∈ TL.tl x, c < 128) : ∀ c ∈ TL.tl (reprText x), c < 128 := by
  have hq := quote_two x
  intro c hc
  have hc' : c ∈ ((x.cps.foldl (fun out c => out ++ (reprChar (reprQuote x) c).toArray) #[reprQuote x]).push (reprQuote x)).toList := hc
  rw [Array.toList_push, List.mem_append, ← Array.foldl_toList] at hc'
  have qs : reprQuote x < 128 := by omega
  rcases hc' with z | z
  · exact fold_small hq _ _ h (fun d hd => by
      have : d = reprQuote x := by simpa using hd
      omega) c z
  · rw [List.mem_singleton.mp z]
    exact qs
theorem okd_repr_str {x : Str} {b : Nat} (h : ∀ c ∈ TL.tl x, c < 128) (l : x.length ≤ b) (hb : b ≤ 9000) : Okd (.str (PyData.shown (.str x))) 0 (10 * b + 2) := by
  refine okd_str (x := reprText x) (repr_small h) ?_ (by omega)
  have := StrLaws.reprText_len x (fun c hc => Nat.lt_trans (h c hc) (by decide))
  omega
/-- two texts in a list -/
theorem shaped_two {x y : Str} {b c : Nat} (h1 : Okd (.str x) 0 b) (h2 : Okd (.str y) 0 c) : SeqAt.shaped (.list [.str x, .str y]) = true := (Okd.lst (.cons h1 (.cons h2 .nil))).shaped (by decide)
theorem shown_num {i : Int} : PyData.shown (.int i) = numS i := rfl
theorem okd_num {i : Int} (h0 : 0 ≤ i) (h1 : i ≤ 10000000000000000000000000000000) : Okd (.str (numS i)) 0 32 := okd_str (fun c hc => by have := numS_mem h0 c hc; omega) (numS_len h0 h1) (by decide)
theorem eqv_two {x y : Str} {b c : Nat} (h1 : Okd (.str x) 0 b) (h2 : Okd (.str y) 0 c) : PyData.eqv (.list [.str x, .str y]) (.list [.str x, .str y]) = true := SeqAt.eqv_refl _ (Bool.and_eq_true_iff.mp (shaped_two h1 h2)).1
end Dg

namespace Dg
open PySem PySem.Spec PyProof.Rows L2 L2H LamX
/-! ### data and small dicts, as they are shown -/
inductive Dx (K : PySem.W.Frag) (H : Hp) : V → PyData → Prop
  | dp {v : V} {d : PyData} : Dp K H v d → d.hasDict = false → Dx K H v d
  | d0 {a : Addr} : H a = some (.dK []) → Dx K H (.ref a) (.dict [])
  | d1 {a : Addr} {k : Str} {i : Int} : H a = some (.dK [(Sum.inr k, .int i)]) → Dx K H (.ref a) (.dict [(.str k, .int i)])
theorem Dx.dv {K : PySem.W.Frag} {H : Hp} {v : V} {d : PyData} (h : Dx K H v d) : Dv K H v d := by
  cases h with
  | dp h _ => exact .dp h
  | d0 h => exact .dict h _
  | d1 h => exact .dict h _
theorem Dx.same {K : PySem.W.Frag} {H H' : Hp} {v : V} {d : PyData} (e : Same H H') (h : Dx K H v d) : Dx K H' v d := by
  cases h with
  | dp h n => exact .dp (Dp.same e h) n
  | d0 h => exact .d0 (e _ _ h)
  | d1 h => exact .d1 (e _ _ h)
theorem SqL.extN {K : PySem.W.Frag} {H H' : Hp} {s : Addr} {xs : List V} (h : SqL K H s xs) (e : ExtN H H') : SqL K H' s xs := by
  rcases h with (h | ⟨o, h⟩) | h
  · exact .inl (.inl (e _ _ h NoTbl.lst))
  · exact .inl (.inr ⟨o, e _ _ h (NoTbl.frz True.intro)⟩)
  · exact .inr h
theorem SqT.extN {K : PySem.W.Frag} {H H' : Hp} {s : Addr} {xs : List V} (h : SqT K H s xs) (e : ExtN H H') : SqT K H' s xs := by
  rcases h with (h | ⟨o, h⟩) | h
  · exact .inl (.inl (e _ _ h NoTbl.tup))
  · exact .inl (.inr ⟨o, e _ _ h (NoTbl.frz True.intro)⟩)
  · exact .inr h
mutual
theorem Dp.extN {K : PySem.W.Frag} {H H' : Hp} (e : ExtN H H') : ∀ {d : PyData} {v : V}, Dp K H v d → Dp K H' v d
  | _, _, .non => .non
  | _, _, .bl b => .bl b
  | _, _, .int i => .int i
  | _, _, .str x => .str x
  | _, _, .lst h hs => .lst (Dg.SqL.extN h e) (DpAll.extN e hs)
  | _, _, .tup h hs => .tup (Dg.SqT.extN h e) (DpAll.extN e hs)
theorem DpAll.extN {K : PySem.W.Frag} {H H' : Hp} (e : ExtN H H') : ∀ {ds : List PyData} {vs : List V}, DpAll K H vs ds → DpAll K H' vs ds
  | _, _, .nil => .nil
  | _, _, .cons h t => .cons (Dp.extN e h) (DpAll.extN e t)
end
theorem Dx.extN {K : PySem.W.Frag} {H H' : Hp} {v : V} {d : PyData} (e : ExtN H H') (h : Dx K H v d) : Dx K H' v d := by
  cases h with
  | dp h n => exact .dp (Dp.extN e h) n
  | d0 h => exact .d0 (e _ _ h NoTbl.dK)
  | d1 h => exact .d1 (e _ _ h NoTbl.dK)
section
variable {X : Cx} {pins : List (Addr × Obj)} {σ : L2.St} {H : Hp} {s : Shared}
theorem Dx.reads (I : Inv X pins σ H s) {d : PyData} {v : V} {u : Value} (h : Dx X.K H v d) (r : RelV v u) : ∃ as, Reads s.heap u d as ∧ (d.hasDict = true → sysModules ∉ as) := by
  cases h with
  | dp h n =>
    obtain ⟨as, rd⟩ := Dp.reads I d _ _ h r
    exact ⟨as, rd, fun z => by rw [n] at z; cases z⟩
  | d0 h =>
    cases r
    obtain ⟨_, hs, vs, kv, o, es, ep, ho, ⟨hc, _, _⟩, hd, _, hp, _⟩ := I.hok _ _ h
    cases kv
    cases he : es.toList with
    | cons e r => rw [he] at hp; cases hp
    | nil =>
      refine ⟨_, .dict (kvs := []) ho hc hd (by rw [he]; exact .nil) (by rw [he]; exact .nil), fun _ z => ?_⟩
      simp only [List.append_nil, List.mem_singleton] at z
      rw [← z] at hs
      simp at hs
  | @d1 _ kk ii h =>
    cases r
    obtain ⟨_, hs, vs, kv, o, es, ep, ho, ⟨hc, _, _⟩, hd, _, hp, _⟩ := I.hok _ _ h
    cases kv with
    | @cons _ q _ _ e1 kv =>
      cases kv
      obtain ⟨e1, e2⟩ := e1
      cases he : es.toList with
      | nil => rw [he] at hp; cases hp
      | cons e r =>
        rw [he] at hp
        cases hp with
        | cons k1 k2 k3 =>
          cases k3
          obtain ⟨q1, q2⟩ := q
          have e1' : q1 = Sum.inr _ := e1.symm
          subst e1'
          obtain ⟨t, e2⟩ := e2
          have e2' : q2 = _ := e2
          subst e2'
          have z : ∃ t', e.key = .str kk t' := by
            rcases keyIs_shape (show keyIs (Sum.inr kk) e.key = true from k1) with ⟨i, t, z, _⟩ | ⟨x, t, z, y⟩
            · cases z
            · cases z
              exact ⟨t, y⟩
          obtain ⟨t', z⟩ := z
          refine ⟨_, .dict (kvs := [(.str kk, .int ii)]) ho hc hd (by rw [he]; exact .cons (show Reads s.heap e.key (.str kk) [] by rw [z]; exact .str _ _) .nil) (by rw [he]; exact .cons (show Reads s.heap e.val (.int ii) [] by rw [k2]; exact .int _ _) .nil), fun _ y => ?_⟩
          simp at y
          rw [← y] at hs
          simp at hs
end
/-- repr of data or of a small dict -/
def rReprX (K : PySem.W.Frag) : List V → Hp → VK → Prop := fun xs H Q => ∃ (x : V) (d : PyData), xs = [x] ∧ Dx K H x d ∧ d.showable = true ∧ d.depth ≤ 60 ∧ d.shown.length ≤ sizeLine ∧ Q (.str d.shown) H
section
variable {X : Cx} {K : PySem.W.Frag}
theorem call_reprX (hK : X.K = K) (hg : X.A.guards = some []) (hu : X.A.units + 64 < cLine) : CallR X (.builtin "repr") (rReprX K) := by
  intro pins s σ H xs us Q I r h
  obtain ⟨x, d, rfl, hd, h1, h3, h4, q⟩ := h
  cases hd with
  | dp hd n => exact call_reprU hK hg hu pins s σ H _ us Q I r ⟨x, d, rfl, hd, h1, n, h3, h4, q⟩
  | d0 h =>
    subst hK
    obtain ⟨u, rfl, ru⟩ := vals1 r
    obtain ⟨as, rd, hs⟩ := Dx.reads (X := X) I (.d0 (K := X.K) h) ru
    cases ru
    refine repr_of_reads' rd h1 hs hg (by omega) (fun _ _ e => e) (fun h' u tk hk => ?_) h4
    exact ⟨.str _, H, I.kept (t' := tk) hk, ⟨u, rfl⟩, q⟩
  | d1 h =>
    subst hK
    obtain ⟨u, rfl, ru⟩ := vals1 r
    obtain ⟨as, rd, hs⟩ := Dx.reads (X := X) I (.d1 (K := X.K) h) ru
    cases ru
    refine repr_of_reads' rd h1 hs hg (by omega) (fun _ _ e => e) (fun h' u tk hk => ?_) h4
    exact ⟨.str _, H, I.kept (t' := tk) hk, ⟨u, rfl⟩, q⟩
end
/-- what is needed of a thing to show it and to compare what is shown -/
structure Showy (d : PyData) : Prop where
  sh : d.showable = true
  dp : d.depth ≤ 60
  ln : d.shown.length ≤ sizeLine
  ok : Okd (.str d.shown) 0 1000
/-- its repr is that of 1 or -1 just if it is one of them -/
def OneD (d : PyData) : Prop := (d.shown = "1" ∨ d.shown = "-1") ↔ (d = .int 1 ∨ d = .int (-1))
theorem r_reprX {K : PySem.W.Frag} {H : Hp} {Q : VK} {x : V} {d : PyData} (h : Dx K H x d) (o : Showy d) (q : Q (.str d.shown) H) : rReprX K [x] H Q := ⟨x, d, rfl, h, o.sh, o.dp, o.ln, q⟩
/-- a thing that stays where only what is bad is written -/
def HeldX (K : PySem.W.Frag) (bad : Addr → Prop) (H : Hp) (x : V) (d : PyData) : Prop := ∀ H', Keeps bad H H' → Dx K H' x d
def ThingX (K : PySem.W.Frag) (bad : Addr → Prop) (H : Hp) (x : V) : Prop := ∃ d, HeldX K bad H x d ∧ Showy d ∧ OneD d
theorem HeldP.dx {K : PySem.W.Frag} {bad : Addr → Prop} {H : Hp} {x : V} {d : PyData} (h : HeldP K bad H x d) (n : d.hasDict = false) : HeldX K bad H x d := fun H' k => .dp (h H' k) n
theorem HeldX.keep {K : PySem.W.Frag} {bad : Addr → Prop} {H H1 : Hp} {x : V} {d : PyData} (h : HeldX K bad H x d) (k : Keeps bad H H1) : HeldX K bad H1 x d := fun H' k' => h H' (k.trans k')
theorem HeldX.now {K : PySem.W.Frag} {bad : Addr → Prop} {H : Hp} {x : V} {d : PyData} (h : HeldX K bad H x d) : Dx K H x d := h H fun _ _ _ e => e
theorem HeldX.less {K : PySem.W.Frag} {bad bad' : Addr → Prop} {H : Hp} {x : V} {d : PyData} (h : HeldX K bad H x d) (s : ∀ b, bad' b → bad b) : HeldX K bad' H x d := fun H' k => h H' fun b o n e => k b o (fun z => n (s b z)) e
theorem ThingX.keep {K : PySem.W.Frag} {bad : Addr → Prop} {H H1 : Hp} {x : V} (h : ThingX K bad H x) (k : Keeps bad H H1) : ThingX K bad H1 x := let ⟨d, z, s⟩ := h; ⟨d, z.keep k, s⟩
theorem ThingX.less {K : PySem.W.Frag} {bad bad' : Addr → Prop} {H : Hp} {x : V} (h : ThingX K bad H x) (s : ∀ b, bad' b → bad b) : ThingX K bad' H x := let ⟨d, z, t⟩ := h; ⟨d, z.less s, t⟩
theorem HeldX.d0 {K : PySem.W.Frag} {bad : Addr → Prop} {H : Hp} {a : Addr} (h : H a = some (.dK [])) (n : ¬ bad a) : HeldX K bad H (.ref a) (.dict []) := fun H' k => .d0 (k _ _ n h)
theorem HeldX.d1 {K : PySem.W.Frag} {bad : Addr → Prop} {H : Hp} {a : Addr} {k : Str} {i : Int} (h : H a = some (.dK [(Sum.inr k, .int i)])) (n : ¬ bad a) : HeldX K bad H (.ref a) (.dict [(.str k, .int i)]) := fun H' k => .d1 (k _ _ n h)
theorem r_reprXD {K : PySem.W.Frag} {H : Hp} {Q : VK} {x : V} {d : PyData} {n b : Nat} (h : Dp K H x d) (o : Okd d n b) (hn : n ≤ 60) (hb : b ≤ 8000) (q : Q (.str d.shown) H) : rReprX K [x] H Q := ⟨x, d, rfl, .dp h o.hd, o.sh, Nat.le_trans o.dp hn, o.short hb, q⟩
theorem showy_dec {d : PyData} (h1 : d.showable = true) (h2 : d.depth ≤ 60) (h3 : d.shown.length ≤ 1000) (h4 : ((TL.tl d.shown).all fun c => decide (c < 128)) = true) : Showy d :=
  ⟨h1, h2, Nat.le_trans h3 (by decide), okd_str (fun c hc => of_decide_eq_true (List.all_eq_true.mp h4 c hc)) h3 (by decide)⟩
theorem one_no {d : PyData} (h : ¬ d.shown = "1") (h' : ¬ d.shown = "-1") (n1 : d ≠ .int 1) (n2 : d ≠ .int (-1)) : OneD d := ⟨fun z => z.elim (fun z => absurd z h) fun z => absurd z h', fun z => z.elim (fun z => absurd z n1) fun z => absurd z n2⟩
theorem showy_int {i : Int} (h0 : 0 ≤ i) (h1 : i ≤ 10000000000000000000000000000000) : Showy (.int i) :=
  ⟨decide_eq_true (log_small h0 (by omega)), by show (0 : Nat) ≤ 60; decide, Nat.le_trans (numS_len h0 h1) (by decide), (okd_num h0 h1).mono (Nat.le_refl _) (by decide)⟩
def AllX (K : PySem.W.Frag) (bad : Addr → Prop) (H : Hp) (xs : List V) : Prop := ∀ v ∈ xs, ThingX K bad H v
theorem AllX.nil {K : PySem.W.Frag} {bad : Addr → Prop} {H : Hp} : AllX K bad H [] := fun v h => absurd h List.not_mem_nil
theorem AllX.cons {K : PySem.W.Frag} {bad : Addr → Prop} {H : Hp} {x : V} {xs : List V} (h : ThingX K bad H x) (t : AllX K bad H xs) : AllX K bad H (x :: xs) := fun v hv => by
  rcases List.mem_cons.mp hv with rfl | hv
  · exact h
  · exact t v hv
theorem AllX.app {K : PySem.W.Frag} {bad : Addr → Prop} {H : Hp} {xs ys : List V} (h : AllX K bad H xs) (t : AllX K bad H ys) : AllX K bad H (xs ++ ys) := fun v hv => by
  rcases List.mem_append.mp hv with hv | hv
  · exact h v hv
  · exact t v hv
theorem countD_int {ks : Kinds} {d : PyData} (h : countD ks d ≠ 0) : ∃ i, d = .int i := by
  cases d <;> first | exact ⟨_, rfl⟩ | exact absurd rfl h
/-! ### what need_few says -/
def manyK (ks : Kinds) : Option Int := if 10 < ks.length then some (ks.length : Int) else (ks.map fun k : Int × Int => k.2).find? fun c => decide (1000000000000000000000000000000 < c)
theorem find_first : ∀ {ks : Kinds} {i : Nat} {k : Int × Int}, (∀ q ∈ ks.take i, ¬ 1000000000000000000000000000000 < q.2) → ks[i]? = some k → 1000000000000000000000000000000 < k.2 → ((ks.map fun k : Int × Int => k.2).find? fun c => decide (1000000000000000000000000000000 < c)) = some k.2
  | [], i, k, _, h, _ => by simp at h
  | q :: r, 0, k, _, h, c => by
    have e : q = k := by simpa using h
    subst e
    show (match decide (1000000000000000000000000000000 < q.2) with | true => some q.2 | false => _) = _
    rw [decide_eq_true c]
  | q :: r, i + 1, k, hq, h, c => by
    have z := hq q (by simp)
    show (match decide (1000000000000000000000000000000 < q.2) with | true => some q.2 | false => (r.map fun k : Int × Int => k.2).find? fun c => decide (1000000000000000000000000000000 < c)) = _
    rw [decide_eq_false z]
    exact find_first (fun q hq' => hq q (List.mem_cons_of_mem _ hq')) (by simpa using h) c
theorem find_no {ks : Kinds} (h : ∀ q ∈ ks, ¬ 1000000000000000000000000000000 < q.2) : ((ks.map fun k : Int × Int => k.2).find? fun c => decide (1000000000000000000000000000000 < c)) = none := by
  rw [List.find?_eq_none]
  intro c hc
  obtain ⟨q, hq, rfl⟩ := List.mem_map.mp hc
  simpa using h q hq
theorem many_none {ks : Kinds} (h : manyK ks = none) : ks.length ≤ 10 ∧ ∀ k ∈ ks, k.2 ≤ 1000000000000000000000000000000 := by
  unfold manyK at h
  by_cases c : 10 < ks.length
  · rw [if_pos c] at h; cases h
  · rw [if_neg c, List.find?_eq_none] at h
    refine ⟨by omega, fun k hk => ?_⟩
    have := h k.2 (List.mem_map.mpr ⟨k, hk, rfl⟩)
    simpa using this
def ExcG (E : XK) (H : Hp) (C : Addr) (v : V) : Prop := ∀ (e : Addr) (H' : Hp), H e = none → Same H H' → H' e = some (.xd [("given", v)]) → E (.ref C) (some e) H'
theorem ExcG.same {E : XK} {H H1 : Hp} {C : Addr} {v : V} (h : ExcG E H C v) (s : Same H H1) : ExcG E H1 C v := fun e H' he s' h' => h e H' (Same.none s he) (s.trans s') h'
def Rng (i : Int) : Prop := 0 ≤ i ∧ i ≤ 10000000000000000000000000000000
/-- two places of these degrees are there -/
def Plc (ks : Kinds) (dx dy : PyData) : Prop := countD ks dx ≠ 0 ∧ countD ks dy ≠ 0 ∧ ¬ (dy = dx ∧ countD ks dx = 1)
/-- called by keywords that stand in another order: the first r of them come last -/
theorem fun_kwR {K : PySem.W.Frag} {x qual : Str} {st : Stmt} {f : Addr} {fd : FuncData} {ps ks : List Str} {n : Nat} (r : Nat) (F : Fun K x qual st f fd)
    (h : ∀ (kV doc pm : Value) (an : Option Addr) (cdv ct : Value) (us ws : List Value), us.length = n → ws.length = ks.length → bindArgs (PySem.W.fnOf x qual (defArgs st) (defBody st) (defScope st) .none kV doc pm an cdv ct) ⟨us, ks.zip ws⟩ = pure (ps.zip (us ++ (ws.drop r ++ ws.take r)))) :
    KBn K fd ps n ks (fun us ws => us ++ (ws.drop r ++ ws.take r)) (fun vs zs => vs ++ (zs.drop r ++ zs.take r)) := by
  obtain ⟨oc, od, kV, doc, pm, an, cdv, ct, osl, rfl, lk, hcd⟩ := F.ex
  exact ⟨fun s us ws X l1 l2 => .of_eq (h kV doc pm an cdv ct us ws l1 l2), fun r1 r2 => r1.append ((r2.drop r).append (r2.take r))⟩
end Dg

namespace Dg
open PySem PySem.Spec PyProof.Rows L2
/-! ### what becomes of raised, at any values -/
section
variable {K : PySem.W.Frag} {H : Hp} {ks : Kinds} {x y z : V} {dx dy dz : PyData}
/-- the error that is due: its name, its value, the value's data -/
def Bad (ks : Kinds) (x : V) (dx : PyData) (y : V) (dy : PyData) (z : V) (dz : PyData) (nm : Str) (v : V) (d : PyData) : Prop :=
  (countD ks dx = 0 ∧ nm = "InvalidDegree" ∧ v = x ∧ d = dx) ∨
  (countD ks dx ≠ 0 ∧ (countD ks dy = 0 ∨ dy = dx ∧ countD ks dx = 1) ∧ nm = "InvalidDegree" ∧ v = y ∧ d = dy) ∨
  (Plc ks dx dy ∧ ¬ (dz = .int 1 ∨ dz = .int (-1)) ∧ nm = "InvalidNumber" ∧ v = z ∧ d = dz) ∨
  (∃ g m b : Int, Plc ks dx dy ∧ dx = .int g ∧ dy = .int m ∧ dz = .int b ∧ (b = 1 ∨ b = -1) ∧ ∃ i : Int, v = .int i ∧ d = .int i ∧
    ((nm = "TooGreat" ∧ ((¬ Rng (g + b) ∧ i = g + b) ∨ (Rng (g + b) ∧ ¬ Rng (m + b) ∧ i = m + b))) ∨
     (nm = "TooMany" ∧ Rng (g + b) ∧ Rng (m + b) ∧ ∃ due, KindsOf (moveF ks g m b) due ∧ manyK due = some i)))
def Good (ks : Kinds) (dx dy dz : PyData) (due : Kinds) : Prop := ∃ g m b : Int, Plc ks dx dy ∧ dx = .int g ∧ dy = .int m ∧ dz = .int b ∧ (b = 1 ∨ b = -1) ∧ Rng (g + b) ∧ Rng (m + b) ∧ KindsOf (moveF ks g m b) due ∧ manyK due = none
def OutA (ks : Kinds) (x : V) (dx : PyData) (y : V) (dy : PyData) (z : V) (dz : PyData) (A : PyData) : Prop :=
  (∃ nm v d, Bad ks x dx y dy z dz nm v d ∧ A = .list [.str nm, .str d.shown]) ∨ (∃ due, Good ks dx dy dz due ∧ A = .list [.str "back", KD due])
theorem Bad.det {nm nm' : Str} {v v' : V} {d d' : PyData} (h : Bad ks x dx y dy z dz nm v d) (h' : Bad ks x dx y dy z dz nm' v' d') : nm = nm' ∧ d = d' := by
  rcases h with ⟨a, e1, _, e2⟩ | ⟨a, b, e1, _, e2⟩ | ⟨p, a, e1, _, e2⟩ | ⟨g, m, b, p, ex, ey, ez, hb, i, _, e2, h⟩
  · rcases h' with ⟨a', e1', _, e2'⟩ | ⟨a', _⟩ | ⟨p', _⟩ | ⟨_, _, _, p', _⟩
    · exact ⟨e1.trans e1'.symm, e2.trans e2'.symm⟩
    · exact absurd a a'
    · exact absurd a p'.1
    · exact absurd a p'.1
  · have np : ¬ Plc ks dx dy := fun p => b.elim (fun w => p.2.1 w) (fun w => p.2.2 w)
    rcases h' with ⟨a', _⟩ | ⟨_, _, e1', _, e2'⟩ | ⟨p', _⟩ | ⟨_, _, _, p', _⟩
    · exact absurd a' a
    · exact ⟨e1.trans e1'.symm, e2.trans e2'.symm⟩
    · exact absurd p' np
    · exact absurd p' np
  · rcases h' with ⟨a', _⟩ | ⟨_, b', _⟩ | ⟨_, _, e1', _, e2'⟩ | ⟨_, _, _, _, _, _, e', hb', _⟩
    · exact absurd a' p.1
    · exact absurd b' (fun w => w.elim p.2.1 p.2.2)
    · exact ⟨e1.trans e1'.symm, e2.trans e2'.symm⟩
    · exact absurd (hb'.elim (fun w => .inl (by rw [e', w])) (fun w => .inr (by rw [e', w]))) a
  · rcases h' with ⟨a', _⟩ | ⟨_, b', _⟩ | ⟨_, a', _⟩ | ⟨g', m', b', _, ex', ey', ez', _, i', _, e2', h'⟩
    · exact absurd a' p.1
    · exact absurd b' (fun w => w.elim p.2.1 p.2.2)
    · exact absurd (hb.elim (fun w => .inl (by rw [ez, w])) (fun w => .inr (by rw [ez, w]))) a'
    · cases PyData.int.inj (ex.symm.trans ex')
      cases PyData.int.inj (ey.symm.trans ey')
      cases PyData.int.inj (ez.symm.trans ez')
      have done : nm = nm' → i = i' → nm = nm' ∧ d = d' := fun a b => ⟨a, by rw [e2, e2', b]⟩
      rcases h with ⟨f1, h⟩ | ⟨f1, r1, r2, due, kd, md⟩
      · rcases h' with ⟨f1', h'⟩ | ⟨f1', r1', r2', _⟩
        · rcases h with ⟨a1, f2⟩ | ⟨a1, a2, f2⟩
          · rcases h' with ⟨_, f2'⟩ | ⟨c1, _⟩
            · exact done (f1.trans f1'.symm) (f2.trans f2'.symm)
            · exact absurd c1 a1
          · rcases h' with ⟨c1, _⟩ | ⟨_, _, f2'⟩
            · exact absurd a1 c1
            · exact done (f1.trans f1'.symm) (f2.trans f2'.symm)
        · rcases h with ⟨a1, _⟩ | ⟨a1, a2, _⟩
          · exact absurd r1' a1
          · exact absurd r2' a2
      · rcases h' with ⟨_, h'⟩ | ⟨f1', _, _, due', kd', md'⟩
        · rcases h' with ⟨a1, _⟩ | ⟨_, a2, _⟩
          · exact absurd r1 a1
          · exact absurd r2 a2
        · have e := kd.one kd'
          subst e
          rw [md] at md'
          exact done (f1.trans f1'.symm) (Option.some.inj md')
theorem Bad.good {nm : Str} {v : V} {d : PyData} {due : Kinds} (h : Bad ks x dx y dy z dz nm v d) (h' : Good ks dx dy dz due) : False := by
  obtain ⟨g', m', b', p', ex', ey', ez', hb', r1', r2', kd', md'⟩ := h'
  rcases h with ⟨a, _⟩ | ⟨_, b, _⟩ | ⟨_, a, _⟩ | ⟨g, m, b, p, ex, ey, ez, hb, i, _, _, h⟩
  · exact p'.1 a
  · exact b.elim p'.2.1 p'.2.2
  · exact a (hb'.elim (fun w => .inl (by rw [ez', w])) (fun w => .inr (by rw [ez', w])))
  · cases PyData.int.inj (ex.symm.trans ex')
    cases PyData.int.inj (ey.symm.trans ey')
    cases PyData.int.inj (ez.symm.trans ez')
    rcases h with ⟨_, ⟨a1, _⟩ | ⟨_, a2, _⟩⟩ | ⟨_, _, _, due', kd, md⟩
    · exact a1 r1'
    · exact a2 r2'
    · have e := kd.one kd'
      subst e
      rw [md'] at md
      cases md
theorem Good.det {due due' : Kinds} (h : Good ks dx dy dz due) (h' : Good ks dx dy dz due') : due = due' := by
  obtain ⟨g, m, b, _, ex, ey, ez, _, _, _, kd, _⟩ := h
  obtain ⟨g', m', b', _, ex', ey', ez', _, _, _, kd', _⟩ := h'
  cases PyData.int.inj (ex.symm.trans ex')
  cases PyData.int.inj (ey.symm.trans ey')
  cases PyData.int.inj (ez.symm.trans ez')
  exact kd.one kd'
theorem OutA.det {A B : PyData} (h : OutA ks x dx y dy z dz A) (h' : OutA ks x dx y dy z dz B) : A = B := by
  rcases h with ⟨nm, v, d, h, rfl⟩ | ⟨due, h, rfl⟩
  · rcases h' with ⟨nm', v', d', h', rfl⟩ | ⟨due', h', rfl⟩
    · obtain ⟨rfl, rfl⟩ := h.det h'
      rfl
    · exact (h.good h').elim
  · rcases h' with ⟨nm', v', d', h', rfl⟩ | ⟨due', h', rfl⟩
    · exact (h'.good h).elim
    · rw [h.det h']
theorem numS_len2 {i : Int} (h0 : 0 ≤ i) (h1 : i < 100000000000000000000000000000000) : (numS i).length ≤ 32 := by
  rw [TL.len_tl, tl_numS h0]
  exact TL.numL_len (k := 32) (by decide) (by omega)
theorem showy_num {i : Int} (h0 : -1 ≤ i) (h1 : i < 100000000000000000000000000000000) : Showy (.int i) := by
  by_cases e : i = -1
  · rw [e]
    exact showy_dec (by decide) (by decide) (by decide +kernel) (by decide +kernel)
  · have h0' : 0 ≤ i := by omega
    exact ⟨decide_eq_true (log_small h0' (by omega)), by show (0 : Nat) ≤ 60; decide, Nat.le_trans (numS_len2 h0' h1) (by decide), (okd_str (x := numS i) (b := 32) (fun c hc => by have := numS_mem h0' c hc; omega) (numS_len2 h0' h1) (by decide)).mono (Nat.le_refl _) (by decide)⟩
theorem key_rng (ok : OkK ks) {g : Int} (h : countD ks (.int g) ≠ 0) : 0 ≤ g ∧ g ≤ 10000000000000000000000000000000 := by
  obtain ⟨k, hk, e⟩ := List.mem_map.mp (val_key (show val ks g ≠ 0 from h))
  have := ok.2.2.all k hk
  rw [← e]
  exact ⟨this.1, this.2.1⟩
theorem moveF_le (ok : OkK ks) (g m b x : Int) : moveF ks g m b x ≤ 1000000000000000000000000000010 := by
  have : val ks x ≤ 1000000000000000000000000000000 := (countD_le ok (.int x)).2
  unfold moveF one1
  split <;> split <;> split <;> split <;> omega
theorem moved_few (ok : OkK ks) {g m b : Int} {due : Kinds} (kd : KindsOf (moveF ks g m b) due) : due.length ≤ 14 := by
  have z := kinds_few (ps := moved ks g m b) (ks := due) (kd.congr (funext fun d => (sumOf_moved ok.nodup g m b d).symm))
  have ten := ok.2.1
  unfold moved at z
  rw [List.length_append] at z
  exact Nat.le_trans z (by simp; omega)
theorem many_rng (ok : OkK ks) {g m b n : Int} {due : Kinds} (kd : KindsOf (moveF ks g m b) due) (h : manyK due = some n) : 0 ≤ n ∧ n < 100000000000000000000000000000000 := by
  have l := moved_few ok kd
  unfold manyK at h
  by_cases c : 10 < due.length
  · rw [if_pos c] at h
    have := Option.some.inj h
    omega
  · rw [if_neg c] at h
    obtain ⟨k, hk, e⟩ := List.mem_map.mp (List.mem_of_find?_eq_some h)
    have z := (kd.2 k.1 k.2).mp hk
    have y := moveF_le ok g m b k.1
    omega
theorem Bad.held (ok : OkK ks) (hx : Dx K H x dx) (hy : Dx K H y dy) (hz : Dx K H z dz) (sx : Showy dx) (sy : Showy dy) (sz : Showy dz) {nm : Str} {v : V} {d : PyData} (h : Bad ks x dx y dy z dz nm v d) : Dx K H v d ∧ Showy d := by
  rcases h with ⟨_, _, rfl, rfl⟩ | ⟨_, _, _, rfl, rfl⟩ | ⟨_, _, _, rfl, rfl⟩ | ⟨g, m, b, p, rfl, rfl, _, hb, i, rfl, rfl, h⟩
  · exact ⟨hx, sx⟩
  · exact ⟨hy, sy⟩
  · exact ⟨hz, sz⟩
  · refine ⟨.dp (.int _) rfl, ?_⟩
    have r1 := key_rng ok p.1
    have r2 := key_rng ok p.2.1
    rcases h with ⟨_, ⟨_, rfl⟩ | ⟨_, _, rfl⟩⟩ | ⟨_, _, _, due, kd, md⟩
    · exact showy_num (by omega) (by omega)
    · exact showy_num (by omega) (by omega)
    · have := many_rng ok kd md
      exact showy_num (by omega) this.2
theorem moved_ok (ok : OkK ks) {g m b : Int} {due : Kinds} (p : Plc ks (.int g) (.int m)) (hb : b = 1 ∨ b = -1) (r1 : Rng (g + b)) (r2 : Rng (m + b)) (kd : KindsOf (moveF ks g m b) due) (md : manyK due = none) : OkK due := by
  obtain ⟨ten, all⟩ := many_none md
  have nn : ∀ i, 0 ≤ val ks i := fun i => (countD_le ok (.int i)).1
  have h1 : val ks g ≠ 0 := p.1
  have h2 : val ks m ≠ 0 := p.2.1
  have n1 := nn g
  have n2 := nn m
  have n3 := nn (g + b)
  have g1 : 0 < moveF ks g m b (g + b) := by
    unfold moveF one1
    rw [if_neg (show ¬ g + b = g by omega), if_pos rfl]
    by_cases z : g + b = m
    · rw [if_pos z, z]
      split <;> omega
    · rw [if_neg z]
      split <;> omega
  refine okK_of kd.1 (fun k hk => ?_) ten (fun z => by
    have y := (kd.2 (g + b) _).mpr ⟨rfl, g1⟩
    rw [z] at y
    cases y)
  have z := (kd.2 k.1 k.2).mp hk
  have y := all k hk
  have w : 0 ≤ k.1 ∧ k.1 ≤ 10000000000000000000000000000000 := by
    by_cases y : val ks k.1 = 0
    · have z' : 0 < moveF ks g m b k.1 := by omega
      unfold moveF one1 at z'
      by_cases y1 : k.1 = g + b
      · rw [y1]; exact r1
      · by_cases y2 : k.1 = m + b
        · rw [y2]; exact r2
        · rw [if_neg y1, if_neg y2] at z'
          split at z' <;> split at z' <;> omega
    · exact key_rng (g := k.1) ok y
  omega
theorem Good.ok (ok : OkK ks) {due : Kinds} (h : Good ks dx dy dz due) : OkK due := by
  obtain ⟨g, m, b, p, rfl, rfl, rfl, hb, r1, r2, kd, md⟩ := h
  exact moved_ok ok p hb r1 r2 kd md
theorem OutA.okd (ok : OkK ks) (hx : Dx K H x dx) (hy : Dx K H y dy) (hz : Dx K H z dz) (sx : Showy dx) (sy : Showy dy) (sz : Showy dz) {A : PyData} (h : OutA ks x dx y dy z dz A) : Okd A 3 1200 := by
  have name : ∀ {nm : Str} {v : V} {d : PyData}, Bad ks x dx y dy z dz nm v d → Okd (.str nm) 0 100 := fun {nm v d} h => by
    rcases h with ⟨_, rfl, _⟩ | ⟨_, _, rfl, _⟩ | ⟨_, _, rfl, _⟩ | ⟨g, m, b, _, _, _, _, _, i, _, _, ⟨rfl, _⟩ | ⟨rfl, _⟩⟩ <;> exact okd_str (by decide +kernel) (by decide +kernel) (by decide)
  rcases h with ⟨nm, v, d, h, rfl⟩ | ⟨due, h, rfl⟩
  · exact (Okd.lst (.cons (name h) (.cons ((Bad.held ok hx hy hz sx sy sz h).2.ok) .nil))).mono (by decide) (by decide)
  · exact (Okd.lst (.cons ((okd_str (x := "back") (b := 100) (by decide +kernel) (by decide +kernel) (by decide)).mono (by decide) (Nat.le_refl _)) (.cons ((okd_KD (h.ok ok)).mono (Nat.le_refl _) (Nat.le_refl _)) .nil))).mono (Nat.le_refl _) (by decide)
end
/-- an answer: a list of a text and of something frozen -/
def LstA (H : Hp) (l : Addr) (A : PyData) : Prop := ∃ (sa : Str) (v2 : V) (d2 : PyData), H l = some (.lst [.str sa, v2]) ∧ Fz H v2 d2 ∧ A = .list [.str sa, d2]
theorem LstA.dp {K : PySem.W.Frag} {H : Hp} {l : Addr} {A : PyData} (h : LstA H l A) : Dp K H (.ref l) A := by
  obtain ⟨sa, v2, d2, h, f, rfl⟩ := h
  exact .lst (.of h) (.cons (.str _) (.cons f.dp .nil))
theorem LstA.same {H H' : Hp} {l : Addr} {A : PyData} (e : Same H H') (h : LstA H l A) : LstA H' l A := by
  obtain ⟨sa, v2, d2, h, f, rfl⟩ := h
  exact ⟨sa, v2, d2, e _ _ h, f.same e, rfl⟩
theorem LstA.extN {H H' : Hp} {l : Addr} {A : PyData} (e : LamX.ExtN H H') (h : LstA H l A) : LstA H' l A := by
  obtain ⟨sa, v2, d2, h, f, rfl⟩ := h
  exact ⟨sa, v2, d2, e _ _ h NoTbl.lst, f.kp (Kp.ext e), rfl⟩
theorem LstA.but {H H' : Hp} {l g : Addr} {xs : List V} {A : PyData} (e : But g H H') (hg : H g = some (.lst xs)) (n : l ≠ g) (h : LstA H l A) : LstA H' l A := by
  obtain ⟨sa, v2, d2, h, f, rfl⟩ := h
  exact ⟨sa, v2, d2, e _ _ n h, f.kp (Kp.butL e hg), rfl⟩
theorem LstA.some {H : Hp} {l : Addr} {A : PyData} (h : LstA H l A) : ∃ o, H l = some o := let ⟨_, _, _, h, _⟩ := h; ⟨_, h⟩
theorem at_last {α : Type} {xs : List α} (h : xs ≠ []) : ∃ v, v ∈ xs ∧ atI xs (-1) = some v := by
  have l : 0 < xs.length := List.length_pos_iff.mpr h
  have l1 : xs.length - 1 < xs.length := by omega
  refine ⟨xs[xs.length - 1], List.getElem_mem l1, ?_⟩
  unfold atI ixN
  rw [if_neg (by decide), if_pos (by omega)]
  show xs[((-1 : Int) + (xs.length : Int)).toNat]? = _
  rw [show ((-1 : Int) + (xs.length : Int)).toNat = xs.length - 1 by omega]
  exact List.getElem?_eq_getElem l1
theorem showy_text {i : Int} (h0 : 0 ≤ i) (h1 : i ≤ 10000000000000000000000000000000) : Showy (.str (numS i)) := by
  have o := okd_repr_str (x := numS i) (b := 32) (fun c hc => by have := numS_mem h0 c hc; omega) (numS_len h0 h1) (by decide)
  have l := o.bk
  exact ⟨rfl, by show (0 : Nat) ≤ 60; decide, Nat.le_trans l (by decide), o.mono (Nat.le_refl _) (by decide)⟩
end Dg

namespace Dg
open PySem PySem.Spec PyProof.Rows L2 L2H LamX
/-! ### data with dicts anywhere -/
mutual
inductive Dn (K : PySem.W.Frag) (H : Hp) : V → PyData → Prop
  | non : Dn K H .non .none
  | bl (b : Bool) : Dn K H (.bl b) (.bool b)
  | int (i : Int) : Dn K H (.int i) (.int i)
  | str (x : Str) : Dn K H (.str x) (.str x)
  | lst {a : Addr} {xs : List V} {ds : List PyData} : SqL K H a xs → DnAll K H xs ds → Dn K H (.ref a) (.list ds)
  | tup {a : Addr} {xs : List V} {ds : List PyData} : SqT K H a xs → DnAll K H xs ds → Dn K H (.ref a) (.tuple ds)
  | dict {a : Addr} {kvs : List (Key × V)} (h : H a = some (.dK kvs)) (l : List (PyData × PyData)) : Dn K H (.ref a) (.dict l)
inductive DnAll (K : PySem.W.Frag) (H : Hp) : List V → List PyData → Prop
  | nil : DnAll K H [] []
  | cons {v : V} {vs : List V} {d : PyData} {ds : List PyData} : Dn K H v d → DnAll K H vs ds → DnAll K H (v :: vs) (d :: ds)
end
theorem Dn.ty {K : PySem.W.Frag} {H : Hp} {x : V} {d : PyData} (h : Dn K H x d) : TyX K H x (.type (tyD d)) := by
  cases h with
  | dict h l => exact .base (.dK h)
  | non => exact .base .non
  | bl b => exact .base (.bl b)
  | int i => exact .base (.int i)
  | str z => exact .base (.str z)
  | lst hs _ =>
    rcases hs with (h | ⟨o, h⟩) | ⟨o, its, n, h, hc, _⟩
    · exact .base (.lst h)
    · exact .base (.frz h)
    · exact .kList h hc
  | tup hs _ =>
    rcases hs with (h | ⟨o, h⟩) | ⟨o, its, n, h, hc, _⟩
    · exact .base (.tup h)
    · exact .fTuple h
    · exact .kTuple h hc
theorem Dn.int_inv {K : PySem.W.Frag} {H : Hp} {x : V} {i : Int} (h : Dn K H x (.int i)) : x = .int i := by
  cases h; rfl
theorem Dn.tup_inv {K : PySem.W.Frag} {H : Hp} {x : V} {ds : List PyData} (h : Dn K H x (.tuple ds)) : ∃ a xs, x = .ref a ∧ SqT K H a xs ∧ DnAll K H xs ds := by
  cases h with | tup h1 h2 => exact ⟨_, _, rfl, h1, h2⟩
theorem Dn.isT {K : PySem.W.Frag} {H : Hp} {x : V} {d : PyData} (h : Dn K H x d) (t : Dg.isT d = true) : ∃ a xs ds, x = .ref a ∧ d = .tuple ds ∧ SqT K H a xs ∧ DnAll K H xs ds := by
  cases d <;> simp [Dg.isT] at t
  obtain ⟨a, xs, h1, h2, h3⟩ := h.tup_inv
  exact ⟨a, xs, _, h1, rfl, h2, h3⟩
theorem DnAll.len {K : PySem.W.Frag} {H : Hp} : ∀ {xs : List V} {ds : List PyData}, DnAll K H xs ds → xs.length = ds.length
  | _, _, .nil => rfl
  | _, _, .cons _ t => congrArg Nat.succ (DnAll.len t)
theorem DnAll.at {K : PySem.W.Frag} {H : Hp} : ∀ {xs : List V} {ds : List PyData} {i : Nat} {v : V}, DnAll K H xs ds → xs[i]? = some v → ∃ d, ds[i]? = some d ∧ Dn K H v d
  | _, _, _, _, .nil, h => by simp at h
  | _, _, 0, _, .cons h _, e => by
    simp at e
    subst e
    exact ⟨_, rfl, h⟩
  | _, _, i + 1, v, .cons _ t, e => by
    have e' := e
    simp at e'
    obtain ⟨d, h1, h2⟩ := DnAll.at t e'
    exact ⟨d, by simpa using h1, h2⟩
theorem DnAll.take {K : PySem.W.Frag} {H : Hp} : ∀ (n : Nat) {xs : List V} {ds : List PyData}, DnAll K H xs ds → DnAll K H (xs.take n) (ds.take n)
  | 0, _, _, _ => .nil
  | _ + 1, _, _, .nil => .nil
  | n + 1, _, _, .cons h t => .cons h (DnAll.take n t)
theorem DnAll.drop {K : PySem.W.Frag} {H : Hp} : ∀ (n : Nat) {xs : List V} {ds : List PyData}, DnAll K H xs ds → DnAll K H (xs.drop n) (ds.drop n)
  | 0, _, _, h => h
  | _ + 1, _, _, .nil => .nil
  | n + 1, _, _, .cons _ t => DnAll.drop n t
theorem DnAll.app {K : PySem.W.Frag} {H : Hp} : ∀ {xs ys : List V} {ds es : List PyData}, DnAll K H xs ds → DnAll K H ys es → DnAll K H (xs ++ ys) (ds ++ es)
  | _, _, _, _, .nil, h => h
  | _, _, _, _, .cons h t, h' => .cons h (DnAll.app t h')
theorem DnAll.rev {K : PySem.W.Frag} {H : Hp} : ∀ {xs : List V} {ds : List PyData}, DnAll K H xs ds → DnAll K H xs.reverse ds.reverse
  | _, _, .nil => .nil
  | _, _, .cons h t => by
    rw [List.reverse_cons, List.reverse_cons]
    exact DnAll.app (DnAll.rev t) (.cons h .nil)
mutual
theorem Dn.same {K : PySem.W.Frag} {H H' : Hp} (e : Same H H') : ∀ {d : PyData} {v : V}, Dn K H v d → Dn K H' v d
  | _, _, .non => .non
  | _, _, .bl b => .bl b
  | _, _, .int i => .int i
  | _, _, .str x => .str x
  | _, _, .lst h hs => .lst (L2.SqL.ext h e) (DnAll.same e hs)
  | _, _, .tup h hs => .tup (L2.SqT.ext h e) (DnAll.same e hs)
  | _, _, .dict h l => .dict (e _ _ h) l
theorem DnAll.same {K : PySem.W.Frag} {H H' : Hp} (e : Same H H') : ∀ {ds : List PyData} {vs : List V}, DnAll K H vs ds → DnAll K H' vs ds
  | _, _, .nil => .nil
  | _, _, .cons h t => .cons (Dn.same e h) (DnAll.same e t)
end
mutual
theorem Dn.extN {K : PySem.W.Frag} {H H' : Hp} (e : ExtN H H') : ∀ {d : PyData} {v : V}, Dn K H v d → Dn K H' v d
  | _, _, .non => .non
  | _, _, .bl b => .bl b
  | _, _, .int i => .int i
  | _, _, .str x => .str x
  | _, _, .lst h hs => .lst (Dg.SqL.extN h e) (DnAll.extN e hs)
  | _, _, .tup h hs => .tup (Dg.SqT.extN h e) (DnAll.extN e hs)
  | _, _, .dict h l => .dict (e _ _ h NoTbl.dK) l
theorem DnAll.extN {K : PySem.W.Frag} {H H' : Hp} (e : ExtN H H') : ∀ {ds : List PyData} {vs : List V}, DnAll K H vs ds → DnAll K H' vs ds
  | _, _, .nil => .nil
  | _, _, .cons h t => .cons (Dn.extN e h) (DnAll.extN e t)
end
mutual
theorem Dn.of {K : PySem.W.Frag} {H : Hp} : ∀ {d : PyData} {v : V}, Dp K H v d → Dn K H v d
  | _, _, .non => .non
  | _, _, .bl b => .bl b
  | _, _, .int i => .int i
  | _, _, .str x => .str x
  | _, _, .lst h hs => .lst h (DnAll.of hs)
  | _, _, .tup h hs => .tup h (DnAll.of hs)
theorem DnAll.of {K : PySem.W.Frag} {H : Hp} : ∀ {ds : List PyData} {vs : List V}, DpAll K H vs ds → DnAll K H vs ds
  | _, _, .nil => .nil
  | _, _, .cons h t => .cons (Dn.of h) (DnAll.of t)
end
theorem Dx.dn {K : PySem.W.Frag} {H : Hp} {d : PyData} {v : V} (h : Dx K H v d) : Dn K H v d := by
  cases h with
  | dp h _ => exact .of h
  | d0 h => exact .dict h _
  | d1 h => exact .dict h _
theorem r_isiN {K : PySem.W.Frag} {H : Hp} {Q : VK} {x : V} {d : PyData} {U : String} {b : Bool} (h : Dn K H x d) (e : kitB (tyD d) U = some b) (q : Q (.bl b) H) : rIsiA K [x, .ty U] H Q := r_isi h.ty e q
/-! ### where only what is bad is written -/
def HeldN (K : PySem.W.Frag) (bad : Addr → Prop) (H : Hp) (x : V) (d : PyData) : Prop := ∀ H', Keeps bad H H' → Dn K H' x d
def HeldNs (K : PySem.W.Frag) (bad : Addr → Prop) (H : Hp) (xs : List V) (ds : List PyData) : Prop := ∀ H', Keeps bad H H' → DnAll K H' xs ds
section
variable {K : PySem.W.Frag} {bad : Addr → Prop} {H H1 : Hp} {x : V} {xs ys : List V} {d : PyData} {ds es : List PyData}
theorem HeldN.keep (h : HeldN K bad H x d) (k : Keeps bad H H1) : HeldN K bad H1 x d := fun H' k' => h H' (k.trans k')
theorem HeldNs.keep (h : HeldNs K bad H xs ds) (k : Keeps bad H H1) : HeldNs K bad H1 xs ds := fun H' k' => h H' (k.trans k')
theorem HeldN.now (h : HeldN K bad H x d) : Dn K H x d := h H fun _ _ _ e => e
theorem HeldX.n (h : HeldX K bad H x d) : HeldN K bad H x d := fun H' k => (h H' k).dn
theorem HeldNs.take (n : Nat) (h : HeldNs K bad H xs ds) : HeldNs K bad H (xs.take n) (ds.take n) := fun H' k => (h H' k).take n
theorem HeldNs.drop (n : Nat) (h : HeldNs K bad H xs ds) : HeldNs K bad H (xs.drop n) (ds.drop n) := fun H' k => (h H' k).drop n
theorem HeldNs.app (h : HeldNs K bad H xs ds) (h' : HeldNs K bad H ys es) : HeldNs K bad H (xs ++ ys) (ds ++ es) := fun H' k => (h H' k).app (h' H' k)
theorem HeldNs.rev (h : HeldNs K bad H xs ds) : HeldNs K bad H xs.reverse ds.reverse := fun H' k => (h H' k).rev
theorem HeldNs.one (h : HeldN K bad H x d) : HeldNs K bad H [x] [d] := fun H' k => .cons (h H' k) .nil
theorem HeldN.int (i : Int) : HeldN K bad H (.int i) (.int i) := fun _ _ => .int i
theorem HeldN.tup {a : Addr} (h : H a = some (.tup xs)) (n : ¬ bad a) (t : HeldNs K bad H xs ds) : HeldN K bad H (.ref a) (.tuple ds) := fun H' k => .tup (.of (k _ _ n h)) (t H' k)
theorem HeldN.lst {a : Addr} (h : H a = some (.lst xs)) (n : ¬ bad a) (t : HeldNs K bad H xs ds) : HeldN K bad H (.ref a) (.list ds) := fun H' k => .lst (.of (k _ _ n h)) (t H' k)
theorem Dn.lists {a : Addr} (h : Dn K H (.ref a) (.tuple ds)) : ∃ xs, SqT K H a xs ∧ DnAll K H xs ds := by
  cases h with | tup h1 h2 => exact ⟨_, h1, h2⟩
end
/-! ### how deep, how wide -/
def Fit : Nat → Nat → PyData → Prop
  | 0, _, d => match d with
    | .tuple _ => False
    | .list _ => False
    | _ => True
  | n + 1, w, d => match d with
    | .tuple ds => ds.length ≤ w ∧ ∀ e ∈ ds, Fit n w e
    | .list ds => ds.length ≤ w ∧ ∀ e ∈ ds, Fit n w e
    | _ => True
theorem Fit.mono : ∀ {n m w u : Nat} {d : PyData}, Fit n w d → n ≤ m → w ≤ u → Fit m u d
  | 0, 0, _, _, d, h, _, _ => by cases d <;> exact h
  | 0, _ + 1, _, _, d, h, _, _ => by cases d <;> first | exact h.elim | exact True.intro
  | n + 1, 0, _, _, _, _, l, _ => by omega
  | n + 1, m + 1, w, u, d, h, l, lw => by
    cases d <;> first | exact True.intro | exact ⟨Nat.le_trans h.1 lw, fun e he => Fit.mono (h.2 e he) (by omega) lw⟩
/-! ### a tuple beside the empty one -/
def rEq0 (K : PySem.W.Frag) : R2 := fun x y H Q => ∃ a b xs, x = .ref a ∧ y = .ref b ∧ SqT K H a xs ∧ SqT K H b [] ∧ Q (.bl (decide (xs = []))) H
def rNe0 (K : PySem.W.Frag) : R2 := fun x y H Q => ∃ a b xs, x = .ref a ∧ y = .ref b ∧ SqT K H a xs ∧ SqT K H b [] ∧ Q (.bl (!decide (xs = []))) H
section
variable {X : Cx}
theorem op_eq0 (hu : X.A.units + 64 < cLine) : OpR X (compareOp .Eq) (rEq0 X.K) := by
  intro pins s σ H x y v u Q I rx ry h
  obtain ⟨a, b, xs, rfl, rfl, ha, hb, q⟩ := h
  cases rx
  cases ry
  obtain ⟨its, r1, p1, _⟩ := I.tuple ha
  obtain ⟨its2, r2, p2, _⟩ := I.tuple hb
  cases r2
  have e : ((List.range (min its.toArray.size ([] : List Value).toArray.size)).all (fun _ => true) && its.toArray.size == ([] : List Value).toArray.size) = decide (xs = []) := by
    cases r1 <;> simp
  have z := SeqAt.RcAt.tuples (A := X.A) (s := s) (e := fun _ => true) p1 p2 (by omega) (fun j h1 h2 => absurd h2 (by simp))
  rw [e] at z
  exact z X.prog X.w X.xe _ ⟨.bl _, H, I, rfl, q⟩
theorem op_ne0 (hu : X.A.units + 64 < cLine) : OpR X (compareOp .NotEq) (rNe0 X.K) := by
  intro pins s σ H x y v u Q I rx ry h
  obtain ⟨a, b, xs, rfl, rfl, ha, hb, q⟩ := h
  cases rx
  cases ry
  obtain ⟨its, r1, p1, _⟩ := I.tuple ha
  obtain ⟨its2, r2, p2, _⟩ := I.tuple hb
  cases r2
  have e : ((List.range (min its.toArray.size ([] : List Value).toArray.size)).all (fun _ => true) && its.toArray.size == ([] : List Value).toArray.size) = decide (xs = []) := by
    cases r1 <;> simp
  have z := SeqAt.RcNeAt.tuples (A := X.A) (s := s) (e := fun _ => true) p1 p2 (by omega) (fun j h1 h2 => absurd h2 (by simp))
  rw [e] at z
  exact z X.prog X.w X.xe _ ⟨.bl _, H, I, rfl, q⟩
def rEqN (K : PySem.W.Frag) : R2 := fun x y H Q => rEqA K x y H Q ∨ rEq0 K x y H Q
def rNeN (K : PySem.W.Frag) : R2 := fun x y H Q => rNeA K x y H Q ∨ rNe0 K x y H Q
theorem opEqN {K : PySem.W.Frag} {k : Nat} (hr : Room k X.A) (h : X.K = K) : OpR X (compareOp .Eq) (rEqN K) := h ▸ (opEq hr).or (op_eq0 hr.units)
theorem opNeN {K : PySem.W.Frag} {k : Nat} (hr : Room k X.A) (h : X.K = K) : OpR X (compareOp .NotEq) (rNeN K) := h ▸ (opNe hr).or (op_ne0 hr.units)
end
theorem r_eqN {K : PySem.W.Frag} {H : Hp} {Q : VK} {x y : V} (h : rEqA K x y H Q) : rEqN K x y H Q := .inl h
theorem r_neN {K : PySem.W.Frag} {H : Hp} {Q : VK} {x y : V} (h : rNeA K x y H Q) : rNeN K x y H Q := .inl h
theorem r_eq0 {K : PySem.W.Frag} {H : Hp} {Q : VK} {a b : Addr} {xs : List V} (ha : SqT K H a xs) (hb : SqT K H b []) (q : Q (.bl (decide (xs = []))) H) : rEqN K (.ref a) (.ref b) H Q := .inr ⟨a, b, xs, rfl, rfl, ha, hb, q⟩
theorem r_ne0 {K : PySem.W.Frag} {H : Hp} {Q : VK} {a b : Addr} {xs : List V} (ha : SqT K H a xs) (hb : SqT K H b []) (q : Q (.bl (!decide (xs = []))) H) : rNeN K (.ref a) (.ref b) H Q := .inr ⟨a, b, xs, rfl, rfl, ha, hb, q⟩

theorem r_eqIN {K : PySem.W.Frag} {H : Hp} {Q : VK} {i j : Int} (h : Q (.bl (decide (i = j))) H) : rEqN K (.int i) (.int j) H Q := .inl (r_eqI h)
end Dg

namespace Dg
open PySem PySem.Spec PyProof.Rows L2 L2H LamX
/-! ### data whose own objects are none of the bad ones -/
mutual
inductive Dh (K : PySem.W.Frag) (bad : Addr → Prop) (H : Hp) : V → PyData → Prop
  | non : Dh K bad H .non .none
  | bl (b : Bool) : Dh K bad H (.bl b) (.bool b)
  | int (i : Int) : Dh K bad H (.int i) (.int i)
  | str (x : Str) : Dh K bad H (.str x) (.str x)
  | lst {a : Addr} {xs : List V} {ds : List PyData} : SqL K H a xs → ¬ bad a → DhAll K bad H xs ds → Dh K bad H (.ref a) (.list ds)
  | tup {a : Addr} {xs : List V} {ds : List PyData} : SqT K H a xs → ¬ bad a → DhAll K bad H xs ds → Dh K bad H (.ref a) (.tuple ds)
  | dict {a : Addr} {kvs : List (Key × V)} (h : H a = some (.dK kvs)) (n : ¬ bad a) (l : List (PyData × PyData)) : Dh K bad H (.ref a) (.dict l)
inductive DhAll (K : PySem.W.Frag) (bad : Addr → Prop) (H : Hp) : List V → List PyData → Prop
  | nil : DhAll K bad H [] []
  | cons {v : V} {vs : List V} {d : PyData} {ds : List PyData} : Dh K bad H v d → DhAll K bad H vs ds → DhAll K bad H (v :: vs) (d :: ds)
end
section
variable {K : PySem.W.Frag} {bad bad' : Addr → Prop} {H H' : Hp}
theorem SqL.keep {s : Addr} {xs : List V} (h : SqL K H s xs) (e : Keeps bad H H') (n : ¬ bad s) : SqL K H' s xs := by
  rcases h with (h | ⟨o, h⟩) | h
  · exact .inl (.inl (e _ _ n h))
  · exact .inl (.inr ⟨o, e _ _ n h⟩)
  · exact .inr h
theorem SqT.keep {s : Addr} {xs : List V} (h : SqT K H s xs) (e : Keeps bad H H') (n : ¬ bad s) : SqT K H' s xs := by
  rcases h with (h | ⟨o, h⟩) | h
  · exact .inl (.inl (e _ _ n h))
  · exact .inl (.inr ⟨o, e _ _ n h⟩)
  · exact .inr h
mutual
theorem Dh.keep (e : Keeps bad H H') : ∀ {d : PyData} {v : V}, Dh K bad H v d → Dh K bad H' v d
  | _, _, .non => .non
  | _, _, .bl b => .bl b
  | _, _, .int i => .int i
  | _, _, .str x => .str x
  | _, _, .lst h n hs => .lst (Dg.SqL.keep h e n) n (DhAll.keep e hs)
  | _, _, .tup h n hs => .tup (Dg.SqT.keep h e n) n (DhAll.keep e hs)
  | _, _, .dict h n l => .dict (e _ _ n h) n l
theorem DhAll.keep (e : Keeps bad H H') : ∀ {ds : List PyData} {vs : List V}, DhAll K bad H vs ds → DhAll K bad H' vs ds
  | _, _, .nil => .nil
  | _, _, .cons h t => .cons (Dh.keep e h) (DhAll.keep e t)
end
mutual
theorem Dh.now : ∀ {d : PyData} {v : V}, Dh K bad H v d → Dn K H v d
  | _, _, .non => .non
  | _, _, .bl b => .bl b
  | _, _, .int i => .int i
  | _, _, .str x => .str x
  | _, _, .lst h n hs => .lst h (DhAll.now hs)
  | _, _, .tup h n hs => .tup h (DhAll.now hs)
  | _, _, .dict h n l => .dict h l
theorem DhAll.now : ∀ {ds : List PyData} {vs : List V}, DhAll K bad H vs ds → DnAll K H vs ds
  | _, _, .nil => .nil
  | _, _, .cons h t => .cons (Dh.now h) (DhAll.now t)
end
mutual
theorem Dh.less (s : ∀ b, bad' b → bad b) : ∀ {d : PyData} {v : V}, Dh K bad H v d → Dh K bad' H v d
  | _, _, .non => .non
  | _, _, .bl b => .bl b
  | _, _, .int i => .int i
  | _, _, .str x => .str x
  | _, _, .lst h n hs => .lst h (fun z => n (s _ z)) (DhAll.less s hs)
  | _, _, .tup h n hs => .tup h (fun z => n (s _ z)) (DhAll.less s hs)
  | _, _, .dict h n l => .dict h (fun z => n (s _ z)) l
theorem DhAll.less (s : ∀ b, bad' b → bad b) : ∀ {ds : List PyData} {vs : List V}, DhAll K bad H vs ds → DhAll K bad' H vs ds
  | _, _, .nil => .nil
  | _, _, .cons h t => .cons (Dh.less s h) (DhAll.less s t)
end
theorem DhAll.len : ∀ {xs : List V} {ds : List PyData}, DhAll K bad H xs ds → xs.length = ds.length
  | _, _, .nil => rfl
  | _, _, .cons _ t => congrArg Nat.succ (DhAll.len t)
theorem DhAll.at : ∀ {xs : List V} {ds : List PyData} {i : Nat} {v : V}, DhAll K bad H xs ds → xs[i]? = some v → ∃ d, ds[i]? = some d ∧ Dh K bad H v d
  | _, _, _, _, .nil, h => by simp at h
  | _, _, 0, _, .cons h _, e => by
    simp at e
    subst e
    exact ⟨_, rfl, h⟩
  | _, _, i + 1, v, .cons _ t, e => by
    have e' := e
    simp at e'
    obtain ⟨d, h1, h2⟩ := DhAll.at t e'
    exact ⟨d, by simpa using h1, h2⟩
theorem DhAll.take : ∀ (n : Nat) {xs : List V} {ds : List PyData}, DhAll K bad H xs ds → DhAll K bad H (xs.take n) (ds.take n)
  | 0, _, _, _ => .nil
  | _ + 1, _, _, .nil => .nil
  | n + 1, _, _, .cons h t => .cons h (DhAll.take n t)
theorem DhAll.drop : ∀ (n : Nat) {xs : List V} {ds : List PyData}, DhAll K bad H xs ds → DhAll K bad H (xs.drop n) (ds.drop n)
  | 0, _, _, h => h
  | _ + 1, _, _, .nil => .nil
  | n + 1, _, _, .cons _ t => DhAll.drop n t
theorem DhAll.app : ∀ {xs ys : List V} {ds es : List PyData}, DhAll K bad H xs ds → DhAll K bad H ys es → DhAll K bad H (xs ++ ys) (ds ++ es)
  | _, _, _, _, .nil, h => h
  | _, _, _, _, .cons h t, h' => .cons h (DhAll.app t h')
theorem DhAll.rev : ∀ {xs : List V} {ds : List PyData}, DhAll K bad H xs ds → DhAll K bad H xs.reverse ds.reverse
  | _, _, .nil => .nil
  | _, _, .cons h t => by
    rw [List.reverse_cons, List.reverse_cons]
    exact DhAll.app (DhAll.rev t) (.cons h .nil)
theorem Dh.tupR {a : Addr} {xs : List V} {ds : List PyData} (h : H a = some (.tup xs)) (n : ¬ bad a) (t : DhAll K bad H xs ds) : Dh K bad H (.ref a) (.tuple ds) := .tup (.of h) n t
theorem Dh.lstR {a : Addr} {xs : List V} {ds : List PyData} (h : H a = some (.lst xs)) (n : ¬ bad a) (t : DhAll K bad H xs ds) : Dh K bad H (.ref a) (.list ds) := .lst (.of h) n t
theorem Dh.isT {x : V} {d : PyData} (h : Dh K bad H x d) (t : Dg.isT d = true) : ∃ a xs ds, x = .ref a ∧ d = .tuple ds ∧ SqT K H a xs ∧ ¬ bad a ∧ DhAll K bad H xs ds := by
  cases h <;> first | exact ⟨_, _, _, rfl, rfl, by assumption, by assumption, by assumption⟩ | (simp [Dg.isT] at t)
def ThingH (K : PySem.W.Frag) (bad : Addr → Prop) (H : Hp) (x : V) : Prop := ∃ d, Dh K bad H x d ∧ Fit 2 2 d
theorem ThingH.keep {x : V} (h : ThingH K bad H x) (k : Keeps bad H H') : ThingH K bad H' x := let ⟨d, z, f⟩ := h; ⟨d, z.keep k, f⟩
theorem ThingH.of {x : V} {d : PyData} (h : Dh K bad H x d) (f : Fit 2 2 d) : ThingH K bad H x := ⟨d, h, f⟩
def AllT (K : PySem.W.Frag) (bad : Addr → Prop) (H : Hp) (xs : List V) : Prop := ∀ v ∈ xs, ThingH K bad H v
theorem AllT.nil : AllT K bad H [] := fun v h => absurd h List.not_mem_nil
theorem AllT.cons {x : V} {xs : List V} (h : ThingH K bad H x) (t : AllT K bad H xs) : AllT K bad H (x :: xs) := fun v hv => by
  rcases List.mem_cons.mp hv with rfl | hv
  · exact h
  · exact t v hv
theorem AllT.app {xs ys : List V} (h : AllT K bad H xs) (t : AllT K bad H ys) : AllT K bad H (xs ++ ys) := fun v hv => by
  rcases List.mem_append.mp hv with hv | hv
  · exact h v hv
  · exact t v hv
theorem Fz.dh (hb : ∀ b o, bad b → H b = some o → ¬ Frozen o) : ∀ {d : PyData} {v : V}, Fz H v d → Dh K bad H v d
  | _, _, .non => .non
  | _, _, .bl b => .bl b
  | _, _, .int i => .int i
  | _, _, .str x => .str x
  | _, _, .tup h hs => .tup (.of h) (fun z => hb _ _ z h True.intro) (go hs)
where
  go : ∀ {ds : List PyData} {vs : List V}, FzAll H vs ds → DhAll K bad H vs ds
  | _, _, .nil => .nil
  | _, _, .cons h t => .cons (Fz.dh hb h) (go t)
end
section
variable {K : PySem.W.Frag} {bad : Addr → Prop} {H : Hp} {Q : VK}
theorem r_slH {a : Addr} {xs : List V} {lo hi : Option Int} (h : SqT K H a xs) (n : ¬ bad a) (pb : ∀ b, bad b → H b ≠ none) (q : ∀ c H', Same H H' → SqT K H' c (cutV xs lo hi) → ¬ bad c → Q (.ref c) H') : slB K (.ref a) lo hi H Q := by
  refine .inr ⟨a, xs, rfl, h, fun e => ?_, fun _ p hp => ?_⟩
  · refine q a H (Same.refl H) ?_ n
    unfold cutV
    rw [e.1, e.2, List.drop_zero, Nat.sub_zero, List.take_length]
    exact h
  · exact q p _ (fun c u e => by rw [upd_ne (ne_of_none e hp)]; exact e) (.of upd_same) (fun z => pb p z hp)
theorem r_catH {a b : Addr} {xs ys : List V} (ha : SqT K H a xs) (hb : SqT K H b ys) (na : ¬ bad a) (nb : ¬ bad b) (pb : ∀ b, bad b → H b ≠ none) (hz : xs.length + ys.length ≤ 100000) (q : ∀ c H', Same H H' → SqT K H' c (xs ++ ys) → ¬ bad c → Q (.ref c) H') : rAddB K (.ref a) (.ref b) H Q := by
  refine .inr ⟨a, b, xs, ys, rfl, rfl, ha, hb, Nat.le_trans hz (by decide), fun e => ?_, fun _ e => ?_, fun _ _ p hp => ?_⟩
  · subst e
    exact q b H (Same.refl H) hb nb
  · subst e
    exact q a H (Same.refl H) (by rw [List.append_nil]; exact ha) na
  · exact q p _ (fun c u e => by rw [upd_ne (ne_of_none e hp)]; exact e) (.of upd_same) (fun z => pb p z hp)
end
theorem cut_mid {xs : List V} {k : Nat} : cutV xs (some (k : Int)) (some ((k : Int) + 1)) = (xs.drop k).take 1 := by
  unfold cutV
  rw [show ((k : Int) + 1) = ((k + 1 : Nat) : Int) by omega, HT.sIx_nat, HT.sIx_nat]
  by_cases l : k + 1 ≤ xs.length
  · have e1 : min k xs.length = k := by omega
    have e2 : min (k + 1) xs.length = k + 1 := by omega
    rw [e1, e2, show k + 1 - k = 1 by omega]
  · have e1 : min k xs.length = xs.length := by omega
    have e2 : min (k + 1) xs.length = xs.length := by omega
    rw [e1, e2, List.drop_of_length_le (by omega : xs.length ≤ k), List.drop_of_length_le (Nat.le_refl _), List.take_nil, List.take_nil]
end Dg

namespace Dg
open PySem PySem.Spec PyProof.Rows L2 L2H LamX
/-! ### degrees that are listed: which are none, by which there are eleven different ones -/
def uniq (ds : List Int) : List Int := ds.foldl (fun s d => if d ∈ s then s else s ++ [d]) []
/-- the index of the first one by which there are eleven different ones -/
def El (ds : List Int) (i : Nat) : Prop := i < ds.length ∧ 10 < (uniq (ds.take (i + 1))).length ∧ ∀ j, j < i → ¬ 10 < (uniq (ds.take (j + 1))).length
def degOk (d : PyData) : Bool := filledD d && (wrongDeg d).isNone
def ExcD (E : XK) (H : Hp) (C : Addr) (v : V) : Prop := ∀ (e : Addr) (H' : Hp), H e = none → Same H H' → H' e = some (.xd [("index", v)]) → E (.ref C) (some e) H'
theorem uniq_go : ∀ (ds s : List Int), (s.Nodup → (ds.foldl (fun s d => if d ∈ s then s else s ++ [d]) s).Nodup) ∧ ∀ x, x ∈ ds.foldl (fun s d => if d ∈ s then s else s ++ [d]) s ↔ x ∈ s ∨ x ∈ ds
  | [], s => ⟨fun h => h, fun x => by simp⟩
  | d :: r, s => by
    obtain ⟨a, b⟩ := uniq_go r (if d ∈ s then s else s ++ [d])
    refine ⟨fun h => a ?_, fun x => ?_⟩
    · by_cases c : d ∈ s
      · rw [if_pos c]; exact h
      · rw [if_neg c]
        rw [List.nodup_append]
        refine ⟨h, by simp, fun y hy z hz => ?_⟩
        rw [List.mem_singleton.mp hz]
        rintro rfl
        exact c hy
    · show x ∈ r.foldl _ _ ↔ _
      rw [b x]
      by_cases c : d ∈ s
      · rw [if_pos c, List.mem_cons]
        constructor
        · rintro (z | z)
          · exact .inl z
          · exact .inr (.inr z)
        · rintro (z | z | z)
          · exact .inl z
          · exact .inl (z ▸ c)
          · exact .inr z
      · rw [if_neg c, List.mem_append, List.mem_singleton, List.mem_cons, or_assoc]
theorem uniq_nodup (ds : List Int) : (uniq ds).Nodup := (uniq_go ds []).1 List.nodup_nil
theorem mem_uniq (ds : List Int) (x : Int) : x ∈ uniq ds ↔ x ∈ ds := by
  exact ((uniq_go ds []).2 x).trans (by simp)
theorem deg_shape : ∀ (ds : List PyData) (i : Nat), i ≤ 1000 → degFrom ds i = none → ∃ ns : List Int, ds = ns.map PyData.int ∧ i + ns.length ≤ 1000 ∧ ∀ q ∈ ns, 0 ≤ q ∧ q ≤ 10000000000000000000000000000000
  | [], i, hi, _ => ⟨[], rfl, hi, fun q h => absurd h List.not_mem_nil⟩
  | d :: r, i, hi, h => by
    have h' : (if i = 1000 ∨ betweenD d 0 10000000000000000000000000000000 = false then some i else degFrom r (i + 1)) = none := h
    by_cases c : i = 1000 ∨ betweenD d 0 10000000000000000000000000000000 = false
    · rw [if_pos c] at h'; cases h'
    · rw [if_neg c] at h'
      have c1 : ¬ i = 1000 := fun z => c (.inl z)
      obtain ⟨ns, rfl, l, b⟩ := deg_shape r (i + 1) (by omega) h'
      have cb : betweenD d 0 10000000000000000000000000000000 = true := by
        cases z : betweenD d 0 10000000000000000000000000000000
        · exact absurd (.inr z) c
        · rfl
      have ⟨g, e⟩ : ∃ g, d = .int g := by
        cases d <;> first | exact ⟨_, rfl⟩ | (simp [betweenD] at cb)
      subst e
      have cb' : (decide (0 ≤ g) && decide (g ≤ 10000000000000000000000000000000)) = true := cb
      rw [Bool.and_eq_true_iff, decide_eq_true_eq, decide_eq_true_eq] at cb'
      refine ⟨g :: ns, rfl, by rw [List.length_cons]; omega, fun q hq => ?_⟩
      rcases List.mem_cons.mp hq with rfl | hq
      · exact cb'
      · exact b q hq
theorem degOk_shape {d : PyData} (h : degOk d = true) : ∃ ds : List Int, d = .tuple (ds.map PyData.int) ∧ ds ≠ [] ∧ ds.length ≤ 1000 ∧ ∀ q ∈ ds, 0 ≤ q ∧ q ≤ 10000000000000000000000000000000 := by
  obtain ⟨a, b⟩ := Bool.and_eq_true_iff.mp (show (filledD d && (wrongDeg d).isNone) = true from h)
  cases d <;> first | (simp [filledD] at a; done) | skip
  rename_i es
  obtain ⟨ns, rfl, l, bb⟩ := deg_shape es 0 (by decide) (Option.isNone_iff_eq_none.mp b)
  refine ⟨ns, rfl, fun z => ?_, by omega, bb⟩
  rw [z] at a
  cases a
theorem DnAll.ints {K : PySem.W.Frag} {H : Hp} : ∀ {ns : List Int} {xs : List V}, DnAll K H xs (ns.map PyData.int) → xs = ns.map V.int
  | [], _, .nil => rfl
  | n :: r, _, .cons h t => by
    cases h
    rw [DnAll.ints t]
    rfl
theorem uniq_snoc (ds : List Int) (d : Int) : uniq (ds ++ [d]) = if d ∈ uniq ds then uniq ds else uniq ds ++ [d] := by
  unfold uniq
  rw [List.foldl_append]
  rfl
end Dg

namespace Dg
open PySem PySem.Spec PyProof.Rows L2 L2H LamX
section
variable {σ : HSt} {H : Hp} {Q : VK} {K : PySem.W.Frag} {ta tb : TE}
/-! ### tuple(range(a, b)) -/
theorem r_tupRg {te : HSt → Hp → (Int → Int → Hp → Prop) → Prop} (h : te σ H fun a b H1 => RgOk a b ∧ New H1 (.tup (rgV a b)) Q) : tTupRg te σ H Q := h
theorem r_rg2 {R : Int → Int → Hp → Prop} (h : ta σ H fun x H1 => tb σ H1 fun y H2 => ∃ i j, x = .int i ∧ y = .int j ∧ R i j H2) : tRg2 ta tb σ H R := h
theorem r_rg1 {R : Int → Int → Hp → Prop} (h : ta σ H fun x H1 => ∃ n, x = .int n ∧ R 0 n H1) : tRg1 ta σ H R := h
theorem rgV_ints (a b : Int) : rgV a b = ((List.range (b - a).toNat).map fun (i : Nat) => a + (i : Int)).map V.int := by
  unfold rgV
  rw [List.map_map]
  rfl
theorem DhAll.ints {bad : Addr → Prop} : ∀ ns : List Int, DhAll K bad H (ns.map V.int) (ns.map PyData.int)
  | [] => .nil
  | n :: r => .cons (.int n) (DhAll.ints r)
theorem fit_ints {n w : Nat} {ns : List Int} (l : ns.length ≤ w) : Fit (n + 1) w (.tuple (ns.map PyData.int)) := by
  refine ⟨by rw [List.length_map]; exact l, fun e he => ?_⟩
  obtain ⟨k, hk, rfl⟩ := List.mem_map.mp he
  cases n <;> exact True.intro
end
end Dg

namespace Dg
open PySem PySem.Spec PyProof.Rows L2 L2H LamX
/-! ### any text: numerals, lines of kinds, texts of rows -/
theorem digs_num : ∀ (k : Nat) (l : List Nat), l.length = k → l ≠ [] → (∀ c ∈ l, 48 ≤ c ∧ c ≤ 57) → (l = [48] ∨ l.head? ≠ some 48) → ∃ n : Nat, l = TL.numL n := by
  intro k
  induction k with
  | zero => intro l h n; exact absurd (List.length_eq_zero_iff.mp h) n
  | succ k ih =>
    intro l hl ne hd hh
    obtain ⟨i, c, rfl⟩ : ∃ i c, l = i ++ [c] := ⟨l.dropLast, l.getLast ne, (List.dropLast_concat_getLast ne).symm⟩
    have hc := hd c (by simp)
    rw [List.length_append] at hl
    have hli : i.length = k := by
      have : ([c] : List Nat).length = 1 := rfl
      omega
    by_cases e : i = []
    · subst e
      refine ⟨c - 48, ?_⟩
      rw [TL.numL_lt (by omega)]
      show [c] = [48 + (c - 48)]
      rw [show 48 + (c - 48) = c by omega]
    · have ne1 : ¬ (i ++ [c] = [48]) := fun z => by
        have := congrArg List.length z
        rw [List.length_append] at this
        have e1 : ([c] : List Nat).length = 1 := rfl
        have e2 : ([48] : List Nat).length = 1 := rfl
        have : i.length = 0 := by omega
        exact e (List.length_eq_zero_iff.mp this)
      have h0 : (i ++ [c]).head? ≠ some 48 := hh.resolve_left ne1
      have h0' : i.head? ≠ some 48 := by
        cases i with
        | nil => exact absurd rfl e
        | cons a r => exact h0
      obtain ⟨m, rfl⟩ := ih i hli e (fun x hx => hd x (List.mem_append_left _ hx)) (.inr h0')
      have m0 : m ≠ 0 := by
        rintro rfl
        exact h0' (by rw [TL.numL_lt (by decide)]; rfl)
      refine ⟨m * 10 + (c - 48), ?_⟩
      rw [TL.numL_step (n := m * 10 + (c - 48)) (by omega)]
      rw [show (m * 10 + (c - 48)) / 10 = m by omega, show 48 + (m * 10 + (c - 48)) % 10 = c by omega]
theorem uni_dig : ∀ c : Nat, c < 128 → Unicode.isDigit c = true → 48 ≤ c ∧ c ≤ 57 := by decide +kernel
theorem start0 (w : Str) : Txt.startswith w "0" = true ↔ (TL.tl w).head? = some 48 := by
  have z' : Txt.startswith w "0" = (decide (0 + ("0" : Str).length ≤ w.length) && Builtin.Str.subAt w "0" 0) := rfl
  have y := StrLaws.subAt_one w 48 0
  rw [z', Bool.and_eq_true, decide_eq_true_eq, List.head?_eq_getElem?]
  exact y
theorem ascii_of {w : Str} (h : Txt.isascii w = true) : ∀ c ∈ TL.tl w, c < 128 := by
  have h' : w.cps.all (· < 128) = true := h
  rw [← Array.all_toList, List.all_eq_true] at h'
  exact fun c hc => of_decide_eq_true (h' c hc)
theorem num_of {w : Str} (h1 : Txt.isascii w = true) (h2 : Txt.isdigit w = true) (h3 : w = "0" ∨ Txt.startswith w "0" = false) : ∃ n : Int, 0 ≤ n ∧ w = numS n := by
  have h2' : (decide (w.length > 0) && w.cps.all Unicode.isDigit) = true := h2
  rw [Bool.and_eq_true, decide_eq_true_eq, ← Array.all_toList, List.all_eq_true] at h2'
  have a := ascii_of h1
  obtain ⟨n, hn⟩ := digs_num _ (TL.tl w) rfl (fun z => by
    have := h2'.1
    rw [TL.len_tl, z] at this
    exact absurd this (Nat.lt_irrefl 0)) (fun c hc => uni_dig c (a c hc) (h2'.2 c hc)) (h3.elim (fun z => .inl (by rw [z]; decide +kernel)) fun z => .inr fun y => by
      rw [(start0 w).mpr y] at z
      cases z)
  refine ⟨(n : Int), Int.natCast_nonneg n, TL.ext_tl ?_⟩
  rw [hn, tl_numS (Int.natCast_nonneg n), Int.toNat_natCast]
theorem kind_of {w : Str} {a b : Int} (h : Txt.split w " " = [numS a, "x", numS b]) : w = kindText (a, b) := by
  have z := StrLaws.join_split w " "
  rw [h] at z
  rw [← z]
  refine TL.ext_tl ?_
  unfold kindText
  rw [TL.tl_join, TL.tl_append, TL.tl_append]
  show TL.tl (numS a) ++ ([32] ++ ([120] ++ ([32] ++ TL.tl (numS b)))) = TL.tl (numS a) ++ [32, 120, 32] ++ TL.tl (numS b)
  simp
theorem sheet_of {t : Str} {ks : Kinds} (h : Txt.split t "\n" = ("row" : Str) :: ks.map kindText) : t = sheet ks := by
  have z := StrLaws.join_split t "\n"
  rw [h] at z
  rw [← z]
  unfold sheet
  rw [TL.join_eq]
theorem joinL_part {S : List Nat} : ∀ {ps : List (List Nat)} {p : List Nat}, p ∈ ps → p.length ≤ (TL.joinL S ps).length
  | [q], p, h => by
    rw [List.mem_singleton.mp h]
    exact Nat.le_refl _
  | q :: r :: ps, p, h => by
    show p.length ≤ (q ++ (S ++ TL.joinL S (r :: ps))).length
    rw [List.length_append, List.length_append]
    rcases List.mem_cons.mp h with rfl | h
    · omega
    · have := joinL_part (S := S) h
      omega
theorem joinL_many {S : List Nat} (hS : 1 ≤ S.length) : ∀ {ps : List (List Nat)}, ps.length ≤ (TL.joinL S ps).length + 1
  | [] => by simp
  | [q] => by simp
  | q :: r :: ps => by
    show (q :: r :: ps).length ≤ (q ++ (S ++ TL.joinL S (r :: ps))).length + 1
    rw [List.length_append, List.length_append]
    have := joinL_many hS (ps := r :: ps)
    rw [List.length_cons]
    omega
theorem split_part {x y p : Str} (h : p ∈ Txt.split x y) : p.length ≤ x.length := by
  have z := congrArg TL.tl (StrLaws.join_split x y)
  rw [TL.tl_join] at z
  rw [TL.len_tl x, TL.len_tl p, ← z]
  exact joinL_part (List.mem_map_of_mem h)
theorem split_many {x y : Str} (hy : 1 ≤ y.length) : (Txt.split x y).length ≤ x.length + 1 := by
  have z := congrArg TL.tl (StrLaws.join_split x y)
  rw [TL.tl_join] at z
  have := joinL_many (S := TL.tl y) (by rw [← TL.len_tl]; exact hy) (ps := (Txt.split x y).map TL.tl)
  rw [z, List.length_map, ← TL.len_tl] at this
  exact this
theorem str_beq {x y : Str} : decide (V.str x = V.str y) = decide (x = y) := by
  by_cases z : x = y
  · subst z; simp
  · rw [decide_eq_false z, decide_eq_false (fun q => z (V.str.inj q))]
/-- a line that tells a kind, in whatever numbers of few figures -/
def LineOf (w : Str) (k : Int × Int) : Prop := 0 ≤ k.1 ∧ 0 ≤ k.2 ∧ (numS k.1).length ≤ 32 ∧ (numS k.2).length ≤ 32 ∧ w = kindText k
theorem LineOf.one {w : Str} {k l : Int × Int} (h : LineOf w k) (h' : LineOf w l) : k = l := kindText_inj h.1 h.2.1 h'.1 h'.2.1 (h.2.2.2.2.symm.trans h'.2.2.2.2)
theorem line_ok {ks : Kinds} (ok : OkK ks) : ∀ k ∈ ks, LineOf (kindText k) k := fun k hk => by
  have z := ok.2.2.all k hk
  exact ⟨z.1, by omega, numS_len z.1 z.2.1, numS_len (by omega) (by omega), rfl⟩
inductive Each2 {α β : Type} (R : α → β → Prop) : List α → List β → Prop
  | nil : Each2 R [] []
  | cons {a : α} {b : β} {as : List α} {bs : List β} : R a b → Each2 R as bs → Each2 R (a :: as) (b :: bs)
theorem Each2.snoc {α β : Type} {R : α → β → Prop} : ∀ {as : List α} {bs : List β} {a : α} {b : β}, Each2 R as bs → R a b → Each2 R (as ++ [a]) (bs ++ [b])
  | _, _, _, _, .nil, h => .cons h .nil
  | _, _, _, _, .cons h t, h' => .cons h (t.snoc h')
theorem Each2.len {α β : Type} {R : α → β → Prop} : ∀ {as : List α} {bs : List β}, Each2 R as bs → as.length = bs.length
  | _, _, .nil => rfl
  | _, _, .cons _ t => congrArg Nat.succ t.len
/-- what a line is read as -/
def LineD (w : Str) (d : PyData) : Prop := (∃ k, LineOf w k ∧ d = kD k) ∨ (d = .none ∧ ∀ k, ¬ LineOf w k)
theorem lines_kinds : ∀ {ws : List Str} {ks : Kinds}, Each2 LineD ws (ks.map kD) → ws = ks.map kindText
  | [], [], _ => rfl
  | [], k :: ks, h => by cases h
  | w :: ws, [], h => by cases h
  | w :: ws, k :: ks, h => by
    cases h with
    | cons h t =>
      rw [lines_kinds t]
      rcases h with ⟨l, hl, e⟩ | ⟨e, _⟩
      · have e' : k = l := by
          have e1 : PyData.tuple [.int k.1, .int k.2] = .tuple [.int l.1, .int l.2] := e
          injection e1 with e1
          injection e1 with e2 e3
          injection e2 with e2
          injection e3 with e3 _
          injection e3 with e3
          exact Prod.ext e2 e3
        rw [hl.2.2.2.2, e']
        rfl
      · cases e
theorem kinds_lines {ks : Kinds} (ok : OkK ks) : ∀ {ms : Kinds} {ds : List PyData}, (∀ k ∈ ms, k ∈ ks) → Each2 LineD (ms.map kindText) ds → ds = ms.map kD
  | [], [], _, _ => rfl
  | [], d :: ds, _, h => by cases h
  | k :: ms, [], _, h => by cases h
  | k :: ms, d :: ds, m, h => by
    cases h with
    | cons h t =>
      rw [kinds_lines ok (fun q hq => m q (List.mem_cons_of_mem _ hq)) t]
      have lk := line_ok ok k (m k List.mem_cons_self)
      rcases h with ⟨l, hl, rfl⟩ | ⟨_, no⟩
      · rw [hl.one lk]
        rfl
      · exact absurd lk (no k)
/-- it is the text of a row -/
def RowText (t : Str) (ks : Kinds) : Prop := OkK ks ∧ t = sheet ks
theorem RowText.one {t : Str} {ks ls : Kinds} (h : RowText t ks) (h' : RowText t ls) : ks = ls := (sheet_inj h.1 h'.1).mp (h.2.symm.trans h'.2)
end Dg

namespace Dg
open PySem PySem.Spec PyProof.Rows L2 L2H LamX
/-! ### what data is kinds -/
theorem betw_int {d : PyData} {lo hi : Int} (h : betweenD d lo hi = true) : ∃ i, d = .int i := by
  cases d <;> first | exact ⟨_, rfl⟩ | (simp [betweenD] at h)
theorem ks_shape : ∀ (ds : List PyData) (i : Nat) (m : Int), wrongFrom ds i m = none → ∃ ks : Kinds, ds = ks.map kD
  | [], _, _, _ => ⟨[], rfl⟩
  | d :: r, i, m, h => by
    have h' : (if i = 10 ∨ kindD d m = false then some i else wrongFrom r (i + 1) (firstD d - 1)) = none := h
    by_cases c : i = 10 ∨ kindD d m = false
    · rw [if_pos c] at h'; cases h'
    · rw [if_neg c] at h'
      obtain ⟨ks, e⟩ := ks_shape r (i + 1) _ h'
      have ck : kindD d m = true := by
        cases z : kindD d m
        · exact absurd (.inr z) c
        · rfl
      have ⟨a, b, e2⟩ : ∃ a b : Int, d = kD (a, b) := by
        unfold kindD at ck
        split at ck
        · rename_i p q
          obtain ⟨c1, c2⟩ := Bool.and_eq_true_iff.mp ck
          obtain ⟨a, rfl⟩ := betw_int c1
          obtain ⟨b, rfl⟩ := betw_int c2
          exact ⟨a, b, rfl⟩
        · cases ck
      exact ⟨(a, b) :: ks, by rw [e2, e]; rfl⟩
theorem okD_ks {d : PyData} (h : okD d = true) : ∃ ks, d = KD ks ∧ OkK ks := by
  obtain ⟨a, b⟩ := Bool.and_eq_true_iff.mp (show (filledD d && (wrongD d).isNone) = true from h)
  cases d <;> first | (simp [filledD] at a; done) | skip
  rename_i ds
  have ne : ds ≠ [] := by
    rintro rfl
    cases a
  have z : wrongFrom ds 0 10000000000000000000000000000000 = none := by
    have e : wrongD (.tuple ds) = (if ds = [] then none else wrongFrom ds 0 10000000000000000000000000000000) := rfl
    rw [e, if_neg ne] at b
    exact Option.isNone_iff_eq_none.mp b
  obtain ⟨ks, rfl⟩ := ks_shape ds _ _ z
  exact ⟨ks, rfl, okK_okD h⟩
theorem Dn.str_inv {K : PySem.W.Frag} {H : Hp} {x : V} {t : Str} (h : Dn K H x (.str t)) : x = .str t := by cases h; rfl
theorem isS_str {d : PyData} (h : isS d = true) : ∃ t, d = .str t := by cases d <;> first | exact ⟨_, rfl⟩ | (simp [isS] at h)
theorem not_str {d : PyData} (h : isS d = false) (t : Str) : d ≠ .str t := fun e => by rw [e] at h; cases h
/-! ### in, not in: lists, texts, dicts -/
def rInDk (neg : Bool) : R2 := fun x y H Q => ∃ a o, y = .ref a ∧ DGet H a x o ∧ Q (.bl (if neg then !o.isSome else o.isSome)) H
def rInSg (neg : Bool) : R2 := fun x y H Q => ∃ (c : Nat) (z : Str), x = .str ⟨#[c]⟩ ∧ y = .str z ∧ Q (.bl (if neg then !decide (c ∈ z.cps.toList) else decide (c ∈ z.cps.toList))) H
def rInA (K : PySem.W.Frag) (neg : Bool) : R2 := fun x y H Q => rIn K neg x y H Q ∨ rInSg neg x y H Q ∨ rInDk neg x y H Q
section
variable {X : Cx} {K : PySem.W.Frag}
theorem op_inDk (hu : X.A.units + 1 < cLine) : OpR X (compareOp .In) (rInDk false) := by
  intro pins s σ H x y v u Q I rx ry h
  obtain ⟨a, o, rfl, g, q⟩ := h
  cases ry
  exact d_in hu I g rx fun s' I' => ⟨.bl _, H, I', rfl, q⟩
theorem op_notInDk (hu : X.A.units + 1 < cLine) : OpR X (compareOp .NotIn) (rInDk true) := by
  intro pins s σ H x y v u Q I rx ry h
  obtain ⟨a, o, rfl, g, q⟩ := h
  cases ry
  exact d_notIn hu I g rx fun s' I' => ⟨.bl _, H, I', rfl, q⟩
theorem op_inSg : OpR X (compareOp .In) (rInSg false) := fun pins s σ H x y v u Q I rx ry ⟨c, z, e1, e2, q⟩ => op_in_sign pins s σ H x y v u Q I rx ry ⟨c, z, e1, e2, q⟩
theorem op_notInSg : OpR X (compareOp .NotIn) (rInSg true) := fun pins s σ H x y v u Q I rx ry ⟨c, z, e1, e2, q⟩ => op_notIn_sign pins s σ H x y v u Q I rx ry ⟨c, z, e1, e2, q⟩
theorem opInA {k : Nat} (hr : Room k X.A) (h : X.K = K) : OpR X (compareOp .In) (rInA K false) := h ▸ op_in_seq.or (op_inSg.or (op_inDk (hu_of hr)))
theorem opNotInA {k : Nat} (hr : Room k X.A) (h : X.K = K) : OpR X (compareOp .NotIn) (rInA K true) := h ▸ op_notIn_seq.or (op_notInSg.or (op_notInDk (hu_of hr)))
end
section
variable {H : Hp} {Q : VK} {K : PySem.W.Frag}
theorem flat_strs (l : List Str) : (l.map V.str).all flatV = true := by
  rw [List.all_eq_true]
  intro x hx
  obtain ⟨i, _, rfl⟩ := List.mem_map.mp hx
  rfl
theorem in_strs (d : Str) : ∀ l : List Str, inV (.str d) (l.map V.str) = decide (d ∈ l)
  | [] => rfl
  | e :: r => by
    have ih := in_strs d r
    show (eqV (V.str e) (V.str d) || inV (.str d) (r.map V.str)) = _
    rw [ih]
    have z : eqV (V.str e) (V.str d) = decide (e = d) := by
      show (e == d) = decide (e = d)
      by_cases z : e = d
      · subst z
        simp
      · rw [decide_eq_false z]
        simpa using z
    rw [z]
    by_cases c : e = d
    · subst c
      simp
    · have c' : ¬ d = e := fun z => c z.symm
      simp [c, c']
theorem r_inStrs {neg : Bool} {x : Str} {a : Addr} {l : List Str} (h : SqL K H a (l.map V.str) ∨ SqT K H a (l.map V.str)) (q : Q (.bl (if neg then !decide (x ∈ l) else decide (x ∈ l))) H) : rInA K neg (.str x) (.ref a) H Q :=
  .inl ⟨a, _, rfl, h, rfl, flat_strs l, by rw [in_strs]; exact q⟩
theorem r_inSg {neg : Bool} {c : Nat} {s z : Str} (e : s = ⟨#[c]⟩) (q : Q (.bl (if neg then !decide (c ∈ TL.tl z) else decide (c ∈ TL.tl z))) H) : rInA K neg (.str s) (.str z) H Q := .inr (.inl ⟨c, z, by rw [e], rfl, q⟩)
theorem r_inDk {neg : Bool} {x : Str} {a : Addr} {kvs : List (Key × V)} (h : H a = some (.dK kvs)) (q : Q (.bl (if neg then !(valV kvs (Sum.inr x)).isSome else (valV kvs (Sum.inr x)).isSome)) H) : rInA K neg (.str x) (.ref a) H Q :=
  .inr (.inr ⟨a, _, rfl, DGet.k (k := Sum.inr x) h, q⟩)
end
/-! ### small texts, data that holds no others -/
def SmS (x : Str) : Prop := x.length ≤ 100 ∧ ∀ c ∈ TL.tl x, c < 128
theorem SmS.okd {x : Str} (h : SmS x) : Okd (.str x) 0 100 := okd_str h.2 h.1 (by decide)
def FitS : Nat → Nat → PyData → Prop
  | 0, _, d => match d with
    | .tuple _ => False
    | .list _ => False
    | .str x => SmS x
    | _ => True
  | n + 1, w, d => match d with
    | .tuple ds => ds.length ≤ w ∧ ∀ e ∈ ds, FitS n w e
    | .list ds => ds.length ≤ w ∧ ∀ e ∈ ds, FitS n w e
    | .str x => SmS x
    | _ => True
theorem FitS.mono : ∀ {n m w u : Nat} {d : PyData}, FitS n w d → n ≤ m → w ≤ u → FitS m u d
  | 0, 0, _, _, d, h, _, _ => by cases d <;> exact h
  | 0, _ + 1, _, _, d, h, _, _ => by cases d <;> first | exact h.elim | exact h
  | n + 1, 0, _, _, _, _, l, _ => by omega
  | n + 1, m + 1, w, u, d, h, l, lw => by
    cases d <;> first | exact h | exact ⟨Nat.le_trans h.1 lw, fun e he => FitS.mono (h.2 e he) (by omega) lw⟩
theorem FitS.str {n w : Nat} {x : Str} : FitS n w (.str x) → SmS x := by
  cases n <;> exact id
theorem FitS.of_str {n w : Nat} {x : Str} (h : SmS x) : FitS n w (.str x) := by
  cases n <;> exact h
theorem FitS.listS {m u : Nat} {ds : List PyData} (h : FitS m u (.tuple ds)) : FitS (m + 2) (u + 1) (.list ds) := by
  cases m with
  | zero => exact h.elim
  | succ m => exact ⟨Nat.le_trans h.1 (by omega), fun e he => (h.2 e he).mono (by omega) (by omega)⟩
def ThingS (K : PySem.W.Frag) (bad : Addr → Prop) (H : Hp) (x : V) : Prop := ∃ d, Dh K bad H x d ∧ FitS 2 2 d
theorem ThingS.keep {K : PySem.W.Frag} {bad : Addr → Prop} {H H' : Hp} {x : V} (h : ThingS K bad H x) (k : Keeps bad H H') : ThingS K bad H' x := let ⟨d, z, f⟩ := h; ⟨d, z.keep k, f⟩
theorem ThingS.of {K : PySem.W.Frag} {bad : Addr → Prop} {H : Hp} {x : V} {d : PyData} (h : Dh K bad H x d) (f : FitS 2 2 d) : ThingS K bad H x := ⟨d, h, f⟩
def AllS (K : PySem.W.Frag) (bad : Addr → Prop) (H : Hp) (xs : List V) : Prop := ∀ v ∈ xs, ThingS K bad H v
theorem AllS.nil {K : PySem.W.Frag} {bad : Addr → Prop} {H : Hp} : AllS K bad H [] := fun v h => absurd h List.not_mem_nil
theorem AllS.cons {K : PySem.W.Frag} {bad : Addr → Prop} {H : Hp} {x : V} {xs : List V} (h : ThingS K bad H x) (t : AllS K bad H xs) : AllS K bad H (x :: xs) := fun v hv => by
  rcases List.mem_cons.mp hv with rfl | hv
  · exact h
  · exact t v hv
theorem AllS.app {K : PySem.W.Frag} {bad : Addr → Prop} {H : Hp} {xs ys : List V} (h : AllS K bad H xs) (t : AllS K bad H ys) : AllS K bad H (xs ++ ys) := fun v hv => by
  rcases List.mem_append.mp hv with hv | hv
  · exact h v hv
  · exact t v hv
theorem smS_dec {x : Str} (h : (decide (x.length ≤ 100) && (TL.tl x).all fun c => decide (c < 128)) = true) : SmS x := by
  rw [Bool.and_eq_true, decide_eq_true_eq, List.all_eq_true] at h
  exact ⟨h.1, fun c hc => of_decide_eq_true (h.2 c hc)⟩
theorem smS_kind {k : Int × Int} (h1 : 0 ≤ k.1) (h2 : k.1 ≤ 10000000000000000000000000000000) (h3 : 0 ≤ k.2) (h4 : k.2 ≤ 10000000000000000000000000000000) : SmS (kindText k) := ⟨Nat.le_trans (kind_len h1 h2 h3 h4) (by decide), kind_small h1 h3⟩
end Dg
namespace Dg
open PySem PySem.Spec PyProof.Rows L2 L2H LamX
/-! ### more of texts -/
theorem spl_some (S : List Nat) : ∀ (l : List Nat) (k : Nat) (acc : List Nat), TL.spl S k acc l ≠ []
  | [], k, acc => by rw [TL.spl_nil]; exact fun z => by cases z
  | c :: r, 0, acc => by
    show (if TL.pre S (c :: r) = true then acc :: TL.spl S (S.length - 1) [] r else TL.spl S 0 (acc ++ [c]) r) ≠ []
    split
    · exact fun z => by cases z
    · exact spl_some S r 0 _
  | c :: r, k + 1, acc => spl_some S r k acc
theorem split_some {x y : Str} (hy : TL.tl y ≠ []) (hk : y.cps.all (· < 256) = true) : ∃ p ps, Txt.split x y = p :: ps := by
  have z := TL.split_spl x y hy (TL.kind_ok hk)
  cases e : Txt.split x y with
  | nil =>
    rw [e] at z
    exact absurd z.symm (spl_some _ _ _ _)
  | cons p ps => exact ⟨p, ps, rfl⟩
theorem numS_intL {i : Int} (h0 : 0 ≤ i) (l : (numS i).length ≤ 4300) : intText? (numS i) = some i := by
  obtain ⟨n, rfl⟩ := Int.eq_ofNat_of_zero_le h0
  refine TL.int_num ?_
  rw [TL.len_tl, tl_numS h0, Int.toNat_natCast] at l
  exact l
/-- a numeral of few figures -/
def NumW (w : Str) (n : Int) : Prop := 0 ≤ n ∧ (numS n).length ≤ 32 ∧ w = numS n
theorem split_line {w : Str} {k : Int × Int} (h : LineOf w k) : Txt.split w " " = [numS k.1, "x", numS k.2] := by
  rw [h.2.2.2.2]
  exact split_kind h.1 h.2.1
end Dg

namespace Dg
open PySem PySem.Spec PyProof.Rows L2 L2H LamX
/-! ### changes of lines -/
def cD (c : Str × Str) : PyData := .tuple [.str c.1, .str c.2]
/-- it is a change of one of these lines -/
def changeD (ls : List Str) (d : PyData) : Bool := match d with
  | .tuple [.str o, .str n] => decide (o ∈ ls) && !decide (10 ∈ TL.tl n)
  | _ => false
def oldS : PyData → Str
  | .tuple (.str o :: _) => o
  | _ => Str.empty
/-- the index of the first one that is none, or has the line of one before it -/
def badC (ls : List Str) : List PyData → List Str → Nat → Option Nat
  | [], _, _ => none
  | d :: r, seen, i => if changeD ls d = true ∧ oldS d ∉ seen then badC ls r (seen ++ [oldS d]) (i + 1) else some i
theorem changeD_shape {ls : List Str} {d : PyData} (h : changeD ls d = true) : ∃ c, d = cD c ∧ c.1 ∈ ls ∧ 10 ∉ TL.tl c.2 := by
  unfold changeD at h
  split at h
  · rename_i o n
    rw [Bool.and_eq_true, decide_eq_true_eq, Bool.not_eq_true', decide_eq_false_iff_not] at h
    exact ⟨(o, n), rfl, h.1, h.2⟩
  · cases h
theorem badC_none {ls : List Str} : ∀ (ds : List PyData) (seen : List Str) (i : Nat), badC ls ds seen i = none → ∃ cs : List (Str × Str), ds = cs.map cD ∧ (∀ c ∈ cs, c.1 ∈ ls ∧ 10 ∉ TL.tl c.2)
  | [], _, _, _ => ⟨[], rfl, fun c h => absurd h List.not_mem_nil⟩
  | d :: r, seen, i, h => by
    have h' : (if changeD ls d = true ∧ oldS d ∉ seen then badC ls r (seen ++ [oldS d]) (i + 1) else some i) = none := h
    by_cases c : changeD ls d = true ∧ oldS d ∉ seen
    · rw [if_pos c] at h'
      obtain ⟨cs, e, hc⟩ := badC_none r _ _ h'
      obtain ⟨c0, e0, h0⟩ := changeD_shape c.1
      refine ⟨c0 :: cs, by rw [e, e0]; rfl, fun q hq => ?_⟩
      rcases List.mem_cons.mp hq with rfl | hq
      · exact h0
      · exact hc q hq
    · rw [if_neg c] at h'
      cases h'
theorem badC_more {ls : List Str} {ds : List PyData} {i : Nat} {d : PyData} {seen : List Str} (h : ds[i]? = some d) : badC ls (ds.drop i) seen i = if changeD ls d = true ∧ oldS d ∉ seen then badC ls (ds.drop (i + 1)) (seen ++ [oldS d]) (i + 1) else some i := by
  have e : ds.drop i = d :: ds.drop (i + 1) := by
    obtain ⟨hi, rfl⟩ := List.getElem?_eq_some_iff.mp h
    exact List.drop_eq_getElem_cons hi
  rw [e]
  rfl
theorem badC_le {ls : List Str} : ∀ (ds : List PyData) (seen : List Str) (i k : Nat), badC ls ds seen i = some k → k < i + ds.length
  | [], _, _, _, h => by cases h
  | d :: r, seen, i, k, h => by
    have h' : (if changeD ls d = true ∧ oldS d ∉ seen then badC ls r (seen ++ [oldS d]) (i + 1) else some i) = some k := h
    by_cases c : changeD ls d = true ∧ oldS d ∉ seen
    · rw [if_pos c] at h'
      have := badC_le r _ _ k h'
      rw [List.length_cons]
      omega
    · rw [if_neg c] at h'
      cases h'
      rw [List.length_cons]
      omega
theorem cD_inj {c e : Str × Str} (h : cD c = cD e) : c = e := by
  have e1 : PyData.tuple [.str c.1, .str c.2] = .tuple [.str e.1, .str e.2] := h
  injection e1 with e1
  injection e1 with e2 e3
  injection e2 with e2
  injection e3 with e3 _
  injection e3 with e3
  exact Prod.ext e2 e3
theorem cDs_inj : ∀ {cs es : List (Str × Str)}, cs.map cD = es.map cD → cs = es
  | [], [], _ => rfl
  | [], e :: es, h => by cases h
  | c :: cs, [], h => by cases h
  | c :: cs, e :: es, h => by
    rw [List.map_cons, List.map_cons] at h
    injection h with h1 h2
    rw [cD_inj h1, cDs_inj h2]
/-! ### a dict of texts under texts -/
def embS (c : Str × Str) : Key × V := (Sum.inr c.1, V.str c.2)
def lookS (cs : List (Str × Str)) (k : Str) : Option Str := (cs.find? fun c => decide (c.1 = k)).map (·.2)
theorem keyS_dec (a b : Str) : decide ((Sum.inr a : Key) = Sum.inr b) = decide (a = b) := by
  by_cases e : a = b
  · subst e; simp
  · rw [decide_eq_false e, decide_eq_false (fun z => e (Sum.inr.inj z))]
theorem valV_embS (cs : List (Str × Str)) (k : Str) : valV (cs.map embS) (Sum.inr k) = (lookS cs k).map V.str := by
  unfold valV lookS
  induction cs with
  | nil => rfl
  | cons p r ih =>
    rw [List.map_cons, List.find?_cons, List.find?_cons]
    show Option.map _ (match decide ((Sum.inr p.1 : Key) = Sum.inr k) with | true => some (embS p) | false => List.find? _ (r.map embS)) = _
    rw [keyS_dec]
    cases decide (p.1 = k)
    · exact ih
    · rfl
theorem lookS_isSome (cs : List (Str × Str)) (k : Str) : (lookS cs k).isSome = decide (k ∈ cs.map (·.1)) := by
  unfold lookS
  induction cs with
  | nil => rfl
  | cons p r ih =>
    rw [List.find?_cons, List.map_cons]
    by_cases e : p.1 = k
    · rw [decide_eq_true e]
      simp [e]
    · rw [decide_eq_false e]
      show (Option.map _ (r.find? _)).isSome = _
      rw [ih]
      have e' : ¬ k = p.1 := fun z => e z.symm
      simp [e']
theorem putK_embS (cs : List (Str × Str)) (k v : Str) (h : k ∉ cs.map (·.1)) : putK (cs.map embS) (Sum.inr k) (V.str v) = (cs ++ [(k, v)]).map embS := by
  unfold putK
  have z : ((cs.map embS).any fun kv => decide (kv.1 = (Sum.inr k : Key))) = false := by
    rw [List.any_map, List.any_eq_false]
    intro c hc y
    have y' : decide ((Sum.inr c.1 : Key) = Sum.inr k) = true := y
    rw [keyS_dec, decide_eq_true_eq] at y'
    exact h (y' ▸ List.mem_map_of_mem hc)
  rw [z, if_neg Bool.false_ne_true, List.map_append]
  rfl
/-- the line that is put in its place -/
def newS (cs : List (Str × Str)) (l : Str) : Str := (lookS cs l).getD l
/-- the text with these lines put otherwise -/
def newT (ls : List Str) (cs : List (Str × Str)) : Str := Txt.join "\n" (("row" : Str) :: (ls.map (newS cs)).filter fun l => decide (l ≠ Str.empty))
theorem look_some {cs : List (Str × Str)} {k v : Str} (h : lookS cs k = some v) : (k, v) ∈ cs := by
  unfold lookS at h
  obtain ⟨c, hc, rfl⟩ := Option.map_eq_some_iff.mp h
  have e : c.1 = k := of_decide_eq_true (List.find?_some (p := fun c : Str × Str => decide (c.1 = k)) hc)
  have m := List.mem_of_find?_eq_some hc
  rw [← e]
  exact m
theorem newS_P {P : Str → Prop} {cs : List (Str × Str)} {l : Str} (h1 : P l) (h2 : ∀ c ∈ cs, P c.2) : P (newS cs l) := by
  unfold newS
  cases e : lookS cs l with
  | none => exact h1
  | some v => exact h2 _ (look_some e)
theorem joinL_le {S : List Nat} {b : Nat} : ∀ {ps : List (List Nat)}, (∀ p ∈ ps, p.length ≤ b) → (TL.joinL S ps).length ≤ ps.length * (b + S.length)
  | [], _ => Nat.zero_le _
  | [p], h => by
    show p.length ≤ 1 * (b + S.length)
    have := h p List.mem_cons_self
    omega
  | p :: q :: r, h => by
    show (p ++ (S ++ TL.joinL S (q :: r))).length ≤ (p :: q :: r).length * (b + S.length)
    have h1 := h p List.mem_cons_self
    have h2 := joinL_le (S := S) (ps := q :: r) fun x hx => h x (List.mem_cons_of_mem _ hx)
    rw [List.length_append, List.length_append, List.length_cons, Nat.succ_mul]
    omega
theorem join_len {ys : List Str} {b : Nat} (h : ∀ y ∈ ys, y.length ≤ b) (hb : 3 ≤ b) : (Txt.join "\n" (("row" : Str) :: ys)).length ≤ (ys.length + 1) * (b + 1) := by
  rw [TL.join_eq, TL.len_tl, TL.tl_join]
  have z := joinL_le (S := TL.tl ("\n" : Str)) (b := b) (ps := (("row" : Str) :: ys).map TL.tl) fun p hp => by
    obtain ⟨y, hy, rfl⟩ := List.mem_map.mp hp
    rw [← TL.len_tl]
    rcases List.mem_cons.mp hy with rfl | hy
    · exact hb
    · exact h y hy
  rw [List.length_map, List.length_cons] at z
  exact z
theorem join_small {ys : List Str} (h : ∀ y ∈ ys, ∀ c ∈ TL.tl y, c < 128) : ∀ c ∈ TL.tl (Txt.join "\n" (("row" : Str) :: ys)), c < 128 := by
  intro c hc
  rw [TL.join_eq, TL.tl_join] at hc
  rcases mem_joinL hc with hc | ⟨p, hp, hc⟩
  · have : c = 10 := by simpa using (show c ∈ [10] from hc)
    omega
  · obtain ⟨y, hy, rfl⟩ := List.mem_map.mp hp
    rcases List.mem_cons.mp hy with rfl | hy
    · have z : c ∈ [114, 111, 119] := hc
      simp only [List.mem_cons, List.not_mem_nil, or_false] at z
      omega
    · exact h y hy c hc
theorem newT_okd {ks : Kinds} {cs : List (Str × Str)} (ok : OkK ks) (h : ∀ c ∈ cs, SmS c.2) : Okd (.str (newT (ks.map kindText) cs)) 0 1200 := by
  have each : ∀ l ∈ (((ks.map kindText).map (newS cs)).filter fun l => decide (l ≠ Str.empty)), SmS l := fun l hl => by
    obtain ⟨hl, _⟩ := List.mem_filter.mp hl
    obtain ⟨o, ho, rfl⟩ := List.mem_map.mp hl
    obtain ⟨k, hk, rfl⟩ := List.mem_map.mp ho
    have kk := ok.2.2.all k hk
    exact newS_P (P := SmS) (smS_kind kk.1 kk.2.1 (by omega) (by omega)) h
  have many : (((ks.map kindText).map (newS cs)).filter fun l => decide (l ≠ Str.empty)).length ≤ 10 := by
    refine Nat.le_trans (List.length_filter_le _ _) ?_
    rw [List.length_map, List.length_map]
    exact ok.2.1
  refine okd_str (join_small fun y hy => (each y hy).2) (Nat.le_trans (join_len (b := 100) (fun y hy => (each y hy).1) (by decide)) ?_) (by decide)
  have := Nat.mul_le_mul_right 101 (Nat.add_le_add_right many 1)
  omega
section
variable {H : Hp} {Q : VK} {K : PySem.W.Frag} {v : V}
theorem r_dget2S {a : Addr} {kvs : List (Key × V)} {k : Str} {R : Option V → Prop} (h : H a = some (.dK kvs)) (q : R (valV kvs (Sum.inr k))) : ∃ o, DGet H a (.str k) o ∧ R o := ⟨_, DGet.k (k := Sum.inr k) h, q⟩
theorem r_dputS {a : Addr} {kvs : List (Key × V)} {k : Str} {R : Hp → Prop} (h : H a = some (.dK kvs)) (hl : kvs.length ≤ 100000) (q : Put a H (.dK (putK kvs (Sum.inr k) v)) R) : ∃ b H4, V.ref a = .ref b ∧ DPut H b (.str k) v H4 ∧ R H4 :=
  ⟨a, _, rfl, DPut.k (k := Sum.inr k) h (Nat.lt_of_le_of_lt hl (by decide)), q⟩
end
end Dg
namespace Dg
open PySem PySem.Spec PyProof.Rows L2 L2H LamX
theorem lay_bools : ∀ bs : List Bool, PyData.canLayAll0 (bs.map PyData.bool) = true ∧ PyData.depthAll (bs.map PyData.bool) ≤ 1
  | [] => ⟨rfl, by simp [PyData.depthAll]⟩
  | b :: r => by
    have ih := lay_bools r
    refine ⟨?_, ?_⟩
    · rw [List.map_cons, PyData.canLayAll0, ih.1]
      rfl
    · rw [List.map_cons, PyData.depthAll]
      have : PyData.depth (.bool b) ≤ 1 := by simp [PyData.depth]
      omega
theorem shaped_bools (bs : List Bool) : SeqAt.shaped (.list (bs.map PyData.bool)) = true := by
  have z := lay_bools bs
  unfold SeqAt.shaped
  rw [Bool.and_eq_true, decide_eq_true_eq]
  refine ⟨z.1, ?_⟩
  rw [PyData.depth]
  omega
theorem eqv_bools2 (bs : List Bool) : PyData.eqv (.list (bs.map PyData.bool)) (.list [.bool true, .bool true]) = decide (bs = [true, true]) := by
  rcases bs with _ | ⟨a, _ | ⟨b, _ | ⟨c, r⟩⟩⟩
  · rfl
  · cases a <;> rfl
  · cases a <;> cases b <;> rfl
  · cases a <;> cases b <;> simp [PyData.eqv, PyData.eqvAll]
theorem DpAll.bools {K : PySem.W.Frag} {H : Hp} : ∀ bs : List Bool, DpAll K H (bs.map V.bl) (bs.map PyData.bool)
  | [] => .nil
  | b :: r => .cons (.bl b) (DpAll.bools r)
end Dg
namespace Dg
open PySem PySem.Spec PyProof.Rows L2 L2H LamX
def smB (x : Str) : Bool := decide (x.length ≤ 100) && (TL.tl x).all fun c => decide (c < 128)
def fitSB : Nat → Nat → PyData → Bool
  | 0, _, d => match d with
    | .tuple _ => false
    | .list _ => false
    | .str x => smB x
    | _ => true
  | n + 1, w, d => match d with
    | .tuple ds => decide (ds.length ≤ w) && ds.all (fitSB n w)
    | .list ds => decide (ds.length ≤ w) && ds.all (fitSB n w)
    | .str x => smB x
    | _ => true
theorem fitS_dec : ∀ {n w : Nat} {d : PyData}, fitSB n w d = true → FitS n w d
  | 0, w, d, h => by cases d <;> first | exact smS_dec h | exact True.intro | cases h
  | n + 1, w, d, h => by
    cases d <;> first
      | exact smS_dec h
      | exact True.intro
      | (obtain ⟨h1, h2⟩ := Bool.and_eq_true_iff.mp (show (_ && _) = true from h)
         exact ⟨of_decide_eq_true h1, fun e he => fitS_dec (List.all_eq_true.mp h2 e he)⟩)
end Dg

namespace Dg
open PySem PySem.Spec PyProof.Rows L2 L2H LamX
/-! ### lists of texts beside the empty one -/
theorem eqv_nil (ds : List PyData) : PyData.eqv (.list ds) (.list []) = decide (ds = []) := by
  cases ds with
  | nil => rfl
  | cons d r => simp [PyData.eqv, PyData.eqvAll]
theorem lay_strs : ∀ l : List Str, (∀ x ∈ l, ∀ c ∈ TL.tl x, c < 128) → PyData.canLayAll0 (l.map PyData.str) = true ∧ PyData.depthAll (l.map PyData.str) ≤ 1
  | [], _ => ⟨rfl, by simp [PyData.depthAll]⟩
  | x :: r, h => by
    have ih := lay_strs r fun y hy => h y (List.mem_cons_of_mem _ hy)
    refine ⟨?_, ?_⟩
    · rw [List.map_cons, PyData.canLayAll0, ih.1, Bool.and_true]
      show x.cps.all (· < 0x110000) = true
      rw [← Array.all_toList, List.all_eq_true]
      intro c hc
      have := h x List.mem_cons_self c hc
      exact decide_eq_true (by omega)
    · rw [List.map_cons, PyData.depthAll]
      have : PyData.depth (.str x) ≤ 1 := by simp [PyData.depth]
      omega
theorem shaped_strs {l : List Str} (h : ∀ x ∈ l, ∀ c ∈ TL.tl x, c < 128) : SeqAt.shaped (.list (l.map PyData.str)) = true := by
  have z := lay_strs l h
  unfold SeqAt.shaped
  rw [Bool.and_eq_true, decide_eq_true_eq]
  refine ⟨z.1, ?_⟩
  rw [PyData.depth]
  omega
theorem DpAll.strs {K : PySem.W.Frag} {H : Hp} : ∀ l : List Str, DpAll K H (l.map V.str) (l.map PyData.str)
  | [] => .nil
  | b :: r => .cons (.str b) (DpAll.strs r)
/-! ### dict(a list of pairs) -/
def rDictP (K : PySem.W.Frag) : List V → Hp → VK → Prop := fun xs H Q => ∃ (a : Addr) (ps : List Addr) (kvs : List (Key × V)), xs = [.ref a] ∧ SqL K H a (ps.map V.ref) ∧ Paired (fun p kv => SqT K H p [kV kv.1, kv.2]) ps kvs ∧ New H (.dK (mergeK [] kvs)) Q
theorem callDictK {X : Cx} {K : PySem.W.Frag} (hc : X.calm = true) (h : X.K = K) : CallR X (.type "dict") (rDictP K) := h ▸ call_dictP hc
theorem merge_embS : ∀ (cs as : List (Str × Str)), ((as ++ cs).map (·.1)).Nodup → mergeK (as.map embS) (cs.map embS) = (as ++ cs).map embS
  | [], as, _ => by rw [List.append_nil]; rfl
  | c :: cs, as, h => by
    have n : c.1 ∉ as.map (·.1) := by
      rw [List.map_append, List.map_cons, List.nodup_append] at h
      exact fun z => h.2.2 _ z _ List.mem_cons_self rfl
    have z := merge_embS cs (as ++ [c]) (by rw [List.append_assoc]; exact h)
    rw [List.append_assoc] at z
    show mergeK (putK (as.map embS) (Sum.inr c.1) (V.str c.2)) (cs.map embS) = _
    rw [putK_embS as c.1 c.2 n]
    exact z
theorem r_dictS {K : PySem.W.Frag} {H : Hp} {Q : VK} {a : Addr} {ps : List Addr} {cs : List (Str × Str)} (h : SqL K H a (ps.map V.ref)) (hp : Each2 (fun p c => SqT K H p [.str c.1, .str c.2]) ps cs) (nd : (cs.map (·.1)).Nodup) (q : New H (.dK (cs.map embS)) Q) : rDictP K [.ref a] H Q := by
  refine ⟨a, ps, cs.map embS, rfl, h, ?_, ?_⟩
  · clear h nd q
    induction hp with
    | nil => exact .nil
    | cons h t ih => exact .cons h ih
  · have z := merge_embS cs [] (by simpa using nd)
    rw [List.map_nil, List.nil_append] at z
    rw [z]
    exact q
/-! ### parts of texts -/
theorem joinL_mem {S : List Nat} : ∀ {ps : List (List Nat)} {p : List Nat} {c : Nat}, p ∈ ps → c ∈ p → c ∈ TL.joinL S ps
  | [q], p, c, h, hc => by
    rw [List.mem_singleton.mp h] at hc
    exact hc
  | q :: r :: ps, p, c, h, hc => by
    show c ∈ q ++ (S ++ TL.joinL S (r :: ps))
    rcases List.mem_cons.mp h with rfl | h
    · exact List.mem_append_left _ hc
    · exact List.mem_append_right _ (List.mem_append_right _ (joinL_mem h hc))
theorem split_mem {x y p : Str} {c : Nat} (h : p ∈ Txt.split x y) (hc : c ∈ TL.tl p) : c ∈ TL.tl x := by
  have z := congrArg TL.tl (StrLaws.join_split x y)
  rw [TL.tl_join] at z
  rw [← z]
  exact joinL_mem (List.mem_map_of_mem h) hc
def digits (w : Str) : Prop := ∀ c ∈ TL.tl w, 48 ≤ c ∧ c ≤ 57
theorem fold_lt : ∀ (l : List Nat) (a : Nat), (∀ c ∈ l, 48 ≤ c ∧ c ≤ 57) → l.foldl (fun acc c => acc * 10 + (c - 48)) a < (a + 1) * 10 ^ l.length
  | [], a, _ => by simp
  | c :: r, a, h => by
    have hc := h c List.mem_cons_self
    have z := fold_lt r (a * 10 + (c - 48)) fun x hx => h x (List.mem_cons_of_mem _ hx)
    rw [List.foldl_cons, List.length_cons, Nat.pow_succ]
    refine Nat.lt_of_lt_of_le z ?_
    have y : (a * 10 + (c - 48) + 1) * 10 ^ r.length ≤ ((a + 1) * 10) * 10 ^ r.length := Nat.mul_le_mul_right _ (by omega)
    refine Nat.le_trans y (Nat.le_of_eq ?_)
    rw [Nat.mul_assoc, Nat.mul_comm 10]
theorem digits_int {w : Str} (h : digits w) (ne : TL.tl w ≠ []) (l : w.length ≤ 500) : ∃ v : Nat, intText? w = some (v : Int) ∧ (v : Int).natAbs.log2 < 1920 := by
  have e : w = SX.S (TL.tl w) := TL.ext_tl rfl
  have lt := fold_lt (TL.tl w) 0 h
  refine ⟨NumText.digitsVal (TL.tl w), ?_, ?_⟩
  · rw [e]
    refine SX.int_S ?_ ne ?_
    · rw [List.all_eq_true]
      intro c hc
      have := h c hc
      rw [Bool.and_eq_true, decide_eq_true_eq, decide_eq_true_eq]
      exact this
    · rw [← TL.len_tl]
      omega
  · rw [← TL.len_tl, Nat.zero_add, Nat.one_mul] at lt
    have lt2 : NumText.digitsVal (TL.tl w) < 2 ^ 1700 := by
      refine Nat.lt_of_lt_of_le lt (Nat.le_trans (Nat.pow_le_pow_right (by decide) l) ?_)
      decide +kernel
    rw [Int.natAbs_natCast]
    by_cases z : NumText.digitsVal (TL.tl w) = 0
    · rw [z]
      decide
    · have := (Nat.log2_lt z).mpr lt2
      omega
theorem tens : TL.tl ("0123456789" : Str) = [48, 49, 50, 51, 52, 53, 54, 55, 56, 57] := by decide +kernel
theorem mem_tens (c : Nat) : c ∈ TL.tl ("0123456789" : Str) ↔ 48 ≤ c ∧ c ≤ 57 := by
  rw [tens]
  simp only [List.mem_cons, List.not_mem_nil, or_false]
  omega
/-- what the law reads a line as -/
def LineK (w : Str) (d : PyData) : Prop := (∃ k : Int × Int, 0 ≤ k.1 ∧ 0 ≤ k.2 ∧ w = kindText k ∧ d = kD k) ∨ ((∀ k, d ≠ kD k) ∧ ∀ k : Int × Int, 0 ≤ k.1 → 0 ≤ k.2 → w ≠ kindText k)
theorem kD_one {k l : Int × Int} (e : kD k = kD l) : k = l := by
  have e1 : PyData.tuple [.int k.1, .int k.2] = .tuple [.int l.1, .int l.2] := e
  injection e1 with e1
  injection e1 with e2 e3
  injection e2 with e2
  injection e3 with e3 _
  injection e3 with e3
  exact Prod.ext e2 e3
theorem linesK_kinds : ∀ {ws : List Str} {ks : Kinds}, Each2 LineK ws (ks.map kD) → ws = ks.map kindText
  | [], [], _ => rfl
  | [], k :: ks, h => by cases h
  | w :: ws, [], h => by cases h
  | w :: ws, k :: ks, h => by
    cases h with
    | cons h t =>
      rw [linesK_kinds t]
      rcases h with ⟨l, _, _, hl, e⟩ | ⟨no, _⟩
      · rw [hl, kD_one e]
        rfl
      · exact absurd rfl (no k)
theorem kindsK_lines : ∀ {ms : Kinds} {ds : List PyData}, (∀ k ∈ ms, 0 ≤ k.1 ∧ 0 ≤ k.2) → Each2 LineK (ms.map kindText) ds → ds = ms.map kD
  | [], [], _, _ => rfl
  | [], d :: ds, _, h => by cases h
  | k :: ms, [], _, h => by cases h
  | k :: ms, d :: ds, m, h => by
    cases h with
    | cons h t =>
      rw [kindsK_lines (fun q hq => m q (List.mem_cons_of_mem _ hq)) t]
      have nk := m k List.mem_cons_self
      rcases h with ⟨l, h1, h2, hl, rfl⟩ | ⟨_, no⟩
      · rw [kindText_inj nk.1 nk.2 h1 h2 hl]
        rfl
      · exact absurd rfl (no k nk.1 nk.2)
end Dg
namespace Dg
open PySem PySem.Spec PyProof.Rows L2 L2H LamX
/-! ### short texts in one line -/
def Gn (n : Nat) (s : Str) : Prop := s.length ≤ n ∧ ∀ c ∈ TL.tl s, c < 128 ∧ c ≠ 10
theorem Gn.app {a b : Nat} {x y : Str} (h : Gn a x) (h' : Gn b y) : Gn (a + b) (x ++ y) := by
  refine ⟨?_, fun c hc => ?_⟩
  · rw [TL.len_tl, TL.tl_append, List.length_append, ← TL.len_tl, ← TL.len_tl]
    have := h.1
    have := h'.1
    omega
  · rw [TL.tl_append] at hc
    rcases List.mem_append.mp hc with hc | hc
    · exact h.2 c hc
    · exact h'.2 c hc
theorem Gn.num {i : Int} (h0 : 0 ≤ i) (h1 : i < 100000000000000000000000000000000) : Gn 32 (numS i) := by
  refine ⟨?_, fun c hc => ?_⟩
  · rw [TL.len_tl, tl_numS h0]
    exact TL.numL_len (k := 32) (by decide) (by omega)
  · have := numS_mem h0 c hc
    omega
def gnB (n : Nat) (s : Str) : Bool := decide (s.length ≤ n) && (TL.tl s).all fun c => decide (c < 128) && decide (c ≠ 10)
theorem gn_dec {n : Nat} {s : Str} (h : gnB n s = true) : Gn n s := by
  unfold gnB at h
  rw [Bool.and_eq_true, decide_eq_true_eq, List.all_eq_true] at h
  refine ⟨h.1, fun c hc => ?_⟩
  have := h.2 c hc
  rw [Bool.and_eq_true, decide_eq_true_eq, decide_eq_true_eq] at this
  exact this
theorem Gn.mono {n m : Nat} {s : Str} (h : Gn n s) (l : n ≤ m) : Gn m s := ⟨Nat.le_trans h.1 l, h.2⟩
theorem Gn.sm {n : Nat} {s : Str} (h : Gn n s) (l : n ≤ 100) : SmS s := ⟨Nat.le_trans h.1 l, fun c hc => (h.2 c hc).1⟩
theorem Gn.nol {n : Nat} {s : Str} (h : Gn n s) : 10 ∉ TL.tl s := fun hc => (h.2 _ hc).2 rfl
theorem r_addG {H : Hp} {Q : VK} {K : PySem.W.Frag} {a b : Nat} {i j : Str} (h : Gn a i) (h' : Gn b j) (l : a + b ≤ 10000) (q : Gn (a + b) (i ++ j) → Q (.str (i ++ j)) H) : rAddA K (.str i) (.str j) H Q :=
  r_addS (Nat.le_trans (Nat.le_trans (Nat.add_le_add h.1 h'.1) l) (by decide)) (q (h.app h'))
end Dg
namespace Dg
open PySem PySem.Spec PyProof.Rows L2 L2H LamX
/-- repr of data that holds texts alone -/
theorem r_reprT {K : PySem.W.Frag} {H : Hp} {Q : VK} {x : V} {d : PyData} {n b : Nat} (h : Dp K H x d) (o : Okd d n b) (lf : d.leavesShort 13 = true) (hn : n ≤ 60) (hb : b ≤ 1048576) (q : Q (.str d.shown) H) : rReprA K [x] H Q :=
  ⟨x, d, rfl, h, o.sh, o.hd, Nat.le_trans o.dp hn, PyData.shown_fits_bulk (B := 13) (by decide) (by decide) lf (Nat.le_trans o.bk hb), q⟩
theorem badC_ok {ls : List Str} : ∀ (cs : List (Str × Str)) (seen : List Str) (i : Nat), (∀ c ∈ cs, c.1 ∈ ls ∧ 10 ∉ TL.tl c.2) → (seen ++ cs.map (·.1)).Nodup → badC ls (cs.map cD) seen i = none
  | [], _, _, _, _ => rfl
  | c :: r, seen, i, h, nd => by
    have hc := h c List.mem_cons_self
    have e : changeD ls (cD c) = true := by
      show (decide (c.1 ∈ ls) && !decide (10 ∈ TL.tl c.2)) = true
      rw [decide_eq_true hc.1, decide_eq_false hc.2]
      rfl
    have n : oldS (cD c) ∉ seen := by
      show c.1 ∉ seen
      rw [List.map_cons, List.nodup_append] at nd
      exact fun z => nd.2.2 _ z _ List.mem_cons_self rfl
    show (if changeD ls (cD c) = true ∧ oldS (cD c) ∉ seen then badC ls (r.map cD) (seen ++ [oldS (cD c)]) (i + 1) else some i) = none
    rw [if_pos ⟨e, n⟩]
    refine badC_ok r _ _ (fun q hq => h q (List.mem_cons_of_mem _ hq)) ?_
    rw [List.append_assoc]
    exact nd
theorem kind_lines_nodup {ks : Kinds} (ok : OkK ks) : (ks.map kindText).Nodup := by
  have z : ks.Nodup := by
    have z := ok.nodup
    unfold List.Nodup at z ⊢
    rw [List.pairwise_map] at z
    exact z.imp fun h e => h (by rw [e])
  unfold List.Nodup at z ⊢
  rw [List.pairwise_map]
  refine List.Pairwise.imp_of_mem ?_ z
  intro k l hk hl ne e
  have h1 := ok.2.2.all k hk
  have h2 := ok.2.2.all l hl
  exact ne (kindText_inj h1.1 (by omega) h2.1 (by omega) e)
theorem kind_not_row {k : Int × Int} (h1 : 0 ≤ k.1) (h2 : 0 ≤ k.2) : kindText k ≠ "row" := fun e => by
  have z := congrArg TL.tl e
  rw [tl_kind h1 h2] at z
  have m : (32 : Nat) ∈ TL.tl ("row" : Str) := by
    rw [← z]
    simp
  have : (32 : Nat) ∈ [114, 111, 119] := m
  simp at this
theorem newT_small {ks : Kinds} {cs : List (Str × Str)} (ok : OkK ks) (h : ∀ c ∈ cs, Gn 90 c.2) : (∀ c ∈ TL.tl (newT (ks.map kindText) cs), c < 128) ∧ (newT (ks.map kindText) cs).length ≤ 1200 ∧ ∀ w ∈ Txt.split (newT (ks.map kindText) cs) "\n", w.length ≤ 100 := by
  have each : ∀ l ∈ (((ks.map kindText).map (newS cs)).filter fun l => decide (l ≠ Str.empty)), Gn 90 l := fun l hl => by
    obtain ⟨hl, _⟩ := List.mem_filter.mp hl
    obtain ⟨o, ho, rfl⟩ := List.mem_map.mp hl
    obtain ⟨k, hk, rfl⟩ := List.mem_map.mp ho
    have kk := ok.2.2.all k hk
    refine newS_P (P := Gn 90) ?_ h
    have g : Gn (32 + 3 + 32) (kindText k) := ((Gn.num kk.1 (by omega)).app (gn_dec (n := 3) (by decide +kernel))).app (Gn.num (by omega) (by omega))
    exact g.mono (by decide)
  have many : (((ks.map kindText).map (newS cs)).filter fun l => decide (l ≠ Str.empty)).length ≤ 10 := by
    refine Nat.le_trans (List.length_filter_le _ _) ?_
    rw [List.length_map, List.length_map]
    exact ok.2.1
  refine ⟨join_small fun y hy c hc => ((each y hy).2 c hc).1, ?_, ?_⟩
  · refine Nat.le_trans (join_len (b := 90) (fun y hy => (each y hy).1) (by decide)) ?_
    have := Nat.mul_le_mul_right 91 (Nat.add_le_add_right many 1)
    omega
  · have sp : Txt.split (newT (ks.map kindText) cs) "\n" = ("row" : Str) :: (((ks.map kindText).map (newS cs)).filter fun l => decide (l ≠ Str.empty)) := by
      refine TL.split_join (s := 10) (S := []) rfl (by decide +kernel) (by simp) fun p hp => ?_
      rcases List.mem_cons.mp hp with rfl | hp
      · decide
      · exact (each p hp).nol
    rw [sp]
    intro w hw
    rcases List.mem_cons.mp hw with rfl | hw
    · decide
    · exact Nat.le_trans (each w hw).1 (by decide)
theorem Each2.mem {α β : Type} {R : α → β → Prop} : ∀ {as : List α} {bs : List β} {i : Nat} {a : α}, Each2 R as bs → as[i]? = some a → ∃ b, bs[i]? = some b ∧ R a b
  | _, _, _, _, .nil, h => by simp at h
  | _, _, 0, a, .cons h _, e => by
    simp at e
    subst e
    exact ⟨_, rfl, h⟩
  | _, _, i + 1, a, .cons _ t, e => by
    have e' := e
    simp at e'
    obtain ⟨b, h1, h2⟩ := t.mem e'
    exact ⟨b, by simpa using h1, h2⟩
theorem Each2.erase {α β : Type} {R : α → β → Prop} : ∀ {as : List α} {bs : List β} (i : Nat), Each2 R as bs → Each2 R (as.eraseIdx i) (bs.eraseIdx i)
  | _, _, _, .nil => by simp; exact .nil
  | _, _, 0, .cons _ t => t
  | _, _, i + 1, .cons h t => .cons h (t.erase i)
theorem Each2.imp {α β : Type} {R S : α → β → Prop} (f : ∀ a b, R a b → S a b) : ∀ {as : List α} {bs : List β}, Each2 R as bs → Each2 S as bs
  | _, _, .nil => .nil
  | _, _, .cons h t => .cons (f _ _ h) (t.imp f)
end Dg
namespace Dg
open PySem PySem.Spec PyProof.Rows L2 L2H LamX
theorem erase_map {α β : Type} (f : α → β) : ∀ (l : List α) (i : Nat), (l.map f).eraseIdx i = (l.eraseIdx i).map f
  | [], i => by simp
  | a :: r, 0 => rfl
  | a :: r, i + 1 => by
    show f a :: (r.map f).eraseIdx i = f a :: (r.eraseIdx i).map f
    rw [erase_map f r i]
theorem erase_permE {α : Type} : ∀ {l : List α} {i : Nat} {a : α}, l[i]? = some a → (a :: l.eraseIdx i).Perm l
  | [], i, a, h => by simp at h
  | b :: r, 0, a, h => by
    simp at h
    subst h
    exact List.Perm.refl _
  | b :: r, i + 1, a, h => by
    have h' : r[i]? = some a := by simpa using h
    exact (List.Perm.swap b a _).trans (List.Perm.cons b (erase_permE h'))
theorem Each2.refs {H : Hp} : ∀ {qs : List Addr} {es : List (Str × Str)}, Each2 (fun q c => H q = some (.tup [.str c.1, .str c.2])) qs es → Each2 (fun v c => ∃ b, v = V.ref b ∧ H b = some (.tup [.str c.1, .str c.2])) (qs.map V.ref) es
  | _, _, .nil => .nil
  | _, _, .cons h t => .cons ⟨_, rfl, h⟩ t.refs
end Dg

namespace Dg
open PySem PySem.Spec PyProof.Rows L2 L2H LamX
/-! ### how many figures stand in a row -/
def dg (c : Nat) : Bool := decide (48 ≤ c ∧ c ≤ 57)
def Runs (m : Nat) : List Nat → Prop
  | [] => True
  | c :: r => ((c :: r).takeWhile dg).length ≤ m ∧ Runs m r
theorem Runs.head {m : Nat} : ∀ {l : List Nat}, Runs m l → (l.takeWhile dg).length ≤ m
  | [], _ => Nat.zero_le _
  | _ :: _, h => h.1
theorem Runs.mono {m k : Nat} (l : m ≤ k) : ∀ {a : List Nat}, Runs m a → Runs k a
  | [], _ => True.intro
  | _ :: _, h => ⟨Nat.le_trans h.1 l, Runs.mono l h.2⟩
theorem tw_le : ∀ l : List Nat, (l.takeWhile dg).length ≤ l.length
  | [] => Nat.le_refl _
  | c :: r => by
    rw [List.takeWhile_cons]
    split
    · rw [List.length_cons, List.length_cons]
      exact Nat.add_le_add_right (tw_le r) 1
    · exact Nat.zero_le _
theorem Runs.of_le {m : Nat} : ∀ {l : List Nat}, l.length ≤ m → Runs m l
  | [], _ => True.intro
  | c :: r, h => ⟨Nat.le_trans (tw_le _) h, Runs.of_le (by rw [List.length_cons] at h; omega)⟩
theorem tw_app : ∀ a b : List Nat, ((a ++ b).takeWhile dg).length ≤ (a.takeWhile dg).length + (b.takeWhile dg).length
  | [], b => by simp
  | c :: r, b => by
    rw [List.cons_append, List.takeWhile_cons, List.takeWhile_cons]
    split
    · have := tw_app r b
      rw [List.length_cons, List.length_cons]
      omega
    · exact Nat.zero_le _
theorem tw_left : ∀ a b : List Nat, (a.takeWhile dg).length ≤ ((a ++ b).takeWhile dg).length
  | [], b => Nat.zero_le _
  | c :: r, b => by
    rw [List.cons_append, List.takeWhile_cons, List.takeWhile_cons]
    split
    · have := tw_left r b
      rw [List.length_cons, List.length_cons]
      omega
    · exact Nat.zero_le _
theorem tw_sep {s : Nat} (hs : dg s = false) : ∀ a b : List Nat, ((a ++ s :: b).takeWhile dg).length ≤ (a.takeWhile dg).length
  | [], b => by simp [List.takeWhile_cons, hs]
  | c :: r, b => by
    rw [List.cons_append, List.takeWhile_cons, List.takeWhile_cons]
    split
    · have := tw_sep hs r b
      rw [List.length_cons, List.length_cons]
      omega
    · exact Nat.zero_le _
theorem Runs.app {m k : Nat} : ∀ {a b : List Nat}, Runs m a → Runs k b → Runs (m + k) (a ++ b)
  | [], b, _, h => h.mono (by omega)
  | c :: r, b, h, h' => ⟨Nat.le_trans (tw_app (c :: r) b) (Nat.add_le_add h.1 h'.head), Runs.app h.2 h'⟩
theorem Runs.left {m : Nat} : ∀ {a b : List Nat}, Runs m (a ++ b) → Runs m a
  | [], _, _ => True.intro
  | c :: r, b, h => ⟨Nat.le_trans (tw_left (c :: r) b) h.1, Runs.left h.2⟩
theorem Runs.right {m : Nat} : ∀ {a b : List Nat}, Runs m (a ++ b) → Runs m b
  | [], _, h => h
  | _ :: _, _, h => Runs.right h.2
theorem Runs.sep {m s : Nat} (hs : dg s = false) : ∀ {a b : List Nat}, Runs m a → Runs m b → Runs m (a ++ s :: b)
  | [], b, _, h => ⟨by simp [List.takeWhile_cons, hs], h⟩
  | c :: r, b, h, h' => ⟨Nat.le_trans (tw_sep hs (c :: r) b) h.1, Runs.sep hs h.2 h'⟩
theorem Runs.take {m : Nat} (k : Nat) {l : List Nat} (h : Runs m l) : Runs m (l.take k) := by
  rw [← List.take_append_drop k l] at h
  exact h.left
theorem Runs.drop {m : Nat} (k : Nat) {l : List Nat} (h : Runs m l) : Runs m (l.drop k) := by
  rw [← List.take_append_drop k l] at h
  exact h.right
theorem Runs.join {m s : Nat} (hs : dg s = false) : ∀ {ps : List (List Nat)}, (∀ p ∈ ps, Runs m p) → Runs m (TL.joinL [s] ps)
  | [], _ => True.intro
  | [p], h => h p List.mem_cons_self
  | p :: q :: r, h => by
    show Runs m (p ++ ([s] ++ TL.joinL [s] (q :: r)))
    exact Runs.sep hs (h p List.mem_cons_self) (Runs.join hs fun x hx => h x (List.mem_cons_of_mem _ hx))
theorem Runs.part {m : Nat} {S : List Nat} : ∀ {ps : List (List Nat)} {p : List Nat}, Runs m (TL.joinL S ps) → p ∈ ps → Runs m p
  | [q], p, h, hp => by
    rw [List.mem_singleton.mp hp]
    exact h
  | q :: r :: ps, p, h, hp => by
    have h' : Runs m (q ++ (S ++ TL.joinL S (r :: ps))) := h
    rcases List.mem_cons.mp hp with rfl | hp
    · exact h'.left
    · exact Runs.part h'.right.right hp
theorem runs_all {m : Nat} {l : List Nat} (h : Runs m l) (d : ∀ c ∈ l, 48 ≤ c ∧ c ≤ 57) : l.length ≤ m := by
  have e : l.takeWhile dg = l := by
    clear h
    induction l with
    | nil => rfl
    | cons c r ih =>
      rw [List.takeWhile_cons, if_pos (show dg c = true from decide_eq_true (d c List.mem_cons_self)), ih fun x hx => d x (List.mem_cons_of_mem _ hx)]
  have := h.head
  rw [e] at this
  exact this
/-! ### texts of bounded length, of small signs, with few figures in a row -/
structure TxB (n m : Nat) (s : Str) : Prop where
  ln : s.length ≤ n
  sm : ∀ c ∈ TL.tl s, c < 128
  rn : Runs m (TL.tl s)
theorem TxB.mono {n m n' m' : Nat} {s : Str} (h : TxB n m s) (l1 : n ≤ n') (l2 : m ≤ m') : TxB n' m' s := ⟨Nat.le_trans h.ln l1, h.sm, h.rn.mono l2⟩
theorem TxB.app {n m n' m' : Nat} {x y : Str} (h : TxB n m x) (h' : TxB n' m' y) : TxB (n + n') (m + m') (x ++ y) := by
  refine ⟨?_, fun c hc => ?_, ?_⟩
  · rw [TL.len_tl, TL.tl_append, List.length_append, ← TL.len_tl, ← TL.len_tl]
    exact Nat.add_le_add h.ln h'.ln
  · rw [TL.tl_append] at hc
    rcases List.mem_append.mp hc with hc | hc
    · exact h.sm c hc
    · exact h'.sm c hc
  · rw [TL.tl_append]
    exact h.rn.app h'.rn
theorem TxB.cut {n m : Nat} {s : Str} (h : TxB n m s) (lo hi : Option Int) : TxB n m (cutS s lo hi) := by
  refine ⟨Nat.le_trans (cutS_length s lo hi) h.ln, fun c hc => ?_, ?_⟩
  · exact h.sm c (List.mem_of_mem_drop (List.mem_of_mem_take hc))
  · exact Runs.take _ (Runs.drop _ h.rn)
theorem TxB.split {n m : Nat} {s y p : Str} (h : TxB n m s) (hp : p ∈ Txt.split s y) : TxB n m p := by
  refine ⟨Nat.le_trans (split_part hp) h.ln, fun c hc => h.sm c (split_mem hp hc), ?_⟩
  have z := congrArg TL.tl (StrLaws.join_split s y)
  rw [TL.tl_join] at z
  refine Runs.part (S := TL.tl y) (ps := (Txt.split s y).map TL.tl) ?_ (List.mem_map_of_mem hp)
  rw [z]
  exact h.rn
theorem TxB.digits {n m : Nat} {s : Str} (h : TxB n m s) (d : Dg.digits s) : s.length ≤ m := by
  rw [TL.len_tl]
  exact runs_all h.rn d
/-- of few signs -/
theorem txb_few {n : Nat} {s : Str} (h : Gn n s) : TxB n n s := ⟨h.1, fun c hc => (h.2 c hc).1, Runs.of_le (by rw [← TL.len_tl]; exact h.1)⟩
def txbB (n : Nat) (s : Str) : Bool := decide (s.length ≤ n) && (TL.tl s).all fun c => decide (c < 128)
theorem txb_dec {n : Nat} {s : Str} (h : txbB n s = true) : TxB n n s := by
  unfold txbB at h
  rw [Bool.and_eq_true, decide_eq_true_eq, List.all_eq_true] at h
  exact ⟨h.1, fun c hc => of_decide_eq_true (h.2 c hc), Runs.of_le (by rw [← TL.len_tl]; exact h.1)⟩
theorem txb_kind {k : Int × Int} (h1 : 0 ≤ k.1) (h2 : k.1 ≤ 10000000000000000000000000000000) (h3 : 0 ≤ k.2) (h4 : k.2 ≤ 10000000000000000000000000000000) : TxB 67 32 (kindText k) := by
  refine ⟨kind_len h1 h2 h3 h4, kind_small h1 h3, ?_⟩
  rw [tl_kind h1 h3, List.append_assoc]
  have a : Runs 32 (TL.numL k.1.toNat) := Runs.of_le (TL.numL_len (k := 32) (by decide) (by omega))
  have b : Runs 32 (TL.numL k.2.toNat) := Runs.of_le (TL.numL_len (k := 32) (by decide) (by omega))
  exact Runs.sep (s := 32) rfl a (Runs.sep (a := [120]) (s := 32) rfl (Runs.of_le (by decide)) b)
theorem txb_sheet {ks : Kinds} (ok : OkK ks) : TxB 700 32 (sheet ks) := by
  refine ⟨sheet_short ok, sheet_small ok, ?_⟩
  unfold sheet
  rw [TL.join_eq, TL.tl_join]
  refine Runs.join (s := 10) rfl fun p hp => ?_
  obtain ⟨y, hy, rfl⟩ := List.mem_map.mp hp
  rcases List.mem_cons.mp hy with rfl | hy
  · exact Runs.of_le (by decide)
  · obtain ⟨k, hk, rfl⟩ := List.mem_map.mp hy
    have kk := ok.2.2.all k hk
    exact (txb_kind kk.1 kk.2.1 (by omega) (by omega)).rn
/-! ### joined -/
def Wd (ys : List Str) : Nat := (ys.map fun y => y.length + 1).sum
theorem Wd.app (a b : List Str) : Wd (a ++ b) = Wd a + Wd b := by
  unfold Wd
  rw [List.map_append, List.sum_append]
theorem Wd.cons (y : Str) (r : List Str) : Wd (y :: r) = y.length + 1 + Wd r := by
  unfold Wd
  rw [List.map_cons, List.sum_cons]
theorem Wd.rev (a : List Str) : Wd a.reverse = Wd a := by
  induction a with
  | nil => rfl
  | cons y r ih =>
    rw [List.reverse_cons, Wd.app, ih, Wd.cons, Wd.cons]
    show Wd r + (y.length + 1 + 0) = _
    omega
theorem Wd.cut (k : Nat) (a : List Str) : Wd (a.take k) + Wd (a.drop k) = Wd a := by
  rw [← Wd.app, List.take_append_drop]
theorem Wd.drop1 (k : Nat) (a : List Str) : Wd (a.drop (k + 1)) ≤ Wd (a.drop k) := by
  have z := Wd.cut 1 (a.drop k)
  rw [List.drop_drop] at z
  omega
theorem joinL_wd {s : Nat} : ∀ (ys : List Str), (TL.joinL [s] (ys.map TL.tl)).length ≤ Wd ys ∧ (ys ≠ [] → (TL.joinL [s] (ys.map TL.tl)).length + 1 = Wd ys)
  | [] => ⟨Nat.zero_le _, fun h => absurd rfl h⟩
  | [y] => by
    have e : (TL.joinL [s] ([y].map TL.tl)).length = y.length := (TL.len_tl y).symm
    rw [Wd.cons, e]
    show y.length ≤ y.length + 1 + 0 ∧ (_ → y.length + 1 = y.length + 1 + 0)
    exact ⟨by omega, fun _ => rfl⟩
  | y :: z :: r => by
    have ih := (joinL_wd (s := s) (z :: r)).2 (by simp)
    have e : (TL.joinL [s] ((y :: z :: r).map TL.tl)).length = y.length + (1 + (TL.joinL [s] ((z :: r).map TL.tl)).length) := by
      show (TL.tl y ++ ([s] ++ TL.joinL [s] ((z :: r).map TL.tl))).length = _
      rw [List.length_append, List.length_append, ← TL.len_tl]
      rfl
    rw [Wd.cons, e]
    exact ⟨by omega, fun _ => by omega⟩
theorem split_wd {x sep : Str} {s : Nat} (hs : TL.tl sep = [s]) (ne : Txt.split x sep ≠ []) : Wd (Txt.split x sep) = x.length + 1 := by
  have z := congrArg TL.tl (StrLaws.join_split x sep)
  rw [TL.tl_join, hs] at z
  have y := (joinL_wd (s := s) (Txt.split x sep)).2 ne
  rw [z, ← TL.len_tl] at y
  exact y.symm
/-- a list of texts that may be joined -/
structure GoodL (n m : Nat) (ys : List Str) : Prop where
  wd : Wd ys ≤ n
  al : ∀ y ∈ ys, TxB n m y
theorem GoodL.join {n m : Nat} {ys : List Str} {sep : Str} {s : Nat} (hs : TL.tl sep = [s]) (nd : dg s = false) (l : s < 128) (h : GoodL n m ys) : TxB n m (Txt.join sep ys) := by
  rw [TL.join_eq]
  refine ⟨?_, fun c hc => ?_, ?_⟩
  · rw [TL.len_tl, TL.tl_join, hs]
    exact Nat.le_trans (joinL_wd ys).1 h.wd
  · rw [TL.tl_join, hs] at hc
    rcases mem_joinL hc with hc | ⟨p, hp, hc⟩
    · rw [List.mem_singleton.mp hc]
      exact l
    · obtain ⟨y, hy, rfl⟩ := List.mem_map.mp hp
      exact (h.al y hy).sm c hc
  · rw [TL.tl_join, hs]
    refine Runs.join nd fun p hp => ?_
    obtain ⟨y, hy, rfl⟩ := List.mem_map.mp hp
    exact (h.al y hy).rn
theorem GoodL.fit {n m : Nat} {ys : List Str} {sep : Str} (h : GoodL n m ys) (hs : sep.length = 1) (l : n ≤ 100000) : (ys.map (·.length)).sum + ys.length * sep.length ≤ 16777216 := by
  have e : (ys.map (·.length)).sum + ys.length * sep.length = Wd ys := by
    rw [hs, Nat.mul_one]
    unfold Wd
    clear h
    induction ys with
    | nil => rfl
    | cons y r ih =>
      rw [List.map_cons, List.map_cons, List.sum_cons, List.sum_cons, List.length_cons]
      omega
  have := h.wd
  omega
/-! ### slices of texts too -/
section
variable {X : Cx} {K : PySem.W.Frag} {H : Hp} {Q : VK}
def slC (K : PySem.W.Frag) : V → Option Int → Option Int → Hp → VK → Prop := fun x lo hi H Q => rSlL K x lo hi H Q ∨ rSlS x lo hi H Q
theorem slCK (h : X.K = K) : SlR X (slC K) := h ▸ sl_list.or sl_str
theorem r_slLC {a : Addr} {xs : List V} {lo hi : Option Int} (h : SqL K H a xs) (q : New H (.lst (cutV xs lo hi)) Q) : slC K (.ref a) lo hi H Q := .inl ⟨a, xs, rfl, h, q⟩
theorem r_slSC {z : Str} {lo hi : Option Int} (l : z.length ≤ 100000) (q : Q (.str (cutS z lo hi)) H) : slC K (.str z) lo hi H Q := .inr ⟨z, rfl, Nat.le_trans l (by decide), q⟩
theorem cutL_upto {ls : List Str} {k : Nat} : cutV (ls.map V.str) none (some (k : Int)) = (ls.take k).map V.str := by
  rw [cut_upto (by omega), Int.toNat_natCast, List.map_take]
theorem cutL_from {ls : List Str} {k : Nat} : cutV (ls.map V.str) (some (k : Int)) none = (ls.drop k).map V.str := by
  rw [cut_from (by omega), Int.toNat_natCast, List.map_drop]
theorem cutL_mid {ls : List Str} {k : Nat} : cutV (ls.map V.str) (some (k : Int)) (some ((k : Int) + 1)) = ((ls.drop k).take 1).map V.str := by
  rw [cut_mid, List.map_take, List.map_drop]
theorem at_some {xs : List V} {r : Int} (h1 : 0 ≤ r) (h2 : r < (xs.length : Int)) : ∃ v, atI xs r = some v ∧ v ∈ xs := by
  have hl : r.toNat < xs.length := by omega
  exact ⟨xs[r.toNat], atI_of h1 (List.getElem?_eq_getElem hl), List.getElem_mem hl⟩
end
end Dg
namespace Dg
open PySem PySem.Spec PyProof.Rows L2 L2H LamX
/-! ### things whose texts are short -/
def StrOk (d : PyData) : Prop := ∀ x, d = .str x → TxB 100 100 x
def strOkB : PyData → Bool
  | .str x => txbB 100 x
  | _ => true
theorem strok_dec {d : PyData} (h : strOkB d = true) : StrOk d := fun x e => by
  subst e
  exact txb_dec h
def ThingY (K : PySem.W.Frag) (bad : Addr → Prop) (H : Hp) (x : V) : Prop := ∃ d, HeldX K bad H x d ∧ Showy d ∧ StrOk d
theorem ThingY.of {K : PySem.W.Frag} {bad : Addr → Prop} {H : Hp} {x : V} {d : PyData} (h : HeldX K bad H x d) (s : Showy d) (o : StrOk d) : ThingY K bad H x := ⟨d, h, s, o⟩
theorem ThingY.keep {K : PySem.W.Frag} {bad : Addr → Prop} {H H1 : Hp} {x : V} (h : ThingY K bad H x) (k : Keeps bad H H1) : ThingY K bad H1 x := let ⟨d, z, s⟩ := h; ⟨d, z.keep k, s⟩
def AllY (K : PySem.W.Frag) (bad : Addr → Prop) (H : Hp) (xs : List V) : Prop := ∀ v ∈ xs, ThingY K bad H v
theorem AllY.nil {K : PySem.W.Frag} {bad : Addr → Prop} {H : Hp} : AllY K bad H [] := fun v h => absurd h List.not_mem_nil
theorem AllY.cons {K : PySem.W.Frag} {bad : Addr → Prop} {H : Hp} {x : V} {xs : List V} (h : ThingY K bad H x) (t : AllY K bad H xs) : AllY K bad H (x :: xs) := fun v hv => by
  rcases List.mem_cons.mp hv with rfl | hv
  · exact h
  · exact t v hv
theorem AllY.app {K : PySem.W.Frag} {bad : Addr → Prop} {H : Hp} {xs ys : List V} (h : AllY K bad H xs) (t : AllY K bad H ys) : AllY K bad H (xs ++ ys) := fun v hv => by
  rcases List.mem_append.mp hv with hv | hv
  · exact h v hv
  · exact t v hv
/-- it can be shown, and what is shown is no longer than 60,000 signs -/
structure ShowL (d : PyData) : Prop where
  sh : d.showable = true
  dp : d.depth ≤ 60
  ln : d.shown.length ≤ sizeLine
  ok : Okd (.str d.shown) 0 60000
theorem Showy.l {d : PyData} (h : Showy d) : ShowL d := ⟨h.sh, h.dp, h.ln, h.ok.mono (Nat.le_refl _) (by decide)⟩
theorem ShowL.str {x : Str} (h : ∀ c ∈ TL.tl x, c < 128) (l : x.length ≤ 5900) : ShowL (.str x) := by
  have z := StrLaws.reprText_len x (fun c hc => Nat.lt_trans (h c hc) (by decide))
  have z' : (reprText x).length ≤ 60000 := by omega
  refine ⟨rfl, ?_, Nat.le_trans (show (reprText x).length ≤ 60000 from z') (by decide), okd_str (x := reprText x) (repr_small h) z' (by decide)⟩
  show (0 : Nat) ≤ 60
  exact Nat.zero_le _
theorem r_reprXL {K : PySem.W.Frag} {H : Hp} {Q : VK} {x : V} {d : PyData} (h : Dx K H x d) (o : ShowL d) (q : Q (.str d.shown) H) : rReprX K [x] H Q := ⟨x, d, rfl, h, o.sh, o.dp, o.ln, q⟩
theorem r_reprXT {K : PySem.W.Frag} {H : Hp} {Q : VK} {x : V} {d : PyData} {n b : Nat} (h : Dp K H x d) (o : Okd d n b) (lf : d.leavesShort 13 = true) (hn : n ≤ 60) (hb : b ≤ 1048576) (q : Q (.str d.shown) H) : rReprX K [x] H Q :=
  ⟨x, d, rfl, .dp h o.hd, o.sh, Nat.le_trans o.dp hn, PyData.shown_fits_bulk (B := 13) (by decide) (by decide) lf (Nat.le_trans o.bk hb), q⟩
end Dg
namespace Dg
open PySem PySem.Spec PyProof.Rows L2 L2H LamX
/-! ### texts that are of no row, by computing -/
def numB (w : Str) : Option Int := if TL.tl w ≠ [] ∧ (∀ c ∈ TL.tl w, 48 ≤ c ∧ c ≤ 57) ∧ (TL.tl w = [48] ∨ (TL.tl w).head? ≠ some 48) then some ((NumText.digitsVal (TL.tl w) : Nat) : Int) else none
def lineB (w : Str) : Option (Int × Int) := match Txt.split w " " with
  | [a, m, b] => if m = "x" then (match numB a, numB b with | some i, some j => some (i, j) | _, _ => none) else none
  | _ => none
def descB : Int → Kinds → Bool
  | _, [] => true
  | m, k :: r => decide (0 ≤ k.1 ∧ k.1 ≤ m ∧ 1 ≤ k.2 ∧ k.2 ≤ 1000000000000000000000000000000) && descB (k.1 - 1) r
def linesB : List Str → Option Kinds
  | [] => some []
  | w :: r => match lineB w, linesB r with
    | some k, some ks => some (k :: ks)
    | _, _ => none
def rowB (t : Str) : Bool := match Txt.split t "\n" with
  | f :: ls => decide (f = ("row" : Str)) && (match linesB ls with | some ks => decide (ks ≠ [] ∧ ks.length ≤ 10) && descB 10000000000000000000000000000000 ks | none => false)
  | [] => false
theorem numB_num {n : Int} (h : 0 ≤ n) : numB (numS n) = some n := by
  unfold numB
  rw [if_pos]
  · rw [tl_numS h, TL.numL_val]
    congr 1
    omega
  · rw [tl_numS h]
    refine ⟨TL.numL_ne _, fun c hc => TL.numL_digits _ c hc, ?_⟩
    by_cases z : (TL.numL n.toNat).head? = some 48
    · have := numL_head _ z
      rw [this]
      exact .inl (by rw [TL.numL_lt (by decide)])
    · exact .inr z
theorem lineB_kind {k : Int × Int} (h1 : 0 ≤ k.1) (h2 : 0 ≤ k.2) : lineB (kindText k) = some k := by
  unfold lineB
  rw [split_kind h1 h2]
  show (if ("x" : Str) = "x" then (match numB (numS k.1), numB (numS k.2) with | some i, some j => some (i, j) | _, _ => none) else none) = _
  rw [if_pos rfl, numB_num h1, numB_num h2]
theorem linesB_kinds : ∀ {ks : Kinds}, (∀ k ∈ ks, 0 ≤ k.1 ∧ 0 ≤ k.2) → linesB (ks.map kindText) = some ks
  | [], _ => rfl
  | k :: r, h => by
    have hk := h k List.mem_cons_self
    show (match lineB (kindText k), linesB (r.map kindText) with | some k, some ks => some (k :: ks) | _, _ => none) = _
    rw [lineB_kind hk.1 hk.2, linesB_kinds fun q hq => h q (List.mem_cons_of_mem _ hq)]
theorem descB_ok : ∀ {ks : Kinds} {m : Int}, Desc m ks → descB m ks = true
  | [], _, _ => rfl
  | k :: r, m, h => by
    show (decide _ && descB (k.1 - 1) r) = true
    rw [decide_eq_true ⟨h.1, h.2.1, h.2.2.1, h.2.2.2.1⟩, descB_ok h.2.2.2.2]
    rfl
theorem no_row {t : Str} (h : rowB t = false) (ks : Kinds) : ¬ RowText t ks := fun rt => by
  have nn : ∀ k ∈ ks, 0 ≤ k.1 ∧ 0 ≤ k.2 := fun k hk => by
    have := rt.1.2.2.all k hk
    omega
  unfold rowB at h
  rw [rt.2, split_sheet nn] at h
  have h' : (decide (("row" : Str) = "row") && (match linesB (ks.map kindText) with | some ks => decide (ks ≠ [] ∧ ks.length ≤ 10) && descB 10000000000000000000000000000000 ks | none => false)) = false := h
  rw [linesB_kinds nn] at h'
  have h'' : (decide (("row" : Str) = "row") && (decide (ks ≠ [] ∧ ks.length ≤ 10) && descB 10000000000000000000000000000000 ks)) = false := h'
  rw [decide_eq_true (show ("row" : Str) = "row" from rfl), decide_eq_true ⟨rt.1.1, rt.1.2.1⟩, descB_ok rt.1.2.2] at h''
  cases h''
/-- a short text that is of no row -/
def BadT (t : Str) : Prop := TxB 200 200 t ∧ ∀ ks, ¬ RowText t ks
theorem badT {t : Str} (h : (txbB 200 t && !rowB t) = true) : BadT t := by
  rw [Bool.and_eq_true, Bool.not_eq_true'] at h
  exact ⟨txb_dec h.1, no_row h.2⟩
end Dg

namespace Dg
open PySem PySem.Spec PyProof.Rows L2 L2H LamX
/-! ### a block over an iterator: how a turn begins, how it ends, what is left behind it -/
section
variable {X : Cx} {P : Program} {w : World} {K : PySem.W.Frag}
/-- nothing of the iterator is told in the heap -/
abbrev Hid (fp : List Addr) (H : Hp) : Prop := ∀ b ∈ fp, H b = none
theorem hid_fp {s0 : Shared} {H0 : Hp} {scope : Scope} {ce : Env} {fp : List Addr} {σ : HSt} {H : Hp} {s : Shared} (I : Inv (X.blk s0 H0 scope ce fp) [] σ H s) (n : Hid fp H) :
    ∀ b ∈ fp, FpOk (X.blk s0 H0 scope ce fp) [] H b := by
  intro b hb
  have k := I.ok.exf b hb
  exact ⟨n b hb, k.1, I.ok.exfs b hb, .inl hb, fun x c e => k.2 x c e, fun p hp => absurd (show p ∈ ([] : List (Addr × Obj)) ++ [] from hp) (by simp)⟩
/-- a turn's beginning -/
theorem blk_go {s0 : Shared} {H0 : Hp} {scope : Scope} {ce : Env} {fp : List Addr} {it : Addr} {tn : Nat → Heap → Prop} {J : It} {tg : Expr} {g : TG} {σ : HSt} {H : Hp} {s : Shared} {i : Nat} {R : HSt → Hp → Prop} {Z : Unit → Shared → Prop}
    {F : Shared → Prop} {E0 E1 E2 : Value → Shared → Prop}
    (T : Turn X.prog X.w X.K tg J fp it tn) (hc : X.calm = true) (I : Inv (X.blk s0 H0 scope ce fp) [] σ H s) (n : Hid fp H) (st : tn i s.heap) (go : J.go i H)
    (G : PG (X.blk s0 H0 scope ce fp) tg g) (step : ∀ x H', J.yld i H x H' → g x σ H' R)
    (post : ∀ (h7 : Heap) s8 σ8 H8, tn (i + 1) h7 → Inv (X.blk s0 H0 scope ce fp) ([] ++ pinsAt fp h7) σ8 H8 s8 → R σ8 H8 → Z () s8) :
    wpAny (model X.prog X.w) X.A (pyNext (.ref it)) (fun r s1 => match r with
      | none => F s1
      | some u => wpAny (model X.prog X.w) X.A (letOwnedTupleGo tg (.ref it) u) (fun _ s2 => wpAny (model X.prog X.w) X.A (assign tg ce u) Z E2 s2) E1 s1) E0 s := by
  have t := T.item (X.blk s0 H0 scope ce fp) rfl rfl rfl hc i [] s σ H (fun _ _ => False) I (hid_fp I n) st go
  refine thnF t fun r s6 ⟨u, hr, h6⟩ => ?_
  subst hr
  refine thnF h6 fun _ sx ⟨x, Hx, Ix, rx, yx, stx, nx⟩ => ?_
  have pinned := Ix.pinned (hid_fp Ix nx) (T.obj _ _ stx)
  exact thnF (G.run _ sx _ Hx x u _ pinned rx (step x Hx yx)) fun _ s8 ⟨σ8, H8, I8, q8⟩ => post sx.heap s8 σ8 H8 stx I8 q8
/-- a turn's end -/
theorem blk_back {s0 : Shared} {H0 : Hp} {scope : Scope} {ce : Env} {fp : List Addr} {it : Addr} {tn : Nat → Heap → Prop} {J : It} {tg : Expr} {σ σ8 : HSt} {H : Hp} {s : Shared} {i : Nat} {h7 : Heap} {vs : List Nat}
    (T : Turn X.prog X.w X.K tg J fp it tn) (st : tn i h7) (I : Inv (X.blk s0 H0 scope ce fp) ([] ++ pinsAt fp h7) σ8 H s) (hw : wipe σ8 vs = wipe σ vs) :
    Inv (X.blk s0 H0 scope ce fp) [] (wipe σ vs) H s ∧ tn i s.heap ∧ Hid fp H := by
  have pin : ∀ b ∈ fp, ∀ o, h7.get? b = some o → s.heap.get? b = some o ∧ H b = none := by
    intro b hb o e
    have z := I.pin (b, o) (List.mem_append_right _ (List.mem_append_right _ (mem_pinsAt hb e)))
    exact ⟨z.1, z.2.1⟩
  have hl : (wipe σ vs).length = σ8.length := by rw [← hw, wipe_length]
  refine ⟨(I.unpinned (pins := [])).weak hl ?_, T.keep _ _ _ st fun b hb o e => (pin b hb o e).1, ?_⟩
  · intro j v e
    rw [← hw] at e
    exact (wipe_some e).1
  · intro b hb
    obtain ⟨o, e, _⟩ := T.obj _ _ st b hb
    exact (pin b hb o e).2
/-! ### a set of numbers, made by a comprehension -/
/-- y is put among the numbers at D, and N holds then -/
def PutI (w : World) (D : Addr) (y : V) (H : Hp) (N : Hp → Prop) : Prop :=
  ∃ (k : Int) (S : Int → Bool) (n : Nat), y = .int k ∧ H D = some (SetO w D S n) ∧ n + 1 < scanBound ∧ N (upd H D (SetO w D (fun j => S j || decide (j = k)) (if S k = true then n else n + 1)))
theorem put_ok {Y : Cx} {pins : List (Addr × Obj)} {σ : HSt} {H : Hp} {s : Shared} {E : Value → Shared → Prop} {D : Addr} {y : V} {z : Value} {N : Hp → Prop} (I : Inv Y pins σ H s) (r : RelV y z) (p : PutI Y.w D y H N) :
    wpAny (model Y.prog Y.w) Y.A (call (.builtin "set.add") [.ref D, z]) (fun _ s' => ∃ H', Inv Y pins σ H' s' ∧ N H') E s := by
  obtain ⟨k, S, n, rfl, hD, room, q⟩ := p
  obtain ⟨tk, rfl⟩ := r
  refine setR_add (setO_get I hD) room fun h' sb new => ?_
  obtain ⟨o, _, _, _, ho, _⟩ := id new
  exact ⟨_, I.write (e := D) (t' := s.toks + 1) (by rw [hD]; trivial) (.inl rfl) (fun b u hb hu => (sb.2 b hb).trans hu) ⟨o, ho⟩ (setO_new new), q⟩
/-- what a turn asks: W by the turn and a measure -/
def IcW (w : World) (J : It) (D : Addr) (H1 : Hp) (Qd : Hp → Prop) (tn : (V → Hp → (Hp → Prop) → Prop)) : Prop :=
  ∃ W : Nat → Nat → Hp → Prop, (∃ m, W 0 m (upd H1 D (SetO w D (fun _ => false) 0))) ∧ ∀ i m H, W i m H →
    (J.stop i H ∧ Qd H) ∨ (J.go i H ∧ ∃ N : Hp → Prop, (∀ H', N H' → ∃ m', m' < m ∧ W (i + 1) m' H') ∧ ∀ x H', J.yld i H x H' → tn x H' N)
/-- {elt for target in iter if ..}, elt a number: D the new set -/
def tIc (w : World) (wi : TI) (g : TG) (tt : TT) (te : TE) (vs : List Nat) : TE := fun σ H Q => wi σ H fun J H1 => ∀ D, H1 D = none → IcW w J D H1 (fun H' => Q (.ref D) H') fun x H' N =>
  g x (wipe σ vs) H' fun σ2 H2 => wipe σ2 vs = wipe σ vs ∧ tt σ2 H2 fun b H3 => if b = true then te σ2 H3 fun y H4 => PutI w D y H4 N else N H3
theorem pe_ic {elt tg iter : Expr} {ifs : List Expr} {scope : Scope} {own : List (Str × Nat)} {pos : Pos} {wi : TI} {g : TG} {tt : TT} {te : TE} (hc : X.calm = true) (hN : X.N.Nodup) (hi : PI X tg iter wi)
    (ok : BlkOk X.N X.env.scope scope own)
    (hg : ∀ (s : Shared) (H : Hp) (C : Addr) (cl : List (Str × Addr)) (fp : List Addr), PG (X.blk s H scope (compEnvC scope cl C X.env) fp) tg g)
    (ht : ∀ (s : Shared) (H : Hp) (C : Addr) (cl : List (Str × Addr)) (fp : List Addr), PTs (X.blk s H scope (compEnvC scope cl C X.env) fp) ifs tt)
    (he : ∀ (s : Shared) (H : Hp) (C : Addr) (cl : List (Str × Addr)) (fp : List Addr), PE (X.blk s H scope (compEnvC scope cl C X.env) fp) elt te)
    (hs : ∀ x, foldedSetIterable iter X.env x = pure x := by intro _; rfl) :
    PE X (.SetComp elt [⟨tg, iter, ifs, 0⟩] scope pos) (tIc X.w wi g tt te (own.map (·.2))) := by
  refine ⟨fun pins s σ H Q Iv h => ?_⟩
  rw [PpSet.eval_SetComp]
  have free : ∀ y ∈ scope.names, y.2 = .free → ∃ c, X.env.cells.lookup y.1 = some c := by
    intro y hy e
    exact (ok.free y hy e).elim (fun k => Iv.ok.has _ (.inl k)) (fun k => Iv.ok.has _ (.inr k))
  refine wpAny_comprehension_free (use := none) rfl hs (closure_ok free) ok.kind (fun y hy e => by rw [ok.uniq y hy, e]) ?_
  refine thn (hi.run pins s σ H _ Iv h) fun xv s1 hx => thn hx fun itv s2 h2 => ?_
  obtain ⟨it, fp, tn, J, H2, rfl, I2, T, st2, f2, q⟩ := h2
  refine PpSet.newSet_ok (newEnv_comp ?_)
  obtain ⟨D, hD⟩ : ∃ D, s2.heap.objs.size = D := ⟨_, rfl⟩
  have unusedD : H2 D = none := I2.hok.fresh (Nat.le_of_eq hD)
  obtain ⟨W, ⟨mz, wz⟩, turn⟩ := q D unusedD
  rw [hD]
  -- the set, still empty
  obtain ⟨s3, hs3⟩ : ∃ s3 : Shared, s3 = { s2 with heap := s2.heap.push { cls := .type "set", dict := none, data := .set #[] 0 (.fresh 0 0 (!X.w.params.followText "set-order")) } } := ⟨_, rfl⟩
  obtain ⟨H3, hH3⟩ : ∃ H3 : Hp, H3 = upd H2 D (SetO X.w D (fun _ => false) 0) := ⟨_, rfl⟩
  have keep3 : ∀ b o, s2.heap.get? b = some o → s3.heap.get? b = some o := fun b o e => by rw [hs3]; exact Heap.get?_push_of_some _ e
  have I3 : Inv X pins σ H3 s3 := by
    rw [hH3, hs3]
    refine I2.laid (t' := s2.toks) (fun c u e => Heap.get?_push_of_some _ e) (Nat.le_of_eq hD) ?_
    rw [← hD]
    exact setO_new (setR_fresh X.w)
  have f3 : ∀ b ∈ fp, FpOk X pins H3 b ∧ b < s3.heap.objs.size := by
    intro b hb
    obtain ⟨ob, e, _⟩ := T.obj _ _ st2 b hb
    have lt := Heap.lt_size e
    have ne : b ≠ D := by rw [← hD]; exact Nat.ne_of_lt lt
    refine ⟨⟨by rw [hH3, upd_ne ne]; exact (f2 b hb).1, (f2 b hb).2⟩, ?_⟩
    rw [hs3]
    show b < (s2.heap.push _).objs.size
    rw [Heap.size_push]
    exact Nat.lt_succ_of_lt lt
  have st3 : tn 0 s3.heap := T.keep _ _ _ st2 fun b _ o e => keep3 b o e
  have Ib := block_start I3 ok hN f3
  obtain ⟨C, hC⟩ : ∃ C, s3.heap.objs.size = C := ⟨_, rfl⟩
  obtain ⟨cl, hcl⟩ : ∃ cl, cellsFrom (C + 1) scope.names (cloFrom X.env.cells scope.names []) = cl := ⟨_, rfl⟩
  obtain ⟨ce, hce⟩ : ∃ ce, compEnvC scope cl C X.env = ce := ⟨_, rfl⟩
  have G := hg s3 H3 C cl fp
  have TT := ht s3 H3 C cl fp
  have EE := he s3 H3 C cl fp
  rw [hce] at G TT EE
  rw [hC, hcl, hce] at Ib
  have cL : ce.locals = C := by rw [← hce]; rfl
  obtain ⟨s4, hs4⟩ : ∃ s4 : Shared, s4 = { s3 with heap := pushCells (s3.heap.push { cls := .type "dict", data := .dict #[] }) scope.names } := ⟨_, rfl⟩
  have st4 : tn 0 s4.heap := T.keep _ _ _ st3 fun b _ o e => by rw [hs4]; exact pushCells_keeps _ _ _ _ (Heap.get?_push_of_some _ e)
  rw [← hs4] at Ib
  rw [← hs3, hC, hcl]
  show codeAny _ _ (.compStart (.SetComp elt [⟨tg, iter, ifs, 0⟩] scope pos) 0 (.ref it) (.ref D) (compEnvC scope cl C X.env)) _ _
  rw [hce, ← hs4]
  have hid : Hid fp H3 := fun b hb => (f3 b hb).1.1
  refine (fun loop => PpSet.codeAny_compStart_set loop (T.self X.A 0 _ _ _ st4 loop)) ?_
  refine PpSet.compLoopS_any (fun n s' => ∃ i H', Inv (X.blk s3 H3 scope ce fp) [] (wipe σ (own.map (·.2))) H' s' ∧ tn i s'.heap ∧ Hid fp H' ∧ W i n H') ?_ mz ⟨0, H3, Ib, st4, hid, by rw [hH3]; exact wz⟩
  rintro n s5 ⟨i, H5, I5, st5, n5, wi5⟩
  rcases turn i n H5 wi5 with ⟨stop, qq⟩ | ⟨go, N, hN', step⟩
  · refine thnF (T.done (X.blk s3 H3 scope ce fp) rfl rfl rfl hc i [] s5 _ H5 (fun _ _ => False) I5 (hid_fp I5 n5) st5 stop) fun r s6 ⟨hr, I6⟩ => ?_
    subst hr
    have I7 : Inv X pins σ H5 s6 := I3.call' (ch := fp) I6.os I6.base I6.hok I6.bare fun b hb =>
      have z := (f3 b hb).1.2
      ⟨z.2.2.1, z.1, z.2.2.2.1, z.2.2.2.2⟩
    have nC : H5 C = none := by rw [← cL]; exact I6.free
    obtain ⟨m, hn, _⟩ := I6.loc
    replace hn : s6.heap.Ns ce.locals m := hn
    rw [cL] at hn
    obtain ⟨k0, k1, k2, k3, k4, k5⟩ := I3.fpOk (b := C) (H' := H5) (Nat.le_of_eq hC) nC
    exact ⟨m, hn, fun h'' sb => ⟨.ref D, H5, I7.turned (t' := s6.toks) (fun b o hb e => (sb.2 b hb).trans e) k0 k1 k3 k4 k5, rfl, qq⟩⟩
  · refine blk_go (R := fun σ2 H2 => wipe σ2 (own.map (·.2)) = wipe σ (own.map (·.2)) ∧ tt σ2 H2 fun b H3 => if b = true then te σ2 H3 fun y H4 => PutI X.w D y H4 N else N H3) T hc I5 n5 st5 go G step ?_
    · intro h7 s8 σ8 H8 st7 I8 ⟨hw8, q8⟩
      have fin : ∀ {s' : Shared} {H' : Hp}, Inv (X.blk s3 H3 scope ce fp) ([] ++ pinsAt fp h7) σ8 H' s' → N H' → ∃ m, m < n ∧ ∃ i H', Inv (X.blk s3 H3 scope ce fp) [] (wipe σ (own.map (·.2))) H' s' ∧ tn i s'.heap ∧ Hid fp H' ∧ W i m H' := by
        intro s' H' I' nx
        obtain ⟨m', hm, w'⟩ := hN' H' nx
        obtain ⟨a, b, c⟩ := blk_back T st7 I' hw8
        exact ⟨m', hm, i + 1, H', a, b, c, w'⟩
      refine thnF (TT.run _ s8 σ8 H8 _ I8 q8) fun b s9 ⟨H9, I9, q9⟩ => ?_
      cases b with
      | false => exact fin I9 q9
      | true =>
        simp only [if_true] at q9 ⊢
        exact thnF (EE.run _ s9 σ8 H9 _ I9 q9) fun z s10 ⟨yv, H10, I10, r10, p⟩ => wpAny_mono (put_ok (Y := X.blk s3 H3 scope ce fp) I10 r10 p) (fun _ s11 ⟨H', I', nx⟩ => fin I' nx) fun _ _ z => z
end
/-! ### the rules -/
/-- the set at D has just the numbers of L -/
def SetI (w : World) (D : Addr) (L : List Int) (H : Hp) : Prop := ∃ S n, H D = some (SetO w D S n) ∧ (∀ k, S k = true ↔ k ∈ L) ∧ n ≤ L.length
theorem SetI.nil {w : World} {D : Addr} {H : Hp} : SetI w D [] (upd H D (SetO w D (fun _ => false) 0)) :=
  ⟨_, 0, upd_same, fun k => ⟨fun e => absurd e Bool.false_ne_true, fun h => by cases h⟩, Nat.le_refl _⟩
/-- between two turns -/
def IcP (w : World) (D : Addr) (P : Nat → List Int → Hp → Prop) (i : Nat) (H : Hp) : Prop := ∃ L, SetI w D L H ∧ L.length ≤ i ∧ P i L H
theorem r_icw {w : World} {σ : HSt} {H : Hp} {te : TE} {J : It} {k : Nat} {G : Hp → Prop} {Y : Nat → Hp → V → Hp → Prop} {g : TG} {tt : TT} {vs : List Nat} {D : Addr} {Qd : Hp → Prop} (wk : Walk J k G Y) (hD : H D = none) (P : Nat → List Int → Hp → Prop)
    (h0 : ∀ H', Same H H' → SetI w D [] H' → P 0 [] H') (hG : ∀ i L H', i ≤ k → P i L H' → SetI w D L H' → G H')
    (hs : ∀ i x L H1 H2, i < k → L.length ≤ i → P i L H1 → SetI w D L H1 → Y i H1 x H2 → g x (wipe σ vs) H2 fun σ2 H3 => wipe σ2 vs = wipe σ vs ∧ tt σ2 H3 fun b H4 =>
      if b = true then te σ2 H4 fun y H5 => PutI w D y H5 (IcP w D P (i + 1)) else IcP w D P (i + 1) H4)
    (hd : ∀ L H', L.length ≤ k → P k L H' → SetI w D L H' → Qd H') :
    IcW w J D H Qd fun x H' N => g x (wipe σ vs) H' fun σ2 H2 => wipe σ2 vs = wipe σ vs ∧ tt σ2 H2 fun b H3 => if b = true then te σ2 H3 fun y H4 => PutI w D y H4 N else N H3 := by
  refine ⟨fun i m H => m = k - i ∧ i ≤ k ∧ IcP w D P i H, ⟨k, rfl, Nat.zero_le _, [], .nil, Nat.le_refl _, h0 _ (fun b u e => by rw [upd_ne (ne_of_none e hD)]; exact e) .nil⟩, ?_⟩
  rintro i m H5 ⟨rfl, hi, L, hL, hl, p⟩
  have g0 := hG i L H5 hi p hL
  rcases Nat.lt_or_ge i k with lt | ge
  · exact .inr ⟨wk.goes i H5 lt g0, IcP w D P (i + 1), fun H' p' => ⟨k - (i + 1), by omega, rfl, lt, p'⟩, fun x H' y => hs i x L H5 H' lt hl p hL (wk.yields i H5 x H' lt g0 y)⟩
  · have e : i = k := Nat.le_antisymm hi ge
    subst e
    exact .inl ⟨wk.stops H5 g0, hd L H5 hl p hL⟩
theorem r_into {w : World} {D : Addr} {L : List Int} {k : Int} {P : Nat → List Int → Hp → Prop} {i : Nat} {H : Hp} (h : SetI w D L H) (hl : L.length ≤ i) (hi : i < 4000) (q : ∀ H', But D H H' → SetI w D (L ++ [k]) H' → P (i + 1) (L ++ [k]) H') :
    PutI w D (.int k) H (IcP w D P (i + 1)) := by
  obtain ⟨S, n, e, hS, hn⟩ := h
  have b : scanBound = 4096 := rfl
  have z : SetI w D (L ++ [k]) (upd H D (SetO w D (fun j => S j || decide (j = k)) (if S k = true then n else n + 1))) := by
    refine ⟨_, _, upd_same, fun j => ?_, ?_⟩
    · rw [Bool.or_eq_true, decide_eq_true_eq, hS j, List.mem_append, List.mem_singleton]
    · rw [List.length_append]
      have : [k].length = 1 := rfl
      split <;> omega
  exact ⟨k, S, n, rfl, e, by omega, L ++ [k], z, by rw [List.length_append]; exact Nat.add_le_add_right hl 1, q _ (fun b u n e => by rw [upd_ne n]; exact e) z⟩
theorem r_skipI {w : World} {D : Addr} {L : List Int} {P : Nat → List Int → Hp → Prop} {i : Nat} {H : Hp} (h : SetI w D L H) (hl : L.length ≤ i) (q : P (i + 1) L H) : IcP w D P (i + 1) H := ⟨L, h, Nat.le_succ_of_le hl, q⟩
theorem r_ic {w : World} {σ : HSt} {H : Hp} {Q : VK} {wi : TI} {g : TG} {tt : TT} {te : TE} {vs : List Nat} (h : wi σ H fun J H1 => ∀ D, H1 D = none → IcW w J D H1 (fun H' => Q (.ref D) H') fun x H' N =>
    g x (wipe σ vs) H' fun σ2 H2 => wipe σ2 vs = wipe σ vs ∧ tt σ2 H2 fun b H3 => if b = true then te σ2 H3 fun y H4 => PutI w D y H4 N else N H3) : tIc w wi g tt te vs σ H Q := h
/-! ### ascending, each once -/
def insI (k : Int) : List Int → List Int
  | [] => [k]
  | a :: r => if k < a then k :: a :: r else if k = a then a :: r else a :: insI k r
def ascI : List Int → List Int
  | [] => []
  | k :: r => insI k (ascI r)
theorem mem_insI {k j : Int} : ∀ {l : List Int}, j ∈ insI k l ↔ j = k ∨ j ∈ l
  | [] => by simp [insI]
  | a :: r => by
    unfold insI
    split
    · rw [List.mem_cons]
    · split
      · rename_i e
        subst e
        rw [List.mem_cons]
        exact ⟨.inr, fun h => h.elim .inl id⟩
      · rw [List.mem_cons, List.mem_cons, mem_insI (l := r)]
        exact ⟨fun h => h.elim (fun z => .inr (.inl z)) fun h => h.elim .inl fun z => .inr (.inr z), fun h => h.elim (fun z => .inr (.inl z)) fun h => h.elim .inl fun z => .inr (.inr z)⟩
theorem asc_insI {k : Int} : ∀ {l : List Int}, l.Pairwise (· < ·) → (insI k l).Pairwise (· < ·)
  | [], _ => by simp [insI]
  | a :: r, h => by
    have ⟨h1, h2⟩ := List.pairwise_cons.mp h
    unfold insI
    split
    · rename_i lt
      exact List.pairwise_cons.mpr ⟨fun j hj => (List.mem_cons.mp hj).elim (fun e => by rw [e]; exact lt) fun e => Int.lt_trans lt (h1 j e), h⟩
    · split
      · exact h
      · refine List.pairwise_cons.mpr ⟨fun j hj => ?_, asc_insI h2⟩
        rcases mem_insI.mp hj with e | e
        · omega
        · exact h1 j e
theorem mem_ascI {j : Int} : ∀ {l : List Int}, j ∈ ascI l ↔ j ∈ l
  | [] => Iff.rfl
  | k :: r => by rw [ascI, mem_insI, mem_ascI (l := r), List.mem_cons]
theorem asc_ascI : ∀ {l : List Int}, (ascI l).Pairwise (· < ·)
  | [] => .nil
  | k :: r => asc_insI asc_ascI
theorem asc_uniq : ∀ {a b : List Int}, a.Pairwise (· < ·) → b.Pairwise (· < ·) → (∀ k, k ∈ a ↔ k ∈ b) → a = b
  | [], [], _, _, _ => rfl
  | [], y :: b, _, _, h => absurd ((h y).mpr List.mem_cons_self) (by simp)
  | x :: a, [], _, _, h => absurd ((h x).mp List.mem_cons_self) (by simp)
  | x :: a, y :: b, ha, hb, h => by
    have ⟨a1, a2⟩ := List.pairwise_cons.mp ha
    have ⟨b1, b2⟩ := List.pairwise_cons.mp hb
    have e : x = y := by
      rcases List.mem_cons.mp ((h x).mp List.mem_cons_self) with e | e
      · exact e
      · rcases List.mem_cons.mp ((h y).mpr List.mem_cons_self) with f | f
        · exact f.symm
        · have := b1 x e
          have := a1 y f
          omega
    subst e
    rw [asc_uniq a2 b2 fun k => ?_]
    constructor
    · intro hk
      rcases List.mem_cons.mp ((h k).mp (List.mem_cons_of_mem _ hk)) with e | e
      · have := a1 k hk
        omega
      · exact e
    · intro hk
      rcases List.mem_cons.mp ((h k).mpr (List.mem_cons_of_mem _ hk)) with e | e
      · have := b1 k hk
        omega
      · exact e
theorem ascI_length : ∀ {l : List Int}, (ascI l).length ≤ l.length
  | [] => Nat.le_refl _
  | k :: r => by
    have z : ∀ l : List Int, (insI k l).length ≤ l.length + 1 := by
      intro l
      induction l with
      | nil => exact Nat.le_refl _
      | cons a r ih =>
        unfold insI
        split
        · exact Nat.le_refl _
        · split
          · exact Nat.le_succ _
          · rw [List.length_cons, List.length_cons]
            exact Nat.add_le_add_right ih 1
    exact Nat.le_trans (z _) (Nat.add_le_add_right ascI_length 1)
theorem callSortedS {X : Cx} (hc : X.calm = true) : CallR X (.builtin "sorted") (rSortedSet X.w) := cr_sortedSet hc
theorem r_sortedS {w : World} {D : Addr} {L : List Int} {H : Hp} {Q : VK} (h : SetI w D L H) (hl : L.length < 64) (q : New H (.lst ((ascI L).map V.int)) Q) : rSortedSet w [.ref D] H Q := by
  obtain ⟨S, n, e, hS, hn⟩ := h
  refine ⟨D, S, n, rfl, e, by omega, fun ns p h1 h2 _ hp => ?_⟩
  rw [asc_uniq h1 asc_ascI (b := ascI L) fun k => by rw [h2, hS, mem_ascI]]
  exact q p hp
/-! ### name op= a number -/
theorem r_aug {i : Nat} {te : TE} {f : Int → Int → Int} {a : Int} {n : HSt → Hp → Prop} {r : VK} {bk ct : HSt → Hp → Prop} {σ : HSt} {H : Hp} (h : σ[i]? = some (some (.int a))) (q : te σ H fun y H1 => ∃ b, y = .int b ∧ n (σ.set i (some (.int (f a b)))) H1)
    (m : ∀ R R' : VK, (∀ v H, R v H → R' v H) → te σ H R → te σ H R') : tAug i te (ipI f) ⟨n, r, bk, ct⟩ σ H :=
  ⟨.int a, h, m _ _ (fun v H1 ⟨b, e, z⟩ => ⟨a, b, rfl, e, z⟩) q⟩
theorem r_aug0 {i : Nat} {te : TE} {f : Int → Int → Int} {a : Int} {n : HSt → Hp → Prop} {r : VK} {bk ct : HSt → Hp → Prop} {σ : HSt} {H : Hp} (h : σ[i]? = some (some (.int a))) (q : te σ H fun y H1 => ipI f (.int a) y H1 fun z H2 => n (σ.set i (some z)) H2) :
    tAug i te (ipI f) ⟨n, r, bk, ct⟩ σ H := ⟨.int a, h, q⟩
theorem r_ip {f : Int → Int → Int} {a b : Int} {H : Hp} {Q : VK} (q : Q (.int (f a b)) H) : ipI f (.int a) (.int b) H Q := ⟨a, b, rfl, rfl, q⟩
end Dg

namespace Dg
open PySem PySem.Spec PyProof.Rows L2 L2H LamX
/-! ### room, turns, what bars -/
/-- kinds, maybe beyond those of a row -/
def LowK (ks : Kinds) : Prop := ks.length ≤ 30 ∧ ∀ p ∈ ks, p.1.natAbs < 2 ^ 250 ∧ 0 ≤ p.2 ∧ p.2.natAbs < 2 ^ 240
theorem OkK.low {ks : Kinds} (ok : OkK ks) : LowK ks := by
  refine ⟨Nat.le_trans ok.2.1 (by decide), fun p hp => ?_⟩
  have kk := ok.2.2.all p hp
  have b : (10000000000000000000000000000000 : Nat) < 2 ^ 250 := by decide
  have c : (10000000000000000000000000000000 : Nat) < 2 ^ 240 := by decide
  refine ⟨Nat.lt_of_le_of_lt ?_ b, ?_, Nat.lt_of_le_of_lt ?_ c⟩ <;> omega
theorem drop_at {α : Type} {l : List α} {j : Nat} {p : α} (h : l[j]? = some p) : l.drop j = p :: l.drop (j + 1) := by
  obtain ⟨hl, he⟩ := List.getElem?_eq_some_iff.mp h
  rw [List.drop_eq_getElem_cons hl, he]
def mi (i j : Int) : Int := if j < i then j else i
def roomGo (k : Int) : Kinds → Int → Int → Int
  | [], _, sp => sp
  | (d, m) :: r, left, sp => roomGo k r (left - mi m left) (sp + ((m - mi m left) * mi k d - mi m left * d))
def roomK (ks : Kinds) (k : Int) : Int := roomGo k ks k (k * (k - 1))
def marksK : Kinds → Int → List Int
  | [], _ => []
  | (d, m) :: r, e => d :: (e + m) :: marksK r (e + m)
theorem placesK_nil : placesK [] = 0 := rfl
theorem placesK_cons {p : Int × Int} {ks : Kinds} : placesK (p :: ks) = p.2 + placesK ks := by
  unfold placesK
  rw [List.map_cons, List.sum_cons]
theorem marksK_snoc {p : Int × Int} : ∀ {ks : Kinds} {e : Int}, marksK (ks ++ [p]) e = marksK ks e ++ [p.1, e + placesK ks + p.2]
  | [], e => by
    show [p.1, e + p.2] = [p.1, e + 0 + p.2]
    rw [Int.add_zero]
  | (d, m) :: r, e => by
    show d :: (e + m) :: marksK (r ++ [p]) (e + m) = d :: (e + m) :: (marksK r (e + m) ++ _)
    rw [marksK_snoc, placesK_cons, Int.add_assoc e m]
theorem placesK_snoc {p : Int × Int} {ks : Kinds} : placesK (ks ++ [p]) = placesK ks + p.2 := by
  unfold placesK
  rw [List.map_append, List.sum_append]
  simp
theorem marksK_length : ∀ {ks : Kinds} {e : Int}, (marksK ks e).length = 2 * ks.length
  | [], _ => rfl
  | (d, m) :: r, e => by
    show (marksK r (e + m)).length + 1 + 1 = 2 * (r.length + 1)
    rw [marksK_length]
    omega
def turnsK (ks : Kinds) : List Int := ascI ((marksK ks 0).filter fun k => decide (0 < k) && decide (k ≤ placesK ks))
def barGo (ks : Kinds) : List Int → Int → Int → Option Int
  | [], _, _ => none
  | k :: r, b, sp => if roomK ks k < 0 then some (b + sp / ((sp - roomK ks k) / (k - b)) + 1) else barGo ks r k (roomK ks k)
def endsK (ks : Kinds) : Int := (ks.map fun k => k.1 * k.2).sum
def barK (ks : Kinds) : Option Int := if endsK ks % 2 = 1 then some 0 else barGo ks (turnsK ks) 0 0
/-! ### between two marks -/
def conGo (k : Int) : Kinds → Int → Int
  | [], _ => 0
  | (d, m) :: r, left => ((m - mi m left) * mi k d - mi m left * d) + conGo k r (left - mi m left)
theorem roomGo_con {k : Int} : ∀ {ks : Kinds} {left sp : Int}, roomGo k ks left sp = sp + conGo k ks left
  | [], _, sp => (Int.add_zero sp).symm
  | (d, m) :: r, left, sp => by
    rw [roomGo, conGo, roomGo_con, Int.add_assoc]
theorem mi_l {i j : Int} (h : i ≤ j) : mi i j = i := by unfold mi; split <;> omega
theorem mi_r {i j : Int} (h : j ≤ i) : mi i j = j := by unfold mi; split <;> omega
/-- f rises or falls evenly from a to b, or stays above f a -/
def Alt (a b : Int) (f : Int → Int) : Prop := (∃ C, ∀ k, a ≤ k → k ≤ b → f k = f a + (k - a) * C) ∨ (∀ k, a ≤ k → k ≤ b → f a ≤ f k)
theorem con_after {a b : Int} : ∀ {ks : Kinds}, (∀ p ∈ ks, 0 ≤ p.2) → (∀ p ∈ ks, p.1 ≤ a ∨ b ≤ p.1) → ∃ C, 0 ≤ C ∧ ∀ k, a ≤ k → k ≤ b → conGo k ks 0 = conGo a ks 0 + (k - a) * C
  | [], _, _ => ⟨0, Int.le_refl _, fun k _ _ => by simp [conGo]⟩
  | (d, m) :: r, hm, hd => by
    obtain ⟨C, c0, hC⟩ := con_after (a := a) (b := b) (ks := r) (fun p hp => hm p (List.mem_cons_of_mem _ hp)) (fun p hp => hd p (List.mem_cons_of_mem _ hp))
    have m0 : 0 ≤ m := hm (d, m) List.mem_cons_self
    have z : mi m 0 = 0 := mi_r m0
    rcases hd (d, m) List.mem_cons_self with h | h
    · have h : d ≤ a := h
      refine ⟨C, c0, fun k h1 h2 => ?_⟩
      rw [conGo, conGo, z, mi_r (show d ≤ k by omega), mi_r h, Int.sub_zero, Int.sub_zero, hC k h1 h2, Int.add_assoc]
    · have h : b ≤ d := h
      refine ⟨m + C, by omega, fun k h1 h2 => ?_⟩
      rw [conGo, conGo, z, mi_l (show k ≤ d by omega), mi_l (show a ≤ d by omega), Int.sub_zero, Int.sub_zero, hC k h1 h2]
      have e1 : (k - a) * (m + C) = k * m - a * m + (k - a) * C := by rw [Int.mul_add, Int.sub_mul k a m]
      rw [e1, Int.mul_comm m k, Int.mul_comm m a]
      omega
theorem con_alt {a b : Int} (a0 : 0 ≤ a) (ab : a < b) : ∀ {ks : Kinds} {s : Int}, (∀ p ∈ ks, 0 ≤ p.2) → (∀ j ∈ marksK ks s, j ≤ a ∨ b ≤ j) → s ≤ a → b ≤ s + placesK ks →
    Alt a b fun k => k * (k - 1) + conGo k ks (k - s)
  | [], s, _, _, h1, h2 => by
    rw [placesK_nil] at h2
    omega
  | (d, m) :: r, s, hm, hj, h1, h2 => by
    have m0 : 0 ≤ m := hm (d, m) List.mem_cons_self
    have hm' : ∀ p ∈ r, 0 ≤ p.2 := fun p hp => hm p (List.mem_cons_of_mem _ hp)
    have hd := hj d List.mem_cons_self
    have he := hj (s + m) (List.mem_cons_of_mem _ List.mem_cons_self)
    have hj' : ∀ j ∈ marksK r (s + m), j ≤ a ∨ b ≤ j := fun j h => hj j (List.mem_cons_of_mem _ (List.mem_cons_of_mem _ h))
    rw [placesK_cons] at h2
    rcases he with he | he
    · -- this kind lies ahead of a
      have ih := con_alt a0 ab (ks := r) (s := s + m) hm' hj' he (by omega)
      have e : ∀ k, a ≤ k → k * (k - 1) + conGo k ((d, m) :: r) (k - s) = (k * (k - 1) + conGo k r (k - (s + m))) + -(m * d) := by
        intro k hk
        rw [conGo, mi_l (show m ≤ k - s by omega), Int.sub_self, Int.zero_mul, show k - s - m = k - (s + m) by omega]
        omega
      rcases ih with ⟨C, ih⟩ | ih
      · refine .inl ⟨C, fun k k1 k2 => ?_⟩
        have z := ih k k1 k2
        have e1 := e k k1
        have e2 := e a (Int.le_refl _)
        dsimp only at z ⊢
        rw [e1, e2, z]
        omega
      · refine .inr fun k k1 k2 => ?_
        have z := ih k k1 k2
        have e1 := e k k1
        have e2 := e a (Int.le_refl _)
        dsimp only at z ⊢
        rw [e1, e2]
        omega
    · -- this is the kind of the places from a to b
      have hd' : ∀ p ∈ r, p.1 ≤ a ∨ b ≤ p.1 := by
        have gen : ∀ (r : Kinds) (s : Int), (∀ j ∈ marksK r s, j ≤ a ∨ b ≤ j) → ∀ p ∈ r, p.1 ≤ a ∨ b ≤ p.1 := by
          intro r
          induction r with
          | nil => intro s _ p hp; cases hp
          | cons q r ih =>
            intro s h p hp
            obtain ⟨d', m'⟩ := q
            rcases List.mem_cons.mp hp with e | e
            · subst e
              exact h d' List.mem_cons_self
            · exact ih (s + m') (fun j hj => h j (List.mem_cons_of_mem _ (List.mem_cons_of_mem _ hj))) p e
        exact gen r _ hj'
      obtain ⟨C, c0, hC⟩ := con_after hm' hd'
      have e : ∀ k, a ≤ k → k ≤ b → k * (k - 1) + conGo k ((d, m) :: r) (k - s) = k * (k - 1) + ((m - (k - s)) * mi k d - (k - s) * d) + (conGo a r 0 + (k - a) * C) := by
        intro k k1 k2
        rw [conGo, mi_r (show k - s ≤ m by omega), Int.sub_self, hC k k1 k2]
        omega
      have ea := e a (Int.le_refl _) (by omega)
      rcases hd with hd | hd
      · -- never falls
        refine .inr fun k k1 k2 => ?_
        have ek := e k k1 k2
        dsimp only
        rw [ek, ea, mi_r (show d ≤ k by omega), mi_r hd, Int.sub_self, Int.zero_mul]
        have kc : 0 ≤ (k - a) * C := Int.mul_nonneg (by omega) c0
        have p : 0 ≤ (k - a) * (k + a - 1 - 2 * d) := by
          rcases Int.lt_or_le a k with lt | ge
          · exact Int.mul_nonneg (by omega) (by omega)
          · rw [show k = a by omega, Int.sub_self, Int.zero_mul]
            exact Int.le_refl _
        have x : (k - a) * (k + a - 1 - 2 * d) = (k * (k - 1) + ((m - (k - s)) * d - (k - s) * d)) - (a * (a - 1) + ((m - (a - s)) * d - (a - s) * d)) := by
          simp only [Int.sub_mul, Int.mul_sub, Int.mul_add, Int.add_mul, Int.mul_one, Int.one_mul]
          rw [Int.mul_comm a k, show k * (2 * d) = 2 * (k * d) by rw [Int.mul_left_comm], show a * (2 * d) = 2 * (a * d) by rw [Int.mul_left_comm]]
          omega
        omega
      · refine .inl ⟨m + s - d - 1 + C, fun k k1 k2 => ?_⟩
        have ek := e k k1 k2
        dsimp only
        rw [ek, ea, mi_l (show k ≤ d by omega), mi_l (show a ≤ d by omega), Int.sub_self, Int.zero_mul]
        simp only [Int.sub_mul, Int.mul_sub, Int.mul_add, Int.add_mul, Int.mul_one, Int.one_mul]
        rw [Int.mul_comm k m, Int.mul_comm a m, Int.mul_comm k s, Int.mul_comm a s]
        omega
theorem room_con {ks : Kinds} {k : Int} : roomK ks k = k * (k - 1) + conGo k ks (k - 0) := by
  rw [Int.sub_zero]
  exact roomGo_con
theorem room_alt {a b : Int} {ks : Kinds} (hm : ∀ p ∈ ks, 0 ≤ p.2) (a0 : 0 ≤ a) (ab : a < b) (hb : b ≤ placesK ks) (hj : ∀ j ∈ marksK ks 0, j ≤ a ∨ b ≤ j) : Alt a b (roomK ks) := by
  have z := con_alt a0 ab hm hj a0 (by omega)
  rcases z with ⟨C, z⟩ | z
  · exact .inl ⟨C, fun k h1 h2 => by rw [room_con, room_con]; exact z k h1 h2⟩
  · exact .inr fun k h1 h2 => by rw [room_con, room_con]; exact z k h1 h2
theorem bar_go {ks : Kinds} (hm : ∀ p ∈ ks, 0 ≤ p.2) (hn : placesK ks ∈ marksK ks 0) : ∀ {l : List Int} {b : Int}, l.Pairwise (· < ·) → (∀ j ∈ l, b < j ∧ j ≤ placesK ks) →
    (∀ j ∈ marksK ks 0, b < j → j ≤ placesK ks → j ∈ l) → 0 ≤ b → b ≤ placesK ks → 0 ≤ roomK ks b → (∀ k, 1 ≤ k → k ≤ b → 0 ≤ roomK ks k) →
    (barGo ks l b (roomK ks b) = none → ∀ k, 1 ≤ k → k ≤ placesK ks → 0 ≤ roomK ks k) ∧
    ∀ j, barGo ks l b (roomK ks b) = some j → 1 ≤ j ∧ j ≤ placesK ks ∧ roomK ks j < 0 ∧ ∀ k, 1 ≤ k → k < j → 0 ≤ roomK ks k
  | [], b, _, _, hall, b0, hb, hr, hlow => by
    refine ⟨fun _ k k1 k2 => hlow k k1 ?_, fun j e => by cases e⟩
    rcases Int.lt_or_le b (placesK ks) with lt | ge
    · exact absurd (hall _ hn lt (Int.le_refl _)) (by simp)
    · omega
  | t :: r, b, hp, hin, hall, b0, hb, hr, hlow => by
    have ⟨p1, p2⟩ := List.pairwise_cons.mp hp
    have ⟨t1, t2⟩ := hin t List.mem_cons_self
    have alt := room_alt hm b0 t1 t2 fun j hj => by
      rcases Int.lt_or_le b j with lt | ge
      · rcases Int.lt_or_le j t with lt' | ge'
        · rcases List.mem_cons.mp (hall j hj lt (by omega)) with e | e
          · omega
          · have := p1 j e
            omega
        · exact .inr ge'
      · exact .inl ge
    by_cases c : roomK ks t < 0
    · have eb : barGo ks (t :: r) b (roomK ks b) = some (b + roomK ks b / ((roomK ks b - roomK ks t) / (t - b)) + 1) := by rw [barGo, if_pos c]
      rw [eb]
      refine ⟨fun e => (by cases e), fun j e => ?_⟩
      have e := Option.some.inj e
      rcases alt with ⟨C, z⟩ | z
      · have zt := z t (by omega) (Int.le_refl _)
        generalize roomK ks b = sp at hr zt z e
        obtain ⟨F, hF⟩ : ∃ F, F = -C := ⟨_, rfl⟩
        have hC : C = -F := by omega
        subst hC
        have d0 : 0 < t - b := by omega
        have f0 : 0 < F := by
          rcases Int.lt_or_le 0 F with lt | ge
          · exact lt
          · have := Int.mul_nonneg (show 0 ≤ t - b by omega) (show 0 ≤ -F by omega)
            omega
        have q : (sp - roomK ks t) / (t - b) = F := by
          rw [zt, Int.mul_neg, show sp - (sp + -((t - b) * F)) = (t - b) * F by omega]
          exact Int.mul_ediv_cancel_left F (by omega)
        rw [q] at e
        have q0 : 0 ≤ sp / F := Int.ediv_nonneg hr (by omega)
        have dm := Int.mul_ediv_add_emod sp F
        have r0 := Int.emod_nonneg sp (show F ≠ 0 by omega)
        have r1 := Int.emod_lt_of_pos sp f0
        generalize sp / F = Y at e q0 dm
        have le : Y < t - b := by
          rcases Int.lt_or_le Y (t - b) with lt | ge
          · exact lt
          · have := Int.mul_le_mul_of_nonneg_right ge (show 0 ≤ F by omega)
            rw [Int.mul_comm Y F] at this
            rw [Int.mul_neg] at zt
            omega
        refine ⟨by omega, by omega, ?_, fun k k1 k2 => ?_⟩
        · rw [z j (by omega) (by omega), show j - b = Y + 1 by omega, Int.mul_neg, Int.add_mul, Int.one_mul, Int.mul_comm Y F]
          omega
        · rcases Int.lt_or_le b k with lt | ge
          · rw [z k (by omega) (by omega), Int.mul_neg]
            have := Int.mul_le_mul_of_nonneg_right (show k - b ≤ Y by omega) (show 0 ≤ F by omega)
            rw [Int.mul_comm Y F] at this
            omega
          · exact hlow k k1 ge
      · have := z t (by omega) (Int.le_refl _)
        omega
    · rw [barGo, if_neg c]
      refine bar_go hm hn p2 (fun j hj => ⟨p1 j hj, (hin j (List.mem_cons_of_mem _ hj)).2⟩) (fun j hj h1 h2 => ?_) (by omega) t2 (by omega) fun k k1 k2 => ?_
      · rcases List.mem_cons.mp (hall j hj (by omega) h2) with e | e
        · omega
        · exact e
      · rcases Int.lt_or_le b k with lt | ge
        · rcases alt with ⟨C, z⟩ | z
          · have zt := z t (by omega) (Int.le_refl _)
            have zk := z k (by omega) k2
            rw [zk]
            rcases Int.lt_or_le C 0 with cn | cp
            · have : (t - b) * C ≤ (k - b) * C := Int.mul_le_mul_of_nonpos_right (by omega) (by omega)
              omega
            · have := Int.mul_nonneg (show 0 ≤ k - b by omega) cp
              omega
          · have := z k (by omega) k2
            omega
        · exact hlow k k1 ge
theorem last_mark : ∀ {ks : Kinds} {e : Int}, ks ≠ [] → e + placesK ks ∈ marksK ks e
  | [(d, m)], e, _ => by
    show e + (m + 0) ∈ [d, e + m]
    rw [Int.add_zero]
    simp
  | (d, m) :: q :: r, e, _ => by
    rw [placesK_cons, ← Int.add_assoc]
    exact List.mem_cons_of_mem _ (List.mem_cons_of_mem _ (last_mark (by simp)))
theorem room_zero {ks : Kinds} (hm : ∀ p ∈ ks, 0 ≤ p.2) (hd : ∀ p ∈ ks, 0 ≤ p.1) : roomK ks 0 = 0 := by
  have g : ∀ ks : Kinds, (∀ p ∈ ks, 0 ≤ p.2) → (∀ p ∈ ks, 0 ≤ p.1) → conGo 0 ks 0 = 0 := by
    intro ks
    induction ks with
    | nil => intro _ _; rfl
    | cons p r ih =>
      intro hm hd
      obtain ⟨d, m⟩ := p
      have m0 : 0 ≤ m := hm (d, m) List.mem_cons_self
      have d0 : 0 ≤ d := hd (d, m) List.mem_cons_self
      rw [conGo, mi_r m0, mi_l d0, Int.sub_zero, Int.sub_zero, ih (fun p hp => hm p (List.mem_cons_of_mem _ hp)) fun p hp => hd p (List.mem_cons_of_mem _ hp)]
      omega
  rw [room_con, Int.sub_zero, g ks hm hd]
  rfl
/-- what bars a row -/
theorem bar_right {ks : Kinds} (ne : ks ≠ []) (hm : ∀ p ∈ ks, 0 ≤ p.2) (hd : ∀ p ∈ ks, 0 ≤ p.1) (even : endsK ks % 2 ≠ 1) :
    (barK ks = none → ∀ k, 1 ≤ k → k ≤ placesK ks → 0 ≤ roomK ks k) ∧ ∀ j, barK ks = some j → 1 ≤ j ∧ j ≤ placesK ks ∧ roomK ks j < 0 ∧ ∀ k, 1 ≤ k → k < j → 0 ≤ roomK ks k := by
  have n0 : 0 ≤ placesK ks := by
    have g : ∀ ks : Kinds, (∀ p ∈ ks, 0 ≤ p.2) → 0 ≤ placesK ks := by
      intro ks
      induction ks with
      | nil => intro _; exact Int.le_refl _
      | cons p r ih =>
        intro h
        rw [placesK_cons]
        have := h p List.mem_cons_self
        have := ih fun p hp => h p (List.mem_cons_of_mem _ hp)
        omega
    exact g ks hm
  have last := last_mark (e := 0) ne
  rw [Int.zero_add] at last
  have z := bar_go hm last (l := turnsK ks) (b := 0) asc_ascI (fun j hj => by
    have := (List.mem_filter.mp (mem_ascI.mp hj)).2
    simp only [Bool.and_eq_true, decide_eq_true_eq] at this
    exact this) (fun j hj h1 h2 => mem_ascI.mpr (List.mem_filter.mpr ⟨hj, by simp only [Bool.and_eq_true, decide_eq_true_eq]; exact ⟨h1, h2⟩⟩)) (Int.le_refl _) n0 (by rw [room_zero hm hd]; exact Int.le_refl _) (fun k k1 k2 => by omega)
  rw [room_zero hm hd] at z
  unfold barK
  rw [if_neg even]
  exact z
/-! ### bounds -/
theorem LowK.tail {p : Int × Int} {ks : Kinds} (h : LowK (p :: ks)) : LowK ks := ⟨Nat.le_trans (Nat.le_succ _) h.1, fun q hq => h.2 q (List.mem_cons_of_mem _ hq)⟩
theorem LowK.places {ks : Kinds} (h : LowK ks) : 0 ≤ placesK ks ∧ (placesK ks).natAbs < 2 ^ 250 := by
  have g : ∀ ks : Kinds, (∀ p ∈ ks, p.1.natAbs < 2 ^ 250 ∧ 0 ≤ p.2 ∧ p.2.natAbs < 2 ^ 240) → 0 ≤ placesK ks ∧ (placesK ks).natAbs ≤ ks.length * 2 ^ 240 := by
    intro ks
    induction ks with
    | nil => intro _; exact ⟨Int.le_refl _, Nat.zero_le _⟩
    | cons p r ih =>
      intro h
      have a := h p List.mem_cons_self
      have b := ih fun q hq => h q (List.mem_cons_of_mem _ hq)
      rw [placesK_cons, List.length_cons, Nat.add_mul]
      generalize (2 : Nat) ^ 240 = Z at a b ⊢
      omega
  have z := g ks h.2
  refine ⟨z.1, Nat.lt_of_le_of_lt z.2 (Nat.lt_of_le_of_lt (Nat.mul_le_mul_right _ h.1) (by decide))⟩
theorem con_small {k : Int} (k0 : 0 ≤ k) (kb : k.natAbs < 2 ^ 250) : ∀ {ks : Kinds} {left : Int}, (∀ p ∈ ks, p.1.natAbs < 2 ^ 250 ∧ 0 ≤ p.2 ∧ p.2.natAbs < 2 ^ 240) → 0 ≤ left → left ≤ k → (conGo k ks left).natAbs ≤ ks.length * 2 ^ 501
  | [], _, _, _, _ => Nat.zero_le _
  | (d, m) :: r, left, h, l0, l1 => by
    have kd : d.natAbs < 2 ^ 250 := (h (d, m) List.mem_cons_self).1
    have m0 : 0 ≤ m := (h (d, m) List.mem_cons_self).2.1
    have km : m.natAbs < 2 ^ 240 := (h (d, m) List.mem_cons_self).2.2
    have t0 : 0 ≤ mi m left := by unfold mi; split <;> omega
    have t1 : mi m left ≤ left := by unfold mi; split <;> omega
    have t2 : mi m left ≤ m := by unfold mi; split <;> omega
    have g1 : (mi k d).natAbs < 2 ^ 250 := by unfold mi; split <;> assumption
    have ih := con_small k0 kb (ks := r) (left := left - mi m left) (fun p hp => h p (List.mem_cons_of_mem _ hp)) (by omega) (by omega)
    have a := wide_lt (i := m - mi m left) (j := mi k d) (a := 250) (b := 250) (Nat.lt_of_le_of_lt (by omega) (Nat.lt_trans km (by decide))) g1
    have b := wide_lt (i := mi m left) (j := d) (a := 250) (b := 250) (by omega) kd
    rw [conGo, List.length_cons, Nat.add_mul]
    rw [show (2 : Nat) ^ 501 = 2 ^ (250 + 250) + 2 ^ (250 + 250) by decide] at ih ⊢
    generalize (2 : Nat) ^ (250 + 250) = Z at a b ih ⊢
    generalize (m - mi m left) * mi k d = x at a ⊢
    generalize mi m left * d = y at b ⊢
    omega
theorem room_small {ks : Kinds} {k : Int} (h : LowK ks) (k0 : 0 ≤ k) (kb : k.natAbs < 2 ^ 250) : (roomK ks k).natAbs < 2 ^ 600 := by
  have c := con_small k0 kb h.2 k0 (Int.le_refl _)
  have l := Nat.mul_le_mul_right (2 ^ 501) h.1
  have p := wide_lt (i := k) (j := k - 1) (a := 250) (b := 250) kb (by omega)
  rw [room_con, Int.sub_zero]
  have e : (2 : Nat) ^ (250 + 250) + 30 * 2 ^ 501 < 2 ^ 600 := by decide
  generalize (2 : Nat) ^ (250 + 250) = A at p e
  generalize (2 : Nat) ^ 501 = B at c l e
  generalize (2 : Nat) ^ 600 = D at e ⊢
  generalize k * (k - 1) = x at p ⊢
  omega
theorem fall_right {a b : Int} {ks : Kinds} (hm : ∀ p ∈ ks, 0 ≤ p.2) (a0 : 0 ≤ a) (ab : a < b) (hb : b ≤ placesK ks) (hj : ∀ j ∈ marksK ks 0, j ≤ a ∨ b ≤ j) (r0 : 0 ≤ roomK ks a) (r1 : roomK ks b < 0) :
    0 < (roomK ks a - roomK ks b) / (b - a) ∧ (roomK ks a - roomK ks b) / (b - a) ≤ roomK ks a - roomK ks b := by
  rcases room_alt hm a0 ab hb hj with ⟨C, z⟩ | z
  · have zb := z b (by omega) (Int.le_refl _)
    have c0 : C < 0 := by
      rcases Int.lt_or_le C 0 with lt | ge
      · exact lt
      · have := Int.mul_nonneg (show 0 ≤ b - a by omega) ge
        omega
    have e : roomK ks a - roomK ks b = (b - a) * -C := by rw [Int.mul_neg]; omega
    rw [e, Int.mul_ediv_cancel_left _ (show b - a ≠ 0 by omega)]
    refine ⟨by omega, ?_⟩
    have := Int.mul_le_mul_of_nonneg_right (show 1 ≤ b - a by omega) (show 0 ≤ -C by omega)
    omega
  · have := z b (by omega) (Int.le_refl _)
    omega
def oiV : Option Int → V
  | none => .non
  | some j => .int j
theorem r_divW {i j : Int} {H : Hp} {Q : VK} (p : 0 < j) (l : j.natAbs < 2 ^ 700) (h : Q (.int (i / j)) H) : rDivA (.int i) (.int j) H Q :=
  ⟨i, j, rfl, rfl, wide_div p (b := 700) l (by decide) (by decide), h⟩
end Dg

namespace Dg
open PySem PySem.Spec PyProof.Rows L2 L2H LamX
/-! ### wells: a mixed number, a count, the digits of a great number -/
def Well (H : Hp) (p : Addr) : Prop := ∃ a b c : Int, H p = some (.lst [.int a, .int b, .int c]) ∧ 0 ≤ a ∧ a < 2147483629 ∧ 0 ≤ b ∧ 0 ≤ c
theorem Well.same {H H' : Hp} {p : Addr} (e : Same H H') (h : Well H p) : Well H' p := by
  obtain ⟨a, b, c, h1, h2⟩ := h
  exact ⟨a, b, c, e _ _ h1, h2⟩
theorem Well.but {H H' : Hp} {p l : Addr} (e : But l H H') (n : p ≠ l) (h : Well H p) : Well H' p := by
  obtain ⟨a, b, c, h1, h2⟩ := h
  exact ⟨a, b, c, e _ _ n h1, h2⟩
theorem cut_few (xs : List V) (lo hi : Option Int) : (cutV xs lo hi).length ≤ xs.length := by
  unfold cutV
  refine Nat.le_trans (List.length_take_le' _ _) ?_
  rw [List.length_drop]
  exact Nat.sub_le _ _
/-! ### the laws' own sums over kinds -/
def topGo : Kinds → Int → Int → Int
  | [], _, f => f
  | (d, m) :: r, left, f => topGo r (left - mi left m) (f + mi left m * d)
def topK (ks : Kinds) (k : Int) : Int := topGo ks k 0
def spaceGo (k : Int) : Kinds → Int → Int → Int
  | [], _, f => f
  | (d, m) :: r, left, f => spaceGo k r (left - mi left m) (f + (m - mi left m) * mi d k)
def spaceK (ks : Kinds) (k : Int) : Int := spaceGo k ks k (k * (k - 1) - topK ks k)
def stopsGo : Kinds → Int → List Int
  | [], _ => []
  | (d, m) :: r, b => (if b < d ∧ d ≤ b + m then [d] else []) ++ (b + m) :: stopsGo r (b + m)
theorem mi_comm (i j : Int) : mi i j = mi j i := by unfold mi; split <;> split <;> omega
theorem topGo_add : ∀ {ks : Kinds} {left f : Int}, topGo ks left f = f + topGo ks left 0
  | [], _, f => (Int.add_zero f).symm
  | (d, m) :: r, left, f => by
    rw [topGo, topGo, topGo_add, topGo_add (f := 0 + _)]
    omega
theorem spaceGo_add {k : Int} : ∀ {ks : Kinds} {left f : Int}, spaceGo k ks left f = f + spaceGo k ks left 0
  | [], _, f => (Int.add_zero f).symm
  | (d, m) :: r, left, f => by
    rw [spaceGo, spaceGo, spaceGo_add, spaceGo_add (f := 0 + _)]
    omega
theorem con_parts {k : Int} : ∀ {ks : Kinds} {left : Int}, conGo k ks left = spaceGo k ks left 0 - topGo ks left 0
  | [], _ => rfl
  | (d, m) :: r, left => by
    rw [conGo, spaceGo, topGo, spaceGo_add, topGo_add, con_parts, mi_comm m left, mi_comm k d]
    omega
theorem space_room {ks : Kinds} {k : Int} : spaceK ks k = roomK ks k := by
  unfold spaceK topK
  rw [room_con, Int.sub_zero, con_parts, spaceGo_add]
  omega
theorem stops_snoc {d m : Int} : ∀ {ks : Kinds} {b : Int}, stopsGo (ks ++ [(d, m)]) b = stopsGo ks b ++ ((if b + placesK ks < d ∧ d ≤ b + placesK ks + m then [d] else []) ++ [b + placesK ks + m])
  | [], b => by
    show _ ++ [b + m] = [] ++ _
    rw [List.nil_append, placesK_nil, Int.add_zero]
  | (d', m') :: r, b => by
    rw [List.cons_append, stopsGo, stopsGo, stops_snoc, placesK_cons, ← Int.add_assoc b m', List.append_assoc, List.cons_append]
theorem stops_few : ∀ {ks : Kinds} {b : Int}, (stopsGo ks b).length ≤ 2 * ks.length
  | [], _ => Nat.zero_le _
  | (d, m) :: r, b => by
    have ih := stops_few (ks := r) (b := b + m)
    rw [stopsGo, List.length_append, List.length_cons, List.length_cons]
    split
    · rw [List.length_singleton]
      omega
    · rw [List.length_nil]
      omega
theorem callMinL {K : PySem.W.Frag} {X : Cx} (hc : X.calm = true) (h : X.K = K) : CallR X (.builtin "min") (rMin K) := h ▸ cr_min hc
theorem callMaxL {K : PySem.W.Frag} {X : Cx} (hc : X.calm = true) (h : X.K = K) : CallR X (.builtin "max") (rMax K) := h ▸ cr_max hc
def lastD : Kinds → Int
  | [] => 0
  | [p] => p.1
  | _ :: q :: r => lastD (q :: r)
def canS (ks : Kinds) : Bool := !(decide (endsK ks % 2 = 1) || decide (lastD ks < 0)) && (stopsGo ks 0).all fun k => decide (0 ≤ roomK ks k)
theorem stops_some {p : Int × Int} {ks : Kinds} {b : Int} : 0 < (stopsGo (p :: ks) b).length := by
  obtain ⟨d, m⟩ := p
  rw [stopsGo, List.length_append, List.length_cons]
  omega
theorem lastD_at : ∀ {ks : Kinds}, ks ≠ [] → ∃ p, ks[ks.length - 1]? = some p ∧ p.1 = lastD ks
  | [p], _ => ⟨p, rfl, rfl⟩
  | _ :: q :: r, _ => by
    obtain ⟨p, h1, h2⟩ := lastD_at (ks := q :: r) (by simp)
    exact ⟨p, h1, h2⟩
theorem stops_in {j : Int} : ∀ {ks : Kinds} {b : Int}, (∀ p ∈ ks, 0 ≤ p.2) → j ∈ stopsGo ks b → b ≤ j ∧ j ≤ b + placesK ks
  | [], _, _, h => by cases h
  | (d, m) :: r, b, hm, h => by
    have m0 : 0 ≤ m := hm (d, m) List.mem_cons_self
    have pl : 0 ≤ placesK r := by
      have g : ∀ ks : Kinds, (∀ p ∈ ks, 0 ≤ p.2) → 0 ≤ placesK ks := by
        intro ks
        induction ks with
        | nil => intro _; exact Int.le_refl _
        | cons p r ih =>
          intro h
          rw [placesK_cons]
          have := h p List.mem_cons_self
          have := ih fun p hp => h p (List.mem_cons_of_mem _ hp)
          omega
      exact g r fun p hp => hm p (List.mem_cons_of_mem _ hp)
    rw [placesK_cons]
    rw [stopsGo] at h
    rcases List.mem_append.mp h with e | e
    · split at e
      · rename_i c
        rw [List.mem_singleton] at e
        subst e
        show b ≤ j ∧ j ≤ b + (m + placesK r)
        omega
      · cases e
    · rcases List.mem_cons.mp e with e | e
      · subst e
        show b ≤ b + m ∧ b + m ≤ b + (m + placesK r)
        omega
      · have z := stops_in (fun p hp => hm p (List.mem_cons_of_mem _ hp)) e
        show b ≤ j ∧ j ≤ b + (m + placesK r)
        omega
theorem at_end {α : Type} {xs : List α} {v : α} (h : xs[xs.length - 1]? = some v) : atI xs (-1) = some v := by
  have ne : xs ≠ [] := fun z => by rw [z] at h; cases h
  have l : 0 < xs.length := List.length_pos_iff.mpr ne
  unfold atI ixN
  rw [if_neg (by decide), if_pos (by omega)]
  show xs[((-1 : Int) + (xs.length : Int)).toNat]? = _
  rw [show ((-1 : Int) + (xs.length : Int)).toNat = xs.length - 1 by omega]
  exact h
end Dg

namespace Dg
open PySem PySem.Spec PyProof.Rows L2 L2H LamX
/-! ### sorted(d, reverse=b), the keys of d numbers -/
def rSrtD (b : Bool) : List V → List V → Hp → VK → Prop := fun vs zs H Q => ∃ (a : Addr) (kvs : List (Key × V)) (ns : List Int), vs = [V.ref a] ∧ zs = [V.bl b] ∧ H a = some (.dK kvs) ∧ (kvs.map fun kv => kV kv.1) = ns.map V.int ∧
  ∀ (out : List Int) (p : Addr), out.Perm ns → OrdB b out → H p = none → Q (.ref p) (upd H p (.lst (out.map V.int)))
theorem callSrtD {X : Cx} {b : Bool} (hc : X.calm = true) : CallRK X (.builtin "sorted") [Str.ofString "reverse"] (rSrtD b) := by
  intro pins s σ H vs zs us ws Q Iv r rz h
  obtain ⟨a, kvs, ns, rfl, rfl, hd, hks, q⟩ := h
  obtain rfl := Vals.ref1 r
  obtain ⟨flag, rfl, eflag⟩ := vals1 rz
  obtain rfl : flag = Value.bool b := eflag
  obtain ⟨z, lo, vs, rel, dd⟩ := dk_rd Iv.hok (.inl hd)
  obtain ⟨ep, hat⟩ := dd.dictAt
  have lk : kvs.length = vs.length := rel.length
  have kv : (vs.map fun p => kV p.1) = ns.map V.int := by
    have ek := congrArg (List.map kV) rel.keys
    rw [List.map_map, List.map_map] at ek
    rw [← hks]
    exact ek.symm
  refine call_function_entry_kw PyProof.Rows.kind_sorted PyProof.Rows.plain_sorted PyProof.Rows.entry_sorted (PyProof.Rows.args_sorted_rev _ _) ?_
  unfold Builtin.«sorted»
  refine wpAny_bind (m := checkCount "sorted" 1 1 _) (wpAny_pure (wpAny_bind ?_))
  refine (PySem.W.kdu_collect (A := X.A.in1) (PySem.W.kdl_dict (knd := mixKind X.prog X.w) (kvs := vs) (ep := ep) lo) (Iv.ok.hd hc) hat (by rw [← lk]; exact z) fun h' tk acc hk hacc => ?_)
  have la : acc.toList.length = vs.length := by rw [Array.length_toList]; exact hacc.1
  have hv : Vals (vs.map fun p => kV p.1) acc.toList := keys_at la fun j v e => hacc.2 j v (by rw [← Array.getElem?_toList]; exact e)
  rw [kv] at hv
  have hI : IntsAre acc.toList ns := hv.ints
  have few : acc.toList.length ≤ sizeLine := by rw [la, ← lk]; exact z
  have Ik : Inv X pins σ H { s with heap := h', toks := tk } := Iv.kept hk
  refine wpAny_bind (wpAny_newList ?_ few)
  have newL : (h'.push (seqObj "list" acc.toList.toArray 0)).get? h'.objs.size = some (seqObj "list" acc.toList.toArray 0) := Heap.get?_push_size _ rfl
  change wpAny _ _ _ _ _ { s with heap := h'.push (seqObj "list" acc.toList.toArray 0), toks := tk }
  refine wpAny_bind (wpAny_holding (wpAny_call_entry_kw PyProof.Rows.slot_list_sort ⟨_, newL, rfl⟩ PyProof.Rows.entry_list_sort ?_ (PyProof.Rows.args_list_sort_rev _ _)))
  refine SrtR.list_sort_ordR (s := { s with heap := h'.push (seqObj "list" acc.toList.toArray 0), toks := tk }) SrtO.swo_int newL few (fun h2 => SrtO.ints_sortable hI h2) fun out h1 h2 => ⟨_, rfl, ?_⟩
  obtain ⟨ns', k1, k2, k3⟩ := SrtR.ints_outR hI h1 h2
  obtain ⟨e', he'⟩ := PyProof.Rows.sortedHeap_at (vs := acc.toList) (out := if b = true then out.toArray.reverse else out.toArray) newL
  have short : (ns'.map V.int).length ≤ sizeLine := by
    have l := hv.length
    rw [List.length_map] at l
    rw [List.length_map, k2.length_eq, l]
    exact few
  refine wpAny_pure ⟨_, rfl, .ref h'.objs.size, upd H h'.objs.size (.lst (ns'.map V.int)), Ik.laid (t' := tk) (fun c u e => ?_) (Nat.le_refl _)
    (show ObjOk X.prog X.w _ _ _ (.lst (ns'.map V.int)) from ⟨short, _, e', vals_of_ints k1, by rw [Array.toArray_toList]; exact he'⟩), rfl, q ns' _ k2 k3 (Ik.hok.fresh (Nat.le_refl _))⟩
  have old : c < h'.objs.size := Heap.lt_size e
  rw [PyProof.Rows.sortedHeap_old (Nat.ne_of_lt old) (by rw [size_push']; exact Nat.lt_succ_of_lt old)]
  exact (Heap.get?_push_of_some _ e)
theorem r_srtD {a : Addr} {H : Hp} {Q : VK} {cs : Kinds} (h : H a = some (.dK (cs.map embP))) (q : ∀ ns' : List Int, ns'.Perm (cs.map (·.1)) → ns'.Pairwise (· ≥ ·) → New H (.lst (ns'.map V.int)) Q) : rSrtD true [.ref a] [.bl true] H Q :=
  ⟨a, _, _, rfl, rfl, h, DI.keys, fun ns' p h1 h2 hp => q ns' h1 h2 p hp⟩
/-! ### pieces -/
def oppP (ks : Kinds) (m : Int) : Kinds := ks.reverse.map fun k => (m - k.1, k.2)
def readP (i o : Kinds) (way : Int) : Kinds × Kinds :=
  if way = 0 then (i, o) else if way = 1 then (o, i) else if way = 2 then (oppP o (placesK i), oppP i (placesK o)) else (oppP i (placesK o), oppP o (placesK i))
end Dg

namespace Dg
open PySem PySem.Spec PyProof.Rows L2 L2H LamX
/-! ### pieces as data -/
inductive Pc
  | alone (m : Int)
  | tied (m : Int)
  | halves (i o : Kinds)
  | rest (ks : Kinds)
def pcD : Pc → PyData
  | .alone m => .tuple [.str "alone", .int m]
  | .tied m => .tuple [.str "tied", .int m]
  | .halves i o => .tuple [.str "halves", KD i, KD o]
  | .rest ks => .tuple [.str "rest", KD ks]
/-- what a piece around kinds has, not yet in order -/
def putP : Pc → Kinds → Kinds
  | .alone m, ks => ks ++ [(0, m)]
  | .tied m, ks => [(placesK ks + m - 1, m)] ++ ks.map fun k => (k.1 + m, k.2)
  | .halves i o, ks => (i.map fun k => (k.1 + placesK i - 1 + placesK ks, k.2)) ++ (ks.map fun k => (k.1 + placesK i, k.2)) ++ o
  | .rest r, _ => r
def PutOk (p : Pc) (ks ls : Kinds) : Prop := match p with
  | .rest r => ls = r
  | p => KindsOf (sumOf (putP p ks)) ls
def pcFew (n : Nat) : Pc → Prop
  | .halves i o => i.length ≤ n ∧ o.length ≤ n
  | .rest r => r.length ≤ n
  | _ => True
theorem FzAll.two {H : Hp} {xs : List V} {d e : PyData} (h : FzAll H xs [d, e]) : ∃ x y, xs = [x, y] ∧ Fz H x d ∧ Fz H y e := by
  cases h with
  | cons f1 h =>
    cases h with
    | cons f2 h =>
      cases h
      exact ⟨_, _, rfl, f1, f2⟩
theorem FzAll.three {H : Hp} {xs : List V} {d e f : PyData} (h : FzAll H xs [d, e, f]) : ∃ x y z, xs = [x, y, z] ∧ Fz H x d ∧ Fz H y e ∧ Fz H z f := by
  cases h with
  | cons f1 h =>
    obtain ⟨y, z, rfl, f2, f3⟩ := h.two
    exact ⟨_, y, z, rfl, f1, f2, f3⟩
/-! ### kinds in order, as a function -/
def mergeK (ps : Kinds) : Kinds := pick (sumOf ps) (ascI (ps.map (·.1))).reverse
theorem kindsOf_merge (ps : Kinds) : KindsOf (sumOf ps) (mergeK ps) := by
  have desc : (ascI (ps.map (·.1))).reverse.Pairwise (· > ·) := by
    rw [List.pairwise_reverse]
    exact asc_ascI
  refine ⟨pick_desc desc, fun d c => mem_pick.trans ⟨fun h => h.2, fun h => ⟨?_, h⟩⟩⟩
  rw [List.mem_reverse, mem_ascI]
  exact sumOf_key (by rw [← h.1]; omega)
theorem KindsOf.merge {ps ls : Kinds} (h : KindsOf (sumOf ps) ls) : ls = mergeK ps := KindsOf.one h (kindsOf_merge ps)
theorem mergeK_few {ps : Kinds} : (mergeK ps).length ≤ ps.length := by
  refine Nat.le_trans (List.length_filterMap_le _ _) ?_
  rw [List.length_reverse]
  refine Nat.le_trans ascI_length ?_
  rw [List.length_map]
  exact Nat.le_refl _
def putK : Pc → Kinds → Kinds
  | .rest r, _ => r
  | p, ks => mergeK (putP p ks)
theorem PutOk.eq {p : Pc} {ks ls : Kinds} (h : PutOk p ks ls) : ls = putK p ks := by
  cases p with
  | rest r => exact h
  | alone m => exact KindsOf.merge h
  | tied m => exact KindsOf.merge h
  | halves i o => exact KindsOf.merge h
theorem putK_few {n : Nat} {p : Pc} {ks : Kinds} (h : pcFew n p) : (putK p ks).length ≤ ks.length + 2 * n + 1 := by
  cases p with
  | rest r =>
    have : r.length ≤ n := h
    show r.length ≤ _
    omega
  | alone m =>
    refine Nat.le_trans mergeK_few ?_
    show (ks ++ [(0, m)]).length ≤ _
    rw [List.length_append]
    show ks.length + 1 ≤ _
    omega
  | tied m =>
    refine Nat.le_trans mergeK_few ?_
    show ([(placesK ks + m - 1, m)] ++ ks.map fun k => (k.1 + m, k.2)).length ≤ _
    rw [List.length_append, List.length_map]
    show 1 + ks.length ≤ _
    omega
  | halves i o =>
    have l1 : i.length ≤ n := h.1
    have l2 : o.length ≤ n := h.2
    refine Nat.le_trans mergeK_few ?_
    show ((i.map fun k => (k.1 + placesK i - 1 + placesK ks, k.2)) ++ (ks.map fun k => (k.1 + placesK i, k.2)) ++ o).length ≤ _
    rw [List.length_append, List.length_append, List.length_map, List.length_map]
    omega
/-- pieces around one another -/
def putAll : List Pc → Kinds
  | [] => []
  | p :: r => putK p (putAll r)
theorem putAll_few {n : Nat} : ∀ {ps : List Pc}, (∀ p ∈ ps, pcFew n p) → (putAll ps).length ≤ ps.length * (2 * n + 1)
  | [], _ => Nat.zero_le _
  | p :: r, h => by
    have a := putAll_few (ps := r) fun q hq => h q (List.mem_cons_of_mem _ hq)
    have b := putK_few (ks := putAll r) (h p List.mem_cons_self)
    rw [List.length_cons, Nat.add_mul]
    show (putK p (putAll r)).length ≤ _
    omega
/-! ### drawn pieces -/
/-- kinds of a drawn family -/
def GoodK (ks : Kinds) : Prop := ks ≠ [] ∧ ks.length ≤ 2 ∧ DescP ks ∧ ∀ k ∈ ks, 0 ≤ k.1 ∧ k.1 < 1000000000000000000000000000000000000000000000000000000000000 ∧ 1 ≤ k.2 ∧ k.2 < 1000000000000000000000000000000000000000000000000000000000000
theorem goodK_one {d c : Int} (h : 0 ≤ d ∧ d < 1000000000000000000000000000000000000000000000000000000000000 ∧ 1 ≤ c ∧ c < 1000000000000000000000000000000000000000000000000000000000000) : GoodK [(d, c)] := by
  refine ⟨by simp, by simp, List.pairwise_singleton _ _, fun k hk => ?_⟩
  rw [List.mem_singleton] at hk
  subst hk
  exact h
theorem goodK_two {d c e f : Int} (h : 0 ≤ e ∧ e < d ∧ d < 1000000000000000000000000000000000000000000000000000000000000 ∧ 1 ≤ c ∧ c < 1000000000000000000000000000000000000000000000000000000000000 ∧ 1 ≤ f ∧ f < 1000000000000000000000000000000000000000000000000000000000000) : GoodK [(d, c), (e, f)] := by
  refine ⟨by simp, by simp, ?_, fun k hk => ?_⟩
  · refine List.pairwise_cons.mpr ⟨fun q hq => ?_, List.pairwise_singleton _ _⟩
    rw [List.mem_singleton] at hq
    subst hq
    exact h.2.1
  · rcases List.mem_cons.mp hk with e1 | e1
    · subst e1
      exact ⟨by show 0 ≤ d; omega, h.2.2.1, h.2.2.2.1, h.2.2.2.2.1⟩
    · rw [List.mem_singleton] at e1
      subst e1
      exact ⟨h.1, by show e < _; omega, h.2.2.2.2.2⟩
/-- and its opposite -/
def OppGood (ks : Kinds) : Prop := GoodK ks ∧ GoodK (oppP ks (placesK ks - 1))
end Dg

namespace Dg
open PySem PySem.Spec PyProof.Rows L2 L2H LamX
/-! ### drawn halves -/
def AllGood (i o : Kinds) : Prop := ∀ w : Int, 0 ≤ w → w < 4 → GoodK (readP i o w).1 ∧ GoodK (readP i o w).2
theorem AllGood.mk {i o : Kinds} (a : GoodK i) (b : GoodK o) (c : GoodK (oppP i (placesK o))) (d : GoodK (oppP o (placesK i))) : AllGood i o := by
  intro w w0 w1
  have cs : w = 0 ∨ w = 1 ∨ w = 2 ∨ w = 3 := by omega
  rcases cs with rfl | rfl | rfl | rfl
  · exact ⟨a, b⟩
  · exact ⟨b, a⟩
  · exact ⟨d, c⟩
  · exact ⟨c, d⟩
theorem mulB {a b A B : Int} (h1 : 1 ≤ a) (h2 : a < A) (h3 : 1 ≤ b) (h4 : b < B) : a ≤ a * b ∧ b ≤ a * b ∧ a * b < A * B := by
  refine ⟨?_, ?_, Int.mul_lt_mul h2 (by omega) (by omega) (by omega)⟩
  · have := Int.mul_le_mul_of_nonneg_left h3 (show 0 ≤ a by omega)
    omega
  · have := Int.mul_le_mul_of_nonneg_right h1 (show 0 ≤ b by omega)
    omega
def Sz (a : Int) : Prop := 1 ≤ a ∧ a < 10000000000000000000000000000
theorem places1 {d c : Int} : placesK [(d, c)] = c := by simp [placesK]
theorem places2 {d c e f : Int} : placesK [(d, c), (e, f)] = c + f := by simp [placesK]
theorem opp1 {d c m : Int} : oppP [(d, c)] m = [(m - d, c)] := rfl
theorem opp2 {d c e f m : Int} : oppP [(d, c), (e, f)] m = [(m - e, f), (m - d, c)] := rfl
theorem halves0 {p q : Int} (hp : Sz p) (hq : Sz q) : AllGood [(p, q)] [(1, p * q)] := by
  obtain ⟨x1, x2, x3⟩ := mulB hp.1 hp.2 hq.1 hq.2
  obtain ⟨p1, p2⟩ := hp
  obtain ⟨q1, q2⟩ := hq
  refine .mk (goodK_one (by omega)) (goodK_one (by omega)) ?_ ?_
  · rw [opp1, places1]; exact goodK_one (by omega)
  · rw [opp1, places1]; exact goodK_one (by omega)
theorem halves1 {p q r : Int} (hp : Sz p) (hq : Sz q) (hr : Sz r) : AllGood [(p + r, q), (p, r)] [(1, (p + r) * q + p * r)] := by
  obtain ⟨x1, x2, x3⟩ := mulB hp.1 hp.2 hr.1 hr.2
  obtain ⟨p1, p2⟩ := hp
  obtain ⟨q1, q2⟩ := hq
  obtain ⟨r1, r2⟩ := hr
  obtain ⟨y1, y2, y3⟩ := mulB (a := p + r) (A := 20000000000000000000000000000) (by omega) (by omega) q1 q2
  refine .mk (goodK_two (by omega)) (goodK_one (by omega)) ?_ ?_
  · rw [opp2, places1]; exact goodK_two (by omega)
  · rw [opp1, places2]; exact goodK_one (by omega)
theorem halves2 {p q r : Int} (hp : Sz p) (hq : Sz q) (q' : 2 ≤ q) (hr : Sz r) : AllGood [(p + 1, q + r)] [(q, 1), (1, p * q + (p + 1) * r)] := by
  obtain ⟨x1, x2, x3⟩ := mulB hp.1 hp.2 hq.1 hq.2
  obtain ⟨p1, p2⟩ := hp
  obtain ⟨q1, q2⟩ := hq
  obtain ⟨r1, r2⟩ := hr
  obtain ⟨y1, y2, y3⟩ := mulB (a := p + 1) (A := 20000000000000000000000000000) (by omega) (by omega) r1 r2
  refine .mk (goodK_one (by omega)) (goodK_two (by omega)) ?_ ?_
  · rw [opp1, places2]; exact goodK_one (by omega)
  · rw [opp2, places1]; exact goodK_two (by omega)
theorem halves3 {p r : Int} (hp : Sz p) (hr : Sz r) : AllGood [((2 * p + r * (p + 1) + 1) - 1, 1), (p + 1, r + 2)] [(2, 2 * p + r * (p + 1) + 1)] := by
  obtain ⟨p1, p2⟩ := hp
  obtain ⟨r1, r2⟩ := hr
  obtain ⟨y1, y2, y3⟩ := mulB r1 r2 (b := p + 1) (B := 20000000000000000000000000000) (by omega) (by omega)
  refine .mk (goodK_two (by omega)) (goodK_one (by omega)) ?_ ?_
  · rw [opp2, places1]; exact goodK_two (by omega)
  · rw [opp1, places2]; exact goodK_one (by omega)
theorem halves4 {r : Int} (hr : Sz r) : AllGood [(2, 3 + r)] [(2, 3 + r)] := by
  obtain ⟨r1, r2⟩ := hr
  refine .mk (goodK_one (by omega)) (goodK_one (by omega)) ?_ ?_
  · rw [opp1, places1]; exact goodK_one (by omega)
  · rw [opp1, places1]; exact goodK_one (by omega)
end Dg

namespace Dg
open PySem PySem.Spec PyProof.Rows L2 L2H LamX
/-! ### comprehensions within one another -/
theorem pi_tupK {X : Cx} {K : PySem.W.Frag} {tg l : Expr} {tl : TE} (hk : X.K = K) (hl : PE X l tl) : PI X tg l (iTup K tl) := hk ▸ pi_tup hl
theorem pi_listK {X : Cx} {K : PySem.W.Frag} {tg l : Expr} {tl : TE} (hk : X.K = K) (hl : PE X l tl) : PI X tg l (iList K tl) := hk ▸ pi_list hl
theorem cut_one {x : V} {xs : List V} : cutV (x :: xs) (some 1) none = xs := by
  have e1 : HT.sIx (xs.length + 1) 0 (some 1) = 1 := by
    unfold HT.sIx
    simp
    try omega
  have e2 : HT.sIx (xs.length + 1) (xs.length + 1) none = xs.length + 1 := rfl
  simp only [cutV, List.length_cons, e1, e2]
  simp
/-! ### pieces that are drawn -/
def Within (i o : Kinds) : Prop := (∀ k ∈ i, k.1 ≤ placesK o) ∧ (∀ k ∈ o, k.1 ≤ placesK i)
def PcOk : Pc → Prop
  | .alone m => 1 ≤ m ∧ m < 1000000000000000000000000000000000000000000000000000000000000
  | .tied m => 1 ≤ m ∧ m < 1000000000000000000000000000000000000000000000000000000000000
  | .halves i o => GoodK i ∧ GoodK o ∧ Within i o
  | .rest ks => GoodK ks ∧ ∀ k ∈ ks, k.1 ≤ placesK ks - 1
def countsP : Pc → List Int
  | .alone m => [m]
  | .tied m => [m]
  | .halves i o => i.map (·.2) ++ o.map (·.2)
  | .rest ks => ks.map (·.2)
def IsMax (m : Int) (l : List Int) : Prop := m ∈ l ∧ ∀ c ∈ l, c ≤ m
theorem foldMax_spec : ∀ (l : List Int) (a : Int), a ≤ l.foldl (fun b c => if c > b then c else b) a ∧ (∀ c ∈ l, c ≤ l.foldl (fun b c => if c > b then c else b) a) ∧ (l.foldl (fun b c => if c > b then c else b) a = a ∨ l.foldl (fun b c => if c > b then c else b) a ∈ l)
  | [], a => ⟨Int.le_refl _, fun _ h => absurd h List.not_mem_nil, .inl rfl⟩
  | x :: r, a => by
    obtain ⟨h1, h2, h3⟩ := foldMax_spec r (if x > a then x else a)
    rw [List.foldl_cons]
    refine ⟨?_, fun c hc => ?_, ?_⟩
    · refine Int.le_trans ?_ h1
      split <;> omega
    · rcases List.mem_cons.mp hc with rfl | hc
      · refine Int.le_trans ?_ h1
        split <;> omega
      · exact h2 c hc
    · rcases h3 with h3 | h3
      · rw [h3]
        by_cases z : x > a
        · rw [if_pos z]
          exact .inr List.mem_cons_self
        · rw [if_neg z]
          exact .inl rfl
      · exact .inr (List.mem_cons_of_mem _ h3)
end Dg
namespace Dg
open PySem PySem.Spec PyProof.Rows L2 L2H LamX
theorem GoodK.few {ks : Kinds} (h : GoodK ks) : ks.length ≤ 2 := h.2.1
theorem isMax_parts {ls : List (List Int)} {ms : List Int} {m : Int} (h : Each2 IsMax ms ls) (hm : m ∈ ms) (top : ∀ y ∈ ms, y ≤ m) : IsMax m ls.flatten := by
  constructor
  · induction h with
    | nil => cases hm
    | cons a t ih =>
      rw [List.flatten_cons]
      rcases List.mem_cons.mp hm with rfl | hm
      · exact List.mem_append_left _ a.1
      · exact List.mem_append_right _ (ih hm fun y hy => top y (List.mem_cons_of_mem _ hy))
  · intro c hc
    clear hm
    induction h with
    | nil => cases hc
    | cons a t ih =>
      rw [List.flatten_cons] at hc
      rcases List.mem_append.mp hc with hc | hc
      · exact Int.le_trans (a.2 c hc) (top _ List.mem_cons_self)
      · exact ih (fun y hy => top y (List.mem_cons_of_mem _ hy)) hc
theorem FzAll.get {H : Hp} {xs : List V} {ds : List PyData} {i : Nat} {x : V} (h : FzAll H xs ds) (hx : xs[i]? = some x) : ∃ d, ds[i]? = some d ∧ Fz H x d := h.at hx
end Dg
namespace Dg
open PySem PySem.Spec PyProof.Rows L2 L2H LamX
theorem places_opp (ks : Kinds) (m : Int) : placesK (oppP ks m) = placesK ks := by
  unfold oppP placesK
  rw [List.map_map, List.map_reverse, List.sum_reverse]
  rfl
theorem mem_oppP {ks : Kinds} {m : Int} {k : Int × Int} : k ∈ oppP ks m ↔ (m - k.1, k.2) ∈ ks := by
  unfold oppP
  rw [List.mem_map]
  constructor
  · rintro ⟨q, hq, rfl⟩
    rw [List.mem_reverse] at hq
    have : m - (m - q.1) = q.1 := by omega
    show (m - (m - q.1), q.2) ∈ ks
    rw [this]
    exact hq
  · intro h
    refine ⟨(m - k.1, k.2), List.mem_reverse.mpr h, ?_⟩
    show (m - (m - k.1), k.2) = k
    rw [show m - (m - k.1) = k.1 by omega]
theorem le_of_opp {ks : Kinds} {m : Int} (h : ∀ k ∈ oppP ks m, 0 ≤ k.1) : ∀ k ∈ ks, k.1 ≤ m := fun k hk => by
  have := h (m - k.1, k.2) (mem_oppP.mpr (by show (m - (m - k.1), k.2) ∈ ks; rw [show m - (m - k.1) = k.1 by omega]; exact hk))
  have this : 0 ≤ m - k.1 := this
  omega
theorem opp_le {ks : Kinds} {m : Int} (h : ∀ k ∈ ks, 0 ≤ k.1) : ∀ k ∈ oppP ks m, k.1 ≤ m := fun k hk => by
  have := h _ (mem_oppP.mp hk)
  have this : 0 ≤ m - k.1 := this
  omega
theorem GoodK.deg {ks : Kinds} (h : GoodK ks) : ∀ k ∈ ks, 0 ≤ k.1 := fun k hk => (h.2.2.2 k hk).1
theorem AllGood.pc {i o : Kinds} {w : Int} (g : AllGood i o) (w0 : 0 ≤ w) (w1 : w < 4) : PcOk (.halves (readP i o w).1 (readP i o w).2) := by
  have g0 := g 0 (by decide) (by decide)
  have g3 := g 3 (by decide) (by decide)
  have d1 : ∀ k ∈ oppP i (placesK o), 0 ≤ k.1 := g3.1.deg
  have d2 : ∀ k ∈ oppP o (placesK i), 0 ≤ k.1 := g3.2.deg
  have e1 : ∀ k ∈ i, 0 ≤ k.1 := g0.1.deg
  have e2 : ∀ k ∈ o, 0 ≤ k.1 := g0.2.deg
  have gw := g w w0 w1
  refine ⟨gw.1, gw.2, ?_⟩
  have cs : w = 0 ∨ w = 1 ∨ w = 2 ∨ w = 3 := by omega
  rcases cs with rfl | rfl | rfl | rfl
  · exact ⟨le_of_opp d1, le_of_opp d2⟩
  · exact ⟨le_of_opp d2, le_of_opp d1⟩
  · refine ⟨?_, ?_⟩
    · show ∀ k ∈ oppP o (placesK i), k.1 ≤ placesK (oppP i (placesK o))
      rw [places_opp]
      exact opp_le e2
    · show ∀ k ∈ oppP i (placesK o), k.1 ≤ placesK (oppP o (placesK i))
      rw [places_opp]
      exact opp_le e1
  · refine ⟨?_, ?_⟩
    · show ∀ k ∈ oppP i (placesK o), k.1 ≤ placesK (oppP o (placesK i))
      rw [places_opp]
      exact opp_le e1
    · show ∀ k ∈ oppP o (placesK i), k.1 ≤ placesK (oppP i (placesK o))
      rw [places_opp]
      exact opp_le e2
theorem OppGood.pc {ks : Kinds} (h : OppGood ks) : PcOk (.rest ks) := ⟨h.1, le_of_opp h.2.deg⟩
theorem OppGood.opp {ks : Kinds} (h : OppGood ks) : PcOk (.rest (oppP ks (placesK ks - 1))) := ⟨h.2, by rw [places_opp]; exact opp_le h.1.deg⟩
end Dg

namespace Dg
open PySem PySem.Spec PyProof.Rows L2 L2H LamX
/-! ### sums over kinds -/
theorem sumOf_nonneg : ∀ {ps : Kinds}, (∀ k ∈ ps, 0 ≤ k.2) → ∀ d, 0 ≤ sumOf ps d
  | [], _, d => by rw [sumOf_nil]; exact Int.le_refl _
  | p :: r, h, d => by
    have ih := sumOf_nonneg (ps := r) (fun k hk => h k (List.mem_cons_of_mem _ hk)) d
    have := h p List.mem_cons_self
    rw [sumOf_cons]
    split <;> omega
theorem sumOf_merge {ps : Kinds} (h : ∀ k ∈ ps, 0 ≤ k.2) (d : Int) : sumOf (mergeK ps) d = sumOf ps d := by
  have k := kindsOf_merge ps
  rw [sumOf_val (DescP.nodup k.1), val_of k d (sumOf_nonneg h d)]
theorem mergeK_congr {ps qs : Kinds} (h : ∀ d, sumOf ps d = sumOf qs d) : mergeK ps = mergeK qs :=
  KindsOf.one (kindsOf_merge ps) ((kindsOf_merge qs).congr (funext fun d => (h d).symm))
theorem places_weigh (ks : Kinds) : placesK ks = weigh (fun _ => 1) ks := by
  unfold placesK weigh
  congr 1
  exact List.map_congr_left fun k _ => by simp
theorem places_merge {ps : Kinds} (h : ∀ k ∈ ps, 0 ≤ k.2) : placesK (mergeK ps) = placesK ps := by
  rw [places_weigh, places_weigh]
  exact weigh_same _ (sumOf_merge h)
theorem sumOf_shift (m : Int) : ∀ (ks : Kinds) (d : Int), sumOf (ks.map fun k => (k.1 + m, k.2)) d = sumOf ks (d - m)
  | [], d => rfl
  | p :: r, d => by
    rw [List.map_cons, sumOf_cons, sumOf_cons, sumOf_shift m r d]
    show (if p.1 + m = d then p.2 else 0) + _ = _
    by_cases z : p.1 = d - m
    · rw [if_pos z, if_pos (by omega)]
    · rw [if_neg z, if_neg (by omega)]
theorem places_app (ks ls : Kinds) : placesK (ks ++ ls) = placesK ks + placesK ls := by
  unfold placesK
  rw [List.map_append, List.sum_append]
theorem places_map (f : Int × Int → Int) (ks : Kinds) : placesK (ks.map fun k => (f k, k.2)) = placesK ks := by
  unfold placesK
  rw [List.map_map]
  rfl
theorem places_nonneg : ∀ {ks : Kinds}, (∀ k ∈ ks, 0 ≤ k.2) → 0 ≤ placesK ks
  | [], _ => Int.le_refl _
  | p :: r, h => by
    rw [placesK_cons]
    have := h p List.mem_cons_self
    have := places_nonneg (ks := r) fun k hk => h k (List.mem_cons_of_mem _ hk)
    omega
theorem places_pos {ks : Kinds} (ne : ks ≠ []) (h : ∀ k ∈ ks, 1 ≤ k.2) : 1 ≤ placesK ks := by
  cases ks with
  | nil => exact absurd rfl ne
  | cons p r =>
    rw [placesK_cons]
    have := h p List.mem_cons_self
    have := places_nonneg (ks := r) fun k hk => by have := h k (List.mem_cons_of_mem _ hk); omega
    omega
theorem places_ge {ks : Kinds} (h : ∀ k ∈ ks, 0 ≤ k.2) {k : Int × Int} (hk : k ∈ ks) : k.2 ≤ placesK ks := by
  induction ks with
  | nil => cases hk
  | cons p r ih =>
    rw [placesK_cons]
    have h0 := h p List.mem_cons_self
    have h1 := places_nonneg (ks := r) fun k hk => h k (List.mem_cons_of_mem _ hk)
    rcases List.mem_cons.mp hk with rfl | hk
    · omega
    · have := ih (fun k hk => h k (List.mem_cons_of_mem _ hk)) hk
      omega
theorem merge_mem {ps : Kinds} {k : Int × Int} (h : k ∈ mergeK ps) : 1 ≤ k.2 ∧ k.2 = sumOf ps k.1 ∧ k.1 ∈ ps.map (·.1) := by
  have z := ((kindsOf_merge ps).2 k.1 k.2).mp h
  exact ⟨z.2, z.1, sumOf_key (by rw [← z.1]; omega)⟩
theorem merge_self {ks : Kinds} (h : DescP ks) (p : ∀ k ∈ ks, 1 ≤ k.2) : mergeK ks = ks := by
  refine KindsOf.one (kindsOf_merge ks) ⟨h, fun d c => ?_⟩
  have nd := DescP.nodup h
  rw [sumOf_val nd]
  constructor
  · intro hk
    exact ⟨(val_memN nd hk).symm, p _ hk⟩
  · rintro ⟨e, c0⟩
    have : d ∈ ks.map (·.1) := val_key (by omega)
    obtain ⟨k, hk, rfl⟩ := List.mem_map.mp this
    have := val_memN nd (show (k.1, k.2) ∈ ks from hk)
    rw [e, this]
    exact hk
/-! ### kinds of any number that are in order -/
structure GdK (ks : Kinds) : Prop where
  desc : DescP ks
  deg : ∀ k ∈ ks, 0 ≤ k.1
  cnt : ∀ k ∈ ks, 1 ≤ k.2
theorem GdK.cnt0 {ks : Kinds} (h : GdK ks) : ∀ k ∈ ks, 0 ≤ k.2 := fun k hk => by have := h.cnt k hk; omega
theorem GdK.nil : GdK [] := ⟨List.Pairwise.nil, fun _ h => absurd h List.not_mem_nil, fun _ h => absurd h List.not_mem_nil⟩
theorem GdK.merge {ps : Kinds} (h : ∀ k ∈ ps, 0 ≤ k.1) : GdK (mergeK ps) := by
  refine ⟨(kindsOf_merge ps).1, fun k hk => ?_, fun k hk => (merge_mem hk).1⟩
  obtain ⟨q, hq, e⟩ := List.mem_map.mp (merge_mem hk).2.2
  rw [← e]
  exact h q hq
theorem GoodK.gd {ks : Kinds} (h : GoodK ks) : GdK ks := ⟨h.2.2.1, fun k hk => (h.2.2.2 k hk).1, fun k hk => (h.2.2.2 k hk).2.2.1⟩
theorem OkK.gd {ks : Kinds} (h : OkK ks) : GdK ks := ⟨h.descP, fun k hk => (h.2.2.all k hk).1, fun k hk => by have := h.2.2.all k hk; omega⟩
theorem merge_ne {ps : Kinds} (h : ∀ k ∈ ps, 0 ≤ k.2) (p : 1 ≤ placesK ps) : mergeK ps ≠ [] := fun z => by
  have := places_merge h
  rw [z, placesK_nil] at this
  omega
theorem put_gd {p : Pc} {ks : Kinds} (hp : PcOk p) (hk : GdK ks) : GdK (putK p ks) ∧ putK p ks ≠ [] := by
  have pl := places_nonneg hk.cnt0
  cases p with
  | rest r => exact ⟨GoodK.gd hp.1, hp.1.1⟩
  | alone m =>
    obtain ⟨m1, m2⟩ := hp
    have c0 : ∀ k ∈ ks ++ [(0, m)], 0 ≤ k.2 := fun k h => by
      rcases List.mem_append.mp h with h | h
      · exact hk.cnt0 k h
      · rw [List.mem_singleton.mp h]; show 0 ≤ m; omega
    refine ⟨GdK.merge fun k h => ?_, merge_ne c0 ?_⟩
    · rcases List.mem_append.mp h with h | h
      · exact hk.deg k h
      · rw [List.mem_singleton.mp h]; exact Int.le_refl _
    · rw [show putP (.alone m) ks = ks ++ [(0, m)] from rfl, places_app, placesK_cons, placesK_nil]
      show 1 ≤ placesK ks + (m + 0)
      omega
  | tied m =>
    obtain ⟨m1, m2⟩ := hp
    have c0 : ∀ k ∈ putP (.tied m) ks, 0 ≤ k.2 := fun k h => by
      rcases List.mem_append.mp h with h | h
      · rw [List.mem_singleton.mp h]; show 0 ≤ m; omega
      · obtain ⟨q, hq, rfl⟩ := List.mem_map.mp h
        exact hk.cnt0 q hq
    refine ⟨GdK.merge fun k h => ?_, merge_ne c0 ?_⟩
    · rcases List.mem_append.mp h with h | h
      · rw [List.mem_singleton.mp h]; show 0 ≤ placesK ks + m - 1; omega
      · obtain ⟨q, hq, rfl⟩ := List.mem_map.mp h
        have := hk.deg q hq
        show 0 ≤ q.1 + m
        omega
    · rw [show putP (.tied m) ks = [(placesK ks + m - 1, m)] ++ ks.map fun k => (k.1 + m, k.2) from rfl, places_app, placesK_cons, placesK_nil, places_map]
      show 1 ≤ m + 0 + placesK ks
      omega
  | halves i o =>
    have gi := GoodK.gd hp.1
    have go := GoodK.gd hp.2.1
    have pi := places_pos hp.1.1 gi.cnt
    have po := places_pos hp.2.1.1 go.cnt
    have c0 : ∀ k ∈ putP (.halves i o) ks, 0 ≤ k.2 := fun k h => by
      rcases List.mem_append.mp h with h | h
      · rcases List.mem_append.mp h with h | h
        · obtain ⟨q, hq, rfl⟩ := List.mem_map.mp h
          exact gi.cnt0 q hq
        · obtain ⟨q, hq, rfl⟩ := List.mem_map.mp h
          exact hk.cnt0 q hq
      · exact go.cnt0 k h
    refine ⟨GdK.merge fun k h => ?_, merge_ne c0 ?_⟩
    · rcases List.mem_append.mp h with h | h
      · rcases List.mem_append.mp h with h | h
        · obtain ⟨q, hq, rfl⟩ := List.mem_map.mp h
          have := gi.deg q hq
          show 0 ≤ q.1 + placesK i - 1 + placesK ks
          omega
        · obtain ⟨q, hq, rfl⟩ := List.mem_map.mp h
          have := hk.deg q hq
          show 0 ≤ q.1 + placesK i
          omega
      · exact go.deg k h
    · rw [show putP (.halves i o) ks = (i.map fun k => (k.1 + placesK i - 1 + placesK ks, k.2)) ++ (ks.map fun k => (k.1 + placesK i, k.2)) ++ o from rfl, places_app, places_app, places_map, places_map]
      omega
theorem putAll_gd : ∀ {ps : List Pc}, (∀ p ∈ ps, PcOk p) → GdK (putAll ps)
  | [], _ => GdK.nil
  | p :: r, h => (put_gd (h p List.mem_cons_self) (putAll_gd fun q hq => h q (List.mem_cons_of_mem _ hq))).1
theorem putAll_ne {ps : List Pc} (h : ∀ p ∈ ps, PcOk p) (ne : ps ≠ []) : putAll ps ≠ [] := by
  cases ps with
  | nil => exact absurd rfl ne
  | cons p r => exact (put_gd (h p List.mem_cons_self) (putAll_gd fun q hq => h q (List.mem_cons_of_mem _ hq))).2
end Dg

namespace Dg
open PySem PySem.Spec PyProof.Rows L2 L2H LamX
/-! ### runs of pieces joined: `_law_normal`; lists stand the last one first -/
def joinP : Pc → Pc → Option Pc
  | .alone a, .alone b => some (.alone (a + b))
  | .tied a, .tied b => some (.tied (a + b))
  | _, _ => none
def addR : List Pc → Pc → List Pc
  | q :: r, p => match joinP q p with
    | some z => z :: r
    | none => p :: q :: r
  | [], p => [p]
def moreP : Pc → Option Pc
  | .alone m => some (.alone (m + 1))
  | .tied m => some (.tied (m + 1))
  | _ => none
def isOne : Pc → Bool
  | .alone m => decide (m = 1)
  | .tied m => decide (m = 1)
  | _ => false
def finR : List Pc → List Pc
  | [] => []
  | q :: r => if isOne q then (match r with
    | [] => [.alone 1]
    | z :: r' => match moreP z with
      | some y => y :: r'
      | none => .alone 1 :: z :: r') else q :: r
def normP (ps : List Pc) : List Pc := (finR (ps.foldl addR [])).reverse
theorem addR_none {q p : Pc} {r : List Pc} (h : joinP q p = none) : addR (q :: r) p = p :: q :: r := by simp only [addR, h]
theorem addR_some {q p z : Pc} {r : List Pc} (h : joinP q p = some z) : addR (q :: r) p = z :: r := by simp only [addR, h]
theorem finR_no {q : Pc} {r : List Pc} (h : isOne q = false) : finR (q :: r) = q :: r := by simp [finR, h]
theorem finR_one {q : Pc} (h : isOne q = true) : finR [q] = [.alone 1] := by simp [finR, h]
theorem finR_more {q z y : Pc} {r : List Pc} (h : isOne q = true) (e : moreP z = some y) : finR (q :: z :: r) = y :: r := by simp [finR, h, e]
theorem finR_none {q z : Pc} {r : List Pc} (h : isOne q = true) (e : moreP z = none) : finR (q :: z :: r) = .alone 1 :: z :: r := by simp [finR, h, e]
def putOn (ps : List Pc) (ks : Kinds) : Kinds := ps.foldr putK ks
theorem putOn_nil : ∀ ps : List Pc, putOn ps [] = putAll ps
  | [] => rfl
  | p :: r => by
    show putK p (putOn r []) = putK p (putAll r)
    rw [putOn_nil r]
theorem putOn_app (ps qs : List Pc) (ks : Kinds) : putOn (ps ++ qs) ks = putOn ps (putOn qs ks) := by
  unfold putOn
  rw [List.foldr_append]
def PcBig (n : Nat) : Pc → Prop
  | .alone m => 1 ≤ m ∧ m < n * 1000000000000000000000000000000000000000000000000000000000000
  | .tied m => 1 ≤ m ∧ m < n * 1000000000000000000000000000000000000000000000000000000000000
  | .halves i o => GoodK i ∧ GoodK o ∧ Within i o
  | .rest ks => GoodK ks ∧ ∀ k ∈ ks, k.1 ≤ placesK ks - 1
theorem PcOk.big {p : Pc} {n : Nat} (h : PcOk p) (hn : 1 ≤ n) : PcBig n p := by
  cases p with
  | alone m => exact ⟨h.1, by have := h.2; omega⟩
  | tied m => exact ⟨h.1, by have := h.2; omega⟩
  | halves i o => exact h
  | rest ks => exact h
theorem PcBig.mono {p : Pc} {n m : Nat} (h : PcBig n p) (hn : n ≤ m) : PcBig m p := by
  cases p with
  | alone m => exact ⟨h.1, by have := h.2; omega⟩
  | tied m => exact ⟨h.1, by have := h.2; omega⟩
  | halves i o => exact h
  | rest ks => exact h
theorem put_join {q p z : Pc} (h : joinP q p = some z) {n : Nat} (hq : PcBig n q) (hp : PcOk p) {ks : Kinds} (hk : GdK ks) : putK q (putK p ks) = putK z ks := by
  cases q <;> cases p <;> first | (cases h; done) | skip
  · rename_i a b
    cases h
    refine mergeK_congr fun d => ?_
    show sumOf (mergeK (ks ++ [(0, b)]) ++ [(0, a)]) d = sumOf (ks ++ [(0, a + b)]) d
    rw [sumOf_app, sumOf_app, sumOf_merge, sumOf_app, sumOf_cons, sumOf_cons, sumOf_cons, sumOf_nil]
    · show sumOf ks d + ((if (0 : Int) = d then b else 0) + 0) + ((if (0 : Int) = d then a else 0) + 0) = sumOf ks d + ((if (0 : Int) = d then a + b else 0) + 0)
      split <;> omega
    · intro k h
      rcases List.mem_append.mp h with h | h
      · exact hk.cnt0 k h
      · rw [List.mem_singleton.mp h]; have := hp.1; show 0 ≤ b; omega
  · rename_i a b
    cases h
    have c0 : ∀ k ∈ putP (.tied b) ks, 0 ≤ k.2 := fun k h => by
      rcases List.mem_append.mp h with h | h
      · rw [List.mem_singleton.mp h]; have := hp.1; show 0 ≤ b; omega
      · obtain ⟨q, hq, rfl⟩ := List.mem_map.mp h
        exact hk.cnt0 q hq
    have pl : placesK (putK (.tied b) ks) = placesK ks + b := by
      show placesK (mergeK (putP (.tied b) ks)) = _
      rw [places_merge c0]
      show placesK ([(placesK ks + b - 1, b)] ++ ks.map fun k => (k.1 + b, k.2)) = _
      rw [places_app, placesK_cons, placesK_nil, places_map]
      show b + 0 + _ = _
      omega
    refine mergeK_congr fun d => ?_
    show sumOf ([(placesK (putK (.tied b) ks) + a - 1, a)] ++ (mergeK (putP (.tied b) ks)).map fun k => (k.1 + a, k.2)) d = sumOf ([(placesK ks + (a + b) - 1, a + b)] ++ ks.map fun k => (k.1 + (a + b), k.2)) d
    rw [sumOf_app, sumOf_app, sumOf_shift, sumOf_shift, sumOf_merge c0, pl]
    show _ + sumOf ([(placesK ks + b - 1, b)] ++ ks.map fun k => (k.1 + b, k.2)) (d - a) = _
    rw [sumOf_app, sumOf_shift, sumOf_cons, sumOf_cons, sumOf_cons, sumOf_nil, sumOf_nil, show d - a - b = d - (a + b) by omega]
    show ((if placesK ks + b + a - 1 = d then a else 0) + 0) + (((if placesK ks + b - 1 = d - a then b else 0) + 0) + sumOf ks (d - (a + b))) = ((if placesK ks + (a + b) - 1 = d then a + b else 0) + 0) + sumOf ks (d - (a + b))
    by_cases e : placesK ks + (a + b) - 1 = d
    · rw [if_pos e, if_pos (by omega), if_pos (by omega)]; omega
    · rw [if_neg e, if_neg (by omega), if_neg (by omega)]; omega
theorem addR_put {acc : List Pc} {p : Pc} {n : Nat} (ha : ∀ q ∈ acc, PcBig n q) (hp : PcOk p) {ks : Kinds} (hk : GdK ks) : putOn (addR acc p).reverse ks = putOn acc.reverse (putK p ks) := by
  cases acc with
  | nil => rfl
  | cons q r =>
    cases e : joinP q p with
    | none =>
      rw [addR_none e, List.reverse_cons, putOn_app]
      rfl
    | some z =>
      rw [addR_some e, List.reverse_cons, List.reverse_cons, putOn_app, putOn_app]
      show putOn r.reverse (putK z ks) = putOn r.reverse (putK q (putK p ks))
      rw [put_join e (ha q List.mem_cons_self) hp hk]
theorem addR_big {acc : List Pc} {p : Pc} {n : Nat} (n1 : 1 ≤ n) (ha : ∀ q ∈ acc, PcBig n q) (hp : PcOk p) : ∀ q ∈ addR acc p, PcBig (n + 1) q := by
  cases acc with
  | nil =>
    intro q hq
    rw [List.mem_singleton.mp hq]
    exact hp.big (by omega)
  | cons q r =>
    have hq := ha q List.mem_cons_self
    cases e : joinP q p with
    | none =>
      rw [addR_none e]
      intro x hx
      rcases List.mem_cons.mp hx with rfl | hx
      · exact hp.big (by omega)
      · exact (ha x hx).mono (by omega)
    | some z =>
      rw [addR_some e]
      intro x hx
      rcases List.mem_cons.mp hx with rfl | hx
      · cases q <;> cases p <;> first | (cases e; done) | skip
        · cases e
          exact ⟨by have := hq.1; have := hp.1; omega, by have := hq.2; have := hp.2; omega⟩
        · cases e
          exact ⟨by have := hq.1; have := hp.1; omega, by have := hq.2; have := hp.2; omega⟩
      · exact (ha x (List.mem_cons_of_mem _ hx)).mono (by omega)
theorem foldN : ∀ (ps acc : List Pc) (n : Nat), 1 ≤ n → (∀ q ∈ acc, PcBig n q) → (∀ p ∈ ps, PcOk p) → ∀ {ks : Kinds}, GdK ks → putOn (ps.foldl addR acc).reverse ks = putOn acc.reverse (putOn ps ks)
  | [], acc, n, n1, ha, hp, ks, hk => rfl
  | p :: r, acc, n, n1, ha, hp, ks, hk => by
    have h0 := hp p List.mem_cons_self
    have hr : ∀ q ∈ r, PcOk q := fun q hq => hp q (List.mem_cons_of_mem _ hq)
    rw [List.foldl_cons, foldN r (addR acc p) (n + 1) (by omega) (addR_big n1 ha h0) hr hk]
    have gd : GdK (putOn r ks) := by
      clear ha n1
      induction r with
      | nil => exact hk
      | cons q s ih =>
        refine (put_gd (hr q List.mem_cons_self) (ih (fun p hp' => ?_) fun p hp' => hr p (List.mem_cons_of_mem _ hp'))).1
        rcases List.mem_cons.mp hp' with rfl | hp'
        · exact h0
        · exact hr p (List.mem_cons_of_mem _ hp')
    rw [addR_put ha h0 gd]
    rfl
theorem foldBig : ∀ (ps acc : List Pc) (n : Nat), 1 ≤ n → (∀ q ∈ acc, PcBig n q) → (∀ p ∈ ps, PcOk p) → ∀ q ∈ ps.foldl addR acc, PcBig (n + ps.length) q
  | [], acc, n, n1, ha, hp => ha
  | p :: r, acc, n, n1, ha, hp => by
    rw [List.foldl_cons, List.length_cons, show n + (r.length + 1) = n + 1 + r.length by omega]
    exact foldBig r _ (n + 1) (by omega) (addR_big n1 ha (hp p List.mem_cons_self)) fun q hq => hp q (List.mem_cons_of_mem _ hq)
theorem addR_len (acc : List Pc) (p : Pc) : (addR acc p).length ≤ acc.length + 1 := by
  cases acc with
  | nil => exact Nat.le_refl _
  | cons q r =>
    cases e : joinP q p with
    | none => rw [addR_none e]; simp
    | some z => rw [addR_some e]; simp
theorem foldLen : ∀ (ps acc : List Pc), (ps.foldl addR acc).length ≤ acc.length + ps.length
  | [], acc => Nat.le_refl _
  | p :: r, acc => by
    rw [List.foldl_cons, List.length_cons]
    have := foldLen r (addR acc p)
    have := addR_len acc p
    omega
theorem addR_ne (acc : List Pc) (p : Pc) : addR acc p ≠ [] := by
  cases acc with
  | nil => simp [addR]
  | cons q r =>
    cases e : joinP q p with
    | none => rw [addR_none e]; simp
    | some z => rw [addR_some e]; simp
theorem foldNe : ∀ (ps acc : List Pc), (acc ≠ [] ∨ ps ≠ []) → ps.foldl addR acc ≠ []
  | [], acc, h => h.elim id fun z => absurd rfl z
  | p :: r, acc, _ => by
    rw [List.foldl_cons]
    exact foldNe r _ (.inl (addR_ne acc p))
theorem one_put {q : Pc} (h : isOne q = true) : putK q [] = [(0, 1)] := by
  cases q <;> first | (cases h; done) | skip
  · have e := of_decide_eq_true h
    rw [e]
    rfl
  · have e := of_decide_eq_true h
    rw [e]
    rfl
theorem more_put {z y : Pc} {n : Nat} (h : moreP z = some y) (hz : PcBig n z) : putK y [] = putK z [(0, 1)] := by
  cases z <;> first | (cases h; done) | skip
  · rename_i m
    cases h
    refine mergeK_congr fun d => ?_
    show sumOf [(0, m + 1)] d = sumOf [(0, 1), (0, m)] d
    rw [sumOf_cons, sumOf_cons, sumOf_cons, sumOf_nil]
    show (if (0 : Int) = d then m + 1 else 0) + 0 = (if (0 : Int) = d then 1 else 0) + ((if (0 : Int) = d then m else 0) + 0)
    split <;> omega
  · rename_i m
    cases h
    refine mergeK_congr fun d => ?_
    show sumOf [(placesK [] + (m + 1) - 1, m + 1)] d = sumOf [(placesK [(0, 1)] + m - 1, m), (0 + m, 1)] d
    rw [sumOf_cons, sumOf_cons, sumOf_cons, sumOf_nil, placesK_nil, placesK_cons, placesK_nil]
    show (if 0 + (m + 1) - 1 = d then m + 1 else 0) + 0 = (if 1 + 0 + m - 1 = d then m else 0) + ((if 0 + m = d then 1 else 0) + 0)
    by_cases e : m = d
    · rw [if_pos (by omega), if_pos (by omega), if_pos (by omega)]; omega
    · rw [if_neg (by omega), if_neg (by omega), if_neg (by omega)]; omega
theorem finR_put {f : List Pc} {n : Nat} (h : ∀ q ∈ f, PcBig n q) : putOn (finR f).reverse [] = putOn f.reverse [] := by
  cases f with
  | nil => rfl
  | cons q r =>
    cases e : isOne q with
    | false => rw [finR_no e]
    | true =>
      have e0 : putOn (q :: r).reverse [] = putOn r.reverse [(0, 1)] := by
        rw [List.reverse_cons, putOn_app]
        show putOn r.reverse (putK q []) = _
        rw [one_put e]
      rw [e0]
      cases r with
      | nil => rw [finR_one e]; rfl
      | cons z r' =>
        cases e2 : moreP z with
        | none =>
          rw [finR_none e e2, List.reverse_cons, putOn_app]
          rfl
        | some y =>
          rw [finR_more e e2, List.reverse_cons, List.reverse_cons, putOn_app, putOn_app]
          show putOn r'.reverse (putK y []) = putOn r'.reverse (putK z [(0, 1)])
          rw [more_put e2 (h z (by simp))]
theorem norm_put {ps : List Pc} (h : ∀ p ∈ ps, PcOk p) : putAll (normP ps) = putAll ps := by
  rw [← putOn_nil, ← putOn_nil]
  unfold normP
  rw [finR_put (n := 1 + ps.length) (foldBig ps [] 1 (by decide) (fun _ h => absurd h List.not_mem_nil) h), foldN ps [] 1 (by decide) (fun _ h => absurd h List.not_mem_nil) h GdK.nil]
  rfl
theorem finR_big {f : List Pc} {n : Nat} (n1 : 1 ≤ n) (h : ∀ q ∈ f, PcBig n q) : ∀ q ∈ finR f, PcBig (n + 1) q := by
  have up : ∀ q ∈ f, PcBig (n + 1) q := fun q hq => (h q hq).mono (by omega)
  have one : PcBig (n + 1) (.alone 1) := ⟨by decide, by omega⟩
  cases f with
  | nil => exact up
  | cons q r =>
    cases e : isOne q with
    | false => rw [finR_no e]; exact up
    | true =>
      cases r with
      | nil =>
        rw [finR_one e]
        intro x hx
        rw [List.mem_singleton.mp hx]
        exact one
      | cons z r' =>
        have hz := h z (by simp)
        cases e2 : moreP z with
        | none =>
          rw [finR_none e e2]
          intro x hx
          rcases List.mem_cons.mp hx with rfl | hx
          · exact one
          · exact up x (List.mem_cons_of_mem _ hx)
        | some y =>
          rw [finR_more e e2]
          intro x hx
          rcases List.mem_cons.mp hx with rfl | hx
          · cases z <;> first | (cases e2; done) | skip
            · cases e2; exact ⟨by have := hz.1; omega, by have := hz.2; omega⟩
            · cases e2; exact ⟨by have := hz.1; omega, by have := hz.2; omega⟩
          · exact up x (List.mem_cons_of_mem _ (List.mem_cons_of_mem _ hx))
theorem finR_len (f : List Pc) : (finR f).length ≤ f.length := by
  cases f with
  | nil => exact Nat.le_refl _
  | cons q r =>
    cases e : isOne q with
    | false => rw [finR_no e]; exact Nat.le_refl _
    | true =>
      cases r with
      | nil => rw [finR_one e]; simp
      | cons z r' =>
        cases e2 : moreP z with
        | none => rw [finR_none e e2]; simp
        | some y => rw [finR_more e e2]; simp
theorem norm_big {ps : List Pc} (h : ∀ p ∈ ps, PcOk p) (l : ps.length ≤ 10) : (∀ p ∈ normP ps, PcBig 12 p) ∧ (normP ps).length ≤ 10 := by
  unfold normP
  refine ⟨fun p hp => ?_, ?_⟩
  · rw [List.mem_reverse] at hp
    have z := finR_big (n := 1 + ps.length) (by omega) (foldBig ps [] 1 (by decide) (fun _ h => absurd h List.not_mem_nil) h)
    exact (z p hp).mono (by omega)
  · rw [List.length_reverse]
    have a := finR_len (ps.foldl addR [])
    have b := foldLen ps []
    rw [List.length_nil] at b
    omega
/-! ### pieces as data of some size -/
theorem okd_lit {x : Str} (h : (TL.tl x).all (fun c => decide (c < 128)) = true) (l : x.length ≤ 20) : Okd (.str x) 0 20 :=
  okd_str (fun c hc => of_decide_eq_true (List.all_eq_true.mp h c hc)) l (by decide)
theorem okd_big {i : Int} (h0 : 0 ≤ i) (h : i < 1000000000000000000000000000000000000000000000000000000000000000000000000000) : Okd (.int i) 0 0 := by
  refine Okd.int ?_
  by_cases z : i.natAbs = 0
  · rw [z]; decide
  · have l : i.natAbs < 2 ^ 300 := Nat.lt_trans (m := 1000000000000000000000000000000000000000000000000000000000000000000000000000) (by omega) (by decide)
    have := (Nat.log2_lt z).mpr l
    omega
theorem okd_good {ks : Kinds} (h : GoodK ks) : Okd (KD ks) 2 30 := by
  refine (Okd.tup (OkdAll.map (f := kD) (n := 1) (b := 2) ks fun k hk => ?_)).mono (Nat.le_refl _) ?_
  · have := h.2.2.2 k hk
    exact (Okd.tup (.cons (okd_big this.1 (by omega)) (.cons (okd_big (by omega) (by omega)) .nil))).mono (by decide) (by decide)
  · have := h.2.1
    omega
theorem okd_pc {p : Pc} (h : PcBig 12 p) : Okd (pcD p) 3 150 := by
  cases p with
  | alone m => exact (Okd.tup (.cons (okd_lit (by decide +kernel) (by decide)) (.cons ((okd_big (by have := h.1; omega) (by have := h.2; omega)).mono (Nat.le_refl _) (Nat.le_refl _)) .nil))).mono (by decide) (by decide)
  | tied m => exact (Okd.tup (.cons (okd_lit (by decide +kernel) (by decide)) (.cons ((okd_big (by have := h.1; omega) (by have := h.2; omega)).mono (Nat.le_refl _) (Nat.le_refl _)) .nil))).mono (by decide) (by decide)
  | halves i o => exact (Okd.tup (.cons ((okd_lit (by decide +kernel) (by decide)).mono (n := 0) (m := 2) (by decide) (Nat.le_refl _)) (.cons (okd_good h.1) (.cons (okd_good h.2.1) .nil)))).mono (by decide) (by decide)
  | rest ks => exact (Okd.tup (.cons ((okd_lit (by decide +kernel) (by decide)).mono (n := 0) (m := 2) (by decide) (Nat.le_refl _)) (.cons (okd_good h.1) .nil))).mono (by decide) (by decide)
end Dg

namespace Dg
open PySem PySem.Spec PyProof.Rows L2 L2H LamX
/-! ### in, over lists of flat things or of data -/
def rInX (K : PySem.W.Frag) : R2 := fun x y H Q => rIn K false x y H Q ∨ rInD K x y H Q
theorem opInX {X : Cx} {K : PySem.W.Frag} {k : Nat} (hr : Room (k + 1) X.A) (h : X.K = K) : OpR X (compareOp .In) (rInX K) := by
  refine h ▸ (op_in_seq.or (op_inD ?_))
  have := hr.un
  omega
theorem r_inF {K : PySem.W.Frag} {x y : V} {H : Hp} {Q : VK} (h : rIn K false x y H Q) : rInX K x y H Q := .inl h
theorem r_inD {K : PySem.W.Frag} {x y : V} {H : Hp} {Q : VK} (h : rInD K x y H Q) : rInX K x y H Q := .inr h
/-! ### pieces, opened -/
def wordP : Pc → Str
  | .alone _ => "alone"
  | .tied _ => "tied"
  | .halves _ _ => "halves"
  | .rest _ => "rest"
def runP : Pc → Option Int
  | .alone m => some m
  | .tied m => some m
  | _ => none
theorem pc_open {H : Hp} {u : V} {p : Pc} (h : Fz H u (pcD p)) : ∃ t xs, u = .ref t ∧ H t = some (.tup (.str (wordP p) :: xs)) ∧ ∀ m, runP p = some m → xs = [.int m] := by
  cases p with
  | alone m =>
    obtain ⟨t, xs, rfl, ht, hxs⟩ := h.tup_inv
    obtain ⟨x, y, rfl, fx, fy⟩ := hxs.two
    cases fx
    cases fy
    exact ⟨t, _, rfl, ht, fun n e => by cases e; rfl⟩
  | tied m =>
    obtain ⟨t, xs, rfl, ht, hxs⟩ := h.tup_inv
    obtain ⟨x, y, rfl, fx, fy⟩ := hxs.two
    cases fx
    cases fy
    exact ⟨t, _, rfl, ht, fun n e => by cases e; rfl⟩
  | rest ks =>
    obtain ⟨t, xs, rfl, ht, hxs⟩ := h.tup_inv
    obtain ⟨x, y, rfl, fx, fy⟩ := hxs.two
    cases fx
    exact ⟨t, _, rfl, ht, fun n e => by cases e⟩
  | halves i o =>
    obtain ⟨t, xs, rfl, ht, hxs⟩ := h.tup_inv
    obtain ⟨x, y, z, rfl, fx, fy, fz⟩ := hxs.three
    cases fx
    exact ⟨t, _, rfl, ht, fun n e => by cases e⟩
theorem run_in (p : Pc) : inV (V.str (wordP p)) [V.str "alone", V.str "tied"] = (runP p).isSome := by cases p <;> simp only [wordP, runP, Option.isSome] <;> decide
theorem join_words {q p : Pc} (h : wordP q = wordP p) {b : Int} (hp : runP p = some b) : ∃ a z, runP q = some a ∧ joinP q p = some z ∧ pcD z = .tuple [.str (wordP p), .int (a + b)] := by
  cases p <;> cases q <;> first | (cases hp; done) | (exact absurd h (by simp only [wordP]; decide)) | skip
  · rename_i m n; cases hp; exact ⟨n, .alone (n + b), rfl, rfl, rfl⟩
  · rename_i m n; cases hp; exact ⟨n, .tied (n + b), rfl, rfl, rfl⟩
theorem join_no {q p : Pc} (h : wordP q ≠ wordP p ∨ runP p = none) : joinP q p = none := by
  cases p <;> cases q <;> first | rfl | (rcases h with h | h; exact absurd rfl h; cases h)
theorem more_run {z : Pc} {m : Int} (h : runP z = some m) : ∃ y, moreP z = some y ∧ pcD y = .tuple [.str (wordP z), .int (m + 1)] := by
  cases z <;> first | (cases h; done) | skip
  · cases h; exact ⟨.alone (m + 1), rfl, rfl⟩
  · cases h; exact ⟨.tied (m + 1), rfl, rfl⟩
theorem more_no {z : Pc} (h : runP z = none) : moreP z = none := by cases z <;> first | rfl | cases h
theorem eqv_str (x y : Str) : PyData.eqv (.str x) (.str y) = (x == y) := by unfold PyData.eqv; rfl
theorem one_any (q : Pc) : ([PyData.tuple [.str "alone", .int 1], .tuple [.str "tied", .int 1]].any fun z => PyData.eqv z (pcD q)) = isOne q := by
  have e1 : ((("alone" : Str) == "tied") = false) := by decide
  have e2 : ((("tied" : Str) == "alone") = false) := by decide
  have e3 : ((("alone" : Str) == "halves") = false) := by decide
  have e4 : ((("tied" : Str) == "halves") = false) := by decide
  have e5 : ((("alone" : Str) == "rest") = false) := by decide
  have e6 : ((("tied" : Str) == "rest") = false) := by decide
  have e7 : ((("alone" : Str) == "alone") = true) := by decide
  have e8 : ((("tied" : Str) == "tied") = true) := by decide
  have tw : ∀ (x y : PyData) (w : Str), PyData.eqv (.tuple [.str w, x]) (.tuple [.str w, y]) = ((w == w) && (PyData.eqv x y && true)) := fun x y w => by
    rw [PyData.eqv, PyData.eqvAll, PyData.eqvAll, PyData.eqvAll, eqv_str]
  have gen : ∀ (w : Str) (l : List PyData) (v : Str), (v == w) = false → PyData.eqv (.tuple [.str v, .int 1]) (.tuple (.str w :: l)) = false := fun w l v e => by
    rw [PyData.eqv, PyData.eqvAll, eqv_str, e, Bool.false_and]
  have ii : ∀ m : Int, PyData.eqv (.int 1) (.int m) = decide (m = 1) := fun m => by
    rw [PyData.eqv]
    by_cases e : m = 1
    · subst e; rfl
    · rw [decide_eq_false e]; exact beq_eq_false_iff_ne.mpr fun z => e z.symm
  rw [List.any_cons, List.any_cons, List.any_nil, Bool.or_false]
  cases q with
  | alone m =>
    rw [show pcD (.alone m) = .tuple (.str "alone" :: [.int m]) from rfl, gen _ _ _ e2, tw, ii, e7]
    show (true && (decide (m = 1) && true) || false) = decide (m = 1)
    simp
  | tied m =>
    rw [show pcD (.tied m) = .tuple (.str "tied" :: [.int m]) from rfl, gen _ _ _ e1, tw, ii, e8]
    show (false || true && (decide (m = 1) && true)) = decide (m = 1)
    simp
  | halves i o => rw [show pcD (.halves i o) = .tuple (.str "halves" :: [KD i, KD o]) from rfl, gen _ _ _ e3, gen _ _ _ e4]; rfl
  | rest ks => rw [show pcD (.rest ks) = .tuple (.str "rest" :: [KD ks]) from rfl, gen _ _ _ e5, gen _ _ _ e6]; rfl
end Dg
namespace Dg
open PySem PySem.Spec PyProof.Rows L2 L2H LamX
/-! ### lists from their end -/
theorem FzAll.split {H : Hp} : ∀ {as : List PyData} {zs : List V} {d : PyData}, FzAll H zs (as ++ [d]) → ∃ ys y, zs = ys ++ [y] ∧ FzAll H ys as ∧ Fz H y d
  | [], _, _, h => by
    cases h with
    | cons f t =>
      cases t
      exact ⟨[], _, rfl, .nil, f⟩
  | a :: as, _, _, h => by
    cases h with
    | cons f t =>
      obtain ⟨ys, y, rfl, h1, h2⟩ := FzAll.split t
      exact ⟨_ :: ys, y, rfl, .cons f h1, h2⟩
theorem atI_end {α : Type} (xs : List α) (v : α) : atI (xs ++ [v]) (-1) = some v := at_end (by simp)
theorem atI_end2 {α : Type} (xs : List α) (u v : α) : atI (xs ++ [u, v]) (-2) = some u := by
  unfold atI ixN
  rw [if_neg (by decide), if_pos (by simp; omega)]
  have : ((-2 : Int) + ((xs ++ [u, v]).length : Nat)).toNat = xs.length := by simp; omega
  rw [this]
  simp
theorem ixN_end (n : Nat) : ixN (n + 1) (-1) = some n := by
  unfold ixN
  rw [if_neg (by decide), if_pos (by omega)]
  congr 1
  omega
theorem set_end {α : Type} (xs : List α) (u v : α) : (xs ++ [u]).set xs.length v = xs ++ [v] := by simp
theorem cut_last2 {xs : List V} {u v : V} : cutV (xs ++ [u, v]) none (some (-2)) = xs := by
  have e1 : HT.sIx (xs ++ [u, v]).length 0 none = 0 := rfl
  have e2 : HT.sIx (xs ++ [u, v]).length (xs ++ [u, v]).length (some (-2)) = xs.length := by
    unfold HT.sIx
    simp
    try omega
  simp only [cutV, e1, e2]
  simp
section
variable {σ : HSt} {H : Hp} {v : V}
theorem r_setE {l : Addr} {xs : List V} {u : V} {R : Hp → Prop} (h : H l = some (.lst (xs ++ [u]))) (q : Put l H (.lst (xs ++ [v])) R) : rSetL (.ref l) (.int (-1)) v H R := by
  refine ⟨l, xs ++ [u], -1, xs.length, rfl, rfl, h, ?_, ?_⟩
  · rw [List.length_append]
    exact ixN_end xs.length
  · rw [set_end]
    exact q
end
end Dg

namespace Dg
open PySem PySem.Spec PyProof.Rows L2 L2H LamX
/-! ### pieces with a word whether they are of a family -/
def Dr (H : Hp) (x : V) (pb : Pc × Bool) : Prop := ∃ t u, x = .ref t ∧ H t = some (.tup [u, .bl pb.2]) ∧ Fz H u (pcD pb.1)
theorem Dr.kp {H H' : Hp} {x : V} {p : Pc × Bool} (k : Kp H H') (h : Dr H x p) : Dr H' x p := by
  obtain ⟨t, u, e, ht, f⟩ := h
  exact ⟨t, u, e, k _ _ True.intro ht, f.kp k⟩
theorem Each2.imp2 {α β : Type} {R S : α → β → Prop} (g : ∀ a b, R a b → S a b) : ∀ {as : List α} {bs : List β}, Each2 R as bs → Each2 S as bs
  | _, _, .nil => .nil
  | _, _, .cons h t => .cons (g _ _ h) (Each2.imp2 g t)
theorem Each2.at2 {α β : Type} {R : α → β → Prop} : ∀ {as : List α} {bs : List β} {i : Nat} {a : α}, Each2 R as bs → as[i]? = some a → ∃ b, bs[i]? = some b ∧ R a b
  | _, _, 0, _, .cons h t, e => by cases e; exact ⟨_, rfl, h⟩
  | _ :: as, _ :: bs, i + 1, a, .cons h t, e => by
    rw [List.getElem?_cons_succ] at e
    obtain ⟨b, h1, h2⟩ := Each2.at2 t e
    exact ⟨b, by rw [List.getElem?_cons_succ]; exact h1, h2⟩
/-- what `_law_pieces` gives, ahead of joining -/
def Drawn (ps : List Pc) : Prop := (∀ p ∈ ps, PcOk p) ∧ ps ≠ [] ∧ ps.length ≤ 4 ∧ (OkK (putAll ps) ∨ ∃ p, ps = [p] ∧ ∀ c ∈ countsP p, c ≤ 1000000000000000000000000000000)
theorem pcOk_few {p : Pc} (h : PcOk p) : pcFew 20 p := by
  cases p with
  | alone m => exact True.intro
  | tied m => exact True.intro
  | halves i o => exact ⟨Nat.le_trans h.1.few (by decide), Nat.le_trans h.2.1.few (by decide)⟩
  | rest ks => exact Nat.le_trans h.1.few (by decide)
theorem pcBig_few {p : Pc} {n : Nat} (h : PcBig n p) : pcFew 20 p := by
  cases p with
  | alone m => exact True.intro
  | tied m => exact True.intro
  | halves i o => exact ⟨Nat.le_trans h.1.few (by decide), Nat.le_trans h.2.1.few (by decide)⟩
  | rest ks => exact Nat.le_trans h.1.few (by decide)
theorem gd_ok {ks : Kinds} (g : GdK ks) (ne : ks ≠ []) (l : ks.length ≤ 10) (c : ∀ k ∈ ks, k.2 ≤ 1000000000000000000000000000000) (d : ∀ k, ks.head? = some k → k.1 ≤ 10000000000000000000000000000000) : OkK ks := by
  refine okK_of g.desc (fun k hk => ⟨g.deg k hk, ?_, g.cnt k hk, c k hk⟩) l ne
  cases ks with
  | nil => cases hk
  | cons p r =>
    have hp := d p rfl
    rcases List.mem_cons.mp hk with rfl | hk
    · exact hp
    · have := (List.pairwise_cons.mp g.desc).1 k hk
      omega
end Dg
namespace Dg
open PySem PySem.Spec PyProof.Rows L2 L2H LamX
theorem cut_last1 {xs : List V} {u : V} : cutV (xs ++ [u]) (some (-1)) none = [u] := by
  have e1 : HT.sIx (xs ++ [u]).length 0 (some (-1)) = xs.length := by
    unfold HT.sIx
    simp
    try omega
  have e2 : HT.sIx (xs ++ [u]).length (xs ++ [u]).length none = (xs ++ [u]).length := rfl
  simp only [cutV, e1, e2]
  simp
theorem Each2.split {α β : Type} {R : α → β → Prop} : ∀ {as : List α} {bs : List β}, Each2 R as bs → bs ≠ [] → ∃ as' a bs' b, as = as' ++ [a] ∧ bs = bs' ++ [b] ∧ R a b
  | _, _, .nil, h => absurd rfl h
  | _, _, .cons (as := []) (bs := []) h .nil, _ => ⟨[], _, [], _, rfl, rfl, h⟩
  | _, _, .cons (as := x :: as) (bs := y :: bs) h t, _ => by
    obtain ⟨as', a, bs', b, e1, e2, r⟩ := Each2.split t (by simp)
    exact ⟨_ :: as', a, _ :: bs', b, by rw [e1]; rfl, by rw [e2]; rfl, r⟩
theorem eqv_refl_pc : True := True.intro
end Dg

namespace Dg
open PySem PySem.Spec PyProof.Rows L2 L2H LamX
theorem FzAll.takeK {H : Hp} : ∀ {xs : List V} {ds : List PyData} (n : Nat), FzAll H xs ds → FzAll H (xs.take n) (ds.take n)
  | _, _, 0, _ => .nil
  | _, _, n + 1, .nil => .nil
  | _, _, n + 1, .cons h t => .cons h (FzAll.takeK n t)
theorem FzAll.dropK {H : Hp} : ∀ {xs : List V} {ds : List PyData} (n : Nat), FzAll H xs ds → FzAll H (xs.drop n) (ds.drop n)
  | _, _, 0, h => h
  | _, _, n + 1, .nil => .nil
  | _, _, n + 1, .cons h t => FzAll.dropK n t
/-- one kind otherwise -/
def exch (ks : Kinds) (a : Nat) (k : Int × Int) : Kinds := ks.take a ++ [k] ++ ks.drop (a + 1)
theorem exch_mem {ks : Kinds} {a : Nat} {k q : Int × Int} (h : q ∈ exch ks a k) : q ∈ ks ∨ q = k := by
  rcases List.mem_append.mp h with h | h
  · rcases List.mem_append.mp h with h | h
    · exact .inl (List.mem_of_mem_take h)
    · exact .inr (List.mem_singleton.mp h)
  · exact .inl (List.mem_of_mem_drop h)
theorem exch_len {ks : Kinds} {a : Nat} {k : Int × Int} (h : a < ks.length) : (exch ks a k).length = ks.length := by
  unfold exch
  rw [List.length_append, List.length_append, List.length_take, List.length_drop, List.length_singleton]
  omega
theorem mergeK_gd {ps : Kinds} (d : ∀ k ∈ ps, 0 ≤ k.1) (c : ∀ k ∈ ps, 1 ≤ k.2) (ne : ps ≠ []) (l : ps.length ≤ 10) : GdK (mergeK ps) ∧ mergeK ps ≠ [] ∧ (mergeK ps).length ≤ 10 :=
  ⟨GdK.merge d, merge_ne (fun k hk => by have := c k hk; omega) (places_pos ne c), Nat.le_trans mergeK_few l⟩
end Dg
namespace Dg
open PySem PySem.Spec PyProof.Rows L2 L2H LamX
/-! ### the ends of kinds, and one more, are enough -/
theorem con0 {x d m : Int} {r : Kinds} (hm : 0 ≤ m) : conGo x ((d, m) :: r) 0 = m * mi x d + conGo x r 0 := by
  have e : mi m 0 = 0 := by unfold mi; split <;> omega
  rw [conGo, e, Int.sub_zero, Int.zero_mul, Int.sub_zero, Int.sub_self]
theorem conc {a k e : Int} (h1 : a ≤ k) (h2 : k ≤ e) : ∀ {r : Kinds}, (∀ p ∈ r, 0 ≤ p.2) → (e - k) * conGo a r 0 + (k - a) * conGo e r 0 ≤ (e - a) * conGo k r 0
  | [], _ => by simp [conGo]
  | (d, m) :: r, h => by
    have hm : 0 ≤ m := h (d, m) List.mem_cons_self
    have ih := conc h1 h2 (r := r) fun p hp => h p (List.mem_cons_of_mem _ hp)
    rw [con0 hm, con0 hm, con0 hm]
    have key : (e - k) * mi a d + (k - a) * mi e d ≤ (e - a) * mi k d := by
      unfold mi
      by_cases c : d < k
      · rw [if_pos c, if_pos (show d < e by omega)]
        have l : (if d < a then d else a) ≤ d := by split <;> omega
        have := Int.mul_le_mul_of_nonneg_left l (show 0 ≤ e - k by omega)
        grind
      · rw [if_neg c, if_neg (show ¬ d < a by omega)]
        have l : (if d < e then d else e) ≤ e := by split <;> omega
        have := Int.mul_le_mul_of_nonneg_left l (show 0 ≤ k - a by omega)
        grind
    have := Int.mul_le_mul_of_nonneg_left key hm
    grind
theorem con_flat {x : Int} : ∀ {r : Kinds}, (∀ p ∈ r, 0 ≤ p.2) → (∀ p ∈ r, p.1 ≤ x) → conGo x r 0 = endsK r
  | [], _, _ => rfl
  | (d, m) :: r, h, hd => by
    have hm : 0 ≤ m := h (d, m) List.mem_cons_self
    have hx : d ≤ x := hd (d, m) List.mem_cons_self
    rw [con0 hm, con_flat (r := r) (fun p hp => h p (List.mem_cons_of_mem _ hp)) fun p hp => hd p (List.mem_cons_of_mem _ hp), mi_r hx]
    unfold endsK
    rw [List.map_cons, List.sum_cons]
    show m * d + _ = d * m + _
    rw [Int.mul_comm]
theorem stops_go : ∀ {ks : Kinds} {b c : Int}, 0 ≤ b → (∀ p ∈ ks, 0 ≤ p.2) → DescP ks → 0 ≤ b * (b - 1) + c + conGo b ks 0 → (∀ j ∈ stopsGo ks b, 0 ≤ j * (j - 1) + c + conGo j ks (j - b)) →
    ∀ k, b ≤ k → k ≤ b + placesK ks → 0 ≤ k * (k - 1) + c + conGo k ks (k - b)
  | [], b, c, b0, hm, ds, h0, hs, k, k1, k2 => by
    rw [placesK_nil] at k2
    have : k = b := by omega
    subst this
    rw [Int.sub_self]
    exact h0
  | (d, m) :: r, b, c, b0, hm, ds, h0, hs, k, k1, k2 => by
    have m0 : 0 ≤ m := hm (d, m) List.mem_cons_self
    have hmr : ∀ p ∈ r, 0 ≤ p.2 := fun p hp => hm p (List.mem_cons_of_mem _ hp)
    have lt : ∀ p ∈ r, p.1 < d := (List.pairwise_cons.mp ds).1
    have dsr : DescP r := (List.pairwise_cons.mp ds).2
    rw [placesK_cons] at k2
    have k2' : k ≤ b + (m + placesK r) := k2
    -- behind the block
    have far : ∀ x, b + m ≤ x → conGo x ((d, m) :: r) (x - b) = -(m * d) + conGo x r (x - (b + m)) := fun x hx => by
      have e : mi m (x - b) = m := by unfold mi; split <;> omega
      rw [conGo, e, Int.sub_self, Int.zero_mul, show x - b - m = x - (b + m) by omega]
      omega
    -- within it
    have near : ∀ x, b ≤ x → x ≤ b + m → conGo x ((d, m) :: r) (x - b) = (m - (x - b)) * mi x d - (x - b) * d + conGo x r 0 := fun x h1 h2 => by
      have e : mi m (x - b) = x - b := by unfold mi; split <;> omega
      rw [conGo, e, Int.sub_self]
    have s1 : b + m ∈ stopsGo ((d, m) :: r) b := by
      rw [stopsGo]
      exact List.mem_append_right _ List.mem_cons_self
    have s2 : b < d → d ≤ b + m → d ∈ stopsGo ((d, m) :: r) b := fun h1 h2 => by
      rw [stopsGo, if_pos ⟨h1, h2⟩]
      exact List.mem_append_left _ List.mem_cons_self
    have f1 := hs _ s1
    by_cases out : b + m ≤ k
    · have ih := stops_go (ks := r) (b := b + m) (c := c - m * d) (by omega) hmr dsr (by
        have z := f1
        rw [far _ (Int.le_refl _), Int.sub_self] at z
        omega) (fun j hj => by
        have jb := (stops_in hmr hj).1
        have z := hs j (by rw [stopsGo]; exact List.mem_append_right _ (List.mem_cons_of_mem _ hj))
        rw [far j jb] at z
        omega) k out (by omega)
      rw [far k out]
      omega
    · have h0' : 0 ≤ b * (b - 1) + c + conGo b ((d, m) :: r) (b - b) := by rw [Int.sub_self]; exact h0
      by_cases kd : k ≤ d
      · -- up to e the room is concave
        obtain ⟨e, he1, he2, he3, fe⟩ : ∃ e, k ≤ e ∧ e ≤ d ∧ e ≤ b + m ∧ 0 ≤ e * (e - 1) + c + conGo e ((d, m) :: r) (e - b) := by
          by_cases z : d ≤ b + m
          · by_cases z2 : b < d
            · exact ⟨d, kd, Int.le_refl _, z, hs d (s2 z2 z)⟩
            · have : k = b := by omega
              subst this
              exact ⟨k, Int.le_refl _, kd, by omega, h0'⟩
          · exact ⟨b + m, by omega, by omega, Int.le_refl _, f1⟩
        rw [near e (by omega) he3, mi_l he2] at fe
        rw [near b (Int.le_refl _) (by omega), mi_l (by omega)] at h0'
        rw [near k k1 (by omega), mi_l kd]
        have cc := conc (a := b) (k := k) (e := e) k1 he1 hmr
        by_cases z : b = e
        · have : k = b := by omega
          subst this
          exact h0'
        · have pos : 0 < e - b := by omega
          have g1 := Int.mul_nonneg (show 0 ≤ e - k by omega) h0'
          have g2 := Int.mul_nonneg (show 0 ≤ k - b by omega) fe
          have tot : 0 ≤ (e - b) * (k * (k - 1) + c + ((m - (k - b)) * k - (k - b) * d + conGo k r 0)) := by grind
          exact Int.nonneg_of_mul_nonneg_right tot pos
      · -- from d on it falls no more
        obtain ⟨x, hx1, hx2, hx3, fx⟩ : ∃ x, b ≤ x ∧ d ≤ x ∧ x ≤ k ∧ 0 ≤ x * (x - 1) + c + conGo x ((d, m) :: r) (x - b) := by
          by_cases z : b < d
          · exact ⟨d, by omega, Int.le_refl _, by omega, hs d (s2 z (by omega))⟩
          · exact ⟨b, Int.le_refl _, by omega, k1, h0'⟩
        rw [near x hx1 (by omega), mi_r hx2, con_flat hmr fun p hp => by have := lt p hp; omega] at fx
        rw [near k k1 (by omega), mi_r (by omega), con_flat hmr fun p hp => by have := lt p hp; omega]
        have g := Int.mul_nonneg (show 0 ≤ k - x by omega) (show 0 ≤ k + x - 1 - 2 * d by omega)
        grind
theorem can_stops {ks : Kinds} (g : GdK ks) (ne : ks ≠ []) : canS ks = (barK ks).isNone := by
  have hl : 0 ≤ lastD ks := by
    obtain ⟨p, hp, e⟩ := lastD_at ne
    rw [← e]
    exact g.deg p (List.mem_of_getElem? hp)
  by_cases odd : endsK ks % 2 = 1
  · unfold canS barK
    rw [decide_eq_true odd, if_pos odd]
    rfl
  · have br := bar_right ne g.cnt0 g.deg odd
    have e1 : canS ks = (stopsGo ks 0).all fun k => decide (0 ≤ roomK ks k) := by
      unfold canS
      rw [decide_eq_false odd, decide_eq_false (show ¬ lastD ks < 0 by omega)]
      rfl
    rw [e1]
    cases hb : barK ks with
    | none =>
      show _ = true
      rw [List.all_eq_true]
      intro k hk
      have kb := stops_in g.cnt0 hk
      by_cases z : k = 0
      · rw [z, room_zero g.cnt0 g.deg]
        rfl
      · exact decide_eq_true (br.1 hb k (by omega) (by omega))
    | some j =>
      show _ = false
      obtain ⟨j1, j2, j3, _⟩ := br.2 j hb
      cases ha : (stopsGo ks 0).all fun k => decide (0 ≤ roomK ks k) with
      | false => rfl
      | true =>
        rw [List.all_eq_true] at ha
        have rm : ∀ k, roomK ks k = k * (k - 1) + 0 + conGo k ks (k - 0) := fun k => by rw [room_con]; omega
        have z := stops_go (ks := ks) (b := 0) (c := 0) (Int.le_refl _) g.cnt0 g.desc (by
          have := rm 0
          rw [room_zero g.cnt0 g.deg] at this
          rw [Int.sub_zero] at this
          omega) (fun k hk => by rw [← rm]; exact of_decide_eq_true (ha k hk)) j (by omega) (by omega)
        rw [← rm] at z
        omega
end Dg

namespace Dg
open PySem PySem.Spec PyProof.Rows L2 L2H LamX
/-! ### the keys of a written dict, walked -/
def textOf : Value → Str
  | .str x _ => x
  | _ => Str.empty
/-- the dict at d of the written part, its keys in their order -/
def KTab (K : PySem.W.Frag) (w : World) (d : Addr) (zs : List Str) : Prop :=
  (d == sysModules) = false ∧ ∃ es n, K.lookup d = some ⟨.type "dict", none, .dict es n, #[]⟩ ∧ PySem.W.KeysLit w.params es.toList ∧ es.toList.map (fun e => textOf e.key) = zs ∧ zs.Nodup
def Itw (zs : List Str) : It := ⟨fun i _ => i < zs.length, fun i H x H' => H' = H ∧ ∃ z, zs[i]? = some z ∧ x = .str z, fun i _ => zs.length ≤ i⟩
theorem walk_keysW {zs : List Str} : Walk (Itw zs) zs.length (fun _ => True) (YAt (zs.map V.str)) :=
  ⟨fun _ _ hi _ => hi, fun _ _ => Nat.le_refl _, fun i H x H' _ _ ⟨e, z, hz, ex⟩ => ⟨e, by rw [List.getElem?_map, hz, ex]; rfl⟩⟩
theorem lit_pairs {prog : Program} {w : World} : ∀ {l : List DictEntry}, PySem.W.KeysLit w.params l → Pairs (mixKind prog w) l (l.map fun e => ((Sum.inr (textOf e.key) : Key), e.val))
  | [], _ => .nil
  | e :: r, ⟨⟨x, t, hk, hh⟩, h⟩ => by
    refine .cons ?_ rfl (lit_pairs h)
    show keyIs (Sum.inr (textOf e.key)) e.key = true
    rw [hk]
    show (x == x) = true
    exact beq_self_eq_true x
theorem lit_keys {prog : Program} {w : World} {es : Array DictEntry} (h : PySem.W.KeysLit w.params es.toList) : KeysOf (mixKind prog w) es := fun e he => by
  obtain ⟨x, t, hk, hh⟩ := h.all e (Array.mem_toList_iff.mpr he)
  refine ⟨Sum.inr x, ?_, hh⟩
  show keyIs (Sum.inr x) e.key = true
  rw [hk]
  exact beq_self_eq_true x
section
variable {P : Program} {w : World} {K : PySem.W.Frag} {tg : Expr} {d : Addr} {zs : List Str}
theorem KTab.at {h : Heap} (k : K.In h) (t : KTab K w d zs) (prog : Program) : ∃ (o : Obj) (es : Array DictEntry) (n : Nat) (vs : List (Key × Value)), h.get? d = some o ∧ o.ExactDict ∧ o.data = .dict es n ∧ es.size = zs.length ∧ vs.length = zs.length ∧ h.DictAt (mixKind prog w) d vs n ∧ ∀ (i : Nat) z, zs[i]? = some z → ∃ v, vs[i]? = some (Sum.inr z, v) := by
  obtain ⟨_, es, n, hl, lit, hz, nd⟩ := t
  have hg := k _ _ hl
  have e1 : es.size = zs.length := by rw [← hz, List.length_map, Array.length_toList]
  refine ⟨_, es, n, es.toList.map fun e => ((Sum.inr (textOf e.key) : Key), e.val), hg, ⟨rfl, rfl, rfl⟩, rfl, e1, by rw [List.length_map, Array.length_toList, e1], ⟨_, es, hg, ⟨rfl, rfl, rfl⟩, rfl, lit_keys lit, lit_pairs lit, ?_⟩, fun i z hi => ?_⟩
  · rw [List.map_map]
    have : (es.toList.map ((fun x : Key × Value => x.1) ∘ fun e => ((Sum.inr (textOf e.key) : Key), e.val))) = zs.map Sum.inr := by
      rw [← hz, List.map_map]
      rfl
    rw [this]
    exact List.Pairwise.map _ (fun a b ne e => ne (Sum.inr.inj e)) nd
  · rw [← hz, List.getElem?_map] at hi
    obtain ⟨e, he, rfl⟩ := Option.map_eq_some_iff.mp hi
    exact ⟨e.val, by rw [List.getElem?_map, he]; rfl⟩
end
end Dg
namespace Dg
open PySem PySem.Spec PyProof.Rows L2 L2H LamX
section
variable {P : Program} {w : World} {K : PySem.W.Frag} {tg : Expr} {d : Addr} {zs : List Str}
theorem turn_keysW (it : Addr) {n : Nat} {es : Array DictEntry} (tb : KTab K w d zs) (hl : K.lookup d = some ⟨.type "dict", none, .dict es n, #[]⟩) : Turn P w K tg (Itw zs) [it] it (fun i h => h.IsKeyIter it d i zs.length n) where
  mem := by simp
  obj := fun i h st b hb => by
    have e : b = it := by simpa using hb
    subst e
    obtain ⟨oi, e, c, dd⟩ := st
    exact ⟨oi, e, fun v z => by rw [dd] at z; cases z⟩
  keep := fun i h h' st k => by
    obtain ⟨oi, e, c, dd⟩ := st
    exact ⟨oi, k it (by simp) oi e, c, dd⟩
  item := by
    intro X hP hw hK hc i pins s σ H E I hf st hg
    subst hP hw hK
    obtain ⟨f0, f1, f2, f3, f4, f5⟩ := hf it (by simp)
    obtain ⟨o, es', n', vs, ho, hx, hdt, hsz, lv, hm, each⟩ := tb.at I.kIn X.prog
    have e1 := I.kIn _ _ hl
    rw [ho] at e1
    cases e1
    cases hdt
    obtain ⟨z, hz⟩ : ∃ z, zs[i]? = some z := ⟨zs[i], List.getElem?_eq_getElem hg⟩
    obtain ⟨v, hv⟩ := each i z hz
    rw [← lv] at st
    refine wpAny_pyNext_dict_item st hm hv fun key h' hkey st' sb => ?_
    have I1 : Inv X pins σ H { s with heap := h' } := I.turned (t' := s.toks) (fun b ob hb e => (sb.2 b hb).trans e) f0 f1 f3 f4 f5
    obtain ⟨oi, e, c, dd⟩ := id st'
    refine ⟨key, rfl, go_of (s := { s with heap := h' }) e c dd (by decide) ⟨V.str z, H, I1, relV_key (show keyIs (Sum.inr z) key = true from hkey), ⟨rfl, z, hz, rfl⟩, ?_, fun b hb => (hf b hb).1⟩⟩
    show h'.IsKeyIter it d (i + 1) zs.length _
    rw [← lv]
    exact st'
  done := by
    intro X hP hw hK hc i pins s σ H E I hf st hg
    subst hP hw hK
    obtain ⟨f0, f1, f2, f3, f4, f5⟩ := hf it (by simp)
    obtain ⟨o, es', n', vs, ho, hx, hdt, hsz, lv, hm, each⟩ := tb.at I.kIn X.prog
    have e1 := I.kIn _ _ hl
    rw [ho] at e1
    cases e1
    cases hdt
    exact next_key_end (I.ok.hd hc) st ho rfl hsz hg fun h' eb => ⟨rfl, I.turned (t' := s.toks) (fun b ob hb e => eb b ob hb e) f0 f1 f3 f4 f5⟩
  self := fun A i s Q E st h => wpAny_pyIter_keyiter st h
end
def iKeysW (K : PySem.W.Frag) (w : World) (td : TE) : TI := fun σ H R => td σ H fun x H1 => ∃ d zs, x = .ref d ∧ KTab K w d zs ∧ R (Itw zs) H1
theorem pi_keysW {X : Cx} {K : PySem.W.Frag} {w : World} {tg e : Expr} {td : TE} (hk : X.K = K) (hw : X.w = w) (he : PE X e td) : PI X tg e (iKeysW K w td) := by
  subst hk
  subst hw
  refine ⟨fun pins s σ H R I h => ?_⟩
  refine thn (he.run pins s σ H _ I h) fun u s1 ⟨x, H1, I1, rx, d, zs, ex, tb, q⟩ => ?_
  subst ex
  obtain rfl : u = Value.ref d := rx
  obtain ⟨hs, es, n, hl, lit, hz, nd⟩ := id tb
  have ho := I1.kIn _ _ hl
  have e1 : es.size = zs.length := by rw [← hz, List.length_map, Array.length_toList]
  refine iter_keys hs ho ⟨rfl, rfl, rfl⟩ rfl (pi_one (tk := s1.toks) I1 _ (turn_keysW _ tb hl) ⟨_, Heap.get?_push_size _ rfl, rfl, ?_⟩ q)
  rw [e1] <;> rfl
def rIxW (K : PySem.W.Frag) (w : World) : R2 := rIxD K w
theorem ixW {X : Cx} {K : PySem.W.Frag} {w : World} (hk : X.K = K) (hw : X.w = w) : IxR X (rIxW K w) := by
  subst hk
  subst hw
  exact ix_kdict
section
variable {σ : HSt} {H : Hp} {Q : VK} {K : PySem.W.Frag} {w : World}
theorem r_keysW {td : TE} {R : It → Hp → Prop} (h : td σ H fun x H1 => ∃ d zs, x = .ref d ∧ KTab K w d zs ∧ R (Itw zs) H1) : iKeysW K w td σ H R := h
theorem r_ixW {p : Addr} {z : Str} {v : V} (h : KDct K w p z v) (q : Q v H) : rIxW K w (.ref p) (.str z) H Q := ⟨p, z, v, rfl, rfl, h, q⟩
theorem r_callA {i : Nat} {f : Addr} {sp : Sp} {S : Addr → Option Sp} {t : TA} (hf : σ[i]? = some (some (.ref f))) (hS : S f = some sp) (h : t σ H fun vs H1 => sp vs H1 Q (fun _ _ _ => False)) : tCallA i S t σ H Q := ⟨f, sp, hf, hS, h⟩
end
end Dg

namespace Dg
open PySem PySem.Spec PyProof.Rows L2 L2H LamX
/-! ### f(k = v, ..) -/
def tCallK0 (n : Nat) (sp : Sp) (gV : List V → List V → List V) (E : XK) (tk : TA) : TE := fun σ H Q => tk σ H fun zs H2 => zs.length = n ∧ sp (gV [] zs) H2 Q E
section
variable {X : Cx} {CX : CXT} {k : Nat} {f : Addr} {fd : FuncData} {ps ks : List Str} {sp : Sp} {E : XK} {kws : List Keyword} {x : Str} {pos p : Pos} {tk : TA}
  {gg : List Value → List Value → List Value} {gV : List V → List V → List V}
theorem pe_callK0 (F : FnOk X.prog X.w X.K X.mg X.base CX k f fd ps sp) (hr : Room k X.A) (hg : Gl X x) (hm : X.mg x = some (.ref f)) (hkp : PySem.W.keepIn X.K (.ref f) = true) (hb : KBn X.K fd ps 0 ks gg gV) (hx : Passes CX X E) (hk : PK X kws tk)
    (hall : (backToKw pos (keywordEach kws X.env)).all (·.1.isSome) = true := by rfl) (hks : (backToKw pos (keywordEach kws X.env)).filterMap (·.1) = ks := by rfl)
    (hdb : (x == ("__debug__" : Str)) = false := by decide +kernel) (hpl : ((backTo pos (starEach [] X.env)).any (·.1) || (backToKw pos (keywordEach kws X.env)).any (·.1.isNone)) = false := by rfl) :
    PE X (.Call (.Name x p) [] kws pos) (tCallK0 ks.length sp gV E tk) := by
  constructor
  intro pins s σ H Q I h
  refine wpAny_Call_Name_kw (thn ((pe_glob (v := V.ref f) hg hm rfl (hd := hdb)).run pins s σ H (fun v H1 => v = .ref f ∧ H1 = H) I ⟨rfl, rfl⟩) fun u s1 ⟨v, H1, I1, r1, q1⟩ => ?_)
  obtain ⟨rfl, rfl⟩ := q1
  obtain rfl : u = Value.ref f := r1
  refine PySem.W.callWith_of (P := fun h => X.K.In h) hpl (PySem.W.keeps_K hkp) (evalArgs_kw2_nil hall (thn (hk.run pos _ s1 σ _ _ I1 h) fun ws s3 ⟨zs, H2, I3, rz, l2, q2⟩ => ⟨I3.kIn, ?_⟩))
  rw [hks]
  show wpAny (model X.prog X.w) X.A (call (.ref f) ([] ++ []) (ks.zip ws)) (EP X pins σ Q) X.xe s3
  have r2 := hb.rel (vs := []) (us := []) .nil rz
  refine wpAny_call (codeAny_mono (F.run X.A X.stack s3 H2 ⟨[], ks.zip ws⟩ (gg [] ws) (gV [] zs) Q E hr I3.env0 (hb.to s3 [] ws I3.kIn rfl (rz.length.symm.trans l2)) r2 q2) fun r s' hq => ?_)
  cases r with
  | error e => exact hx _ σ H2 s3 e s' I3 hq
  | ok fl =>
    cases fl with
    | ret u => exact I3.after hq
    | next => exact hq.elim
    | brk => exact hq.elim
    | cont => exact hq.elim
end
section
variable {σ : HSt} {H : Hp} {Q : VK}
theorem r_callK0 {n : Nat} {sp : Sp} {gV : List V → List V → List V} {E : XK} {tk : TA} (h : tk σ H fun zs H2 => zs.length = n ∧ sp (gV [] zs) H2 Q E) : tCallK0 n sp gV E tk σ H Q := h
end
end Dg

namespace Dg
open PySem PySem.Spec PyProof.Rows L2 L2H LamX
/-! ### x, *r = t, t a tuple -/
def gStarT (K : PySem.W.Frag) (g1 g2 : TG) : TG := fun v σ H R => ∃ a x xs, v = .ref a ∧ SqT K H a (x :: xs) ∧ ∀ p, H p = none → g1 x σ (upd H p (.lst xs)) fun σ1 H1 => g2 (.ref p) σ1 H1 R
theorem tupPush {h : Heap} {a : Addr} {items : Array Value} (x : h.IsTuple a items) (o : Obj) : (h.push o).IsTuple a items := let ⟨o', ho, r⟩ := x; ⟨o', Heap.get?_push_of_some _ ho, r⟩
theorem unpack_starT {prog : Program} {w : World} {A : Around} {E : Value → Shared → Prop} {s : Shared} {a : Addr} {u : Value} {us : List Value} {R : List Value → Shared → Prop} (hh : A.handled = none) (ht : s.heap.IsTuple a (u :: us).toArray) (few : us.length ≤ sizeLine)
    (hR : ∀ (h' : Heap) (tk : Nat), (∀ b o, s.heap.get? b = some o → h'.get? b = some o) → R [u, .ref h'.objs.size] { s with heap := h'.push { cls := .type "list", data := .seq us.toArray }, toks := tk }) :
    wpAny (model prog w) A (unpackItems (.ref a) 2 (some 1)) R E s := by
  have hlt : a ≠ s.heap.objs.size := by obtain ⟨o, ho, _⟩ := ht; exact Nat.ne_of_lt (Heap.lt_size ho)
  have ha : a < s.heap.objs.size := by obtain ⟨o, ho, _⟩ := ht; exact Heap.lt_size ho
  unfold unpackItems
  refine wpAny_bind ?_
  unfold notIterableAtAll
  refine wpAny_bind (wpAny_specialOf ht.typeIs PySem.F.slot_tuple_iter.lookup ?_)
  refine wpAny_pure ?_
  simp only [Bool.false_eq_true, if_false]
  refine wpAny_bind (wpAny_holding (wpAny_pyIter_tuple ht ?_))
  have st0 : (s.heap.push { cls := .type "tuple_iterator", data := .fields #[.ref a, .int 0 0] }).IsTupleIter s.heap.objs.size a 0 ∧ (s.heap.push { cls := .type "tuple_iterator", data := .fields #[.ref a, .int 0 0] }).IsTuple a (u :: us).toArray :=
    ⟨⟨_, Heap.get?_push_size _ rfl, rfl, rfl⟩, tupPush ht _⟩
  have W := Walks.tuple (prog := prog) (w := w) (A := A.in1) (by exact hh) s.heap.objs.size a hlt (u :: us).toArray
  have sz : (u :: us).toArray.size = us.length + 1 := by rw [List.size_toArray]; rfl
  rw [sz] at W
  refine wpAny_bind (wpAny_holding ?_)
  show wpAny _ A (draw (.ref s.heap.objs.size) 1) _ _ _
  unfold draw
  refine wpAny_bind (W.of_in1.item 0 _ _ _ (by omega) st0 fun v h1 tk1 hv st1 k1 => ?_)
  have ev : v = u := by
    simp at hv
    exact hv.symm
  subst ev
  simp only [draw]
  refine wpAny_bind (wpAny_holding (wpAny_pure (wpAny_pure ?_)))
  rw [if_neg (by simp)]
  refine wpAny_bind (wpAny_holding ?_)
  have size1 : s.heap.objs.size < h1.objs.size := by
    obtain ⟨o, ho, _⟩ := st1.1
    exact Heap.lt_size ho
  refine wpAny_collect_iter (T := "tuple_iterator") (.inr (.inr (.inr rfl))) (walks_from1 W).toS (fun i s' st => ?_) st1 (fun b hb => ?_) (by simp) (fun s2 acc mv hacc => ?_) few
  · obtain ⟨o, ho, hc, _⟩ := st.1
    exact ⟨o, ho, hc⟩
  · simp at hb
    rcases hb with rfl | rfl
    · exact size1
    · exact Nat.lt_trans ha size1
  have eacc : acc.toList = us := by
    obtain ⟨h2, h3⟩ := hacc
    apply List.ext_getElem?
    intro i
    by_cases c : i < acc.size
    · have z := h3 i acc[i] (by simp [c])
      simp at z
      rw [z]
      simp [c]
    · rw [List.getElem?_eq_none (by simpa using c), List.getElem?_eq_none (by omega)]
  rw [eacc]
  obtain ⟨hp2, g2, d2, t2, o2⟩ := s2
  obtain ⟨m1, m2, m3, m4, m5⟩ := mv
  simp only at m1 m2 m3 m4 m5
  subst m2 m3 m4
  have after : (2 - 1 - 1 : Nat) = 0 := rfl
  simp only [Nat.sub_zero, Nat.not_lt_zero, if_false, after, List.take_length, List.drop_length]
  refine wpAny_bind (wpAny_newList ?_ few)
  refine wpAny_pure (hR hp2 t2 fun b o e => ?_)
  have nb : b ≠ s.heap.objs.size := Nat.ne_of_lt (Heap.lt_size e)
  exact m1 b o (by simpa using nb) (k1 b o (by simpa using nb) (Heap.get?_push_of_some _ e))
theorem pg_starT {X : Cx} {e1 e2 : Expr} {sp pos : Pos} {k : _} {g1 g2 : TG} (hc : X.calm = true) (h1 : PG X e1 g1) (h2 : PG X e2 g2)
    (hs : assignEach [e1, .Starred e2 sp] X.env = [(false, assign e1 X.env), (true, assign e2 X.env)] := by rfl) : PG X (.Tuple [e1, .Starred e2 sp] k pos) (gStarT X.K g1 g2) := by
  refine ⟨fun pins s σ H v u Q I r hw => ?_⟩
  obtain ⟨a, x, xs, rfl, hq, hw⟩ := hw
  cases r
  obtain ⟨its, rv, ht, hz⟩ := I.tuple hq
  cases rv with
  | cons r1 rs =>
    rename_i w1 ws
    rw [assign_Tuple, hs]
    refine wpAny_bind (wpAny_standAt ?_)
    unfold unpack
    have few : ws.length ≤ sizeLine := by
      have := rs.length
      rw [List.length_cons] at hz
      omega
    refine wpAny_bind (wpAny_holding (unpack_starT (I.ok.hd hc) (show s.heap.IsTuple a _ from by obtain ⟨o, h1, h2, n, h3⟩ := ht; exact ⟨o, h1, h2, n, h3⟩) few fun h' tk hk => ?_))
    have I0 : Inv X pins σ H { s with heap := h', toks := tk } := I.kept hk
    have fresh : H h'.objs.size = none := I0.hok.fresh (Nat.le_refl _)
    have I1 : Inv X pins σ (upd H h'.objs.size (.lst xs)) { s with heap := h'.push { cls := .type "list", data := .seq ws.toArray }, toks := tk } := by
      refine I0.laid (t' := tk) (fun b o e => Heap.get?_push_of_some _ e) (Nat.le_refl _) ?_
      exact ⟨by have := rs.length; omega, _, 0, rs, Heap.get?_push_size _ rfl⟩
    show wpAny _ X.A (assignInOrder [assign e1 X.env, assign e2 X.env] [w1, .ref h'.objs.size]) _ _ _
    unfold assignInOrder
    refine wpAny_bind (wpAny_holding (thn (h1.run pins _ σ _ x w1 _ I1 r1 (hw _ fresh)) fun _ s1 ⟨σ1, H1, I2, q1⟩ => ?_))
    unfold assignInOrder
    refine wpAny_bind (wpAny_holding (thn (h2.run pins s1 σ1 H1 (.ref h'.objs.size) (.ref h'.objs.size) _ I2 rfl q1) fun _ s2 q2 => ?_))
    unfold assignInOrder
    exact wpAny_pure q2
section
variable {K : PySem.W.Frag} {σ : HSt} {H : Hp}
theorem r_starT {g1 g2 : TG} {a : Addr} {x : V} {xs : List V} {R : HSt → Hp → Prop} (h : SqT K H a (x :: xs)) (q : ∀ p H', H p = none → Same H H' → H' p = some (.lst xs) → g1 x σ H' fun σ1 H1 => g2 (.ref p) σ1 H1 R) : gStarT K g1 g2 (.ref a) σ H R :=
  ⟨a, x, xs, rfl, h, fun p hp => q p _ hp (fun b u e => by rw [upd_ne (ne_of_none e hp)]; exact e) upd_same⟩
end
end Dg

namespace Dg
open PySem PySem.Spec PyProof.Rows L2 L2H LamX
/-! ### families, as functions of kinds -/
theorem lay_kD (k : Int × Int) : (kD k).canLay0 = true ∧ (kD k).depth ≤ 1 := by
  constructor
  · simp [kD, PyData.canLay0, PyData.canLayAll0]
  · simp [kD, PyData.depth, PyData.depthAll]
theorem lay_kDs : ∀ ks : Kinds, PyData.canLayAll0 (ks.map kD) = true ∧ PyData.depthAll (ks.map kD) ≤ 1
  | [] => ⟨rfl, by simp [PyData.depthAll]⟩
  | k :: r => by
    have ih := lay_kDs r
    have z := lay_kD k
    refine ⟨?_, ?_⟩
    · rw [List.map_cons, PyData.canLayAll0, ih.1, z.1]
      rfl
    · rw [List.map_cons, PyData.depthAll]
      have := z.2
      omega
theorem shaped_any (ks : Kinds) : SeqAt.shaped (KD ks) = true := by
  have z := lay_kDs ks
  unfold SeqAt.shaped
  rw [Bool.and_eq_true, decide_eq_true_eq]
  refine ⟨z.1, ?_⟩
  show (PyData.tuple (ks.map kD)).depth ≤ _
  rw [PyData.depth]
  omega
def isRing (ks : Kinds) : Bool := decide (ks = [(2, 5)])
def arePairs : Kinds → Bool
  | [(d, m)] => decide (d = 1) && (decide (m ≥ 4) && decide (m % 2 = 0))
  | _ => false
def isStar : Kinds → Bool
  | [(d, m), (e, n)] => decide (m = 1) && (decide (d ≥ 2) && (decide (e = 1) && (decide (n > d) && decide ((n - d) % 2 = 0))))
  | _ => false
def isHub : Kinds → Bool
  | [(d, m), (e, n)] => decide (m = 1) && (decide (d ≥ 4) && (decide (d % 2 = 0) && (decide (e = 2) && decide (n = d + 1))))
  | _ => false
def areStars (i o : Kinds) : Bool := match o with
  | [(e, _)] => decide (e = 1) && (decide (lastD i ≥ 1) && decide (placesK i ≥ 2))
  | _ => false
def isBridge : Kinds → Kinds → Bool
  | [(d, a)], [(e, n), (f, _)] => decide (d ≥ 2) && (decide (n = 1) && ((decide (2 ≤ e) && decide (e < placesK [(d, a)])) && decide (f = 1)))
  | _, _ => false
def isCrown : Kinds → Kinds → Bool
  | [(d, m), (e, n)], [(f, b)] => decide (f = 2) && (decide (m = 1) && (decide (d = b - 1) && (decide (e ≥ 2) && decide (placesK [(d, m), (e, n)] ≥ 4))))
  | _, _ => false
def withinB (i o : Kinds) : Bool := match i, o with
  | (d, _) :: _, (e, _) :: _ => decide (d ≤ placesK o) && decide (e ≤ placesK i)
  | _, _ => false
/-- the first of these tests that holds, by words and by readings -/
def pickF {α : Type} (tests : List (Str × (α → Bool))) (reads : List (Str × α)) : Option (Str × Str) := match tests with
  | [] => none
  | (w, f) :: r => match reads.find? fun x => f x.2 with
    | some x => some (w, x.1)
    | none => pickF r reads
def restTests : List (Str × (Kinds → Bool)) := [("ring", isRing), ("pairs", arePairs), ("star", isStar), ("hub", isHub)]
def halfTests : List (Str × (Kinds × Kinds → Bool)) := [("stars", fun x => areStars x.1 x.2), ("bridge", fun x => isBridge x.1 x.2), ("crown", fun x => isCrown x.1 x.2)]
def headD : Kinds → Int
  | [] => 0
  | k :: _ => k.1
def restReads (ks : Kinds) : List (Str × Kinds) := ("plain", ks) :: if headD ks ≤ placesK ks - 1 then [("opposite", oppP ks (placesK ks - 1))] else []
def halfReads (i o : Kinds) : List (Str × (Kinds × Kinds)) := (("plain" : Str), readP i o 0) :: ("exchanged", readP i o 1) :: if withinB i o then [("opposite", readP i o 2), ("turned", readP i o 3)] else []
def famRest (ks : Kinds) : Option (Str × Str) := pickF restTests (restReads ks)
def famHalves (i o : Kinds) : Option (Str × Str) := if endsK i ≠ endsK o then none else pickF halfTests (halfReads i o)
def famP : Pc → Option (Str × Str)
  | .alone _ => some ("alone", "plain")
  | .tied _ => some ("tied", "plain")
  | .rest ks => famRest ks
  | .halves i o => famHalves i o
def famD : Option (Str × Str) → PyData
  | none => .none
  | some (w, r) => .tuple [.str w, .str r]
/-- pieces that the program takes -/
def PcR : Pc → Prop
  | .alone m => 1 ≤ m
  | .tied m => 1 ≤ m
  | .halves i o => OkK i ∧ OkK o
  | .rest ks => OkK ks
end Dg
namespace Dg
open PySem PySem.Spec PyProof.Rows L2 L2H LamX
theorem KDhead {H : Hp} {v : V} {k : Int × Int} {r : Kinds} (h : Fz H v (KD (k :: r))) : ∃ b u xr, v = .ref b ∧ H b = some (.tup (.ref u :: xr)) ∧ H u = some (.tup [.int k.1, .int k.2]) ∧ xr.length = r.length ∧ FzAll H xr (r.map kD) := by
  obtain ⟨b, xs, rfl, hb, hxs⟩ := h.tup_inv
  cases hxs with
  | cons f1 fr =>
    obtain ⟨u, rfl, hu⟩ := f1.kD_inv
    exact ⟨b, u, _, rfl, hb, hu, by rw [fr.len, List.length_map], fr⟩
theorem KD1 {H : Hp} {v : V} {k : Int × Int} (h : Fz H v (KD [k])) : ∃ b u, v = .ref b ∧ H b = some (.tup [.ref u]) ∧ H u = some (.tup [.int k.1, .int k.2]) := by
  obtain ⟨b, u, xr, rfl, hb, hu, lx, _⟩ := KDhead h
  have : xr = [] := by simpa using lx
  subst this
  exact ⟨b, u, rfl, hb, hu⟩
theorem KD2 {H : Hp} {v : V} {k l : Int × Int} (h : Fz H v (KD [k, l])) : ∃ b u w, v = .ref b ∧ H b = some (.tup [.ref u, .ref w]) ∧ H u = some (.tup [.int k.1, .int k.2]) ∧ H w = some (.tup [.int l.1, .int l.2]) := by
  obtain ⟨b, u, xr, rfl, hb, hu, lx, fr⟩ := KDhead h
  cases fr with
  | cons f1 f2 =>
    cases f2
    obtain ⟨w, rfl, hw⟩ := f1.kD_inv
    exact ⟨b, u, w, rfl, hb, hu, hw⟩
theorem KDlen {H : Hp} {v : V} {ks : Kinds} (h : Fz H v (KD ks)) : ∃ b xs, v = .ref b ∧ H b = some (.tup xs) ∧ xs.length = ks.length := by
  obtain ⟨b, xs, rfl, hb, hxs⟩ := h.tup_inv
  exact ⟨b, xs, rfl, hb, by rw [hxs.len, List.length_map]⟩
theorem KDlast {H : Hp} {v : V} {ks : Kinds} (h : Fz H v (KD ks)) (ne : ks ≠ []) : ∃ b xs u m, v = .ref b ∧ H b = some (.tup xs) ∧ atI xs (-1) = some (.ref u) ∧ H u = some (.tup [.int (lastD ks), .int m]) := by
  obtain ⟨b, xs, rfl, hb, hxs⟩ := h.tup_inv
  obtain ⟨pl, hpl, epl⟩ := lastD_at ne
  have lx : xs.length = ks.length := by rw [hxs.len, List.length_map]
  have l : 0 < xs.length := by rw [lx]; exact List.length_pos_iff.mpr ne
  obtain ⟨d, hd', hf⟩ := hxs.at (i := xs.length - 1) (List.getElem?_eq_getElem (by omega))
  rw [List.getElem?_map, lx, hpl] at hd'
  obtain ⟨u, eu, hu⟩ := (show d = kD pl from (Option.some.inj hd').symm) ▸ hf |>.kD_inv
  refine ⟨b, xs, u, pl.2, rfl, hb, at_end (by rw [List.getElem?_eq_getElem (by omega), eu]), ?_⟩
  rw [hu, epl]
end Dg
namespace Dg
open PySem PySem.Spec PyProof.Rows L2 L2H LamX
/-- the words of readings, and their numbers -/
def readWs : List (Str × Int) := [("plain", 0), ("exchanged", 1), ("opposite", 2), ("turned", 3)]
theorem pick_cons {α : Type} {w : Str} {f : α → Bool} {r : List (Str × (α → Bool))} {reads : List (Str × α)} : pickF ((w, f) :: r) reads = (match reads.find? fun x => f x.2 with | some x => some (w, x.1) | none => pickF r reads) := rfl
theorem restReads_head (ks : Kinds) : ∀ x ∈ restReads ks, x.2 = ks ∨ x.2 = oppP ks (placesK ks - 1) := fun x hx => by
  unfold restReads at hx
  rcases List.mem_cons.mp hx with rfl | hx
  · exact .inl rfl
  · split at hx
    · rw [List.mem_singleton.mp hx]; exact .inr rfl
    · cases hx
theorem oppP_ne {ks : Kinds} {m : Int} (h : ks ≠ []) : oppP ks m ≠ [] := by simpa [oppP] using h
theorem oppP_len (ks : Kinds) (m : Int) : (oppP ks m).length = ks.length := by simp [oppP]
end Dg
namespace Dg
open PySem PySem.Spec PyProof.Rows L2 L2H LamX
def RdAt (H : Hp) (x : V) (rd : Str × Kinds) : Prop := ∃ t u, x = .ref t ∧ H t = some (.tup [.str rd.1, u]) ∧ Fz H u (KD rd.2)
theorem RdAt.same {H H' : Hp} {x : V} {rd : Str × Kinds} (s : Same H H') (h : RdAt H x rd) : RdAt H' x rd := by
  obtain ⟨t, u, e, ht, f⟩ := h
  exact ⟨t, u, e, s _ _ ht, f.same s⟩
theorem RdAt.kp {H H' : Hp} {x : V} {rd : Str × Kinds} (s : Kp H H') (h : RdAt H x rd) : RdAt H' x rd := by
  obtain ⟨t, u, e, ht, f⟩ := h
  exact ⟨t, u, e, s _ _ True.intro ht, f.kp s⟩
theorem find_take {α : Type} {p : α → Bool} {l : List α} {j : Nat} {x : α} (h : l[j]? = some x) (no : ∀ y ∈ l.take j, p y = false) (yes : p x = true) : l.find? p = some x := by
  have e : l = l.take j ++ x :: l.drop (j + 1) := by
    obtain ⟨hj, rfl⟩ := List.getElem?_eq_some_iff.mp h
    rw [← List.drop_eq_getElem_cons hj, List.take_append_drop]
  rw [e, List.find?_append, List.find?_eq_none.mpr fun y hy => by rw [no y hy]; exact Bool.false_ne_true, List.find?_cons, yes]
  rfl
theorem find_none' {α : Type} {p : α → Bool} {l : List α} (no : ∀ y ∈ l, p y = false) : l.find? p = none := List.find?_eq_none.mpr fun y hy => by rw [no y hy]; exact Bool.false_ne_true
theorem pick_at {α : Type} {tests : List (Str × (α → Bool))} {reads : List (Str × α)} {i : Nat} {w : Str} {f : α → Bool} (h : tests[i]? = some (w, f)) (x : Str × α) (hx : reads.find? (fun x => f x.2) = some x) : pickF (tests.drop i) reads = some (w, x.1) := by
  obtain ⟨hi, e⟩ := List.getElem?_eq_some_iff.mp h
  rw [List.drop_eq_getElem_cons hi, e, pick_cons, hx]
theorem pick_next {α : Type} {tests : List (Str × (α → Bool))} {reads : List (Str × α)} {i : Nat} {w : Str} {f : α → Bool} (h : tests[i]? = some (w, f)) (hx : reads.find? (fun x => f x.2) = none) : pickF (tests.drop i) reads = pickF (tests.drop (i + 1)) reads := by
  obtain ⟨hi, e⟩ := List.getElem?_eq_some_iff.mp h
  rw [List.drop_eq_getElem_cons hi, e, pick_cons, hx]
end Dg
namespace Dg
open PySem PySem.Spec PyProof.Rows L2 L2H LamX
theorem halfReads_in (i o : Kinds) : ∀ x ∈ halfReads i o, ∃ w, (x.1, w) ∈ readWs ∧ 0 ≤ w ∧ w < 4 ∧ x.2 = readP i o w := fun x hx => by
  unfold halfReads at hx
  rcases List.mem_cons.mp hx with rfl | hx
  · exact ⟨0, by simp [readWs], by decide, by decide, rfl⟩
  rcases List.mem_cons.mp hx with rfl | hx
  · exact ⟨1, by simp [readWs], by decide, by decide, rfl⟩
  split at hx
  · rcases List.mem_cons.mp hx with rfl | hx
    · exact ⟨2, by simp [readWs], by decide, by decide, rfl⟩
    · rw [List.mem_singleton.mp hx]
      exact ⟨3, by simp [readWs], by decide, by decide, rfl⟩
  · cases hx
theorem readP_ne {i o : Kinds} {w : Int} (ni : i ≠ []) (no : o ≠ []) : (readP i o w).1 ≠ [] ∧ (readP i o w).2 ≠ [] := by
  unfold readP
  split
  · exact ⟨ni, no⟩
  split
  · exact ⟨no, ni⟩
  split
  · exact ⟨oppP_ne no, oppP_ne ni⟩
  · exact ⟨oppP_ne ni, oppP_ne no⟩
theorem readP_len {i o : Kinds} {w : Int} {n : Nat} (li : i.length ≤ n) (lo : o.length ≤ n) : (readP i o w).1.length ≤ n ∧ (readP i o w).2.length ≤ n := by
  unfold readP
  split
  · exact ⟨li, lo⟩
  split
  · exact ⟨lo, li⟩
  split
  · exact ⟨by rw [oppP_len]; exact lo, by rw [oppP_len]; exact li⟩
  · exact ⟨by rw [oppP_len]; exact li, by rw [oppP_len]; exact lo⟩
end Dg
namespace Dg
open PySem PySem.Spec PyProof.Rows L2 L2H LamX
def geOne : PyData → Bool
  | .int i => decide (i ≥ 1)
  | _ => false
/-- the four tuples -/
def pieceD : PyData → Bool
  | .tuple (.str w :: ps) => if w = "halves" then (match ps with | [x, y] => okD x && okD y | _ => false) else (match ps with
    | [x] => if w = "rest" then okD x else (decide (w = "alone") || decide (w = "tied")) && (intD x && geOne x)
    | _ => false)
  | _ => false
theorem pieceD_pc {p : Pc} (h : PcR p) : pieceD (pcD p) = true := by
  cases p with
  | alone m =>
    have h : 1 ≤ m := h
    simp only [pcD, pieceD]
    rw [if_neg (by decide : ¬ ("alone" : Str) = "halves"), if_neg (by decide : ¬ ("alone" : Str) = "rest")]
    show (true && (true && decide (m ≥ 1))) = true
    rw [decide_eq_true (show m ≥ 1 from h)]
    rfl
  | tied m =>
    have h : 1 ≤ m := h
    simp only [pcD, pieceD]
    rw [if_neg (by decide : ¬ ("tied" : Str) = "halves"), if_neg (by decide : ¬ ("tied" : Str) = "rest")]
    show (true && (true && decide (m ≥ 1))) = true
    rw [decide_eq_true (show m ≥ 1 from h)]
    rfl
  | halves i o =>
    simp only [pcD, pieceD]
    rw [if_pos True.intro, okD_KD h.1, okD_KD h.2]
    rfl
  | rest ks =>
    simp only [pcD, pieceD]
    rw [if_neg (by decide : ¬ ("rest" : Str) = "halves"), if_pos True.intro]
    exact okD_KD h
end Dg
namespace Dg
open PySem PySem.Spec PyProof.Rows L2 L2H LamX
theorem pieceD_half2 (x y : PyData) : pieceD (.tuple [.str "halves", x, y]) = (okD x && okD y) := by
  simp only [pieceD]
  rw [if_pos True.intro]
theorem pieceD_halfN {ps : List PyData} (h : ps.length ≠ 2) : pieceD (.tuple (.str "halves" :: ps)) = false := by
  simp only [pieceD]
  rw [if_pos True.intro]
  rcases ps with _ | ⟨a, _ | ⟨b, _ | ⟨c, r⟩⟩⟩
  · rfl
  · rfl
  · exact absurd rfl h
  · rfl
theorem pieceD_oneN {w : Str} {ps : List PyData} (hw : w ≠ "halves") (h : ps.length ≠ 1) : pieceD (.tuple (.str w :: ps)) = false := by
  simp only [pieceD]
  rw [if_neg hw]
  rcases ps with _ | ⟨a, _ | ⟨b, r⟩⟩
  · rfl
  · exact absurd rfl h
  · rfl
theorem pieceD_rest (x : PyData) : pieceD (.tuple [.str "rest", x]) = okD x := by
  simp only [pieceD]
  rw [if_neg (by decide : ¬ ("rest" : Str) = "halves"), if_pos True.intro]
theorem pieceD_run {w : Str} (x : PyData) (h1 : w ≠ "halves") (h2 : w ≠ "rest") : pieceD (.tuple [.str w, x]) = ((decide (w = "alone") || decide (w = "tied")) && (intD x && geOne x)) := by
  simp only [pieceD]
  rw [if_neg h1, if_neg h2]
theorem pieceD_short {ds : List PyData} (h : ds.length < 2) : pieceD (.tuple ds) = false := by
  rcases ds with _ | ⟨d0, _ | ⟨d1, r⟩⟩
  · rfl
  · cases d0 with
    | str w =>
      by_cases e : w = "halves"
      · subst e; exact pieceD_halfN (by simp)
      · exact pieceD_oneN e (by simp)
    | _ => rfl
  · simp at h; omega
theorem pieceD_word {d : PyData} {r : List PyData} (h : isS d = false) : pieceD (.tuple (d :: r)) = false := by cases d <;> first | rfl | cases h
theorem in_two (w x y : Str) : inV (V.str w) [V.str x, V.str y] = (decide (w = x) || decide (w = y)) := by
  rw [show ([V.str x, V.str y] : List V) = ([x, y] : List Str).map V.str from rfl, in_strs]
  by_cases a : w = x <;> by_cases b : w = y <;> simp [a, b]
end Dg

namespace Dg
open PySem PySem.Spec PyProof.Rows L2 L2H LamX
/-! ### the law's own reckoning of halves, the program's -/
def lawStars (i o : Kinds) : Bool := decide (o.map (·.1) = [1]) && (decide (lastD i > 0) && decide (placesK i > 1))
def oddK (o : Kinds) : Kinds := o.filter fun k => decide (k.1 ≠ 1)
def lawBridge (i o : Kinds) : Bool := match i, oddK o with
  | [(d, a)], [(e, n)] => decide (d ≥ 2) && (decide (n = 1) && (decide (1 < e) && decide (e < placesK [(d, a)])))
  | _, _ => false
def restC (i o : Kinds) : Kinds := if placesK o - 1 ∈ i.map (·.1) then mergeK (i ++ [(placesK o - 1, -1)]) else []
def lawCrown (i o : Kinds) : Bool := decide (o.map (·.1) = [2]) && (decide (placesK i ≥ 4) && (match restC i o with
  | [(e, _)] => decide (e > 1)
  | _ => false))
theorem law_stars {i o : Kinds} : lawStars i o = areStars i o := by
  unfold lawStars areStars
  rcases o with _ | ⟨⟨e, n⟩, _ | ⟨l, r⟩⟩
  · rfl
  · rw [Bool.eq_iff_iff]
    simp only [Bool.and_eq_true, decide_eq_true_eq, List.map_cons, List.map_nil, List.cons.injEq, and_true]
    omega
  · simp
theorem endsK_cons {p : Int × Int} {ks : Kinds} : endsK (p :: ks) = p.1 * p.2 + endsK ks := by
  unfold endsK
  rw [List.map_cons, List.sum_cons]
theorem endsK_nil : endsK [] = 0 := rfl
theorem law_bridge {i o : Kinds} (gi : GdK i) (go : GdK o) (ends : endsK i = endsK o) : lawBridge i o = isBridge i o := by
  unfold lawBridge
  rcases i with _ | ⟨⟨d, a⟩, _ | ⟨i2, ir⟩⟩
  · rfl
  · have a1 : 1 ≤ a := gi.cnt (d, a) List.mem_cons_self
    rcases o with _ | ⟨⟨e, n⟩, _ | ⟨⟨f, g⟩, _ | ⟨⟨h, k⟩, r⟩⟩⟩
    · rfl
    · -- one outer kind: the sums are not equal
      have n1 : 1 ≤ n := go.cnt (e, n) List.mem_cons_self
      show (match ([(d, a)] : Kinds), oddK [(e, n)] with | [(d, a)], [(e, n)] => _ | _, _ => false) = false
      by_cases c : e = 1
      · have z : oddK [(e, n)] = [] := by simp [oddK, c]
        rw [z]
      · have z : oddK [(e, n)] = [(e, n)] := by simp [oddK, c]
        rw [z]
        simp only [places1]
        rw [← Bool.not_eq_true]
        simp only [Bool.and_eq_true, decide_eq_true_eq]
        rintro ⟨h1, h2, h3, h4⟩
        rw [endsK_cons, endsK_cons, endsK_nil] at ends
        simp only at ends
        subst h2
        have := Int.mul_le_mul_of_nonneg_right h1 (show 0 ≤ a by omega)
        omega
    · have lt : f < e := (List.pairwise_cons.mp go.desc).1 (f, g) List.mem_cons_self
      have f0 : 0 ≤ f := go.deg (f, g) (by simp)
      show (match ([(d, a)] : Kinds), oddK [(e, n), (f, g)] with | [(d, a)], [(e, n)] => _ | _, _ => false) = (decide (d ≥ 2) && (decide (n = 1) && ((decide (2 ≤ e) && decide (e < placesK [(d, a)])) && decide (f = 1))))
      by_cases c : e = 1
      · have z : oddK [(e, n), (f, g)] = [(f, g)] := by
          have : f ≠ 1 := by omega
          simp [oddK, c, this]
        rw [z]
        simp only [places1]
        rw [Bool.eq_iff_iff]
        simp only [Bool.and_eq_true, decide_eq_true_eq]
        omega
      · by_cases c2 : f = 1
        · have z : oddK [(e, n), (f, g)] = [(e, n)] := by simp [oddK, c, c2]
          rw [z]
          simp only [places1]
          rw [Bool.eq_iff_iff]
          simp only [Bool.and_eq_true, decide_eq_true_eq]
          omega
        · have z : oddK [(e, n), (f, g)] = [(e, n), (f, g)] := by simp [oddK, c, c2]
          rw [z]
          rw [Bool.eq_iff_iff]
          simp only [Bool.and_eq_true, decide_eq_true_eq]
          constructor
          · intro h; cases h
          · omega
    · have lt1 : f < e := (List.pairwise_cons.mp go.desc).1 (f, g) List.mem_cons_self
      have lt2 : h < f := (List.pairwise_cons.mp (List.pairwise_cons.mp go.desc).2).1 (h, k) List.mem_cons_self
      show (match ([(d, a)] : Kinds), oddK ((e, n) :: (f, g) :: (h, k) :: r) with | [(d, a)], [(e, n)] => _ | _, _ => false) = false
      have two : 2 ≤ (oddK ((e, n) :: (f, g) :: (h, k) :: r)).length := by
        unfold oddK
        by_cases c : e = 1
        · have c2 : f ≠ 1 := by omega
          have c3 : h ≠ 1 := by omega
          simp [List.filter_cons, c, c2, c3]
        · by_cases c2 : f = 1
          · have c3 : h ≠ 1 := by omega
            simp [List.filter_cons, c, c2, c3]
          · simp [List.filter_cons, c, c2]
      generalize oddK ((e, n) :: (f, g) :: (h, k) :: r) = l at two
      rcases l with _ | ⟨x, _ | ⟨y, s⟩⟩
      · simp at two
      · simp at two
      · rfl
  · rcases o with _ | ⟨o1, _ | ⟨o2, _ | ⟨o3, r⟩⟩⟩ <;> rfl
theorem rest_mem {i o : Kinds} (gi : GdK i) (hb : placesK o - 1 ∈ i.map (·.1)) {e n : Int} (h : (e, n) ∈ i) (ne : e ≠ placesK o - 1) : (e, n) ∈ restC i o := by
  unfold restC
  rw [if_pos hb]
  refine ((kindsOf_merge _).2 e n).mpr ⟨?_, gi.cnt _ h⟩
  have nd := DescP.nodup gi.desc
  rw [sumOf_app, sumOf_cons, sumOf_nil, sumOf_val nd, val_memN nd h]
  show n = n + ((if placesK o - 1 = e then -1 else 0) + 0)
  rw [if_neg (fun z => ne z.symm)]
  omega
theorem rest_own {i o : Kinds} (gi : GdK i) {c : Int} (h : (placesK o - 1, c) ∈ i) (c2 : 2 ≤ c) : (placesK o - 1, c - 1) ∈ restC i o := by
  unfold restC
  rw [if_pos (List.mem_map_of_mem (f := fun k : Int × Int => k.1) h)]
  refine ((kindsOf_merge _).2 _ _).mpr ⟨?_, by omega⟩
  have nd := DescP.nodup gi.desc
  rw [sumOf_app, sumOf_cons, sumOf_nil, sumOf_val nd, val_memN nd h]
  show c - 1 = c + ((if placesK o - 1 = placesK o - 1 then -1 else 0) + 0)
  rw [if_pos rfl]
  omega
theorem law_crown {i o : Kinds} (gi : GdK i) (go : GdK o) (ends : endsK i = endsK o) : lawCrown i o = isCrown i o := by
  rw [Bool.eq_iff_iff]
  constructor
  · intro hl
    unfold lawCrown at hl
    simp only [Bool.and_eq_true, decide_eq_true_eq] at hl
    obtain ⟨h1, h2, h3⟩ := hl
    obtain ⟨g, rfl⟩ : ∃ g, o = [(2, g)] := by
      rcases o with _ | ⟨⟨f, g⟩, _ | ⟨l, r⟩⟩
      · cases h1
      · simp at h1
        exact ⟨g, by rw [h1]⟩
      · simp at h1
    have g1 : 1 ≤ g := go.cnt (2, g) List.mem_cons_self
    rw [endsK_cons, endsK_nil] at ends
    have pg : placesK [((2 : Int), g)] = g := places1
    have hb : placesK [((2 : Int), g)] - 1 ∈ i.map (·.1) := by
      by_cases z : placesK [((2 : Int), g)] - 1 ∈ i.map (·.1)
      · exact z
      · unfold restC at h3
        rw [if_neg z] at h3
        cases h3
    obtain ⟨x, c, hr, hx⟩ : ∃ x c, restC i [(2, g)] = [(x, c)] ∧ x > 1 := by
      generalize restC i [(2, g)] = l at h3
      rcases l with _ | ⟨⟨x, c⟩, _ | ⟨y, s⟩⟩
      · cases h3
      · exact ⟨x, c, rfl, of_decide_eq_true h3⟩
      · cases h3
    have one : ∀ {e n : Int}, (e, n) ∈ i → e ≠ g - 1 → e = x ∧ n = c := fun he ne => by
      have z := rest_mem (o := [(2, g)]) gi hb he (by rw [pg]; exact ne)
      rw [hr, List.mem_singleton] at z
      exact ⟨congrArg Prod.fst z, congrArg Prod.snd z⟩
    have own : ∀ {n : Int}, (g - 1, n) ∈ i → 2 ≤ n → g - 1 = x ∧ n - 1 = c := fun he h => by
      have z := rest_own (o := [(2, g)]) gi (by rw [pg]; exact he) h
      rw [hr, List.mem_singleton, pg] at z
      exact ⟨congrArg Prod.fst z, congrArg Prod.snd z⟩
    rw [pg] at hb
    rcases i with _ | ⟨⟨d, m⟩, _ | ⟨⟨e, n⟩, _ | ⟨⟨f, k⟩, r⟩⟩⟩
    · cases hb
    · exfalso
      have m1 : 1 ≤ m := gi.cnt (d, m) List.mem_cons_self
      have hd : g - 1 = d := by simpa using hb
      rw [places1] at h2
      obtain ⟨e1, e2⟩ := own (n := m) (by rw [hd]; exact List.mem_cons_self) (by omega)
      rw [endsK_cons, endsK_nil] at ends
      simp only at ends
      have := Int.mul_le_mul_of_nonneg_left (show 4 ≤ m by omega) (show 0 ≤ d by omega)
      omega
    · have m1 : 1 ≤ m := gi.cnt (d, m) List.mem_cons_self
      have n1 : 1 ≤ n := gi.cnt (e, n) (by simp)
      have lt : e < d := (List.pairwise_cons.mp gi.desc).1 (e, n) List.mem_cons_self
      rw [places2] at h2
      rw [endsK_cons, endsK_cons, endsK_nil] at ends
      simp only at ends
      by_cases hd : d = g - 1
      · obtain ⟨e1, e2⟩ := one (e := e) (n := n) (by simp) (by omega)
        have hm : m = 1 := by
          by_cases z : 2 ≤ m
          · have := own (n := m) (by rw [← hd]; exact List.mem_cons_self) z
            omega
          · omega
        show (decide ((2 : Int) = 2) && (decide (m = 1) && (decide (d = g - 1) && (decide (e ≥ 2) && decide (placesK [(d, m), (e, n)] ≥ 4))))) = true
        rw [places2]
        simp only [Bool.and_eq_true, decide_eq_true_eq]
        exact ⟨trivial, hm, hd, by omega, by omega⟩
      · exfalso
        obtain ⟨e1, e2⟩ := one (e := d) (n := m) (by simp) hd
        have he : e = g - 1 := by
          have : g - 1 = d ∨ g - 1 = e := by simpa using hb
          omega
        have hn : n = 1 := by
          by_cases z : 2 ≤ n
          · have := own (n := n) (by rw [← he]; simp) z
            omega
          · omega
        subst hn
        have := Int.mul_le_mul_of_nonneg_left (show 3 ≤ m by omega) (show 0 ≤ d by omega)
        omega
    · exfalso
      have lt1 : e < d := (List.pairwise_cons.mp gi.desc).1 (e, n) List.mem_cons_self
      have lt2 : f < e := (List.pairwise_cons.mp (List.pairwise_cons.mp gi.desc).2).1 (f, k) List.mem_cons_self
      by_cases hd : d = g - 1
      · have a1 := one (e := e) (n := n) (by simp) (by omega)
        have a2 := one (e := f) (n := k) (by simp) (by omega)
        omega
      · have a1 := one (e := d) (n := m) (by simp) hd
        by_cases he : e = g - 1
        · have a2 := one (e := f) (n := k) (by simp) (by omega)
          omega
        · have a2 := one (e := e) (n := n) (by simp) he
          omega
  · intro hc
    rcases i with _ | ⟨⟨d, m⟩, _ | ⟨⟨e, n⟩, _ | ⟨i3, r⟩⟩⟩
    · cases hc
    · cases hc
    · rcases o with _ | ⟨⟨f, g⟩, _ | ⟨o2, s⟩⟩
      · cases hc
      · have hc : (decide (f = 2) && (decide (m = 1) && (decide (d = g - 1) && (decide (e ≥ 2) && decide (placesK [(d, m), (e, n)] ≥ 4))))) = true := hc
        rw [places2] at hc
        simp only [Bool.and_eq_true, decide_eq_true_eq] at hc
        obtain ⟨h1, h2, h3, h4, h5⟩ := hc
        subst h1 h2
        have lt : e < d := (List.pairwise_cons.mp gi.desc).1 (e, n) List.mem_cons_self
        have n1 : 1 ≤ n := gi.cnt (e, n) (by simp)
        have hr : restC [(d, 1), (e, n)] [(2, g)] = [(e, n)] := by
          unfold restC
          rw [places1, if_pos (by simp [h3])]
          refine KindsOf.one (kindsOf_merge _) ⟨List.pairwise_singleton _ _, fun x c => ?_⟩
          rw [List.mem_singleton]
          show (x, c) = (e, n) ↔ c = sumOf [(d, 1), (e, n), (g - 1, -1)] x ∧ 0 < c
          rw [sumOf_cons, sumOf_cons, sumOf_cons, sumOf_nil]
          show (x, c) = (e, n) ↔ c = (if d = x then 1 else 0) + ((if e = x then n else 0) + ((if g - 1 = x then -1 else 0) + 0)) ∧ 0 < c
          constructor
          · intro h
            have hx : x = e := congrArg Prod.fst h
            have hcn : c = n := congrArg Prod.snd h
            rw [if_neg (show ¬ d = x by omega), if_pos (show e = x by omega), if_neg (show ¬ g - 1 = x by omega)]
            omega
          · rintro ⟨h, hp⟩
            by_cases hx : e = x
            · rw [if_neg (show ¬ d = x by omega), if_pos hx, if_neg (show ¬ g - 1 = x by omega)] at h
              rw [← hx, h]
              congr 1
              omega
            · rw [if_neg hx] at h
              by_cases hy : d = x
              · rw [if_pos hy, if_pos (show g - 1 = x by omega)] at h
                omega
              · rw [if_neg hy, if_neg (show ¬ g - 1 = x by omega)] at h
                omega
        unfold lawCrown
        rw [hr, places2]
        simp only [Bool.and_eq_true, decide_eq_true_eq]
        refine ⟨rfl, h5, ?_⟩
        omega
      · cases hc
    · rcases o with _ | ⟨⟨f, g⟩, _ | ⟨o2, s⟩⟩ <;> cases hc
end Dg
namespace Dg
open PySem PySem.Spec PyProof.Rows L2 L2H LamX
theorem eqvAll_ints : ∀ (l m : List Int), PyData.eqvAll (l.map PyData.int) (m.map PyData.int) = decide (l = m)
  | [], [] => rfl
  | [], b :: m => by simp [PyData.eqvAll]
  | a :: l, [] => by simp [PyData.eqvAll]
  | a :: l, b :: m => by
    rw [List.map_cons, List.map_cons, PyData.eqvAll, eqvAll_ints l m, PyData.eqv]
    by_cases e : a = b
    · subst e
      simp
    · simp [e]
theorem eqv_ints (l m : List Int) : PyData.eqv (.list (l.map PyData.int)) (.list (m.map PyData.int)) = decide (l = m) := by
  rw [PyData.eqv, eqvAll_ints]
theorem lay_ints : ∀ l : List Int, PyData.canLayAll0 (l.map PyData.int) = true ∧ PyData.depthAll (l.map PyData.int) ≤ 1
  | [] => ⟨rfl, by simp [PyData.depthAll]⟩
  | x :: r => by
    have ih := lay_ints r
    refine ⟨?_, ?_⟩
    · rw [List.map_cons, PyData.canLayAll0, ih.1]
      rfl
    · rw [List.map_cons, PyData.depthAll]
      have : PyData.depth (.int x) ≤ 1 := by simp [PyData.depth]
      omega
theorem shaped_ints (l : List Int) : SeqAt.shaped (.list (l.map PyData.int)) = true := by
  have z := lay_ints l
  unfold SeqAt.shaped
  rw [Bool.and_eq_true, decide_eq_true_eq]
  refine ⟨z.1, ?_⟩
  rw [PyData.depth]
  omega
theorem DpAll.ints {K : PySem.W.Frag} {H : Hp} : ∀ l : List Int, DpAll K H (l.map V.int) (l.map PyData.int)
  | [] => .nil
  | b :: r => .cons (.int b) (DpAll.ints r)
theorem flat_ints : ∀ l : List Int, (l.map V.int).all flatV = true
  | [] => rfl
  | b :: r => by
    rw [List.map_cons, List.all_cons, flat_ints r]
    rfl
theorem in_ints (x : Int) : ∀ l : List Int, inV (.int x) (l.map V.int) = decide (x ∈ l)
  | [] => rfl
  | b :: r => by
    have e : inV (.int x) ((b :: r).map V.int) = (eqV (V.int b) (V.int x) || inV (.int x) (r.map V.int)) := rfl
    have e2 : eqV (V.int b) (V.int x) = decide (b = x) := by
      by_cases c : b = x
      · subst c; simp [eqV]
      · simp [eqV, c]
    rw [e, in_ints x r, e2]
    by_cases c : x = b
    · subst c; simp
    · have c' : ¬ b = x := fun z => c z.symm
      simp [c, c']
/-- the law's own tests of halves -/
def halfLaws : List (Str × (Kinds → Kinds → Bool)) := [("stars", lawStars), ("bridge", lawBridge), ("crown", lawCrown)]
end Dg
namespace Dg
open PySem PySem.Spec PyProof.Rows L2 L2H LamX
section
variable {n bk ct : HSt → Hp → Prop} {r : VK} {σ : HSt} {H : Hp}
theorem r_par3 {i j l : Nat} {t : TA} (h : t σ H fun vs H1 => ∃ u v w, vs = [u, v, w] ∧ n (((σ.set i (some u)).set j (some v)).set l (some w)) H1) : tPar3 i j l t ⟨n, r, bk, ct⟩ σ H := h
theorem r_trip {u v w : V} {R : V → V → V → Prop} (h : R u v w) : ∃ a b c, [u, v, w] = [a, b, c] ∧ R a b c := ⟨u, v, w, rfl, h⟩
end
end Dg

namespace Dg
open PySem PySem.Spec PyProof.Rows L2 L2H LamX
/-! ### the law's readings and the program's -/
theorem lastD_append {k : Int × Int} : ∀ {ks : Kinds}, lastD (ks ++ [k]) = k.1
  | [] => rfl
  | [p] => rfl
  | p :: q :: r => by
    show lastD (q :: (r ++ [k])) = k.1
    exact lastD_append (ks := q :: r)
theorem lastD_opp {ks : Kinds} {m : Int} (h : ks ≠ []) : lastD (oppP ks m) = m - headD ks := by
  cases ks with
  | nil => exact absurd rfl h
  | cons k r =>
    unfold oppP
    rw [List.reverse_cons, List.map_append]
    exact lastD_append
theorem endsK_oppP (m : Int) : ∀ ks : Kinds, endsK (oppP ks m) = m * placesK ks - endsK ks := by
  have go : ∀ ks : Kinds, endsK (ks.map fun k => (m - k.1, k.2)) = m * placesK ks - endsK ks := by
    intro ks
    induction ks with
    | nil => simp [endsK, placesK]
    | cons k r ih =>
      rw [List.map_cons, endsK_cons, endsK_cons, placesK_cons, ih]
      grind
  intro ks
  rw [← go]
  unfold oppP endsK
  rw [List.map_reverse, List.map_reverse, List.sum_reverse]
theorem ends_read {i o : Kinds} {w : Int} (w0 : 0 ≤ w) (w1 : w < 4) : endsK (readP i o w).1 = endsK (readP i o w).2 ↔ endsK i = endsK o := by
  have cs : w = 0 ∨ w = 1 ∨ w = 2 ∨ w = 3 := by omega
  have c := Int.mul_comm (placesK i) (placesK o)
  rcases cs with rfl | rfl | rfl | rfl
  · exact Iff.rfl
  · exact eq_comm
  · show endsK (oppP o (placesK i)) = endsK (oppP i (placesK o)) ↔ _
    rw [endsK_oppP, endsK_oppP]
    omega
  · show endsK (oppP i (placesK o)) = endsK (oppP o (placesK i)) ↔ _
    rw [endsK_oppP, endsK_oppP]
    omega
theorem gd_head {ks : Kinds} (g : GdK ks) : ∀ k ∈ ks, k.1 ≤ headD ks := by
  intro k hk
  cases ks with
  | nil => cases hk
  | cons p r =>
    rcases List.mem_cons.mp hk with rfl | hk
    · exact Int.le_refl _
    · have := (List.pairwise_cons.mp g.desc).1 k hk
      show k.1 ≤ p.1
      omega
theorem gd_opp {ks : Kinds} {m : Int} (g : GdK ks) (h : headD ks ≤ m) : GdK (oppP ks m) := by
  refine ⟨?_, fun k hk => ?_, fun k hk => ?_⟩
  · unfold DescP oppP
    rw [List.pairwise_map, List.pairwise_reverse]
    refine List.Pairwise.imp ?_ g.desc
    intro a b h
    show m - a.1 < m - b.1
    omega
  · have := gd_head g _ (mem_oppP.mp hk)
    have this : m - k.1 ≤ headD ks := this
    omega
  · exact g.cnt (m - k.1, k.2) (mem_oppP.mp hk)
theorem gd_lastD {ks : Kinds} (g : GdK ks) (ne : ks ≠ []) : 0 ≤ lastD ks := by
  obtain ⟨p, hp, e⟩ := lastD_at ne
  rw [← e]
  exact g.deg p (List.mem_of_getElem? hp)
def lawReads (ks : Kinds) : List (Str × Kinds) := [("plain", ks), ("opposite", oppP ks (placesK ks - 1))]
def okRest (fn : Kinds → Bool) (x : Str × Kinds) : Bool := decide (lastD x.2 ≥ 0) && fn x.2
theorem rest_found {ks : Kinds} (g : GdK ks) (ne : ks ≠ []) {fn : Kinds → Bool} {j : Nat} {x : Str × Kinds} (hx : (lawReads ks)[j]? = some x) (no : ∀ y ∈ (lawReads ks).take j, okRest fn y = false) (yes : okRest fn x = true) : (restReads ks).find? (fun y => fn y.2) = some x := by
  have l0 := gd_lastD g ne
  have e0 : okRest fn ("plain", ks) = fn ks := by
    unfold okRest
    rw [decide_eq_true (show lastD ks ≥ 0 from l0)]
    rfl
  rcases j with _ | _ | j
  · cases hx
    rw [e0] at yes
    unfold restReads
    rw [List.find?_cons]
    show (match fn ks with | true => _ | false => _) = _
    rw [yes]
  · cases hx
    have n0 := no ("plain", ks) (by simp [lawReads])
    rw [e0] at n0
    unfold okRest at yes
    obtain ⟨y1, y2⟩ := Bool.and_eq_true_iff.mp yes
    have y1 : lastD (oppP ks (placesK ks - 1)) ≥ 0 := of_decide_eq_true y1
    rw [lastD_opp ne] at y1
    have y2 : fn (oppP ks (placesK ks - 1)) = true := y2
    unfold restReads
    rw [if_pos (by omega), List.find?_cons]
    show (match fn ks with | true => _ | false => _) = _
    rw [n0, List.find?_cons]
    show (match fn (oppP ks (placesK ks - 1)) with | true => _ | false => _) = _
    rw [y2]
  · cases hx
theorem rest_none {ks : Kinds} (g : GdK ks) (ne : ks ≠ []) {fn : Kinds → Bool} (no : ∀ y ∈ lawReads ks, okRest fn y = false) : (restReads ks).find? (fun y => fn y.2) = none := by
  have l0 := gd_lastD g ne
  have n0 := no ("plain", ks) (by simp [lawReads])
  have n1 := no ("opposite", oppP ks (placesK ks - 1)) (by simp [lawReads])
  unfold okRest at n0 n1
  rw [decide_eq_true (show lastD ks ≥ 0 from l0)] at n0
  have n0 : fn ks = false := n0
  refine find_none' fun y hy => ?_
  unfold restReads at hy
  rcases List.mem_cons.mp hy with rfl | hy
  · exact n0
  · split at hy
    · rename_i c
      rw [List.mem_singleton.mp hy]
      have z : lastD (oppP ks (placesK ks - 1)) ≥ 0 := by rw [lastD_opp ne]; omega
      have n1 : (decide (lastD (oppP ks (placesK ks - 1)) ≥ 0) && fn (oppP ks (placesK ks - 1))) = false := n1
      rw [decide_eq_true z] at n1
      exact n1
    · cases hy
/-! ### halves -/
def okHalf (fl : Kinds → Kinds → Bool) (x : Kinds × Kinds) : Bool := decide (lastD x.1 ≥ 0) && (decide (lastD x.2 ≥ 0) && (decide (endsK x.1 = endsK x.2) && fl x.1 x.2))
def halfWs : List Str := ["plain", "exchanged", "opposite", "turned"]
theorem within_iff {i o : Kinds} (ni : i ≠ []) (no : o ≠ []) : withinB i o = true ↔ headD i ≤ placesK o ∧ headD o ≤ placesK i := by
  cases i with
  | nil => exact absurd rfl ni
  | cons k r =>
    cases o with
    | nil => exact absurd rfl no
    | cons l s =>
      show (decide (k.1 ≤ placesK (l :: s)) && decide (l.1 ≤ placesK (k :: r))) = true ↔ _
      rw [Bool.and_eq_true, decide_eq_true_eq, decide_eq_true_eq]
      exact Iff.rfl
theorem read_gd {i o : Kinds} {w : Nat} (gi : GdK i) (go : GdK o) (ni : i ≠ []) (no : o ≠ []) (w1 : w < 4) (h1 : lastD (readP i o w).1 ≥ 0) (h2 : lastD (readP i o w).2 ≥ 0) : GdK (readP i o w).1 ∧ GdK (readP i o w).2 ∧ (2 ≤ w → withinB i o = true) := by
  have cs : w = 0 ∨ w = 1 ∨ w = 2 ∨ w = 3 := by omega
  rcases cs with rfl | rfl | rfl | rfl
  · exact ⟨gi, go, fun z => by omega⟩
  · exact ⟨go, gi, fun z => by omega⟩
  · have h1 : lastD (oppP o (placesK i)) ≥ 0 := h1
    have h2 : lastD (oppP i (placesK o)) ≥ 0 := h2
    rw [lastD_opp no] at h1
    rw [lastD_opp ni] at h2
    exact ⟨gd_opp go (by omega), gd_opp gi (by omega), fun _ => (within_iff ni no).mpr ⟨by omega, by omega⟩⟩
  · have h1 : lastD (oppP i (placesK o)) ≥ 0 := h1
    have h2 : lastD (oppP o (placesK i)) ≥ 0 := h2
    rw [lastD_opp ni] at h1
    rw [lastD_opp no] at h2
    exact ⟨gd_opp gi (by omega), gd_opp go (by omega), fun _ => (within_iff ni no).mpr ⟨by omega, by omega⟩⟩
theorem read_last {i o : Kinds} {w : Nat} (gi : GdK i) (go : GdK o) (ni : i ≠ []) (no : o ≠ []) (w1 : w < 4) (h : 2 ≤ w → withinB i o = true) : lastD (readP i o w).1 ≥ 0 ∧ lastD (readP i o w).2 ≥ 0 := by
  have l1 := gd_lastD gi ni
  have l2 := gd_lastD go no
  have cs : w = 0 ∨ w = 1 ∨ w = 2 ∨ w = 3 := by omega
  rcases cs with rfl | rfl | rfl | rfl
  · exact ⟨l1, l2⟩
  · exact ⟨l2, l1⟩
  · obtain ⟨a, b⟩ := (within_iff ni no).mp (h (by omega))
    refine ⟨?_, ?_⟩
    · show lastD (oppP o (placesK i)) ≥ 0
      rw [lastD_opp no]; omega
    · show lastD (oppP i (placesK o)) ≥ 0
      rw [lastD_opp ni]; omega
  · obtain ⟨a, b⟩ := (within_iff ni no).mp (h (by omega))
    refine ⟨?_, ?_⟩
    · show lastD (oppP i (placesK o)) ≥ 0
      rw [lastD_opp ni]; omega
    · show lastD (oppP o (placesK i)) ≥ 0
      rw [lastD_opp no]; omega
theorem halfReads_at {i o : Kinds} {w : Nat} (w1 : w < 4) (h : 2 ≤ w → withinB i o = true) : ∃ z, halfWs[w]? = some z ∧ (halfReads i o)[w]? = some (z, readP i o w) := by
  have cs : w = 0 ∨ w = 1 ∨ w = 2 ∨ w = 3 := by omega
  unfold halfReads
  rcases cs with rfl | rfl | rfl | rfl
  · exact ⟨_, rfl, rfl⟩
  · exact ⟨_, rfl, rfl⟩
  · rw [if_pos (h (by omega))]
    exact ⟨_, rfl, rfl⟩
  · rw [if_pos (h (by omega))]
    exact ⟨_, rfl, rfl⟩
theorem halfReads_of {i o : Kinds} {y : Str × (Kinds × Kinds)} {n : Nat} (h : (halfReads i o)[n]? = some y) : n < 4 ∧ y.2 = readP i o n ∧ (2 ≤ n → withinB i o = true) := by
  unfold halfReads at h
  rcases n with _ | _ | n
  · cases h; exact ⟨by omega, rfl, fun z => by omega⟩
  · cases h; exact ⟨by omega, rfl, fun z => by omega⟩
  · rw [List.getElem?_cons_succ, List.getElem?_cons_succ] at h
    by_cases c : withinB i o = true
    · rw [if_pos c] at h
      rcases n with _ | _ | n
      · cases h; exact ⟨by omega, rfl, fun _ => c⟩
      · cases h; exact ⟨by omega, rfl, fun _ => c⟩
      · cases h
    · rw [if_neg c] at h
      cases h
theorem laws_half {j : Nat} {wd : Str} {fl : Kinds → Kinds → Bool} {fn : Kinds × Kinds → Bool} (h1 : halfLaws[j]? = some (wd, fl)) (h2 : halfTests[j]? = some (wd, fn)) {x y : Kinds} (gx : GdK x) (gy : GdK y) (e : endsK x = endsK y) : fl x y = fn (x, y) := by
  rcases j with _ | _ | _ | j
  · cases h1; cases h2; exact law_stars
  · cases h1; cases h2; exact law_bridge gx gy e
  · cases h1; cases h2; exact law_crown gx gy e
  · cases h1
theorem half_eq {i o : Kinds} {w : Nat} (gi : GdK i) (go : GdK o) (ni : i ≠ []) (no : o ≠ []) (w1 : w < 4) (en : endsK i = endsK o) {j : Nat} {wd : Str} {fl : Kinds → Kinds → Bool} {fn : Kinds × Kinds → Bool} (h1 : halfLaws[j]? = some (wd, fl)) (h2 : halfTests[j]? = some (wd, fn))
    (h : 2 ≤ w → withinB i o = true) : okHalf fl (readP i o w) = fn (readP i o w) := by
  obtain ⟨a, b⟩ := read_last gi go ni no w1 h
  obtain ⟨c, d, _⟩ := read_gd gi go ni no w1 a b
  have e := (ends_read (i := i) (o := o) (w := w) (by omega) (by omega)).mpr en
  unfold okHalf
  rw [decide_eq_true a, decide_eq_true b, decide_eq_true e, laws_half h1 h2 c d e]
  rfl
theorem half_found {i o : Kinds} (gi : GdK i) (go : GdK o) (ni : i ≠ []) (no : o ≠ []) {j : Nat} {wd : Str} {fl : Kinds → Kinds → Bool} {fn : Kinds × Kinds → Bool} (h1 : halfLaws[j]? = some (wd, fl)) (h2 : halfTests[j]? = some (wd, fn))
    {w : Nat} (w1 : w < 4) (nos : ∀ v : Nat, v < w → okHalf fl (readP i o v) = false) (yes : okHalf fl (readP i o w) = true) :
    endsK i = endsK o ∧ ∃ z, halfWs[w]? = some z ∧ (halfReads i o).find? (fun y => fn y.2) = some (z, readP i o w) := by
  have y := yes
  unfold okHalf at y
  simp only [Bool.and_eq_true, decide_eq_true_eq] at y
  obtain ⟨y1, y2, y3, y4⟩ := y
  have en := (ends_read (i := i) (o := o) (w := w) (by omega) (by omega)).mp y3
  have wi := (read_gd gi go ni no w1 y1 y2).2.2
  obtain ⟨z, hz, hr⟩ := halfReads_at (i := i) (o := o) w1 wi
  refine ⟨en, z, hz, find_take hr (fun y hy => ?_) ?_⟩
  · obtain ⟨n, hn⟩ := List.getElem?_of_mem hy
    rw [List.getElem?_take] at hn
    split at hn
    · rename_i lt
      obtain ⟨n4, ey, hw⟩ := halfReads_of hn
      show fn y.2 = false
      rw [ey, ← half_eq gi go ni no n4 en h1 h2 hw]
      exact nos n lt
    · cases hn
  · show fn (readP i o w) = true
    rw [← half_eq gi go ni no w1 en h1 h2 wi]
    exact yes
theorem half_none {i o : Kinds} (gi : GdK i) (go : GdK o) (ni : i ≠ []) (no : o ≠ []) {j : Nat} {wd : Str} {fl : Kinds → Kinds → Bool} {fn : Kinds × Kinds → Bool} (h1 : halfLaws[j]? = some (wd, fl)) (h2 : halfTests[j]? = some (wd, fn))
    (en : endsK i = endsK o) (nos : ∀ v : Nat, v < 4 → okHalf fl (readP i o v) = false) : (halfReads i o).find? (fun y => fn y.2) = none := by
  refine find_none' fun y hy => ?_
  obtain ⟨n, hn⟩ := List.getElem?_of_mem hy
  obtain ⟨n4, ey, hw⟩ := halfReads_of hn
  rw [ey, ← half_eq gi go ni no n4 en h1 h2 hw]
  exact nos n n4
end Dg
namespace Dg
open PySem PySem.Spec PyProof.Rows L2 L2H LamX
theorem okK_places {ks : Kinds} (ok : OkK ks) : 0 ≤ placesK ks ∧ placesK ks ≤ 10000000000000000000000000000000 := by
  have go : ∀ (ks : Kinds), (∀ k ∈ ks, 0 ≤ k.2 ∧ k.2 ≤ 1000000000000000000000000000000) → 0 ≤ placesK ks ∧ placesK ks ≤ ks.length * 1000000000000000000000000000000 := by
    intro ks
    induction ks with
    | nil => intro _; exact ⟨Int.le_refl _, by simp [placesK]⟩
    | cons p r ih =>
      intro h
      have a := ih fun k hk => h k (List.mem_cons_of_mem _ hk)
      have b := h p List.mem_cons_self
      rw [placesK_cons, List.length_cons]
      omega
  have z := go ks fun k hk => by have := ok.2.2.all k hk; omega
  have := ok.2.1
  omega
theorem read_big {i o : Kinds} {w : Int} (oi : OkK i) (oo : OkK o) : (∀ k ∈ (readP i o w).1, k.1.natAbs < 2 ^ 250 ∧ k.2.natAbs < 2 ^ 250) ∧ (∀ k ∈ (readP i o w).2, k.1.natAbs < 2 ^ 250 ∧ k.2.natAbs < 2 ^ 250) := by
  have pi := okK_places oi
  have po := okK_places oo
  have p1 : ∀ {ks : Kinds}, OkK ks → ∀ k ∈ ks, k.1.natAbs < 2 ^ 250 ∧ k.2.natAbs < 2 ^ 250 := fun ok k hk => by
    have := ok.2.2.all k hk
    omega
  have p2 : ∀ {ks : Kinds} {m : Int}, OkK ks → 0 ≤ m → m ≤ 10000000000000000000000000000000 → ∀ k ∈ oppP ks m, k.1.natAbs < 2 ^ 250 ∧ k.2.natAbs < 2 ^ 250 := fun ok h1 h2 k hk => by
    have := ok.2.2.all _ (mem_oppP.mp hk)
    simp only at this
    omega
  unfold readP
  split
  · exact ⟨p1 oi, p1 oo⟩
  split
  · exact ⟨p1 oo, p1 oi⟩
  split
  · exact ⟨p2 oo pi.1 pi.2, p2 oi po.1 po.2⟩
  · exact ⟨p2 oi po.1 po.2, p2 oo pi.1 pi.2⟩
theorem famRest_none {ks : Kinds} {n : Nat} (h : restTests.length ≤ n) : pickF (restTests.drop n) (restReads ks) = none := by
  rw [List.drop_eq_nil_of_le h]
  rfl
end Dg
namespace Dg
open PySem PySem.Spec PyProof.Rows L2 L2H LamX
theorem sumOf_le {c : Int} : ∀ {ps : Kinds}, (∀ k ∈ ps, 0 ≤ k.2 ∧ k.2 ≤ c) → 0 ≤ c → ∀ d, sumOf ps d ≤ ps.length * c
  | [], _, _, d => by rw [sumOf_nil]; simp
  | p :: r, h, hc, d => by
    have ih := sumOf_le (ps := r) (fun k hk => h k (List.mem_cons_of_mem _ hk)) hc d
    have a := h p List.mem_cons_self
    rw [sumOf_cons, List.length_cons]
    have e : ((r.length + 1 : Nat) : Int) * c = r.length * c + c := by grind
    rw [e]
    split <;> omega
/-- kinds of a piece with few places -/
def SmlK (ks : Kinds) : Prop := GdK ks ∧ ks ≠ [] ∧ ks.length ≤ 2 ∧ ∀ k ∈ ks, k.1 ≤ 1000000000000000000000000000000 ∧ k.2 ≤ 100000000000000000000000000000
theorem SmlK.ok {ks : Kinds} (h : SmlK ks) : OkK ks := okK_of h.1.desc (fun k hk => by
  have a := h.1.deg k hk
  have b := h.1.cnt k hk
  have c := h.2.2.2 k hk
  omega) (by have := h.2.2.1; omega) h.2.1
theorem bent_ok {ps : Kinds} (ne : ps ≠ []) (l : ps.length ≤ 2) (h : ∀ k ∈ ps, 0 ≤ k.1 ∧ k.1 ≤ 1000000000000000000000000000001 ∧ 1 ≤ k.2 ∧ k.2 ≤ 100000000000000000000000000001) : OkK (mergeK ps) := by
  have c0 : ∀ k ∈ ps, 0 ≤ k.2 ∧ k.2 ≤ 100000000000000000000000000001 := fun k hk => by have := h k hk; omega
  refine okK_of (kindsOf_merge ps).1 (fun k hk => ?_) (Nat.le_trans mergeK_few (by omega)) (merge_ne (fun k hk => (c0 k hk).1) (places_pos ne fun k hk => (h k hk).2.2.1))
  obtain ⟨m1, m2, m3⟩ := merge_mem hk
  obtain ⟨q, hq, e⟩ := List.mem_map.mp m3
  have := h q hq
  have z := sumOf_le c0 (by decide) k.1
  have l' : (ps.length : Int) ≤ 2 := by omega
  have w := Int.mul_le_mul_of_nonneg_right l' (show (0 : Int) ≤ 100000000000000000000000000001 by decide)
  omega
theorem exch_sml {ks : Kinds} {n : Nat} {d c : Int} (h : SmlK ks) (hn : n < ks.length) (d0 : 0 ≤ d) (d1 : d ≤ 1000000000000000000000000000001) (c0 : 1 ≤ c) (c1 : c ≤ 100000000000000000000000000001) : OkK (mergeK (exch ks n (d, c))) := by
  refine bent_ok (by simp [exch]) (by rw [exch_len hn]; exact h.2.2.1) fun k hk => ?_
  rcases exch_mem hk with e | e
  · have a1 := h.1.deg k e
    have a2 := h.1.cnt k e
    have a3 := h.2.2.2 k e
    omega
  · rw [e]
    exact ⟨d0, d1, c0, c1⟩
/-- pieces with few places -/
def PcSm : Pc → Prop
  | .alone m => 1 ≤ m
  | .tied m => 1 ≤ m
  | .halves i o => SmlK i ∧ SmlK o
  | .rest ks => SmlK ks
theorem PcSm.r {p : Pc} (h : PcSm p) : PcR p := by
  cases p with
  | alone m => exact h
  | tied m => exact h
  | halves i o => exact ⟨h.1.ok, h.2.ok⟩
  | rest ks => exact SmlK.ok h
theorem places_two {ks : Kinds} (l : ks.length ≤ 2) (c : ∀ k ∈ ks, 0 ≤ k.2 ∧ k.2 ≤ 100000000000000000000000000000) : placesK ks ≤ 200000000000000000000000000000 := by
  rcases ks with _ | ⟨a, _ | ⟨b, _ | ⟨d, r⟩⟩⟩
  · simp only [placesK, List.map_nil, List.sum_nil]; decide
  · have := c a (by simp); rw [placesK_cons, placesK_nil]; omega
  · have := c a (by simp); have := c b (by simp); rw [placesK_cons, placesK_cons, placesK_nil]; omega
  · simp at l
theorem small_pc {p : Pc} (h : PcOk p) {m : Int} (hm : IsMax m (countsP p)) (le : m ≤ 100000000000000000000000000000) : PcSm p := by
  have all : ∀ c ∈ countsP p, c ≤ 100000000000000000000000000000 := fun c hc => Int.le_trans (hm.2 c hc) le
  cases p with
  | alone k => exact h.1
  | tied k => exact h.1
  | rest ks =>
    have g := GoodK.gd h.1
    have c : ∀ k ∈ ks, k.2 ≤ 100000000000000000000000000000 := fun k hk => all _ (List.mem_map_of_mem hk)
    have pl := places_two h.1.few fun k hk => ⟨g.cnt0 k hk, c k hk⟩
    exact ⟨g, h.1.1, h.1.few, fun k hk => ⟨by have := h.2 k hk; omega, c k hk⟩⟩
  | halves i o =>
    have gi := GoodK.gd h.1
    have go := GoodK.gd h.2.1
    have ci : ∀ k ∈ i, k.2 ≤ 100000000000000000000000000000 := fun k hk => all _ (List.mem_append_left _ (List.mem_map_of_mem hk))
    have co : ∀ k ∈ o, k.2 ≤ 100000000000000000000000000000 := fun k hk => all _ (List.mem_append_right _ (List.mem_map_of_mem hk))
    have pi := places_two h.1.few fun k hk => ⟨gi.cnt0 k hk, ci k hk⟩
    have po := places_two h.2.1.few fun k hk => ⟨go.cnt0 k hk, co k hk⟩
    exact ⟨⟨gi, h.1.1, h.1.few, fun k hk => ⟨by have := h.2.2.1 k hk; omega, ci k hk⟩⟩, ⟨go, h.2.1.1, h.2.1.few, fun k hk => ⟨by have := h.2.2.2 k hk; omega, co k hk⟩⟩⟩
end Dg
namespace Dg
open PySem PySem.Spec PyProof.Rows L2 L2H LamX
theorem r_pow29 {H : Hp} {Q : VK} (h : Q (.int 100000000000000000000000000000) H) : rPowA (.int 10) (.int 29) H Q := ⟨10, 29, rfl, rfl, ⟨by decide, by decide, by decide⟩, h⟩
end Dg
namespace Dg
open PySem PySem.Spec PyProof.Rows L2 L2H LamX
theorem pick_mem {α : Type} {reads : List (Str × α)} : ∀ {tests : List (Str × (α → Bool))} {w r : Str}, pickF tests reads = some (w, r) → w ∈ tests.map (·.1) ∧ r ∈ reads.map (·.1)
  | [], w, r, h => by cases h
  | (w0, f) :: ts, w, r, h => by
    rw [pick_cons] at h
    cases e : reads.find? (fun x => f x.2) with
    | none =>
      rw [e] at h
      have := pick_mem (tests := ts) h
      exact ⟨List.mem_cons_of_mem _ this.1, this.2⟩
    | some x =>
      rw [e] at h
      have h : some (w0, x.1) = some (w, r) := h
      have e1 : w0 = w := congrArg Prod.fst (Option.some.inj h)
      have e2 : x.1 = r := congrArg Prod.snd (Option.some.inj h)
      exact ⟨by rw [← e1]; exact List.mem_cons_self, by rw [← e2]; exact List.mem_map_of_mem (List.mem_of_find?_eq_some e)⟩
def famWs : List Str := ["alone", "tied", "ring", "pairs", "star", "hub", "stars", "bridge", "crown"]
theorem fam_words {p : Pc} {w r : Str} (h : famP p = some (w, r)) : w ∈ famWs ∧ r ∈ halfWs := by
  cases p with
  | alone m => cases h; exact ⟨by simp [famWs], by simp [halfWs]⟩
  | tied m => cases h; exact ⟨by simp [famWs], by simp [halfWs]⟩
  | rest ks =>
    obtain ⟨a, b⟩ := pick_mem (show pickF restTests (restReads ks) = some (w, r) from h)
    refine ⟨?_, ?_⟩
    · simp only [restTests, List.map_cons, List.map_nil, List.mem_cons, List.not_mem_nil, or_false] at a
      rcases a with rfl | rfl | rfl | rfl <;> simp [famWs]
    · obtain ⟨x, hx, rfl⟩ := List.mem_map.mp b
      unfold restReads at hx
      rcases List.mem_cons.mp hx with rfl | hx
      · simp [halfWs]
      · split at hx
        · rw [List.mem_singleton.mp hx]; simp [halfWs]
        · cases hx
  | halves i o =>
    have h : (if endsK i ≠ endsK o then none else pickF halfTests (halfReads i o)) = some (w, r) := h
    split at h
    · cases h
    · obtain ⟨a, b⟩ := pick_mem h
      refine ⟨?_, ?_⟩
      · simp only [halfTests, List.map_cons, List.map_nil, List.mem_cons, List.not_mem_nil, or_false] at a
        rcases a with rfl | rfl | rfl <;> simp [famWs]
      · obtain ⟨x, hx, rfl⟩ := List.mem_map.mp b
        unfold halfReads at hx
        rcases List.mem_cons.mp hx with rfl | hx
        · simp [halfWs]
        rcases List.mem_cons.mp hx with rfl | hx
        · simp [halfWs]
        split at hx
        · rcases List.mem_cons.mp hx with rfl | hx
          · simp [halfWs]
          · rw [List.mem_singleton.mp hx]; simp [halfWs]
        · cases hx
theorem ws_ok {w : Str} (h : w ∈ famWs ++ halfWs) : Okd (.str w) 0 20 := by
  have all : (famWs ++ halfWs).all (fun x => (TL.tl x).all (fun c => decide (c < 128)) && decide (x.length ≤ 20)) = true := by decide +kernel
  have z := List.all_eq_true.mp all w h
  rw [Bool.and_eq_true, decide_eq_true_eq] at z
  exact okd_lit z.1 z.2
theorem fam_ok (p : Pc) : Okd (famD (famP p)) 1 50 := by
  cases e : famP p with
  | none => exact Okd.non.mono (by decide) (by decide)
  | some x =>
    obtain ⟨w, r⟩ := x
    obtain ⟨a, b⟩ := fam_words e
    exact (Okd.tup (.cons (ws_ok (List.mem_append_left _ a)) (.cons (ws_ok (List.mem_append_right _ b)) .nil))).mono (by decide) (by decide)
end Dg

namespace Dg
open PySem PySem.Spec PyProof.Rows L2 L2H LamX
/-! ### caught(lambda: ..): try: .. / except (x, y, z) as e: suite / rest -/
section
variable {X : Cx} {b : List Stmt}
theorem pss_ex {tb : XK → TS} {C : XK → Prop} (h : ∀ E, C E → PSs X b (tb E)) : PSs X b (fun D σ H => ∃ E, C E ∧ tb E D σ H) :=
  ⟨fun pins s σ H D I h' => let ⟨E, c, z⟩ := h'; (h E c).run pins s σ H D I z⟩
def tExI (C : Addr) (cls : Value) (d : Option Addr) (t : Addr → TS) : TS := fun D σ H => ∃ dd, cls = .ref C ∧ d = some dd ∧ t dd D σ H
theorem pss_exI {C : Addr} {cls : Value} {d : Option Addr} {oe : Obj} {t : Addr → TS} (hz : Zc cls d oe) (h : ∀ dd, Zc (.ref C) (some dd) oe → PSs X b (t dd)) : PSs X b (tExI C cls d t) :=
  ⟨fun pins s σ H D I h' => by
    obtain ⟨dd, rfl, rfl, z⟩ := h'
    exact (h dd hz).run pins s σ H D I z⟩
def tOrS (t1 t2 : TS) : TS := fun D σ H => t1 D σ H ∨ t2 D σ H
theorem pss_or {t1 t2 : TS} (h1 : PSs X b t1) (h2 : PSs X b t2) : PSs X b (tOrS t1 t2) :=
  ⟨fun pins s σ H D I h' => h'.elim (fun z => h1.run pins s σ H D I z) fun z => h2.run pins s σ H D I z⟩
end
section
variable {X : Cx} {T : List (Addr × Str)} {TT : (XK → Hp → VK → Prop) → Hp → VK → Prop} {x y : Str} {st : Stmt} {g c P : Addr} {d : FuncData} {k : Nat} {Ng : List Str}
  {params : Arguments} {body : Expr} {scope : Scope} {t : XK → TE} {p lpos pos : Pos}
theorem pe_caught (hg : Gl X x) (m0 : X.mg x = some (.ref g)) (Fa : Fun X.K x x st g d) (Sa : FnScope Ng [y] (defScope st)) (h0 : Ng[0]? = some y) (hv : Vis (defScope st) y)
    (hG : ∀ cdv, GivesTo X Ng x (defScope st) g cdv (defBody st) y (X.env.qual ++ "<lambda>") TT) (hba : Binds X.K d [y] [])
    (TB : TabB X.base X.mg c P) (hcode : X.env.code = .ref c) (hmT : (P, X.env.qual ++ "<lambda>") ∈ T) (hu : ∀ p ∈ T, p.1 = P → p.2 = X.env.qual ++ "<lambda>") (hr : Room (k + 2) X.A) (L : LamS X.env.scope scope) (hdef : defaultsOf params X.env = ([], []))
    (hbind : ∀ (q : Str) (cl : List (Str × Addr)) (pm cv ctv : Value), bindArgs (PySem.W.kla_fn "<lambda>" q params body scope cl pm cv ctv) ⟨[], []⟩ = pure [])
    (hbody : ∀ (A : Around) (outer : List Env) (s : Shared) (H : Hp) (E : XK) (f c' : Addr), Room k (A.deeper (lamEnv X scope s.heap.objs.size f c')) → PE (lamCx X A outer s H E scope f c') body (t E))
    (hdb : (x == ("__debug__" : Str)) = false := by decide) (hd : (y == ("__debug__" : Str)) = false := by decide) (hcd : (y == ("__classdict__" : Str)) = false := by decide) :
    PE X (.Call (.Name x p) [.Lambda params body scope lpos] [] pos) (tLam T TT t) := by
  obtain ⟨oc, od, kV, doc, pm, an, cdv, ct, osl, rfl, lk, hcc⟩ := Fa.ex
  exact pe_lamcall (T := T) (Ng := Ng) hg m0 Fa.kp lk hcc hba Sa h0 hv (hG cdv) TB hcode hmT hu hr L hdef hbind hbody hdb hd hcd
end
theorem Well.ext {H H' : Hp} {p : Addr} (e : ExtN H H') (h : Well H p) : Well H' p := by
  obtain ⟨a, b, c, h1, h2⟩ := h
  exact ⟨a, b, c, e _ _ h1 NoTbl.lst, h2⟩
theorem Well.butT {H H' : Hp} {p l : Addr} (e : ButT l H H') (n : p ≠ l) (h : Well H p) : Well H' p := by
  obtain ⟨a, b, c, h1, h2⟩ := h
  exact ⟨a, b, c, e _ _ n NoTbl.lst h1, h2⟩
theorem Tabs.butW {T : List (Addr × Str)} {H H' : Hp} {p : Addr} (t : Tabs T H) (e : But p H H') (h : Well H p) : Tabs T H' := by
  obtain ⟨a, b, c, h1, _⟩ := h
  exact Tabs.butL t e h1
/-! ### data with lists or with empty dicts, none of its own objects bad -/
mutual
inductive Dy (bad : Addr → Prop) (H : Hp) (l : Bool) : V → PyData → Prop
  | non : Dy bad H l .non .none
  | bl (b : Bool) : Dy bad H l (.bl b) (.bool b)
  | int (i : Int) : Dy bad H l (.int i) (.int i)
  | str (x : Str) : Dy bad H l (.str x) (.str x)
  | lst {a : Addr} {xs : List V} {ds : List PyData} : l = true → H a = some (.lst xs) → ¬ bad a → DyAll bad H l xs ds → Dy bad H l (.ref a) (.list ds)
  | tup {a : Addr} {xs : List V} {ds : List PyData} : H a = some (.tup xs) → ¬ bad a → DyAll bad H l xs ds → Dy bad H l (.ref a) (.tuple ds)
  | dict {a : Addr} : l = false → H a = some (.dK []) → ¬ bad a → Dy bad H l (.ref a) (.dict [])
inductive DyAll (bad : Addr → Prop) (H : Hp) (l : Bool) : List V → List PyData → Prop
  | nil : DyAll bad H l [] []
  | cons {v : V} {vs : List V} {d : PyData} {ds : List PyData} : Dy bad H l v d → DyAll bad H l vs ds → DyAll bad H l (v :: vs) (d :: ds)
end
section
variable {K : PySem.W.Frag} {bad bad' : Addr → Prop} {H H' : Hp} {l : Bool}
mutual
theorem Dy.keep (e : Keeps bad H H') : ∀ {d : PyData} {v : V}, Dy bad H l v d → Dy bad H' l v d
  | _, _, .non => .non
  | _, _, .bl b => .bl b
  | _, _, .int i => .int i
  | _, _, .str x => .str x
  | _, _, .lst z h n hs => .lst z (e _ _ n h) n (DyAll.keep e hs)
  | _, _, .tup h n hs => .tup (e _ _ n h) n (DyAll.keep e hs)
  | _, _, .dict z h n => .dict z (e _ _ n h) n
theorem DyAll.keep (e : Keeps bad H H') : ∀ {ds : List PyData} {vs : List V}, DyAll bad H l vs ds → DyAll bad H' l vs ds
  | _, _, .nil => .nil
  | _, _, .cons h t => .cons (Dy.keep e h) (DyAll.keep e t)
end
mutual
theorem Dy.extN (e : ExtN H H') : ∀ {d : PyData} {v : V}, Dy bad H l v d → Dy bad H' l v d
  | _, _, .non => .non
  | _, _, .bl b => .bl b
  | _, _, .int i => .int i
  | _, _, .str x => .str x
  | _, _, .lst z h n hs => .lst z (e _ _ h NoTbl.lst) n (DyAll.extN e hs)
  | _, _, .tup h n hs => .tup (e _ _ h NoTbl.tup) n (DyAll.extN e hs)
  | _, _, .dict z h n => .dict z (e _ _ h NoTbl.dK) n
theorem DyAll.extN (e : ExtN H H') : ∀ {ds : List PyData} {vs : List V}, DyAll bad H l vs ds → DyAll bad H' l vs ds
  | _, _, .nil => .nil
  | _, _, .cons h t => .cons (Dy.extN e h) (DyAll.extN e t)
end
mutual
theorem Dy.dn : ∀ {d : PyData} {v : V}, Dy bad H l v d → Dn K H v d
  | _, _, .non => .non
  | _, _, .bl b => .bl b
  | _, _, .int i => .int i
  | _, _, .str x => .str x
  | _, _, .lst _ h _ hs => .lst (.of h) (DyAll.dn hs)
  | _, _, .tup h _ hs => .tup (.of h) (DyAll.dn hs)
  | _, _, .dict _ h _ => .dict h _
theorem DyAll.dn : ∀ {ds : List PyData} {vs : List V}, DyAll bad H l vs ds → DnAll K H vs ds
  | _, _, .nil => .nil
  | _, _, .cons h t => .cons (Dy.dn h) (DyAll.dn t)
end
mutual
theorem Dy.dp : ∀ {d : PyData} {v : V}, Dy bad H true v d → Dp K H v d
  | _, _, .non => .non
  | _, _, .bl b => .bl b
  | _, _, .int i => .int i
  | _, _, .str x => .str x
  | _, _, .lst _ h _ hs => .lst (.of h) (DyAll.dp hs)
  | _, _, .tup h _ hs => .tup (.of h) (DyAll.dp hs)
  | _, _, .dict z _ _ => by cases z
theorem DyAll.dp : ∀ {ds : List PyData} {vs : List V}, DyAll bad H true vs ds → DpAll K H vs ds
  | _, _, .nil => .nil
  | _, _, .cons h t => .cons (Dy.dp h) (DyAll.dp t)
end
mutual
theorem Dy.noD : ∀ {d : PyData} {v : V}, Dy bad H true v d → d.hasDict = false
  | _, _, .non => rfl
  | _, _, .bl b => rfl
  | _, _, .int i => rfl
  | _, _, .str x => rfl
  | _, _, .lst _ h _ hs => DyAll.noD hs
  | _, _, .tup h _ hs => DyAll.noD hs
  | _, _, .dict z _ _ => by cases z
theorem DyAll.noD : ∀ {ds : List PyData} {vs : List V}, DyAll bad H true vs ds → PyData.hasDictAll ds = false
  | _, _, .nil => rfl
  | _, _, .cons h t => by
    show (PyData.hasDict _ || PyData.hasDictAll _) = false
    rw [Dy.noD h, DyAll.noD t]
    rfl
end
theorem DyAll.app : ∀ {xs ys : List V} {ds es : List PyData}, DyAll bad H l xs ds → DyAll bad H l ys es → DyAll bad H l (xs ++ ys) (ds ++ es)
  | _, _, _, _, .nil, h => h
  | _, _, _, _, .cons h t, h' => .cons h (DyAll.app t h')
theorem DyAll.take : ∀ (n : Nat) {xs : List V} {ds : List PyData}, DyAll bad H l xs ds → DyAll bad H l (xs.take n) (ds.take n)
  | 0, _, _, _ => .nil
  | _ + 1, _, _, .nil => .nil
  | n + 1, _, _, .cons h t => .cons h (DyAll.take n t)
theorem DyAll.drop : ∀ (n : Nat) {xs : List V} {ds : List PyData}, DyAll bad H l xs ds → DyAll bad H l (xs.drop n) (ds.drop n)
  | 0, _, _, h => h
  | _ + 1, _, _, .nil => .nil
  | n + 1, _, _, .cons _ t => DyAll.drop n t
theorem DyAll.len : ∀ {xs : List V} {ds : List PyData}, DyAll bad H l xs ds → xs.length = ds.length
  | _, _, .nil => rfl
  | _, _, .cons _ t => congrArg Nat.succ (DyAll.len t)
theorem DyAll.at : ∀ {xs : List V} {ds : List PyData} {i : Nat} {v : V}, DyAll bad H l xs ds → xs[i]? = some v → ∃ d, ds[i]? = some d ∧ Dy bad H l v d
  | _, _, _, _, .nil, h => by simp at h
  | _, _, 0, _, .cons h _, e => by
    simp at e
    subst e
    exact ⟨_, rfl, h⟩
  | _, _, i + 1, v, .cons _ t, e => by
    have e' := e
    simp at e'
    obtain ⟨d, h1, h2⟩ := DyAll.at t e'
    exact ⟨d, by simpa using h1, h2⟩
mutual
theorem Fz.dy (hb : ∀ b o, bad b → H b = some o → ¬ Frozen o) : ∀ {d : PyData} {v : V}, Fz H v d → Dy bad H l v d
  | _, _, .non => .non
  | _, _, .bl b => .bl b
  | _, _, .int i => .int i
  | _, _, .str x => .str x
  | _, _, .tup h hs => .tup h (fun z => hb _ _ z h True.intro) (FzAll.dy hb hs)
theorem FzAll.dy (hb : ∀ b o, bad b → H b = some o → ¬ Frozen o) : ∀ {ds : List PyData} {vs : List V}, FzAll H vs ds → DyAll bad H l vs ds
  | _, _, .nil => .nil
  | _, _, .cons h t => .cons (Fz.dy hb h) (FzAll.dy hb t)
end
end
mutual
/-- neither lists nor dicts -/
def flatD : PyData → Bool
  | .list _ => false
  | .dict _ => false
  | .tuple ds => flatAll ds
  | .none => true
  | .bool _ => true
  | .int _ => true
  | .str _ => true
def flatAll : List PyData → Bool
  | [] => true
  | d :: ds => flatD d && flatAll ds
end
section
variable {bad : Addr → Prop} {H : Hp} {l : Bool}
mutual
theorem Dy.fz : ∀ {d : PyData} {v : V}, Dy bad H l v d → flatD d = true → Fz H v d
  | _, _, .non, _ => .non
  | _, _, .bl b, _ => .bl b
  | _, _, .int i, _ => .int i
  | _, _, .str x, _ => .str x
  | _, _, .lst _ _ _ _, z => by cases z
  | _, _, .tup h _ hs, z => .tup h (DyAll.fz hs z)
  | _, _, .dict _ _ _, z => by cases z
theorem DyAll.fz : ∀ {ds : List PyData} {vs : List V}, DyAll bad H l vs ds → flatAll ds = true → FzAll H vs ds
  | _, _, .nil, _ => .nil
  | _, _, .cons h t, z => by
    obtain ⟨z1, z2⟩ := Bool.and_eq_true_iff.mp (show (flatD _ && flatAll _) = true from z)
    exact .cons (Dy.fz h z1) (DyAll.fz t z2)
end
end
theorem flat_map {ks : Kinds} : flatAll (ks.map kD) = true := by
  induction ks with
  | nil => rfl
  | cons k r ih =>
    show (flatD (kD k) && flatAll _) = true
    rw [ih]
    rfl
theorem flat_KD {ks : Kinds} : flatD (KD ks) = true := flat_map
theorem flat_pc : ∀ {p : Pc}, flatD (pcD p) = true
  | .alone _ => rfl
  | .tied _ => rfl
  | .rest ks => by
    show (true && (flatD (KD ks) && true)) = true
    rw [flat_KD]
    rfl
  | .halves i o => by
    show (true && (flatD (KD i) && (flatD (KD o) && true))) = true
    rw [flat_KD, flat_KD]
    rfl
/-! ### repr of it -/
section
variable {X : Cx} {pins : List (Addr × Obj)} {σ : L2.St} {H : Hp} {s : Shared} {bad : Addr → Prop}
mutual
theorem Dy.reads (I : Inv X pins σ H s) : ∀ {d : PyData} {v : V}, Dy bad H false v d → ∀ {u : Value}, RelV v u → ∃ as, Reads s.heap u d as ∧ sysModules ∉ as
  | _, _, .non, _, r => by
    cases r
    exact ⟨_, .none, by simp⟩
  | _, _, .bl b, _, r => by
    cases r
    exact ⟨_, .bool b, by simp⟩
  | _, _, .int i, _, r => by
    obtain ⟨t, rfl⟩ := r
    exact ⟨_, .int i t, by simp⟩
  | _, _, .str x, _, r => by
    obtain ⟨t, rfl⟩ := r
    exact ⟨_, .str x t, by simp⟩
  | _, _, .lst z _ _ _, _, _ => by cases z
  | _, _, .tup h _ hs, _, r => by
    cases r
    obtain ⟨its, rv, ⟨o, ho, hc, n, hd⟩, _⟩ := I.tuple (.of h)
    obtain ⟨as, hr, na⟩ := DyAll.reads I hs rv
    exact ⟨_, Reads.tuple ho hc hd hr, na⟩
  | _, _, .dict _ h _, _, r => by
    cases r
    obtain ⟨_, hs, vs, kv, o, es, ep, ho, ⟨hc, _, _⟩, hd, _, hp, _⟩ := I.hok _ _ h
    cases kv
    cases he : es.toList with
    | cons e r => rw [he] at hp; cases hp
    | nil =>
      refine ⟨_, .dict (kvs := []) ho hc hd (by rw [he]; exact .nil) (by rw [he]; exact .nil), fun z => ?_⟩
      simp only [List.append_nil, List.mem_singleton] at z
      rw [← z] at hs
      simp at hs
theorem DyAll.reads (I : Inv X pins σ H s) : ∀ {ds : List PyData} {vs : List V}, DyAll bad H false vs ds → ∀ {us : List Value}, Vals vs us → ∃ as, ReadsAll s.heap us ds as ∧ sysModules ∉ as
  | _, _, .nil, _, r => by
    cases r
    exact ⟨_, .nil, by simp⟩
  | _, _, .cons h t, _, r => by
    cases r with
    | cons r1 r2 =>
      obtain ⟨as, q1, n1⟩ := Dy.reads I h r1
      obtain ⟨bs, q2, n2⟩ := DyAll.reads I t r2
      exact ⟨_, .cons q1 q2, fun z => (List.mem_append.mp z).elim n1 n2⟩
end
end
def rReprZ (K : PySem.W.Frag) : List V → Hp → VK → Prop := fun xs H Q => ∃ (x : V) (d : PyData) (bad : Addr → Prop) (l : Bool), xs = [x] ∧ Dy bad H l x d ∧ d.showable = true ∧ d.depth ≤ 60 ∧ d.shown.length ≤ sizeLine ∧ Q (.str d.shown) H
section
variable {X : Cx} {K : PySem.W.Frag}
theorem call_reprZ (hK : X.K = K) (hg : X.A.guards = some []) (hu : X.A.units + 64 < cLine) : CallR X (.builtin "repr") (rReprZ K) := by
  intro pins s σ H xs us Q I r h
  obtain ⟨x, d, bad, l, rfl, hd, h1, h3, h4, q⟩ := h
  cases l with
  | true => exact call_reprU hK hg hu pins s σ H _ us Q I r ⟨x, d, rfl, hd.dp, h1, hd.noD, h3, h4, q⟩
  | false =>
    subst hK
    obtain ⟨u, rfl, ru⟩ := vals1 r
    cases hd with
    | non => exact call_reprU rfl hg hu pins s σ H _ _ Q I (.cons ru .nil) ⟨_, _, rfl, .non, h1, rfl, h3, h4, q⟩
    | bl b => exact call_reprU rfl hg hu pins s σ H _ _ Q I (.cons ru .nil) ⟨_, _, rfl, .bl b, h1, rfl, h3, h4, q⟩
    | int i => exact call_reprU rfl hg hu pins s σ H _ _ Q I (.cons ru .nil) ⟨_, _, rfl, .int i, h1, rfl, h3, h4, q⟩
    | str x => exact call_reprU rfl hg hu pins s σ H _ _ Q I (.cons ru .nil) ⟨_, _, rfl, .str x, h1, rfl, h3, h4, q⟩
    | lst z _ _ _ => cases z
    | @tup a xs ds h n hs =>
      obtain ⟨as, rd, na⟩ := Dy.reads I (Dy.tup h n hs) ru
      cases ru
      refine repr_of_reads' rd h1 (fun _ => na) hg (by omega) (fun _ _ e => e) (fun h' u tk hk => ?_) h4
      exact ⟨.str _, H, I.kept (t' := tk) hk, ⟨u, rfl⟩, q⟩
    | @dict a z h n =>
      obtain ⟨as, rd, na⟩ := Dy.reads I (Dy.dict z h n) ru
      cases ru
      refine repr_of_reads' rd h1 (fun _ => na) hg (by omega) (fun _ _ e => e) (fun h' u tk hk => ?_) h4
      exact ⟨.str _, H, I.kept (t' := tk) hk, ⟨u, rfl⟩, q⟩
end
/-! ### how long it is -/
mutual
def ascD : PyData → Bool
  | .none => true
  | .bool _ => true
  | .int i => decide (0 ≤ i) || decide (i = -1)
  | .str x => (TL.tl x).all fun c => decide (c < 128)
  | .list ds => ascAll ds
  | .tuple ds => ascAll ds
  | .dict l => l.isEmpty
def ascAll : List PyData → Bool
  | [] => true
  | d :: ds => ascD d && ascAll ds
end
theorem tl_from {P : Nat → Prop} (h0 : ∀ c ∈ TL.tl (", " : Str), P c) : ∀ (ts : List Str) (k : Nat) (acc : Str), (∀ c ∈ TL.tl acc, P c) → (∀ t ∈ ts, ∀ c ∈ TL.tl t, P c) → ∀ c ∈ TL.tl (textFrom k acc ts), P c
  | [], _, acc, h, _, c, hc => h c hc
  | t :: r, k, acc, h, ht, c, hc => by
    refine tl_from h0 r (k + 1) _ (fun c hc => ?_) (fun t' ht' => ht t' (List.mem_cons_of_mem _ ht')) c hc
    rw [TL.tl_append, TL.tl_append] at hc
    rcases List.mem_append.mp hc with hc | hc
    · rcases List.mem_append.mp hc with hc | hc
      · exact h c hc
      · by_cases k0 : k > 0
        · rw [if_pos k0] at hc
          exact h0 c hc
        · rw [if_neg k0] at hc
          cases hc
    · exact ht t List.mem_cons_self c hc
theorem tl_joined {P : Nat → Prop} (h0 : ∀ c ∈ TL.tl (", " : Str), P c) : ∀ (ts : List Str), (∀ t ∈ ts, ∀ c ∈ TL.tl t, P c) → ∀ c ∈ TL.tl (Str.join ", " ts), P c
  | [], _, c, hc => by cases hc
  | [t], h, c, hc => h t List.mem_cons_self c hc
  | t :: u :: r, h, c, hc => by
    have hc' : c ∈ TL.tl (t ++ ", " ++ Str.join ", " (u :: r)) := hc
    rw [TL.tl_append, TL.tl_append] at hc'
    rcases List.mem_append.mp hc' with hc | hc
    · rcases List.mem_append.mp hc with hc | hc
      · exact h t List.mem_cons_self c hc
      · exact h0 c hc
    · exact tl_joined h0 (u :: r) (fun t' ht' => h t' (List.mem_cons_of_mem _ ht')) c hc
mutual
theorem asc_shown : ∀ {d : PyData}, ascD d = true → ∀ c ∈ TL.tl d.shown, c < 128
  | .none, _, c, hc => by
    have z : ∀ c ∈ TL.tl (PyData.shown .none), c < 128 := by decide +kernel
    exact z c hc
  | .bool true, _, c, hc => by
    have z : ∀ c ∈ TL.tl (PyData.shown (.bool true)), c < 128 := by decide +kernel
    exact z c hc
  | .bool false, _, c, hc => by
    have z : ∀ c ∈ TL.tl (PyData.shown (.bool false)), c < 128 := by decide +kernel
    exact z c hc
  | .int i, h, c, hc => by
    rcases Bool.or_eq_true_iff.mp (show (decide (0 ≤ i) || decide (i = -1)) = true from h) with h | h
    · have := numS_mem (of_decide_eq_true h) c hc
      omega
    · obtain rfl : i = -1 := of_decide_eq_true h
      have z : ∀ c ∈ TL.tl (PyData.shown (.int (-1))), c < 128 := by decide +kernel
      exact z c hc
  | .str x, h, c, hc => repr_small (fun c hc => of_decide_eq_true (List.all_eq_true.mp h c hc)) c hc
  | .list ds, h, c, hc => by
    have hc' : c ∈ TL.tl (textFrom 0 "[" (PyData.shownAll ds) ++ "]") := hc
    rw [TL.tl_append] at hc'
    rcases List.mem_append.mp hc' with hc | hc
    · exact tl_from (by decide +kernel) _ _ _ (by decide +kernel) (ascs_shown h) c hc
    · have z : ∀ c ∈ TL.tl ("]" : Str), c < 128 := by decide +kernel
      exact z c hc
  | .tuple ds, h, c, hc => by
    have hc' : c ∈ TL.tl (("(" : Str) ++ Str.join ", " (PyData.shownAll ds) ++ (if (PyData.shownAll ds).length == 1 then ",)" else ")" : String)) := hc
    rw [TL.tl_append, TL.tl_append] at hc'
    rcases List.mem_append.mp hc' with hc | hc
    · rcases List.mem_append.mp hc with hc | hc
      · have z : ∀ c ∈ TL.tl ("(" : Str), c < 128 := by decide +kernel
        exact z c hc
      · exact tl_joined (by decide +kernel) _ (ascs_shown h) c hc
    · have z1 : ∀ c ∈ TL.tl (",)" : Str), c < 128 := by decide +kernel
      have z2 : ∀ c ∈ TL.tl (")" : Str), c < 128 := by decide +kernel
      split at hc
      · exact z1 c hc
      · exact z2 c hc
  | .dict [], _, c, hc => by
    have z : ∀ c ∈ TL.tl (PyData.shown (.dict [])), c < 128 := by decide +kernel
    exact z c hc
  | .dict (_ :: _), h, _, _ => by cases h
theorem ascs_shown : ∀ {ds : List PyData}, ascAll ds = true → ∀ t ∈ PyData.shownAll ds, ∀ c ∈ TL.tl t, c < 128
  | [], _, t, ht => by cases ht
  | d :: ds, h, t, ht => by
    obtain ⟨h1, h2⟩ := Bool.and_eq_true_iff.mp (show (ascD d && ascAll ds) = true from h)
    rcases List.mem_cons.mp (show t ∈ d.shown :: PyData.shownAll ds from ht) with rfl | ht
    · exact asc_shown h1
    · exact ascs_shown h2 t ht
end
structure Okz (d : PyData) (n b : Nat) : Prop where
  sh : d.showable = true
  dp : d.depth ≤ n
  lf : d.leavesShort 40 = true
  bk : d.bulk ≤ b
  asc : ascD d = true
structure OkzAll (ds : List PyData) (n b : Nat) : Prop where
  sh : PyData.showableAll ds = true
  dp : PyData.depthAll ds ≤ n
  lf : PyData.leavesShortAll 40 ds = true
  bk : PyData.bulkAll ds ≤ b
  asc : ascAll ds = true
theorem Okz.mono {d : PyData} {n m b c : Nat} (h : Okz d n b) (h1 : n ≤ m) (h2 : b ≤ c) : Okz d m c := ⟨h.sh, Nat.le_trans h.dp h1, h.lf, Nat.le_trans h.bk h2, h.asc⟩
theorem OkzAll.mono {d : List PyData} {n m b c : Nat} (h : OkzAll d n b) (h1 : n ≤ m) (h2 : b ≤ c) : OkzAll d m c := ⟨h.sh, Nat.le_trans h.dp h1, h.lf, Nat.le_trans h.bk h2, h.asc⟩
theorem Okz.len {d : PyData} {n b : Nat} (h : Okz d n b) : d.shown.length ≤ 42 * b + 40 := by
  have z := PyData.shown_le_bulk 40 (by decide) d h.lf
  have y := h.bk
  have e : (40 + 2) * d.bulk ≤ (40 + 2) * b := Nat.mul_le_mul_left _ y
  omega
theorem Okz.txt {d : PyData} {n b : Nat} (h : Okz d n b) (hb : b ≤ 200) : Okd (.str d.shown) 0 8440 := okd_str (asc_shown h.asc) (by have := h.len; omega) (by decide)
theorem Okz.int {i : Int} (h0 : 0 ≤ i) (h1 : i < 100000000000000000000000000000000) : Okz (.int i) 0 0 := by
  refine ⟨decide_eq_true (log_small h0 (by omega)), Nat.le_refl _, ?_, Nat.le_refl _, ?_⟩
  · show decide ((numS i).length ≤ 40) = true
    exact decide_eq_true (Nat.le_trans (numS_len2 h0 h1) (by decide))
  · show (decide (0 ≤ i) || decide (i = -1)) = true
    rw [decide_eq_true h0]
    rfl
theorem OkzAll.nil {n : Nat} : OkzAll [] n 0 := ⟨rfl, Nat.zero_le _, rfl, Nat.le_refl _, rfl⟩
theorem OkzAll.cons {d : PyData} {ds : List PyData} {n b c : Nat} (h : Okz d n b) (t : OkzAll ds n c) : OkzAll (d :: ds) n (b + 1 + c) := by
  refine ⟨?_, ?_, ?_, ?_, ?_⟩
  · show (d.showable && PyData.showableAll ds) = true
    rw [h.sh, t.sh]
    rfl
  · show max d.depth (PyData.depthAll ds) ≤ n
    exact Nat.max_le.mpr ⟨h.dp, t.dp⟩
  · show (d.leavesShort 40 && PyData.leavesShortAll 40 ds) = true
    rw [h.lf, t.lf]
    rfl
  · show d.bulk + 1 + PyData.bulkAll ds ≤ _
    have := h.bk
    have := t.bk
    omega
  · show (ascD d && ascAll ds) = true
    rw [h.asc, t.asc]
    rfl
theorem Okz.tup {ds : List PyData} {n b : Nat} (h : OkzAll ds n b) : Okz (.tuple ds) (n + 1) b := ⟨h.sh, Nat.succ_le_succ h.dp, h.lf, h.bk, h.asc⟩
theorem Okz.lst {ds : List PyData} {n b : Nat} (h : OkzAll ds n b) : Okz (.list ds) (n + 1) b := ⟨h.sh, Nat.succ_le_succ h.dp, h.lf, h.bk, h.asc⟩
theorem pieceD_inv {d : PyData} (h : pieceD d = true) : ∃ pc, d = pcD pc ∧ PcR pc := by
  unfold pieceD at h
  split at h
  · rename_i w ps
    split at h
    · rename_i e
      subst e
      split at h
      · rename_i x y
        obtain ⟨h1, h2⟩ := Bool.and_eq_true_iff.mp h
        obtain ⟨i, rfl, oi⟩ := okD_ks h1
        obtain ⟨o, rfl, oo⟩ := okD_ks h2
        exact ⟨.halves i o, rfl, oi, oo⟩
      · cases h
    · split at h
      · rename_i x
        split at h
        · rename_i e
          subst e
          obtain ⟨ks, rfl, ok⟩ := okD_ks h
          exact ⟨.rest ks, rfl, ok⟩
        · obtain ⟨h1, h2⟩ := Bool.and_eq_true_iff.mp h
          obtain ⟨h3, h4⟩ := Bool.and_eq_true_iff.mp h2
          obtain ⟨m, rfl⟩ := intD_int h3
          have hm : 1 ≤ m := of_decide_eq_true (show decide (m ≥ 1) = true from h4)
          rcases Bool.or_eq_true_iff.mp h1 with e | e
          · obtain rfl := of_decide_eq_true e
            exact ⟨.alone m, rfl, hm⟩
          · obtain rfl := of_decide_eq_true e
            exact ⟨.tied m, rfl, hm⟩
      · cases h
  · cases h
end Dg

namespace PySem.SeqAt
open AutoSeq1 (wpAny_loadPart')
open MeetsSeq
/-! ### a value of a builtin class == an instance: it declines -/
theorem int_dec_bool (b : Bool) (l C dx : Addr) :
    Meets (Builtin.«int.__eq__» ⟨[.bool b, .ref l], []⟩) (fun _ R s => s.heap.get? l = some (PySem.W.instObj C dx) ∧ R (.ok (.ret .notImplemented)) s) :=
  .of_wp fun prog w A R s h => by obtain ⟨hp, g, d, tk, os⟩ := s; obtain ⟨hl, h⟩ := h; unfold PySem.W.instObj at hl; wp_walk using wpAny_loadPart' hl, wpAny_load hl; exact ⟨_, rfl, h⟩
theorem int_dec_int (b : Int) (u : Tok) (l C dx : Addr) :
    Meets (Builtin.«int.__eq__» ⟨[.int b u, .ref l], []⟩) (fun _ R s => s.heap.get? l = some (PySem.W.instObj C dx) ∧ R (.ok (.ret .notImplemented)) s) :=
  .of_wp fun prog w A R s h => by obtain ⟨hp, g, d, tk, os⟩ := s; obtain ⟨hl, h⟩ := h; unfold PySem.W.instObj at hl; wp_walk using wpAny_loadPart' hl, wpAny_load hl; exact ⟨_, rfl, h⟩
theorem str_dec (b : Str) (u : Tok) (l C dx : Addr) :
    Meets (Builtin.«str.__eq__» ⟨[.str b u, .ref l], []⟩) (fun _ R s => s.heap.get? l = some (PySem.W.instObj C dx) ∧ R (.ok (.ret .notImplemented)) s) :=
  .of_wp fun prog w A R s h => by obtain ⟨hp, g, d, tk, os⟩ := s; obtain ⟨hl, h⟩ := h; unfold PySem.W.instObj at hl; wp_walk using wpAny_loadPart' hl, wpAny_load hl; exact ⟨_, rfl, h⟩
def NotSub (C : Addr) (T : String) (h : Heap) : Prop := ∀ {prog : Program} {w : World} {A : Around} {E : Value → Shared → Prop} {Q : Bool → Shared → Prop} (s : Shared), s.heap = h → Q false s → wpAny (model prog w) A (isSubtype (.ref C) (.type T)) Q E s
theorem list_dec (l : Addr) (items : Array Value) (n : Nat) (dd : Option Addr) (sl : Array (Option Value)) (x C dx : Addr) :
    Meets (Builtin.«list.__eq__» ⟨[.ref l, .ref x], []⟩) (fun _ R s => s.heap.get? l = some { cls := .type "list", dict := dd, data := .seq items n, slots := sl } ∧ s.heap.get? x = some (PySem.W.instObj C dx) ∧ NotSub C "list" s.heap ∧ R (.ok (.ret .notImplemented)) s) :=
  .of_wp fun prog w A R s h => by
    obtain ⟨hp, g, d, tk, os⟩ := s; obtain ⟨hl, hx, hs, h⟩ := h; unfold PySem.W.instObj at hx
    wp_walk using wpAny_loadPart' hl, wpAny_loadPart' hx
    refine hs _ rfl ?_
    wp_walk
    exact ⟨_, rfl, h⟩
theorem tup_dec (l : Addr) (items : Array Value) (n : Nat) (dd : Option Addr) (sl : Array (Option Value)) (x C dx : Addr) :
    Meets (Builtin.«tuple.__eq__» ⟨[.ref l, .ref x], []⟩) (fun _ R s => s.heap.get? l = some { cls := .type "tuple", dict := dd, data := .seq items n, slots := sl } ∧ s.heap.get? x = some (PySem.W.instObj C dx) ∧ NotSub C "tuple" s.heap ∧ R (.ok (.ret .notImplemented)) s) :=
  .of_wp fun prog w A R s h => by
    obtain ⟨hp, g, d, tk, os⟩ := s; obtain ⟨hl, hx, hs, h⟩ := h; unfold PySem.W.instObj at hx
    wp_walk using wpAny_loadPart' hl, wpAny_loadPart' hx
    refine hs _ rfl ?_
    wp_walk
    exact ⟨_, rfl, h⟩
theorem dict_dec (l : Addr) (es : Array DictEntry) (n : Nat) (dd : Option Addr) (sl : Array (Option Value)) (x C dx : Addr) :
    Meets (Builtin.«dict.__eq__» ⟨[.ref l, .ref x], []⟩) (fun _ R s => s.heap.get? l = some { cls := .type "dict", dict := dd, data := .dict es n, slots := sl } ∧ s.heap.get? x = some (PySem.W.instObj C dx) ∧ NotSub C "dict" s.heap ∧ R (.ok (.ret .notImplemented)) s) :=
  .of_wp fun prog w A R s h => by
    obtain ⟨hp, g, d, tk, os⟩ := s; obtain ⟨hl, hx, hs, h⟩ := h; unfold PySem.W.instObj at hx
    wp_walk using wpAny_loadPart' hl, wpAny_loadPart' hx
    refine hs _ rfl ?_
    wp_walk
    exact ⟨_, rfl, h⟩
end PySem.SeqAt
namespace PySem.W
open PySem PySem.Spec PyProof.Rows
section
variable {prog : Program} {w : World} {A : Around} {E : Value → Shared → Prop} {s : Shared} {K : Frag} {x C L f : Addr} {h₀ : Heap} {m : Str → Option Value} {ox : Obj} {od : Option Obj} {b : Value} {T id : String}
/-- a value of a builtin class == an instance: the class declines, then the instance's own == is asked -/
theorem cmp_R {Q : Value → Shared → Prop} (hu : A.units < cLine) (F : Fr h₀ L s.heap m) (X₀ : K.In h₀) (I : InstAt s.heap x ox C od) (hT : s.TypeIs b T) (slot : Slot T (cmpInfo .Eq).2.1 id) (sub : subIn K (.ref C) (.type T) = some false)
    (dec : ∀ {E' : Value → Shared → Prop} {Q' : Value → Shared → Prop}, Q' .notImplemented s → wpAny (model prog w) A (call (.builtin id) [b, .ref x]) Q' E' s)
    (hs : findIn K (.ref C) (cmpInfo .Eq).2.1 = some (some (.ref f))) (hf : isFn K (.ref f) = true)
    (h : wpAny (model prog w) A (call (.ref f) [.ref x, b]) (CmpBack Q) E s) : wpAny (model prog w) A (richCompare .Eq b (.ref x)) Q E s := by
  have X := X₀.keeps F.keep
  have one : wpAny (model prog w) A (tryCompare (.ref x) (cmpInfo .Eq).2.1 b) (fun r s' => ∃ v, r = some v ∧ Q v s') E s := by
    unfold tryCompare
    refine wpAny_bind (ifBound_K X I hs hf (wpAny_mono h (fun v s' hv => ?_) fun _ _ e => e))
    cases v <;> first | exact hv.elim | exact wpAny_pure ⟨_, rfl, hv⟩
  simp only [richCompare, hT.oneThing_none]
  refine wpAny_holding (wpAny_bind (wpAny_cRoomFor hu ?_))
  refine wpAny_bind (wpAny_typeOf hT (wpAny_bind (I.type.here ?_)))
  split
  · refine wpAny_bind ((looks_subIn X sub).here ?_)
    simp only [Bool.false_eq_true, if_false, Bool.not_false, if_true]
    refine wpAny_bind (m := tryCompare b _ (.ref x)) (wpAny_tryCompare_declines hT slot (dec ⟨rfl, ?_⟩))
    refine wpAny_bind (wpAny_mono one (fun r s' z => ?_) fun _ _ e => e)
    obtain ⟨v, rfl, hq⟩ := z
    exact wpAny_pure hq
  · rename_i q
    simp at q
end
end PySem.W
namespace Dg
open PySem PySem.Spec PyProof.Rows L2 L2H LamX
/-! ### a Row beside values of builtin classes -/
def othT : List String := ["NoneType", "bool", "int", "str", "list", "tuple", "dict"]
inductive Oth (K : PySem.W.Frag) (H : Hp) : V → String → Prop
  | non : Oth K H .non "NoneType"
  | bl (b : Bool) : Oth K H (.bl b) "bool"
  | int (i : Int) : Oth K H (.int i) "int"
  | str (x : Str) : Oth K H (.str x) "str"
  | lst {a : Addr} {xs : List V} : SqL K H a xs → Oth K H (.ref a) "list"
  | tup {a : Addr} {xs : List V} : SqT K H a xs → Oth K H (.ref a) "tuple"
  | dict {a : Addr} {kvs : List (Key × V)} : H a = some (.dK kvs) → Oth K H (.ref a) "dict"
structure NoRow (K : PySem.W.Frag) (C : Addr) : Prop where
  mro : ∀ T ∈ othT, PySem.W.mroIn K C (.type T) = some false
  kit : ∀ T ∈ othT, PySem.W.kitOne K (.type T) (.ref C) = some false
section
variable {K : PySem.W.Frag} {H : Hp} {y : V} {T : String} {C : Addr}
theorem Oth.mem (h : Oth K H y T) : T ∈ othT := by cases h <;> simp [othT]
theorem Oth.first (h : Oth K H y T) : PySem.W.notFirst K C (.type T) = true := by cases h <;> rfl
theorem Oth.ty (h : Oth K H y T) : TyX K H y (.type T) := by
  cases h with
  | non => exact .base .non
  | bl b => exact .base (.bl b)
  | int i => exact .base (.int i)
  | str z => exact .base (.str z)
  | dict h => exact .base (.dK h)
  | lst hs =>
    rcases hs with (h | ⟨o, h⟩) | ⟨o, its, n, h, hc, _⟩
    · exact .base (.lst h)
    · exact .base (.frz h)
    · exact .kList h hc
  | tup hs =>
    rcases hs with (h | ⟨o, h⟩) | ⟨o, its, n, h, hc, _⟩
    · exact .base (.tup h)
    · exact .fTuple h
    · exact .kTuple h hc
end
section
variable {X : Cx} {pins : List (Addr × Obj)} {σ : L2.St} {H : Hp} {s : Shared} {y : V} {u : Value} {T : String}
theorem Oth.typeIs (I : Inv X pins σ H s) (h : Oth X.K H y T) (r : RelV y u) : s.TypeIs u T := by
  cases h with
  | non => cases r; rfl
  | bl b => cases r; rfl
  | int i => obtain ⟨t, rfl⟩ := r; exact typeIs_int s i t
  | str x => obtain ⟨t, rfl⟩ := r; exact typeIs_str s x t
  | lst hs =>
    cases r
    obtain ⟨its, rv, ⟨o, n, ho, hc, _, _⟩, _⟩ := I.list hs
    exact ⟨o, ho, hc⟩
  | tup hs =>
    cases r
    obtain ⟨its, rv, ⟨o, ho, hc, n, hd⟩, _⟩ := I.tuple hs
    exact ⟨o, ho, hc⟩
  | dict hd =>
    cases r
    obtain ⟨_, _, vs, _, o, es, ep, h1, h2, _⟩ := I.hok _ _ hd
    exact ⟨o, h1, h2.1⟩
theorem NotSub.of {C : Addr} (I : Inv X pins σ H s) (e : PySem.W.mroIn X.K C (.type T) = some false) : SeqAt.NotSub C T s.heap := fun s' hs q => by
  refine (PySem.W.looks_subIn (t := .ref C) (by rw [hs]; exact I.kIn) e).here q
theorem Oth.dec {C x dx : Addr} (I : Inv X pins σ H s) (h : Oth X.K H y T) (r : RelV y u) (hx : s.heap.get? x = some (PySem.W.instObj C dx)) (no : NoRow X.K C) : ∃ id, Slot T (cmpInfo .Eq).2.1 id ∧ ∀ {A : Around} {E' : Value → Shared → Prop} {Q' : Value → Shared → Prop}, Q' .notImplemented s → wpAny (model X.prog X.w) A (call (.builtin id) [u, .ref x]) Q' E' s := by
  have ty := h.typeIs I r
  cases h with
  | non => cases r; exact ⟨_, F.slot_NoneType_eq, fun q => call_gives F.slot_NoneType_eq rfl F.entry_NoneType_eq (F.args_NoneType_eq_2 _ _) (SeqAt.NoneType___eq___none_ref_0 x) q⟩
  | bl b => cases r; exact ⟨_, F.slot_bool_eq, fun q => call_meets F.slot_bool_eq rfl F.entry_int_eq (F.args_int_eq_2 _ _) (SeqAt.int_dec_bool b x C dx) ⟨hx, q⟩⟩
  | int i => obtain ⟨t, rfl⟩ := r; exact ⟨_, F.slot_int_eq, fun q => call_meets F.slot_int_eq ty F.entry_int_eq (F.args_int_eq_2 _ _) (SeqAt.int_dec_int i t x C dx) ⟨hx, q⟩⟩
  | str z => obtain ⟨t, rfl⟩ := r; exact ⟨_, F.slot_str_eq, fun q => call_meets F.slot_str_eq ty F.entry_str_eq (F.args_str_eq_2 _ _) (SeqAt.str_dec z t x C dx) ⟨hx, q⟩⟩
  | lst hs =>
    cases r
    obtain ⟨its, rv, ⟨⟨cls, dd, data, sl⟩, n, ho, hc, _, hd⟩, _⟩ := I.list hs
    simp only at hc hd
    subst hc hd
    exact ⟨_, F.slot_list_eq, fun q => call_meets F.slot_list_eq ty F.entry_list_eq (F.args_list_eq_2 _ _) (SeqAt.list_dec _ _ n dd sl x C dx) ⟨ho, hx, NotSub.of I (no.mro _ (by simp [othT])), q⟩⟩
  | tup hs =>
    cases r
    obtain ⟨its, rv, ⟨⟨cls, dd, data, sl⟩, ho, hc, n, hd⟩, _⟩ := I.tuple hs
    simp only at hc hd
    subst hc hd
    exact ⟨_, F.slot_tuple_eq, fun q => call_meets F.slot_tuple_eq ty F.entry_tuple_eq (F.args_tuple_eq_2 _ _) (SeqAt.tup_dec _ _ n dd sl x C dx) ⟨ho, hx, NotSub.of I (no.mro _ (by simp [othT])), q⟩⟩
  | dict hk =>
    cases r
    obtain ⟨_, _, vs, _, ⟨cls, dd, data, sl⟩, es, ep, ho, ⟨hc, _, _⟩, hd, _⟩ := I.hok _ _ hk
    simp only at hc hd
    subst hc hd
    exact ⟨_, F.slot_dict_eq, fun q => call_meets F.slot_dict_eq ty F.entry_dict_eq (F.args_dict_eq_2 _ _) (SeqAt.dict_dec _ _ ep dd sl x C dx) ⟨ho, hx, NotSub.of I (no.mro _ (by simp [othT])), q⟩⟩
end
/-- a Row == a value of a builtin class; a value of a builtin class == a Row -/
def rEqY (K : PySem.W.Frag) (C : Addr) (sp : Sp) (E : XK) : R2 := fun x y H Q => NoRow K C ∧
  ((∃ a dx fs T, x = .ref a ∧ H a = some (.ins C dx fs) ∧ Oth K H y T ∧ sp [.ref a, y] H (fun v H' => ∃ k, v = .bl k ∧ Q (.bl k) H') E) ∨
   (∃ a dx fs T, y = .ref a ∧ H a = some (.ins C dx fs) ∧ Oth K H x T ∧ sp [.ref a, x] H (fun v H' => ∃ k, v = .bl k ∧ Q (.bl k) H') E))
def rNeY (K : PySem.W.Frag) (C : Addr) (sp : Sp) (E : XK) : R2 := fun x y H Q => ∃ a dx fs T, x = .ref a ∧ H a = some (.ins C dx fs) ∧ Oth K H y T ∧ sp [.ref a, y] H (fun v H' => ∃ k, v = .bl k ∧ Q (.bl (!k)) H') E
section
variable {X : Cx} {CX : CXT} {n : Nat} {C f : Addr} {fd : FuncData} {ps : List Str} {sp : Sp} {E : XK}
theorem own_runY {A : Around} {pins : List (Addr × Obj)} {s : Shared} {σ : L2.St} {H : Hp} {a : Addr} {y : V} {u : Value} {Q : Bool → Hp → Prop} {R : Value → Shared → Prop} (F : FnOk X.prog X.w X.K X.mg X.base CX n f fd ps sp) (hb : Binds X.K fd ps []) (hx : Passes CX X E) (hr : Room n A) (hfr : A.frames = X.A.frames)
    (I : Inv X pins σ H s) (ry : RelV y u) (h : sp [.ref a, y] H (fun v H' => ∃ k, v = .bl k ∧ Q k H') E) (hR : ∀ k H' s', Inv X pins σ H' s' → Q k H' → R (.bool k) s') : wpAny (model X.prog X.w) A (call (.ref f) [.ref a, u]) R X.xe s := by
  have e0 : Env0 X.prog X.w X.K X.mg X.base A X.stack s H := by
    have e := I.env0
    exact ⟨by rw [hfr]; exact e.frames, e.mod, e.bs, e.bsz, e.funs, e.frf, e.hok, e.bare⟩
  have hl := F.len _ _ _ _ h
  have r2 : Vals [V.ref a, y] [Value.ref a, u] := .cons rfl (.cons ry .nil)
  refine wpAny_call (codeAny_mono (F.run A X.stack s H ⟨[.ref a, u], []⟩ [.ref a, u] [.ref a, y] _ E hr e0 (by
    have z := hb s [.ref a, u] I.kIn (by simpa using hl)
    simpa using z) r2 h) fun r s' hq => ?_)
  cases r with
  | error e => exact hx pins σ H s e s' I hq
  | ok fl =>
    cases fl with
    | ret u =>
      obtain ⟨z, H', I', rz, k, ez, q⟩ := I.after hq
      subst ez
      cases rz
      exact hR k H' s' I' q
    | next => exact hq.elim
    | brk => exact hq.elim
    | cont => exact hq.elim
theorem Oth.looks {pins : List (Addr × Obj)} {σ : L2.St} {H : Hp} {s : Shared} {y : V} {u : Value} {T : String} (I : Inv X pins σ H s) (h : Oth X.K H y T) (r : RelV y u) {M : Model} : PySem.W.Looks M s.heap (typeOf u) (.type T) := by
  have ty := h.typeIs I r
  cases h with
  | non => cases r; exact PySem.W.Looks.of_pure rfl
  | bl b => cases r; exact PySem.W.Looks.of_pure rfl
  | int i => obtain ⟨t, rfl⟩ := r; exact PySem.W.Looks.of_pure rfl
  | str x => obtain ⟨t, rfl⟩ := r; exact PySem.W.Looks.of_pure rfl
  | lst hs => cases r; obtain ⟨o, ho, hc⟩ := ty; exact hc ▸ (PySem.W.Looks.ld (part := none) ho).andThen .now
  | tup hs => cases r; obtain ⟨o, ho, hc⟩ := ty; exact hc ▸ (PySem.W.Looks.ld (part := none) ho).andThen .now
  | dict hs => cases r; obtain ⟨o, ho, hc⟩ := ty; exact hc ▸ (PySem.W.Looks.ld (part := none) ho).andThen .now
theorem op_eqY (F : FnOk X.prog X.w X.K X.mg X.base CX n f fd ps sp) (hb : Binds X.K fd ps []) (he : PySem.W.findIn X.K (.ref C) "__eq__" = some (some (.ref f))) (hf : PySem.W.isFn X.K (.ref f) = true) (hr : Room n X.A) (hx : Passes CX X E) : OpR X (compareOp .Eq) (rEqY X.K C sp E) := by
  intro pins s σ H x y v u Q I rx ry hq
  obtain ⟨no, hq⟩ := hq
  obtain ⟨m, hF⟩ := I.fr
  show wpAny (model X.prog X.w) X.A (richCompare .Eq v u) (EP X pins σ Q) X.xe s
  rcases hq with ⟨a, dx, fs, T, rfl, ha, oy, hsp⟩ | ⟨a, dx, fs, T, rfl, ha, ox, hsp⟩
  · cases rx
    obtain ⟨mA, J, _⟩ := ins_get I.hok ha
    obtain ⟨od, J, _⟩ := J.look
    refine PySem.W.cmp_K (op := .Eq) (tb := .type T) hr.units0 hF I.ok.mod.kin J (oy.looks I ry) oy.first he hf ?_
    exact own_runY (Q := fun k => Q (.bl k)) F hb hx hr rfl I ry hsp fun k H' s' I' z => ⟨.bl k, H', I', rfl, z⟩
  · cases ry
    obtain ⟨mA, J, _⟩ := ins_get I.hok ha
    obtain ⟨od, J, _⟩ := J.look
    have hx0 : s.heap.get? a = some (PySem.W.instObj C dx) := by
      obtain ⟨_, _, _, e, _⟩ := I.hok _ _ ha
      exact e
    obtain ⟨id, slot, dec⟩ := ox.dec I rx hx0 no
    refine PySem.W.cmp_R hr.units0 hF I.ok.mod.kin J (ox.typeIs I rx) slot (no.mro _ ox.mem) dec he hf ?_
    exact own_runY (Q := fun k => Q (.bl k)) F hb hx hr rfl I rx hsp fun k H' s' I' z => ⟨.bl k, H', I', rfl, z⟩
theorem op_neY (F : FnOk X.prog X.w X.K X.mg X.base CX n f fd ps sp) (hb : Binds X.K fd ps []) (he : PySem.W.findIn X.K (.ref C) "__eq__" = some (some (.ref f))) (hf : PySem.W.isFn X.K (.ref f) = true) (hne : PySem.W.findIn X.K (.ref C) "__ne__" = some (some (.builtin "object.__ne__")))
    (top : PySem.W.mroIn X.K C (.type "object") = some true) (hr : Room (n + 1) X.A) (hx : Passes CX X E) : OpR X (compareOp .NotEq) (rNeY X.K C sp E) := by
  intro pins s σ H x y v u Q I rx ry hq
  obtain ⟨a, dx, fs, T, rfl, ha, oy, hsp⟩ := hq
  cases rx
  obtain ⟨mA, J, _⟩ := ins_get I.hok ha
  obtain ⟨od, J, _⟩ := J.look
  obtain ⟨m, hF⟩ := I.fr
  show wpAny (model X.prog X.w) X.A (richCompare .NotEq (.ref a) u) (EP X pins σ Q) X.xe s
  refine ne_own (tb := .type T) (hu_of hr) I.kIn J (oy.looks I ry) oy.first he hf hne top ?_
  exact own_runY (A := X.A.in1) (Q := fun k => Q (.bl (!k))) F hb hx hr.in1 rfl I ry hsp fun k H' s' I' z => ⟨k, rfl, .bl (!k), H', I', rfl, z⟩
end
end Dg

namespace GQ
open PySem PySem.SeqAt
open AutoSeq1 (wpAny_loadPart')
open MeetsSeq MeetsSeq2 MeetsSeq3 SeqRoads2
section
variable {prog : Program} {w : World} {A : Around} {R : Result → Shared → Prop}
/-- x in a list that holds it, by an == that runs -/
theorem contains_loopG (l : Addr) (x : Value) (N : Nat) (J : Nat → Shared → Prop)
    (hl : ∀ i s, J i s → ∃ (items : Array Value) (n : Nat), s.heap.get? l = some { cls := .type "list", data := .seq items n } ∧ items.size = N ∧
      ∀ (h1 : i < items.size), wpAny (model prog w) A.in1 (eqBool items[i] x) (fun r s' => (r = true → R (.ok (.ret (.bool true))) s') ∧ (r = false → J (i + 1) s')) (fun e s' => R (.error e) s') s)
    (last : ∀ s, ¬ J N s) (k : Nat) :
    ∀ i : Nat, N - i = k → i ≤ N → ∀ s, J i s →
      wpAny (model prog w) A.in1 (Builtin.«list.__contains__.loop» ⟨[.ref l, x, rawInt i], []⟩) (FinOf prog w A R) (fun e s' => R (.error e) s') s := by
  induction k with
  | zero =>
    intro i hk hi s h
    have hi' : i = N := by omega
    exact absurd (hi' ▸ h) (last s)
  | succ k ih =>
    intro i hk hi s h
    obtain ⟨items, n, hl1, hs1, turn⟩ := hl _ _ h
    have hlt : i < items.size := by omega
    have ht := turn hlt
    obtain ⟨hp, g, d, tk, os⟩ := s
    wp_walk using wpAny_loadPart' hl1
    have hi1 : items[((i : Nat) : Int).toNat]? = some items[i] := by simp [hlt]
    have hc : ((i : Int) + 1) = ((i + 1 : Nat) : Int) := by omega
    rw [hi1]
    refine wpAny_bind (wpAny_mono ht (fun r s2 h2 => ?_) fun _ _ x => x)
    cases r with
    | true =>
      have h3 := h2.1 rfl
      obtain ⟨hp2, g2, d2, tk2, os2⟩ := s2
      wp_walk
      exact h3
    | false =>
      have hrec := ih (i + 1) (by omega) (by omega) s2 (h2.2 rfl)
      obtain ⟨hp2, g2, d2, tk2, os2⟩ := s2
      wp_walk
      rw [hc]
      exact ⟨plainId_quiet plain_contains_loop _, codeAny_builtin entry_contains_loop (by
        rw [Around.under_plainId plain_contains_loop _]
        exact hrec)⟩
theorem containsG (l : Addr) (x : Value) (N : Nat) (J : Nat → Shared → Prop)
    (hl : ∀ i s, J i s → ∃ (items : Array Value) (n : Nat), s.heap.get? l = some { cls := .type "list", data := .seq items n } ∧ items.size = N ∧
      ∀ (h1 : i < items.size), wpAny (model prog w) A.in1 (eqBool items[i] x) (fun r s' => (r = true → R (.ok (.ret (.bool true))) s') ∧ (r = false → J (i + 1) s')) (fun e s' => R (.error e) s') s)
    (last : ∀ s, ¬ J N s) {s : Shared} (h : J 0 s) :
    wpAny (model prog w) A.in1 (Builtin.«list.__contains__» ⟨[.ref l, x], []⟩) (FinOf prog w A R) (fun e s' => R (.error e) s') s := by
  obtain ⟨items, n, hl1, hs1, _⟩ := hl _ _ h
  have hrec := contains_loopG (A := A) (R := R) l x N J hl last _ 0 rfl (Nat.zero_le _) s h
  obtain ⟨hp, g, d, tk, os⟩ := s
  wp_walk using wpAny_loadPart' hl1
  exact ⟨plainId_quiet plain_contains_loop _, codeAny_builtin entry_contains_loop (by
    rw [Around.under_plainId plain_contains_loop _]
    exact hrec)⟩
theorem notIn_G {E : Value → Shared → Prop} {Q : Value → Shared → Prop} {l : Addr} {x : Value} {N : Nat} {s : Shared} {items : Array Value} {n : Nat} (J : Nat → Shared → Prop) (ho : s.heap.get? l = some { cls := .type "list", data := .seq items n })
    (hl : ∀ i s, J i s → ∃ (items : Array Value) (n : Nat), s.heap.get? l = some { cls := .type "list", data := .seq items n } ∧ items.size = N ∧
      ∀ (h1 : i < items.size), wpAny (model prog w) A.in1 (eqBool items[i] x) (fun r s' => (r = true → Q (.bool false) s') ∧ (r = false → J (i + 1) s')) E s)
    (last : ∀ s, ¬ J N s) (h : J 0 s) : wpAny (model prog w) A (compareOp .NotIn x (.ref l)) Q E s := by
  show wpAny _ A (do return .bool (!(← contains (.ref l) x))) Q E s
  refine wpAny_bind (wpAny_contains_slot ⟨_, ho, rfl⟩ F.slot_list_contains (wpAny_mono (call_here (Q := fun v s' => ∃ b, v = .bool b ∧ Q (.bool (!b)) s') F.slot_list_contains ⟨_, ho, rfl⟩ F.entry_list_contains (F.args_list_contains_2 _ _)
    (containsG (R := wants (fun v s' => ∃ b, v = .bool b ∧ Q (.bool (!b)) s') E) l x N J (fun i s' hj => ?_) last h)) (fun v s' hv => ?_) fun _ _ e => e))
  · obtain ⟨its, m, h1, h2, h3⟩ := hl i s' hj
    refine ⟨its, m, h1, h2, fun hi => wpAny_mono (h3 hi) (fun r s2 z => ⟨fun e => ⟨true, rfl, z.1 e⟩, z.2⟩) fun _ _ e => e⟩
  · obtain ⟨b, rfl, hq⟩ := hv
    exact wpAny_truthy_bool (wpAny_pure hq)
end
end GQ
namespace Dg
open PySem PySem.Spec PyProof.Rows L2 L2H LamX
/-- a Row not in a list of Rows that holds it -/
def rNiR (C : Addr) (sp : Sp) (E : XK) : R2 := fun x y H Q => ∃ (a p : Addr) (xs : List V) (j : Nat), x = .ref a ∧ y = .ref p ∧ H p = some (.lst xs) ∧ xs[j]? = some (.ref a) ∧
  (∀ v ∈ xs, ∃ b dx fs, v = .ref b ∧ H b = some (.ins C dx fs) ∧ sp [.ref b, .ref a] H (fun v H' => ∃ k, v = .bl k ∧ H' = H) E) ∧ Q (.bl false) H
section
variable {X : Cx} {CX : CXT} {n : Nat} {C f : Addr} {fd : FuncData} {ps : List Str} {sp : Sp} {E : XK}
theorem op_niR (F : FnOk X.prog X.w X.K X.mg X.base CX n f fd ps sp) (hb : Binds X.K fd ps []) (he : PySem.W.findIn X.K (.ref C) "__eq__" = some (some (.ref f))) (hf : PySem.W.isFn X.K (.ref f) = true) (hr : Room (n + 1) X.A) (hx : Passes CX X E) : OpR X (compareOp .NotIn) (rNiR C sp E) := by
  intro pins s σ H x y v u Q I rx ry hq
  obtain ⟨a, p, xs, j, rfl, rfl, hp, hj, rows, q⟩ := hq
  cases rx
  cases ry
  have jl : j < xs.length := (List.getElem?_eq_some_iff.mp hj).1
  have start : ∃ (items : Array Value) (m : Nat), s.heap.get? p = some { cls := .type "list", data := .seq items m } := by
    obtain ⟨_, its, m, _, e⟩ := I.hok _ _ hp
    exact ⟨_, m, e⟩
  obtain ⟨items, m, ho⟩ := start
  refine GQ.notIn_G (N := xs.length) (fun i s' => i ≤ j ∧ Inv X pins σ H s') ho (fun i s' hJ => ?_) (fun s' hJ => by omega) ⟨Nat.zero_le _, I⟩
  obtain ⟨hij, I'⟩ := hJ
  obtain ⟨_, its, m', rv, e⟩ := I'.hok _ _ hp
  have ls : its.toArray.size = xs.length := by rw [List.size_toArray]; exact rv.length.symm
  refine ⟨its.toArray, m', e, ls, fun h1 => ?_⟩
  have hil : i < xs.length := by omega
  obtain ⟨b, dx, fs, ev, hb', hsp⟩ := rows xs[i] (List.getElem_mem hil)
  have ei : its.toArray[i] = Value.ref b := by
    obtain ⟨u, hu, ru⟩ := Vals.get rv (List.getElem?_eq_getElem hil)
    rw [ev] at ru
    cases ru
    have z : its.toArray[i]? = some (Value.ref b) := by rw [List.getElem?_toArray]; exact hu
    exact (Array.getElem?_eq_some_iff.mp z).2
  rw [ei]
  have fin : ∀ {r : Bool} {s2 : Shared}, Inv X pins σ H s2 → (r = false → i ≠ j) → (r = true → EP X pins σ Q (.bool false) s2) ∧ (r = false → i + 1 ≤ j ∧ Inv X pins σ H s2) := fun {r s2} I2 nj =>
    ⟨fun _ => ⟨.bl false, H, I2, rfl, q⟩, fun er => ⟨by have := nj er; omega, I2⟩⟩
  by_cases hab : b = a
  · subst hab
    exact SeqAt.EqAt.same (A := X.A.in1) (s := s') (.ref b) X.prog X.w X.xe _ (fin (r := true) I' fun z => by cases z)
  · have nj : i ≠ j := fun z => by
      subst z
      rw [List.getElem?_eq_getElem hil, ev] at hj
      exact hab (V.ref.inj (Option.some.inj hj))
    refine GQ.eqBool_refG hab ?_
    obtain ⟨mA, Jb, _⟩ := ins_get I'.hok hb'
    obtain ⟨od, Jb, _⟩ := Jb.look
    obtain ⟨mm, hF⟩ := I'.fr
    obtain ⟨b2, dx2, fs2, e2, ha2, _⟩ := rows (.ref a) (List.mem_of_getElem? hj)
    obtain rfl := V.ref.inj e2
    obtain ⟨mB, Ja, _⟩ := ins_get I'.hok ha2
    obtain ⟨od2, Ja, _⟩ := Ja.look
    refine PySem.W.cmp_K (op := .Eq) (tb := .ref C) hr.in1.units0 hF I'.ok.mod.kin Jb Ja.type (by simp [PySem.W.notFirst]) he hf ?_
    exact own_run (A := X.A.in1) (Q := fun k H' => H' = H) F hb hx hr.in1 rfl I' hsp fun k H2 s2 I2 z => ⟨k, rfl, fin (by rw [← z]; exact I2) fun _ => nj⟩
end
end Dg
namespace Dg
open PySem PySem.Spec PyProof.Rows L2 L2H LamX
theorem NoRow.of {K : PySem.W.Frag} {C : Addr} (m1 : PySem.W.mroIn K C (.type "NoneType") = some false) (m2 : PySem.W.mroIn K C (.type "bool") = some false) (m3 : PySem.W.mroIn K C (.type "int") = some false) (m4 : PySem.W.mroIn K C (.type "str") = some false)
    (m5 : PySem.W.mroIn K C (.type "list") = some false) (m6 : PySem.W.mroIn K C (.type "tuple") = some false) (m7 : PySem.W.mroIn K C (.type "dict") = some false)
    (k1 : PySem.W.kitOne K (.type "NoneType") (.ref C) = some false) (k2 : PySem.W.kitOne K (.type "bool") (.ref C) = some false) (k3 : PySem.W.kitOne K (.type "int") (.ref C) = some false) (k4 : PySem.W.kitOne K (.type "str") (.ref C) = some false)
    (k5 : PySem.W.kitOne K (.type "list") (.ref C) = some false) (k6 : PySem.W.kitOne K (.type "tuple") (.ref C) = some false) (k7 : PySem.W.kitOne K (.type "dict") (.ref C) = some false) : NoRow K C := by
  refine ⟨fun T hT => ?_, fun T hT => ?_⟩ <;>
  · simp only [othT, List.mem_cons, List.not_mem_nil, or_false] at hT
    rcases hT with rfl | rfl | rfl | rfl | rfl | rfl | rfl <;> assumption
theorem r_isiY {K : PySem.W.Frag} {C : Addr} {H : Hp} {Q : VK} {y : V} {T : String} (h : Oth K H y T) (no : NoRow K C) (q : Q (.bl false) H) : rIsiA K [y, .ref C] H Q := ⟨y, .ref C, .type T, .ref C, false, rfl, .own C, h.ty, no.kit _ h.mem, q⟩
end Dg
namespace Dg
open PySem PySem.Spec PyProof.Rows L2 L2H LamX
/-! ### kinds near others -/
theorem Desc.mono : ∀ {m n : Int} {ks : Kinds}, m ≤ n → Desc m ks → Desc n ks
  | _, _, [], _, _ => True.intro
  | _, _, _ :: _, h, ⟨a, b, c⟩ => ⟨a, Int.le_trans b h, c⟩
/-- another count at one place -/
theorem Desc.count : ∀ (n : Nat) {m : Int} {ks : Kinds} {k : Int × Int} {c : Int}, Desc m ks → ks[n]? = some k → 1 ≤ c → c ≤ 1000000000000000000000000000000 → Desc m (ks.take n ++ [(k.1, c)] ++ ks.drop (n + 1))
  | 0, m, q :: r, k, c, ⟨a, b, _, _, d⟩, h, h1, h2 => by
    have e : q = k := by simpa using h
    subst e
    exact ⟨a, b, h1, h2, d⟩
  | n + 1, m, q :: r, k, c, ⟨a, b, c1, c2, d⟩, h, h1, h2 => ⟨a, b, c1, c2, Desc.count n d (by simpa using h) h1 h2⟩
  | _, _, [], _, _, _, h, _, _ => by simp at h
/-- one place out -/
theorem Desc.out : ∀ (n : Nat) {m : Int} {ks : Kinds}, Desc m ks → Desc m (ks.take n ++ ks.drop (n + 1))
  | 0, m, [], h => True.intro
  | 0, m, q :: r, ⟨a, b, _, _, d⟩ => Desc.mono (by omega) d
  | n + 1, m, [], _ => True.intro
  | n + 1, m, q :: r, ⟨a, b, c1, c2, d⟩ => ⟨a, b, c1, c2, Desc.out n d⟩
end Dg
namespace Dg
open PySem PySem.Spec PyProof.Rows L2 L2H LamX
theorem cut_fewN (xs : List V) (lo hi : Option Int) : (cutV xs lo hi).length ≤ xs.length := by
  unfold cutV
  refine Nat.le_trans (List.length_take_le' _ _) ?_
  rw [List.length_drop]
  exact Nat.sub_le _ _
end Dg

namespace Dg
/-! ### webs of degrees: which degrees have one -/
/-- s is r with one less at n places where it is above 0 -/
inductive Less1 : Nat → List Int → List Int → Prop
  | nil : Less1 0 [] []
  | keep {n x r s} : Less1 n r s → Less1 n (x :: r) (x :: s)
  | take {n x r s} : 0 < x → Less1 n r s → Less1 (n + 1) (x :: r) ((x - 1) :: s)
inductive Web : List Int → Prop
  | nil : Web []
  | cons {d : Nat} {r s} : Less1 d r s → Web s → Web ((d : Int) :: r)
theorem Less1.len {n r s} (h : Less1 n r s) : s.length = r.length := by
  induction h with
  | nil => rfl
  | keep _ ih => simp [ih]
  | take _ _ ih => simp [ih]
theorem Less1.perm {r s : List Int} (p : r.Perm s) : ∀ {n r'}, Less1 n r r' → ∃ s', Less1 n s s' ∧ r'.Perm s' := by
  induction p with
  | nil => intro n r' h; exact ⟨r', h, .refl _⟩
  | cons x _ ih =>
    intro n r' h
    cases h with
    | keep h => obtain ⟨s', h1, h2⟩ := ih h; exact ⟨_, .keep h1, h2.cons _⟩
    | take c h => obtain ⟨s', h1, h2⟩ := ih h; exact ⟨_, .take c h1, h2.cons _⟩
  | swap x y l =>
    intro n r' h
    cases h with
    | keep h =>
      cases h with
      | keep h => exact ⟨_, .keep (.keep h), .swap _ _ _⟩
      | take c h => exact ⟨_, .take c (.keep h), .swap _ _ _⟩
    | take c h =>
      cases h with
      | keep h => exact ⟨_, .keep (.take c h), .swap _ _ _⟩
      | take c' h => exact ⟨_, .take c' (.take c h), .swap _ _ _⟩
  | trans _ _ ih1 ih2 =>
    intro n r' h
    obtain ⟨s1, h1, p1⟩ := ih1 h
    obtain ⟨s2, h2, p2⟩ := ih2 h1
    exact ⟨s2, h2, p1.trans p2⟩
theorem Less1.comm {a : Nat} {r r' : List Int} (h : Less1 a r r') : ∀ {b r''}, Less1 b r' r'' → ∃ s, Less1 b r s ∧ Less1 a s r'' := by
  induction h with
  | nil => intro b r'' h; cases h; exact ⟨_, .nil, .nil⟩
  | keep _ ih =>
    intro b r'' h
    cases h with
    | keep h => obtain ⟨s, h1, h2⟩ := ih h; exact ⟨_, .keep h1, .keep h2⟩
    | take c h => obtain ⟨s, h1, h2⟩ := ih h; exact ⟨_, .take c h1, .keep h2⟩
  | take c0 _ ih =>
    intro b r'' h
    cases h with
    | keep h => obtain ⟨s, h1, h2⟩ := ih h; exact ⟨_, .keep h1, .take c0 h2⟩
    | take c h => obtain ⟨s, h1, h2⟩ := ih h; exact ⟨_, .take c0 h1, .take c h2⟩
theorem Web.inv {x : Int} {r : List Int} (h : Web (x :: r)) : ∃ d s, x = (d : Nat) ∧ Less1 d r s ∧ Web s := by
  generalize e : x :: r = l at h
  cases h with
  | nil => cases e
  | cons h1 h2 => cases e; exact ⟨_, _, rfl, h1, h2⟩
theorem Web.swap {a b : Int} {r : List Int} (h : Web (a :: b :: r)) : Web (b :: a :: r) := by
  obtain ⟨n, s, rfl, h1, h2⟩ := h.inv
  cases h1 with
  | keep h1 =>
    obtain ⟨m, s', rfl, h3, h4⟩ := h2.inv
    obtain ⟨t, h5, h6⟩ := h1.comm h3
    exact .cons (.keep h5) (.cons h6 h4)
  | @take k _ _ s c h1 =>
    obtain ⟨m, s', e, h3, h4⟩ := h2.inv
    obtain ⟨t, h5, h6⟩ := h1.comm h3
    have eb : b = ((m + 1 : Nat) : Int) := by omega
    subst eb
    refine .cons (.take (by omega) h5) ?_
    have : ((k + 1 : Nat) : Int) - 1 = (k : Nat) := by omega
    rw [this]
    exact .cons h6 h4
theorem Web.permN : ∀ (n : Nat) {ds es : List Int}, ds.length ≤ n → ds.Perm es → Web ds → Web es := by
  intro n
  induction n with
  | zero =>
    intro ds es hl p h
    have : ds = [] := List.eq_nil_of_length_eq_zero (by omega)
    subst this
    rw [p.symm.eq_nil]
    exact h
  | succ n ih =>
    intro ds es hl p h
    induction p with
    | nil => exact h
    | cons x p _ =>
      obtain ⟨d, s, rfl, h1, h2⟩ := h.inv
      obtain ⟨s', h3, p'⟩ := Less1.perm p h1
      refine .cons h3 (ih ?_ p' h2)
      rw [h1.len]
      simp only [List.length_cons] at hl
      omega
    | swap x y l => exact h.swap
    | trans p1 p2 i1 i2 => exact i2 (by rw [← p1.length_eq]; exact hl) (i1 hl h)
theorem Web.perm {ds es : List Int} (p : ds.Perm es) (h : Web ds) : Web es := Web.permN _ (Nat.le_refl _) p h
/-! what must be -/
def inS : List (Bool × Int) → Int
  | [] => 0
  | (true, x) :: r => x + inS r
  | (false, _) :: r => inS r
def cntS : List (Bool × Int) → Int
  | [] => 0
  | (true, _) :: r => 1 + cntS r
  | (false, _) :: r => cntS r
def outS (k : Int) : List (Bool × Int) → Int
  | [] => 0
  | (true, _) :: r => outS k r
  | (false, x) :: r => min x k + outS k r
theorem cntS_nn : ∀ qs, 0 ≤ cntS qs
  | [] => Int.le_refl _
  | (true, _) :: r => by have := cntS_nn r; show 0 ≤ 1 + cntS r; omega
  | (false, _) :: r => cntS_nn r
theorem Less1.masks {n : Nat} {r s : List Int} (h : Less1 n r s) : ∀ (qs : List (Bool × Int)), qs.map (·.2) = r →
    ∃ (ps : List (Bool × Int)) (x y : Int), ps.map (·.2) = s ∧ cntS ps = cntS qs ∧ x + y = n ∧ 0 ≤ x ∧ 0 ≤ y ∧ inS qs = inS ps + x ∧ x ≤ cntS qs ∧ ∀ k, outS k ps ≤ outS k qs ∧ outS (k - 1) ps + y ≤ outS k qs := by
  induction h with
  | nil =>
    intro qs e
    rw [List.map_eq_nil_iff] at e
    subst e
    exact ⟨[], 0, 0, rfl, rfl, rfl, by omega, by omega, rfl, Int.le_refl _, fun k => ⟨Int.le_refl _, Int.le_refl _⟩⟩
  | @keep n x r s _ ih =>
    intro qs e
    obtain ⟨⟨b, z⟩, t, rfl, rfl, e2⟩ : ∃ q t, qs = q :: t ∧ q.2 = x ∧ t.map (·.2) = r := by
      cases qs with
      | nil => cases e
      | cons q t => injection e with e1 e2; exact ⟨q, t, rfl, e1, e2⟩
    obtain ⟨ps, x', y', h1, h2, h3, hx, hy, h4, h5, h6⟩ := ih t e2
    refine ⟨(b, z) :: ps, x', y', by simp [h1], ?_, h3, hx, hy, ?_, ?_, fun k => ?_⟩
    · cases b <;> simp [cntS, h2]
    · cases b <;> simp [inS, h4] <;> omega
    · cases b <;> simp [cntS] <;> omega
    · obtain ⟨a1, a2⟩ := h6 k
      cases b <;> simp only [outS] <;> omega
  | @take n x r s c _ ih =>
    intro qs e
    obtain ⟨⟨b, z⟩, t, rfl, rfl, e2⟩ : ∃ q t, qs = q :: t ∧ q.2 = x ∧ t.map (·.2) = r := by
      cases qs with
      | nil => cases e
      | cons q t => injection e with e1 e2; exact ⟨q, t, rfl, e1, e2⟩
    obtain ⟨ps, x', y', h1, h2, h3, hx, hy, h4, h5, h6⟩ := ih t e2
    cases b with
    | true =>
      refine ⟨(true, z - 1) :: ps, x' + 1, y', by simp [h1], by simp [cntS, h2], by omega, by omega, hy, by simp only [inS]; omega, by simp only [cntS]; omega, fun k => ?_⟩
      obtain ⟨a1, a2⟩ := h6 k
      simp only [outS]
      omega
    | false =>
      refine ⟨(false, z - 1) :: ps, x', y' + 1, by simp [h1], by simp [cntS, h2], by omega, hx, by omega, by simp only [inS]; omega, by simp only [cntS]; omega, fun k => ?_⟩
      obtain ⟨a1, a2⟩ := h6 k
      simp only [outS]
      omega
theorem Web.room {ds : List Int} (h : Web ds) : ∀ (qs : List (Bool × Int)), qs.map (·.2) = ds → inS qs ≤ cntS qs * (cntS qs - 1) + outS (cntS qs) qs := by
  induction h with
  | nil =>
    intro qs e
    rw [List.map_eq_nil_iff] at e
    subst e
    decide
  | @cons d r s h1 _ ih =>
    intro qs e
    obtain ⟨⟨b, z⟩, t, rfl, ez, e2⟩ : ∃ q t, qs = q :: t ∧ q.2 = (d : Int) ∧ t.map (·.2) = r := by
      cases qs with
      | nil => cases e
      | cons q t => injection e with e1 e2; exact ⟨q, t, rfl, e1, e2⟩
    have ez : z = (d : Int) := ez
    subst ez
    obtain ⟨ps, x, y, g1, g2, g3, hx, hy, g4, g5, g6⟩ := h1.masks t e2
    have i := ih ps g1
    rw [g2] at i
    have nn := cntS_nn t
    cases b with
    | true =>
      obtain ⟨_, a2⟩ := g6 (1 + cntS t)
      rw [show (1 + cntS t - 1) = cntS t by omega] at a2
      simp only [inS, cntS, outS]
      have e1 : (1 + cntS t) * (1 + cntS t - 1) = cntS t * (cntS t - 1) + 2 * cntS t := by
        rw [show (1 + cntS t - 1) = cntS t by omega, Int.add_mul, Int.mul_sub]; omega
      rw [e1]
      omega
    | false =>
      obtain ⟨a1, _⟩ := g6 (cntS t)
      simp only [inS, cntS, outS]
      omega
theorem Less1.sum {n : Nat} {r s : List Int} (h : Less1 n r s) : r.sum = s.sum + n := by
  induction h with
  | nil => rfl
  | keep _ ih => simp only [List.sum_cons]; omega
  | take _ _ ih => simp only [List.sum_cons]; omega
theorem Web.even {ds : List Int} (h : Web ds) : ds.sum % 2 = 0 := by
  induction h with
  | nil => rfl
  | cons h1 _ ih => have := h1.sum; simp only [List.sum_cons]; omega
/-! the room of degrees in their order -/
def spaceL (ss : List Int) (k : Nat) : Int := (k : Int) * ((k : Int) - 1) + ((ss.drop k).map fun x => min x (k : Int)).sum - (ss.take k).sum
theorem Web.space {ss : List Int} (h : Web ss) {k : Nat} (hk : k ≤ ss.length) : 0 ≤ spaceL ss k := by
  have z := h.room ((ss.take k).map (fun x => (true, x)) ++ (ss.drop k).map (fun x => (false, x))) (by
    rw [List.map_append, List.map_map, List.map_map]
    have e : ((fun x : Bool × Int => x.2) ∘ fun x : Int => (true, x)) = id := rfl
    have e' : ((fun x : Bool × Int => x.2) ∘ fun x : Int => (false, x)) = id := rfl
    rw [e, e', List.map_id, List.map_id, List.take_append_drop])
  have c1 : ∀ l t : List Int, cntS (l.map (fun x => (true, x)) ++ t.map (fun x => (false, x))) = l.length := by
    intro l t
    induction l with
    | nil =>
      induction t with
      | nil => rfl
      | cons a r ih => exact ih
    | cons a r ih =>
      show 1 + cntS (r.map (fun x => (true, x)) ++ t.map (fun x => (false, x))) = _
      rw [ih, List.length_cons]
      omega
  have c2 : ∀ l t : List Int, inS (l.map (fun x => (true, x)) ++ t.map (fun x => (false, x))) = l.sum := by
    intro l t
    induction l with
    | nil =>
      induction t with
      | nil => rfl
      | cons a r ih => exact ih
    | cons a r ih =>
      show a + inS (r.map (fun x => (true, x)) ++ t.map (fun x => (false, x))) = _
      rw [ih, List.sum_cons]
  have c3 : ∀ (q : Int) (l t : List Int), outS q (l.map (fun x => (true, x)) ++ t.map (fun x => (false, x))) = (t.map fun x => min x q).sum := by
    intro q l t
    induction l with
    | nil =>
      induction t with
      | nil => rfl
      | cons a r ih =>
        show min a q + outS q (([] : List Int).map (fun x => (true, x)) ++ r.map (fun x => (false, x))) = _
        rw [ih, List.map_cons, List.sum_cons]
    | cons a r ih => exact ih
  have lk : (ss.take k).length = k := by rw [List.length_take]; omega
  rw [c2, c1, c3, lk] at z
  unfold spaceL
  omega
/-! which have one: up to six places, by a table -/
def dropF : Nat → List Int → Option (List Int)
  | 0, r => some r
  | _ + 1, [] => none
  | n + 1, x :: r => if 0 < x then (dropF n r).map ((x - 1) :: ·) else none
theorem less_none : ∀ r, Less1 0 r r
  | [] => .nil
  | _ :: r => .keep (less_none r)
theorem dropF_less : ∀ {n : Nat} {r s : List Int}, dropF n r = some s → Less1 n r s
  | 0, r, s, h => by
    cases h
    exact less_none r
  | n + 1, [], s, h => by cases h
  | n + 1, x :: r, s, h => by
    unfold dropF at h
    split at h
    case isTrue c =>
      obtain ⟨t, ht, rfl⟩ := Option.map_eq_some_iff.mp h
      exact .take c (dropF_less ht)
    case isFalse => cases h
def insD (x : Int) : List Int → List Int
  | [] => [x]
  | y :: r => if y ≤ x then x :: y :: r else y :: insD x r
def sortD : List Int → List Int
  | [] => []
  | x :: r => insD x (sortD r)
theorem insD_perm (x : Int) : ∀ l, (insD x l).Perm (x :: l)
  | [] => .refl _
  | y :: r => by
    unfold insD
    split
    · exact .refl _
    · exact ((insD_perm x r).cons y).trans (.swap _ _ _)
theorem sortD_perm : ∀ l, (sortD l).Perm l
  | [] => .refl _
  | x :: r => (insD_perm x _).trans ((sortD_perm r).cons x)
def hhD : Nat → List Int → Bool
  | _, [] => true
  | 0, _ :: _ => false
  | f + 1, d :: r => decide (0 ≤ d) && match dropF d.toNat r with
    | some s => hhD f (sortD s)
    | none => false
theorem hhD_web : ∀ {f : Nat} {ds : List Int}, hhD f ds = true → Web ds
  | f, [], _ => .nil
  | 0, _ :: _, h => by cases h
  | f + 1, d :: r, h => by
    unfold hhD at h
    simp only [Bool.and_eq_true, decide_eq_true_eq] at h
    obtain ⟨h0, h⟩ := h
    cases e : dropF d.toNat r with
    | none => rw [e] at h; cases h
    | some s =>
      rw [e] at h
      have w := (hhD_web h).perm (sortD_perm s)
      have := Web.cons (dropF_less e) w
      rwa [Int.toNat_of_nonneg h0] at this
def goodL (ss : List Int) : Bool := decide (ss.sum % 2 = 0) && (List.range ss.length).all fun k => decide (0 ≤ spaceL ss (k + 1))
def descL : Nat → Nat → List (List Int)
  | 0, _ => [[]]
  | n + 1, b => (List.range (b + 1)).flatMap fun d => (descL n d).map ((d : Int) :: ·)
theorem tableL : ((List.range 7).all fun n => (descL n 5).all fun ss => !goodL ss || hhD n ss) = true := by decide +kernel
theorem mem_descL : ∀ {ss : List Int} {b : Nat}, ss.Pairwise (· ≥ ·) → (∀ x ∈ ss, 0 ≤ x ∧ x ≤ b) → ss ∈ descL ss.length b
  | [], _, _, _ => List.mem_singleton.mpr rfl
  | x :: r, b, p, h => by
    obtain ⟨p1, p2⟩ := List.pairwise_cons.mp p
    obtain ⟨x0, x1⟩ := h x List.mem_cons_self
    show x :: r ∈ (List.range (b + 1)).flatMap fun d => (descL r.length d).map ((d : Int) :: ·)
    refine List.mem_flatMap.mpr ⟨x.toNat, List.mem_range.mpr (by omega), List.mem_map.mpr ⟨r, mem_descL p2 fun y hy => ?_, ?_⟩⟩
    · have := (h y (List.mem_cons_of_mem _ hy)).1
      have := p1 y hy
      omega
    · rw [Int.toNat_of_nonneg x0]
theorem sum_min1 : ∀ r : List Int, (r.map fun x => min x 1).sum ≤ r.length
  | [] => Int.le_refl _
  | x :: r => by
    have := sum_min1 r
    rw [List.map_cons, List.sum_cons, List.length_cons]
    omega
/-- up to six degrees have a web just if their sum is even and no k of them lack room -/
theorem web_iff {ss : List Int} (p : ss.Pairwise (· ≥ ·)) (nn : ∀ x ∈ ss, 0 ≤ x) (l6 : ss.length ≤ 6) : Web ss ↔ ss.sum % 2 = 0 ∧ ∀ k : Nat, 1 ≤ k → k ≤ ss.length → 0 ≤ spaceL ss k := by
  refine ⟨fun h => ⟨h.even, fun k _ hk => h.space hk⟩, fun ⟨he, hs⟩ => ?_⟩
  have g : goodL ss = true := by
    unfold goodL
    rw [decide_eq_true he, Bool.true_and, List.all_eq_true]
    intro k hk
    exact decide_eq_true (hs (k + 1) (by omega) (by have := List.mem_range.mp hk; omega))
  have m : ss ∈ descL ss.length 5 := by
    refine mem_descL p fun x hx => ⟨nn x hx, ?_⟩
    cases ss with
    | nil => cases hx
    | cons y r =>
      have s1 := hs 1 (Nat.le_refl _) (by simp)
      have m1 := sum_min1 r
      unfold spaceL at s1
      simp only [List.drop_succ_cons, List.drop_zero, List.take_succ_cons, List.take_zero, List.sum_cons, List.sum_nil] at s1
      simp only [List.length_cons] at l6
      have s1' : 0 ≤ ((1 : Nat) : Int) * (((1 : Nat) : Int) - 1) + (r.map fun x => min x 1).sum - (y + 0) := s1
      have xy : x ≤ y := by
        rcases List.mem_cons.mp hx with e | e
        · omega
        · exact (List.pairwise_cons.mp p).1 x e
      omega
  have t := List.all_eq_true.mp tableL ss.length (List.mem_range.mpr (by omega))
  have t2 := List.all_eq_true.mp t ss m
  rw [g] at t2
  exact hhD_web (by simpa using t2)
end Dg

namespace Dg
open PySem PySem.Spec PyProof.Rows L2 L2H LamX
/-! ### the room of kinds is that of the degrees one by one -/
theorem spread_desc : ∀ {ks : Kinds}, (ks.Pairwise fun p q => q.1 < p.1) → (spread ks).Pairwise (· ≥ ·)
  | [], _ => .nil
  | k :: r, h => by
    obtain ⟨h1, h2⟩ := List.pairwise_cons.mp h
    rw [spread_cons]
    refine List.pairwise_append.mpr ⟨List.pairwise_replicate.mpr (.inr (Int.le_refl _)), spread_desc h2, fun x hx y hy => ?_⟩
    rw [List.eq_of_mem_replicate hx]
    obtain ⟨q, hq, hy⟩ := List.mem_flatMap.mp hy
    have := h1 q hq
    rw [List.eq_of_mem_replicate hy]
    omega
theorem con_spread {k : Int} : ∀ {ks : Kinds} {left : Nat}, (∀ p ∈ ks, 0 ≤ p.2) → conGo k ks left = (((spread ks).drop left).map fun x => min x k).sum - ((spread ks).take left).sum
  | [], left, _ => by
    rw [show spread [] = [] from rfl, List.drop_nil, List.take_nil]
    rfl
  | (d, m) :: r, left, h => by
    obtain ⟨n, rfl⟩ : ∃ n : Nat, m = (n : Int) := ⟨m.toNat, by have := h _ List.mem_cons_self; have : (0 : Int) ≤ m := this; omega⟩
    have ih := con_spread (k := k) (ks := r) (left := left - n) (fun p hp => h p (List.mem_cons_of_mem _ hp))
    have e : spread ((d, (n : Int)) :: r) = List.replicate n d ++ spread r := by rw [spread_cons]; rfl
    have em : mi (n : Int) (left : Int) = ((min n left : Nat) : Int) := by unfold mi; split <;> omega
    have ek : mi k d = min d k := by unfold mi; split <;> omega
    have el : (left : Int) - ((min n left : Nat) : Int) = ((left - n : Nat) : Int) := by omega
    rw [conGo, em, ek, el, ih, e, List.drop_append, List.take_append, List.length_replicate, List.drop_replicate, List.take_replicate, List.map_append, List.sum_append, List.sum_append, List.map_replicate, sum_replicate, sum_replicate]
    have e1 : ((n - left : Nat) : Int) = (n : Int) - ((min n left : Nat) : Int) := by omega
    have e2 : ((min left n : Nat) : Int) = ((min n left : Nat) : Int) := by omega
    rw [e1, e2]
    omega
theorem room_spread {ks : Kinds} {k : Nat} (h : ∀ p ∈ ks, 0 ≤ p.2) : roomK ks k = spaceL (spread ks) k := by
  rw [room_con, Int.sub_zero, con_spread h]
  unfold spaceL
  omega
theorem sorted_spread {ds ss : List Int} {ks : Kinds} (h : KindsOf (cntOf ds) ks) (p : ss.Perm ds) (o : ss.Pairwise (· ≥ ·)) : ss = spread ks := by
  refine List.Perm.eq_of_pairwise (le := (· ≥ ·)) (fun a b _ _ h1 h2 => Int.le_antisymm h2 h1) o (spread_desc h.1) (p.trans (spread_perm h).symm)
end Dg

namespace Dg
open PySem PySem.Spec PyProof.Rows L2 L2H LamX
/-! ### list.count of numbers -/
def rCntI (K : PySem.W.Frag) : V → List V → Hp → VK → Prop := fun x xs H Q => ∃ (p : Addr) (ds : List Int) (k : Int), x = .ref p ∧ xs = [.int k] ∧ SqL K H p (ds.map V.int) ∧ Q (.int (cntOf ds k)) H
def eqiV (k : Int) (v : Value) : Bool := match v with
  | .int n _ => n == k
  | _ => false
theorem eqi_count {k : Int} : ∀ {ds : List Int} {us : List Value}, Vals (ds.map V.int) us → us.countP (eqiV k) = ds.count k ∧ ∀ u ∈ us, ∃ d t, u = Value.int d t
  | [], _, r => by cases r; exact ⟨rfl, fun u hu => absurd hu List.not_mem_nil⟩
  | d :: r, _, h => by
    cases h with
    | cons h t =>
      obtain ⟨ih, all⟩ := eqi_count (k := k) t
      obtain ⟨tk, rfl⟩ := h
      refine ⟨?_, fun u hu => ?_⟩
      · rw [List.countP_cons, List.count_cons, ih]
        rfl
      · rcases List.mem_cons.mp hu with rfl | hu
        · exact ⟨d, tk, rfl⟩
        · exact all u hu
section
variable {X : Cx}
theorem mt_lcountI : MtR X "list.count" (rCntI X.K) := by
  intro pins s σ H x xs v us Q I rx rxs h
  obtain ⟨p, ds, k, rfl, rfl, hs, q⟩ := h
  cases rx
  obtain ⟨u, rfl, ru⟩ := rxs.one
  obtain ⟨tk, rfl⟩ := ru
  obtain ⟨its, rv, ⟨⟨cls, dd, data, sl⟩, n, ho, hc, hdn, hd⟩, hlen⟩ := I.list hs
  simp only at hc hd
  subst hc hd
  obtain ⟨ec, hi⟩ := eqi_count (k := k) rv
  refine call_meets PySem.F.slot_list_count ⟨_, ho, rfl⟩ PySem.F.entry_list_count (PySem.F.args_list_count_2 _ _)
    (SeqAt.list_countAt p its.toArray n dd sl (.int k tk) (eqiV k)) ⟨ho, fun y hy => ?_, ?_⟩
  · obtain ⟨d, t, rfl⟩ := hi y (by simpa using hy)
    exact SeqAt.EqAt.int_int d t k tk
  have ec' : its.toArray.toList.countP (eqiV k) = ds.count k := ec
  refine ⟨.int (cntOf ds k), H, I.tok _, ⟨s.toks, ?_⟩, q⟩
  show Value.int (((its.toArray.toList.countP (eqiV k) : Nat) : Int)) s.toks = Value.int ((ds.count k : Nat) : Int) s.toks
  rw [ec']
theorem mtCountI {K : PySem.W.Frag} (h : X.K = K) : MtR X "list.count" (rCntI K) := h ▸ mt_lcountI
end
theorem r_cntI {K : PySem.W.Frag} {H : Hp} {Q : VK} {p : Addr} {ds : List Int} {k : Int} (h : SqL K H p (ds.map V.int)) (q : Q (.int (cntOf ds k)) H) : rCntI K (.ref p) [.int k] H Q := ⟨p, ds, k, rfl, rfl, h, q⟩
/-! ### what bars, as a list -/
def negsL (ss : List Int) (n : Nat) : List Int := ((List.range n).filter fun k => decide (spaceL ss (k + 1) < 0)).map fun k : Nat => (k : Int) + 1
theorem negsL_snoc (ss : List Int) (n : Nat) : negsL ss (n + 1) = negsL ss n ++ (if spaceL ss (n + 1) < 0 then [(n : Int) + 1] else []) := by
  unfold negsL
  rw [List.range_succ, List.filter_append, List.map_append]
  congr 1
  by_cases c : spaceL ss (n + 1) < 0
  · rw [if_pos c]; simp [c]
  · rw [if_neg c]; simp [c]
theorem negs_none {ss : List Int} : ∀ {n : Nat}, (∀ k : Nat, 1 ≤ k → k ≤ n → 0 ≤ spaceL ss k) → negsL ss n = []
  | 0, _ => rfl
  | n + 1, h => by
    rw [negsL_snoc, negs_none fun k h1 h2 => h k h1 (by omega), if_neg (by have := h (n + 1) (by omega) (Nat.le_refl _); omega)]
    rfl
theorem negs_head {ss : List Int} {j : Nat} : ∀ {n : Nat}, 1 ≤ j → j ≤ n → spaceL ss j < 0 → (∀ k : Nat, 1 ≤ k → k < j → 0 ≤ spaceL ss k) → (negsL ss n).head? = some (j : Int)
  | 0, h1, h2, _, _ => by omega
  | n + 1, h1, h2, h3, h4 => by
    rw [negsL_snoc]
    by_cases e : j = n + 1
    · subst e
      rw [negs_none fun k a b => h4 k a (by omega), if_pos h3]
      rfl
    · rw [List.head?_append, negs_head h1 (by omega) h3 h4]
      rfl
/-- what bars kinds: 0 for an odd sum, or the first k that lack room -/
theorem bar_list {ds ss : List Int} {ks : Kinds} (h : KindsOf (cntOf ds) ks) (ne : ds ≠ []) (nn : ∀ d ∈ ds, 0 ≤ d) (es : ss = spread ks) :
    (ds.sum % 2 = 1 → barK ks = some 0) ∧ (ds.sum % 2 ≠ 1 → barK ks = (negsL ss ds.length).head?) ∧ (barK ks = none ↔ ds.sum % 2 ≠ 1 ∧ negsL ss ds.length = []) := by
  have kn : ks ≠ [] := fun z => by
    have := kinds_places h
    rw [z] at this
    have l : 0 < ds.length := List.length_pos_iff.mpr ne
    simp only [List.map_nil, List.sum_nil] at this
    omega
  have hm : ∀ p ∈ ks, 0 ≤ p.2 := fun p hp => by have := (h.2 p.1 p.2).mp hp; omega
  have hd : ∀ p ∈ ks, 0 ≤ p.1 := fun p hp => by
    have z := (h.2 p.1 p.2).mp hp
    have c : 0 < ds.count p.1 := by
      have := z.2
      rw [z.1] at this
      unfold cntOf at this
      omega
    exact nn _ (List.count_pos_iff.mp c)
  have ee : endsK ks = ds.sum := kinds_ends h
  have pp : placesK ks = ds.length := kinds_places h
  have main : ds.sum % 2 ≠ 1 → barK ks = (negsL ss ds.length).head? ∧ (barK ks = none → negsL ss ds.length = []) := fun ev => by
    obtain ⟨a, b⟩ := bar_right kn hm hd (by rw [ee]; exact ev)
    cases c : barK ks with
    | none =>
      have := negs_none (ss := ss) (n := ds.length) fun k h1 h2 => by
        rw [es, ← room_spread hm]
        exact a c k (by omega) (by omega)
      exact ⟨by rw [this]; rfl, fun _ => this⟩
    | some j =>
      obtain ⟨j1, j2, j3, j4⟩ := b j c
      obtain ⟨n, rfl⟩ : ∃ n : Nat, j = (n : Int) := ⟨j.toNat, by omega⟩
      refine ⟨(negs_head (by omega) (by omega) (by rw [es, ← room_spread hm]; exact j3) fun k k1 k2 => by
        rw [es, ← room_spread hm]; exact j4 k (by omega) (by omega)).symm, fun z => by cases z⟩
  have odd : ds.sum % 2 = 1 → barK ks = some 0 := fun o => by
    unfold barK
    rw [if_pos (by rw [ee]; exact o)]
  refine ⟨odd, fun ev => (main ev).1, fun z => ?_, fun ⟨ev, z⟩ => by rw [(main ev).1, z]; rfl⟩
  by_cases o : ds.sum % 2 = 1
  · rw [odd o] at z; cases z
  · exact ⟨o, (main o).2 z⟩
/-- up to six degrees have a web just if nothing bars them -/
theorem bar_web {ds ss : List Int} {ks : Kinds} (h : KindsOf (cntOf ds) ks) (ne : ds ≠ []) (nn : ∀ d ∈ ds, 0 ≤ d) (l6 : ds.length ≤ 6) : barK ks = none ↔ Web ds := by
  have sp := spread_perm h
  have ln : (spread ks).length = ds.length := sp.length_eq
  rw [(bar_list h ne nn rfl).2.2]
  have w := web_iff (spread_desc h.1) (fun x hx => nn x (sp.mem_iff.mp hx)) (by omega)
  rw [sum_perm sp] at w
  have e : Web ds ↔ Web (spread ks) := ⟨Web.perm sp.symm, Web.perm sp⟩
  rw [e, w, ln]
  constructor
  · rintro ⟨a, b⟩
    refine ⟨by omega, fun k h1 h2 => ?_⟩
    refine Decidable.byContradiction fun c => ?_
    have m : (k : Int) ∈ negsL (spread ks) ds.length := by
      unfold negsL
      refine List.mem_map.mpr ⟨k - 1, List.mem_filter.mpr ⟨List.mem_range.mpr (by omega), decide_eq_true ?_⟩, show (((k - 1 : Nat) : Int) + 1 = (k : Int)) by omega⟩
      rw [show k - 1 + 1 = k by omega]
      omega
    rw [b] at m
    cases m
  · rintro ⟨a, b⟩
    exact ⟨by omega, negs_none b⟩
end Dg

namespace L2
open PySem PySem.Spec PyProof.Rows
/-! ### set(l) of a list of numbers -/
abbrev noSet (w : World) : Obj := { cls := .type "set", dict := none, data := .set #[] 0 (.fresh 0 0 (!w.params.followText "set-order")) }
section
variable {P : Program} {w : World} {A : Around} {E : Value → Shared → Prop} {s : Shared}
/-- what is there once the numbers are in -/
def SetMade (w : World) (s : Shared) (ns : List Int) (s₂ : Shared) : Prop := ∃ h' tk c, s₂ = { s with heap := h', toks := tk } ∧ SetR w h' s.heap.objs.size (fun j => decide (j ∈ ns)) c ∧ c ≤ ns.length ∧ ∀ b o, s.heap.get? b = some o → h'.get? b = some o
theorem ints_at_of {items : Array Value} {ns : List Int} (hit : IntsAre items.toList ns) (z : items.size = ns.length) (i : Nat) (v : Value) (hv : items[i]? = some v) : ∃ k t, ns[i]? = some k ∧ v = .int k t := by
  have hi : i < ns.length := z ▸ (Array.getElem?_eq_some_iff.mp hv).1
  obtain ⟨t, e⟩ := hit.int_at i v (by rw [Array.getElem?_toList]; exact hv)
  refine ⟨ns[i], t, List.getElem?_eq_getElem hi, e.trans ?_⟩
  congr 1
  rw [List.getD_eq_getElem?_getD, List.getElem?_eq_getElem hi]
  rfl
theorem set_init_list {l : Addr} {items : Array Value} {ns : List Int} {R : Result → Shared → Prop} (hh : A.handled = none) (hl : s.heap.IsList l items) (hit : IntsAre items.toList ns) (hb : ns.length + 1 < scanBound)
    (h : ∀ s₂, SetMade w s ns s₂ → R (.ok (.ret .none)) s₂) :
    wpAny (model P w) A.in1 (Builtin.«set.__init__» ⟨[.ref s.heap.objs.size, .ref l], []⟩) (fun fin s' => match fin with | .done f => R (.ok f) s' | .again c' => c'.quiet = true ∧ codeAny (model P w) A c' R s') (fun e s' => R (.error e) s') { s with heap := s.heap.push (noSet w) } := by
  have zs : items.size = ns.length := by have q := IntsAre.length hit; rwa [Array.length_toList] at q
  obtain ⟨⟨oc, od, oda, osl⟩, at0, cl0, nl, da0⟩ := hl
  simp only at cl0 da0
  subst cl0 da0
  have at1 : (s.heap.push (noSet w)).get? l = some _ := Heap.get?_push_of_some _ at0
  have newS : (s.heap.push (noSet w)).get? s.heap.objs.size = some (noSet w) := Heap.get?_push_size _ rfl
  have is1 : (s.heap.push (noSet w)).IsList l items := ⟨_, at1, rfl, nl, rfl⟩
  have n1 := F.sub_list_set
  have n2 := F.sub_list_frozenset
  have n3 : (Value.type "list" == .type "dict") = false := by decide
  have lS : l < s.heap.objs.size := Heap.lt_size at0
  have sz : (s.heap.push (noSet w)).objs.size = s.heap.objs.size + 1 := Heap.size_push ..
  unfold Builtin.«set.__init__» noKeywords Builtin.Frozenset.updateFrom
  generalize ePI : pyIter = PI
  wp_walk
  subst ePI
  refine wpAny_pyIter_list is1 (wpAny_bind (wpAny_runValue ?_))
  have hd : A.in1.in1.handled = none := by simp [hh]
  have ne1 : l ≠ (s.heap.push (noSet w)).objs.size := by rw [sz]; exact Nat.ne_of_lt (Nat.lt_succ_of_lt lS)
  have nf : s.heap.objs.size ∉ [(s.heap.push (noSet w)).objs.size, l] := by
    rw [sz]
    simp only [List.mem_cons, List.not_mem_nil, or_false, not_or]
    exact ⟨Nat.ne_of_lt (Nat.lt_succ_self _), Nat.ne_of_gt lS⟩
  refine set_update_ints ((Walks.list hd _ l ne1 items).toS) s.heap.objs.size nf ns zs hb (ints_at_of hit zs) (items.size - 0) 0 _ (by omega) (Nat.zero_le _) (And.intro ?hI ?hL) ?hS ?hE
  case hI => exact ⟨_, Heap.get?_push_size _ rfl, rfl, rfl⟩
  case hL => exact is1.push _
  case hS => exact ⟨0, Nat.le_refl 0, setR_new_at (Heap.get?_push_of_some _ newS)⟩
  case hE =>
    intro s' c' hm hc' hS'
    obtain ⟨h', g2, d', tk', os'⟩ := s'
    obtain rfl : g2 = s.gens := hm.gens
    obtain rfl : d' = s.drawn := hm.drawn
    obtain rfl : os' = s.os := hm.os
    show wpAny _ _ _ _ _ _
    refine wpAny_pure ?_
    show wpAny _ _ (ret Value.none) _ _ _
    refine wpAny_pure (h _ ⟨h', tk', c', rfl, hS', zs ▸ hc', fun b o e => ?_⟩)
    have lt := Heap.lt_size e
    refine hm.heap b o ?_ (Heap.get?_push_of_some _ (Heap.get?_push_of_some _ e))
    simp only [sz, List.mem_cons, List.not_mem_nil, or_false, not_or]
    exact ⟨Nat.ne_of_lt lt, Nat.ne_of_lt (Nat.lt_succ_of_lt lt)⟩
theorem call_set_listI {l : Addr} {items : Array Value} {ns : List Int} {Q : Value → Shared → Prop} (hh : A.handled = none) (hl : s.heap.IsList l items) (hit : IntsAre items.toList ns) (hb : ns.length + 1 < scanBound)
    (h : ∀ s₂, SetMade w s ns s₂ → Q (.ref s.heap.objs.size) s₂) : wpAny (model P w) A (call (.type "set") [.ref l]) Q E s := by
  obtain ⟨mc, mt, mro⟩ := F.called_set.mro
  have t1 := F.called_set.made
  have t2 := F.called_set.sub
  have t3 := F.called_set.notType
  have t4 := F.called_set.canCreate
  have t5 := F.typeCall_set_1 (.ref l)
  refine wpAny_call (codeAny_of_tree (show wpAny _ _ (callAny (.type "set") _) _ _ _ from wpAny_pure ⟨Code.quiet_builtin _ (by decide +kernel), codeAny_builtin F.entry_type_call ?_⟩))
  rw [Around.under_plain (weight_type_call_type "set" [.ref l] []) rfl]
  repeat (any_goals (first | (assumption) | wp_step))
  refine codeAny_mono (code_set_led1 (.ref l) (E := E) (Q₁ := fun obj s₁ => obj = .ref s.heap.objs.size ∧ s₁ = { s with heap := s.heap.push (noSet w) }) ⟨rfl, rfl⟩) fun r s₁ hr => ?_
  rcases r with e | (u | u | u | obj)
  · exact hr
  all_goals try exact hr.elim
  obtain ⟨rfl, rfl⟩ := hr
  have newS : (s.heap.push (noSet w)).get? s.heap.objs.size = some (noSet w) := Heap.get?_push_size _ rfl
  have ty : Shared.TypeIs { s with heap := s.heap.push (noSet w) } (.ref s.heap.objs.size) "set" := ⟨_, newS, rfl⟩
  have i1 := F.called_set.init.lookup
  have i2 := F.called_set.init.bind (.ref s.heap.objs.size)
  repeat (any_goals (first | (assumption) | wp_step))
  refine codeAny_mono (codeAny_call_builtin (R := wants (fun r s₂ => r = .none ∧ SetMade w s ns s₂) E) F.called_set.init.plain F.entry_set_init (check_set_init_1 ty (set_init_list hh hl hit hb fun s₂ z => ⟨rfl, z⟩))) fun r s₂ hr => ?_
  rcases r with e | (u | u | u | obj)
  · exact hr
  all_goals try exact hr.elim
  obtain ⟨rfl, z⟩ := hr
  obtain ⟨h', tk, c', rfl, z2⟩ := id z
  repeat (any_goals (first | (assumption) | wp_step))
  exact h _ z
end
end L2
namespace Dg
open PySem PySem.Spec PyProof.Rows L2 L2H LamX
/-- set(l) of a list of numbers -/
def rSetLI (K : PySem.W.Frag) (w : World) : List V → Hp → VK → Prop := fun xs H Q => ∃ (l : Addr) (ns : List Int), xs = [.ref l] ∧ SqL K H l (ns.map V.int) ∧ ns.length < 4000 ∧ ∀ D H', H D = none → Same H H' → SetI w D ns H' → Q (.ref D) H'
section
variable {X : Cx}
theorem cr_setLI (hc : X.calm = true) : CallR X (.type "set") (rSetLI X.K X.w) := by
  intro pins s σ H xs us Q I r h
  obtain ⟨l, ns, rfl, hs, hn, q⟩ := h
  rw [Vals.ref1 r]
  obtain ⟨its, rv, pl, _⟩ := I.list hs
  refine call_set_listI (I.ok.hd hc) pl.isList (by simpa using Vals.ints rv) (by unfold scanBound; omega) fun s₂ z => ?_
  obtain ⟨h', tk, c, rfl, R, hcn, keep⟩ := z
  have hD : H s.heap.objs.size = none := I.hok.fresh (Nat.le_refl _)
  refine ⟨.ref _, upd H s.heap.objs.size (SetO X.w s.heap.objs.size (fun j => decide (j ∈ ns)) c), I.laid (t' := tk) keep (Nat.le_refl _) (setO_new R), rfl, q _ _ hD (fun b u e => ?_) ⟨_, c, upd_same, fun k => decide_eq_true_iff, hcn⟩⟩
  rw [upd_ne (ne_of_none e hD)]
  exact e
theorem callSetL {K : PySem.W.Frag} {w : World} (hc : X.calm = true) (h : X.K = K) (hw : X.w = w) : CallR X (.type "set") (rSetLI K w) := h ▸ hw ▸ cr_setLI hc
end
theorem r_setNs {K : PySem.W.Frag} {w : World} {l : Addr} {ns : List Int} {H : Hp} {Q : VK} (h : SqL K H l (ns.map V.int)) (hn : ns.length < 4000) (q : ∀ D H', H D = none → Same H H' → SetI w D ns H' → Q (.ref D) H') : rSetLI K w [.ref l] H Q := ⟨l, ns, rfl, h, hn, q⟩
end Dg
namespace Dg
open PySem PySem.Spec PyProof.Rows L2 L2H LamX
theorem pe_bmK {K : PySem.W.Frag} {X : Cx} {o e : Expr} {es : List Expr} {to : TE} {t : TA} {name : Str} {apos cpos : Pos} {T id : String} {r : V → List V → Hp → VK → Prop} (hK : X.K = K) (pa : PlainAttrs T) (slot : Slot T name id) (hty : typeOf (.builtin id) = pure (.type "method_descriptor")) (hm : MtR X id r) (ho : PE X o to) (ha : PA X (e :: es) t)
    (b1 : attributeBase o name X.env (eval o X.env) = eval o X.env := by rfl) (b2 : ((backTo cpos (starEach (e :: es) X.env)).all (fun x => !x.1) && (backToKw cpos (keywordEach [] X.env)).all (fun x => x.1.isSome) && decide ((e :: es).length + ([] : List Keyword).length + (if ([] : List Keyword).isEmpty then 0 else 1) < 30)) = true := by rfl)
    (b3 : (apos.endLine == cpos.line) = true := by rfl) (b4 : starEach (e :: es) X.env = (false, eval e X.env) :: starEach es X.env := by rfl) (b5 : (backTo cpos (starEach es X.env)).any (·.1) = false := by rfl) : PE X (.Call (.Attribute o name apos) (e :: es) [] cpos) (tBM K T r to t) :=
  hK ▸ pe_bm pa slot hty hm ho ha b1 b2 b3 b4 b5
end Dg

namespace Dg
open PySem PySem.Spec PyProof.Rows L2 L2H LamX
/-! ### a list beside the empty one, whatever it holds -/
def rNeL0 (K : PySem.W.Frag) : R2 := fun x y H Q => ∃ a b xs, x = .ref a ∧ y = .ref b ∧ SqL K H a xs ∧ SqL K H b [] ∧ Q (.bl (!decide (xs = []))) H
section
variable {X : Cx}
theorem op_neL0 (hu : X.A.units + 64 < cLine) : OpR X (compareOp .NotEq) (rNeL0 X.K) := by
  intro pins s σ H x y v u Q I rx ry h
  obtain ⟨a, b, xs, rfl, rfl, ha, hb, q⟩ := h
  cases rx
  cases ry
  obtain ⟨its, r1, p1, _⟩ := I.list ha
  obtain ⟨its2, r2, p2, _⟩ := I.list hb
  cases r2
  cases r1 with
  | nil =>
    have z := SeqAt.RcNeAt.lists (A := X.A) (s := s) (e := fun _ => true) p1.isList p2.isList rfl (by omega) (fun j h1 h2 => absurd h2 (by simp))
    exact z X.prog X.w X.xe _ ⟨.bl _, H, I, rfl, q⟩
  | cons r t =>
    have z := SeqAt.RcNeAt.lists_lengths (A := X.A) (s := s) p1.isList p2.isList (by simp) (by omega)
    exact z X.prog X.w X.xe _ ⟨.bl _, H, I, rfl, q⟩
def rNeL (K : PySem.W.Frag) : R2 := fun x y H Q => rNeA K x y H Q ∨ rNeL0 K x y H Q
theorem opNeL {K : PySem.W.Frag} {k : Nat} (hr : Room k X.A) (h : X.K = K) : OpR X (compareOp .NotEq) (rNeL K) := h ▸ (opNe hr).or (op_neL0 hr.units)
end
theorem r_neL {K : PySem.W.Frag} {H : Hp} {Q : VK} {x y : V} (h : rNeA K x y H Q) : rNeL K x y H Q := .inl h
theorem r_neL0 {K : PySem.W.Frag} {H : Hp} {Q : VK} {a b : Addr} {xs : List V} (ha : SqL K H a xs) (hb : SqL K H b []) (q : Q (.bl (!decide (xs = []))) H) : rNeL K (.ref a) (.ref b) H Q := .inr ⟨a, b, xs, rfl, rfl, ha, hb, q⟩
/-! ### lists of lists of numbers -/
abbrev Lls := List (Addr × List Int)
def refL (cs : Lls) : List V := cs.map fun c => V.ref c.1
def LlsAt (H : Hp) (cs : Lls) : Prop := ∀ c ∈ cs, H c.1 = some (.lst (c.2.map V.int))
theorem LlsAt.same {H H' : Hp} {cs : Lls} (s : Same H H') (h : LlsAt H cs) : LlsAt H' cs := fun c hc => s _ _ (h c hc)
theorem LlsAt.but {H H' : Hp} {cs : Lls} {l : Addr} (s : But l H H') (n : H l = none) (h : LlsAt H cs) : LlsAt H' cs := fun c hc => s _ _ (fun z => by have := h c hc; rw [z, n] at this; cases this) (h c hc)
theorem LlsAt.snoc {H : Hp} {cs : Lls} {a : Addr} {l : List Int} (h : LlsAt H cs) (e : H a = some (.lst (l.map V.int))) : LlsAt H (cs ++ [(a, l)]) := fun c hc => by
  rcases List.mem_append.mp hc with hc | hc
  · exact h c hc
  · rw [List.mem_singleton.mp hc]
    exact e
theorem LlsAt.app {H : Hp} {cs ds : Lls} (h : LlsAt H cs) (e : LlsAt H ds) : LlsAt H (cs ++ ds) := fun c hc => (List.mem_append.mp hc).elim (h c) (e c)
theorem refL_at {cs : Lls} {j : Nat} {v : V} (h : (refL cs)[j]? = some v) : ∃ c, cs[j]? = some c ∧ v = .ref c.1 := by
  unfold refL at h
  rw [List.getElem?_map] at h
  obtain ⟨r, hr, rfl⟩ := Option.map_eq_some_iff.mp h
  exact ⟨r, hr, rfl⟩
theorem refL_app (cs ds : Lls) : refL (cs ++ ds) = refL cs ++ refL ds := by unfold refL; rw [List.map_append]
theorem refL_len (cs : Lls) : (refL cs).length = cs.length := by unfold refL; rw [List.length_map]
/-! ### parts of a list, by how many they are -/
theorem sub_snoc {c l : List Int} {x : Int} : c.Sublist (l ++ [x]) ↔ c.Sublist l ∨ ∃ d, c = d ++ [x] ∧ d.Sublist l := by
  constructor
  · intro h
    obtain ⟨c1, c2, rfl, h1, h2⟩ := List.sublist_append_iff.mp h
    rcases c2 with _ | ⟨y, t⟩
    · exact .inl (by rw [List.append_nil]; exact h1)
    · have l2 := h2.length_le
      have : t = [] := List.eq_nil_of_length_eq_zero (by simp at l2; exact List.length_eq_zero_iff.mpr l2)
      subst this
      have e : [y] = [x] := h2.eq_of_length rfl
      injection e with e
      subst e
      exact .inr ⟨c1, rfl, h1⟩
  · rintro (h | ⟨d, rfl, h⟩)
    · exact h.trans (List.sublist_append_left _ _)
    · exact h.append (List.Sublist.refl _)
/-- what may become a part of m -/
def Cand (ss : List Int) (i : Nat) (m : Int) (cs : Lls) : Prop := (∀ c ∈ cs, c.2.Sublist (ss.take i) ∧ (c.2.length : Int) ≤ m) ∧
  ∀ d : List Int, d.Sublist (ss.take i) → (d.length : Int) ≤ m → m ≤ d.length + ss.length - i → ∃ c ∈ cs, c.2 = d
theorem Cand.step {ss : List Int} {i : Nat} {m x : Int} {cs ls ks : Lls} (h : Cand ss i m cs) (hx : ss[i]? = some x)
    (l1 : ∀ c ∈ ls, ∃ d ∈ cs, c.2 = d.2 ++ [x] ∧ (d.2.length : Int) < m) (l2 : ∀ d ∈ cs, (d.2.length : Int) < m → ∃ c ∈ ls, c.2 = d.2 ++ [x])
    (ek : ks = cs.filter fun c => decide ((c.2.length : Int) + ss.length - i - 1 ≥ m)) : Cand ss (i + 1) m (ks ++ ls) := by
  have il : i < ss.length := (List.getElem?_eq_some_iff.mp hx).1
  refine ⟨fun c hc => ?_, fun d hd h1 h2 => ?_⟩
  · rcases List.mem_append.mp hc with hc | hc
    · rw [ek] at hc
      obtain ⟨a, b⟩ := h.1 c (List.mem_filter.mp hc).1
      rw [take_snoc hx]
      exact ⟨a.trans (List.sublist_append_left _ _), b⟩
    · obtain ⟨d, hd, e, lt⟩ := l1 c hc
      obtain ⟨a, b⟩ := h.1 d hd
      rw [take_snoc hx, e]
      refine ⟨a.append (List.Sublist.refl _), ?_⟩
      rw [List.length_append, List.length_singleton]
      omega
  · rw [take_snoc hx] at hd
    rcases sub_snoc.mp hd with hd | ⟨d', rfl, hd2⟩
    · obtain ⟨c, hc, e⟩ := h.2 d hd h1 (by omega)
      refine ⟨c, List.mem_append_left _ ?_, e⟩
      rw [ek]
      exact List.mem_filter.mpr ⟨hc, decide_eq_true (by rw [e]; omega)⟩
    · rw [List.length_append, List.length_singleton] at h1 h2
      obtain ⟨c, hc, e⟩ := h.2 d' hd2 (by omega) (by omega)
      obtain ⟨c', hc', e'⟩ := l2 c hc (by rw [e]; omega)
      exact ⟨c', List.mem_append_right _ hc', by rw [e', e]⟩
/-! ### places that have ties left, and what is left behind some -/
def posn : Nat → List Int → List Int
  | _, [] => []
  | o, x :: r => if 0 < x then (o : Int) :: posn (o + 1) r else posn (o + 1) r
def decAt : Nat → List Int → List Int → List Int
  | _, [], _ => []
  | o, x :: r, ch => (x - if (o : Int) ∈ ch then 1 else 0) :: decAt (o + 1) r ch
theorem posn_snoc {x : Int} : ∀ {r : List Int} {o : Nat}, posn o (r ++ [x]) = posn o r ++ if 0 < x then [((o + r.length : Nat) : Int)] else []
  | [], o => by
    show (if 0 < x then [(o : Int)] else []) = _
    rfl
  | y :: r, o => by
    show (if 0 < y then (o : Int) :: posn (o + 1) (r ++ [x]) else posn (o + 1) (r ++ [x])) = (if 0 < y then (o : Int) :: posn (o + 1) r else posn (o + 1) r) ++ _
    rw [posn_snoc, show o + 1 + r.length = o + (y :: r).length by rw [List.length_cons]; omega]
    split <;> rfl
theorem posn_ge : ∀ {r : List Int} {o : Nat}, ∀ k ∈ posn o r, (o : Int) ≤ k
  | [], _, _, h => by cases h
  | x :: r, o, k, h => by
    unfold posn at h
    split at h
    · rcases List.mem_cons.mp h with e | h
      · omega
      · have := posn_ge k h
        omega
    · have := posn_ge k h
      omega
theorem posn_len : ∀ {r : List Int} {o : Nat}, (posn o r).length ≤ r.length
  | [], _ => Nat.le_refl _
  | x :: r, o => by
    unfold posn
    have := posn_len (r := r) (o := o + 1)
    split
    · rw [List.length_cons, List.length_cons]; omega
    · rw [List.length_cons]; omega
theorem decAt_snoc {x : Int} {ch : List Int} : ∀ {r : List Int} {o : Nat}, decAt o (r ++ [x]) ch = decAt o r ch ++ [x - if ((o + r.length : Nat) : Int) ∈ ch then 1 else 0]
  | [], o => rfl
  | y :: r, o => by
    show (y - if (o : Int) ∈ ch then 1 else 0) :: decAt (o + 1) (r ++ [x]) ch = ((y - if (o : Int) ∈ ch then 1 else 0) :: decAt (o + 1) r ch) ++ _
    rw [decAt_snoc, show o + 1 + r.length = o + (y :: r).length by rw [List.length_cons]; omega]
    rfl
theorem decAt_len {ch : List Int} : ∀ {r : List Int} {o : Nat}, (decAt o r ch).length = r.length
  | [], _ => rfl
  | x :: r, o => by
    show (decAt (o + 1) r ch).length + 1 = r.length + 1
    rw [decAt_len]
theorem decAt_drop {ch : List Int} : ∀ {k : Nat} {r : List Int} {o : Nat}, (decAt o r ch).drop k = decAt (o + k) (r.drop k) ch
  | 0, _, _ => rfl
  | k + 1, [], _ => rfl
  | k + 1, x :: r, o => by
    show (decAt (o + 1) r ch).drop k = decAt (o + (k + 1)) (r.drop k) ch
    rw [decAt_drop, show o + 1 + k = o + (k + 1) by omega]
theorem decAt_cons {c : List Int} {a : Nat} : ∀ {r : List Int} {o : Nat}, a < o → decAt o r ((a : Int) :: c) = decAt o r c
  | [], _, _ => rfl
  | x :: r, o, h => by
    show (x - if (o : Int) ∈ (a : Int) :: c then 1 else 0) :: decAt (o + 1) r ((a : Int) :: c) = (x - if (o : Int) ∈ c then 1 else 0) :: decAt (o + 1) r c
    rw [decAt_cons (by omega)]
    have e : (o : Int) ∈ (a : Int) :: c ↔ (o : Int) ∈ c := by
      rw [List.mem_cons]
      constructor
      · rintro (e | e)
        · omega
        · exact e
      · exact .inr
    simp only [e]
theorem less_of : ∀ {r : List Int} {o : Nat} {ch : List Int}, ch.Sublist (posn o r) → Less1 ch.length r (decAt o r ch)
  | [], o, ch, h => by
    have : ch = [] := List.sublist_nil.mp h
    subst this
    exact .nil
  | x :: r, o, ch, h => by
    unfold posn at h
    have out : ∀ {c : List Int}, c.Sublist (posn (o + 1) r) → ((o : Nat) : Int) ∉ c := fun hc m => by have := posn_ge _ (hc.subset m); omega
    split at h
    case isTrue c0 =>
      rcases List.sublist_cons_iff.mp h with h | ⟨c, rfl, h2⟩
      · have := less_of h
        show Less1 _ _ ((x - if (o : Int) ∈ ch then 1 else 0) :: _)
        rw [if_neg (out h), Int.sub_zero]
        exact .keep this
      · have := less_of h2
        show Less1 (c.length + 1) _ ((x - if (o : Int) ∈ (o : Int) :: c then 1 else 0) :: decAt (o + 1) r ((o : Int) :: c))
        rw [if_pos List.mem_cons_self, decAt_cons (by omega)]
        exact .take c0 this
    case isFalse =>
      have := less_of h
      show Less1 _ _ ((x - if (o : Int) ∈ ch then 1 else 0) :: _)
      rw [if_neg (out h), Int.sub_zero]
      exact .keep this
theorem less_to {n : Nat} {r s : List Int} (h : Less1 n r s) : ∀ o : Nat, ∃ ch : List Int, ch.Sublist (posn o r) ∧ ch.length = n ∧ decAt o r ch = s := by
  induction h with
  | nil => exact fun o => ⟨[], .slnil, rfl, rfl⟩
  | @keep n x r s _ ih =>
    intro o
    obtain ⟨ch, h1, h2, h3⟩ := ih (o + 1)
    refine ⟨ch, ?_, h2, ?_⟩
    · unfold posn
      split
      · exact h1.trans (List.sublist_cons_self _ _)
      · exact h1
    · show (x - if (o : Int) ∈ ch then 1 else 0) :: decAt (o + 1) r ch = x :: s
      rw [if_neg (fun m => by have := posn_ge _ (h1.subset m); omega), Int.sub_zero, h3]
  | @take n x r s c _ ih =>
    intro o
    obtain ⟨ch, h1, h2, h3⟩ := ih (o + 1)
    refine ⟨(o : Int) :: ch, ?_, by rw [List.length_cons, h2], ?_⟩
    · unfold posn
      rw [if_pos c]
      exact h1.cons₂ _
    · show (x - if (o : Int) ∈ (o : Int) :: ch then 1 else 0) :: decAt (o + 1) r ((o : Int) :: ch) = (x - 1) :: s
      rw [if_pos List.mem_cons_self, decAt_cons (by omega), h3]
/-- one place's ties are chosen -/
def StepW (i : Nat) (l l' : List Int) : Prop := ∃ (ch : List Int) (x : Int), l[i]? = some x ∧ ch.Sublist (posn (i + 1) (l.drop (i + 1))) ∧ (ch.length : Int) = x ∧ l' = decAt 0 l ch
theorem StepW.web {i : Nat} {l : List Int} (hi : i < l.length) : Web (l.drop i) ↔ ∃ l', StepW i l l' ∧ Web (l'.drop (i + 1)) := by
  have e : l.drop i = l[i] :: l.drop (i + 1) := List.drop_eq_getElem_cons hi
  constructor
  · intro h
    rw [e] at h
    obtain ⟨d, s, hd, h1, h2⟩ := h.inv
    obtain ⟨ch, c1, c2, c3⟩ := less_to h1 (i + 1)
    refine ⟨_, ⟨ch, _, List.getElem?_eq_getElem hi, c1, by rw [c2, hd], rfl⟩, ?_⟩
    rw [decAt_drop, Nat.zero_add, c3]
    exact h2
  · rintro ⟨l', ⟨ch, x, hx, c1, c2, rfl⟩, h⟩
    rw [List.getElem?_eq_getElem hi] at hx
    have hx' := Option.some.inj hx
    rw [decAt_drop, Nat.zero_add] at h
    rw [e, hx', ← c2]
    exact .cons (less_of c1) h
theorem StepW.len {i : Nat} {l l' : List Int} (h : StepW i l l') : l'.length = l.length := by
  obtain ⟨_, _, _, _, _, rfl⟩ := h
  exact decAt_len
end Dg

namespace PySem.W
open PySem PySem.Spec PyProof.Rows
section
variable {prog : Program} {w : World} {A : Around} {E : Value → Shared → Prop} {s : Shared} {K : Frag} {x C L f : Addr} {h₀ : Heap} {m : Str → Option Value} {ox : Obj} {od : Option Obj}
/-- an instance is shown below a list -/
theorem under_K {Q : Str → Shared → Prop} {b : Nat} (hb : b ≤ sizeLine) (hu : A.units < cLine) (X : K.In s.heap) (I : InstAt s.heap x ox C od) (hs : findIn K (.ref C) "__repr__" = some (some (.ref f))) (hf : isFn K (.ref f) = true)
    (h : wpAny (model prog w) A (call (.ref f) [.ref x]) (StrBack fun v s' => ∃ z u, v = .str z u ∧ Q z s') E s) : wpAny (model prog w) A (pyReprUnder b (.ref x)) Q E s := by
  refine wpAny_pyReprUnder_ref hb ?_
  unfold pyReprObjUnder pyReprObjBy
  refine wpAny_bind (wpAny_cRoomFor hu (wpAny_bind (wpAny_bind (I.type.here ((looks_findIn X hs).here ?_)))))
  show wpAny _ _ (if (some (Value.ref f)).isNone = true then _ else _) _ _ _
  rw [if_neg (by simp)]
  have fin : wpAny (model prog w) A (call (.ref f) ([.ref x] ++ []) >>= fun v => pure (some v)) (fun r s' => ∃ v, r = some v ∧ StrBack (fun v s' => ∃ z u, v = .str z u ∧ Q z s') v s') E s :=
    wpAny_bind (wpAny_mono h (fun v s' z => wpAny_pure ⟨v, rfl, z⟩) fun _ _ e => e)
  have one : wpAny (model prog w) A (callSpecialIfBoundBy? (fun g first => match reprUnder? g, first with
      | some twin, [self] => call twin [self, rawInt b]
      | _, _ => call g (first ++ [])) (.ref x) (Str.ofString "__repr__")) (fun r s' => ∃ v, r = some v ∧ StrBack (fun v s' => ∃ z u, v = .str z u ∧ Q z s') v s') E s := by
    simp only [callSpecialIfBoundBy?, bindSpecialIfBound?]
    refine wpAny_holding (wpAny_bind (wpAny_bind (wpAny_bind (I.type.here ((looks_findIn X hs).here ?_)))))
    refine wpAny_bind (wpAny_askSetting (wpAny_ite ?_))
    split
    · exact wpAny_bind ((bind_fn X _ (beq_iff_eq.mp hf)).here (wpAny_pure (by exact fin)))
    · exact wpAny_tryCatch (wpAny_bind ((bind_fn X _ (beq_iff_eq.mp hf)).here (wpAny_pure (by exact fin))))
  refine wpAny_bind (wpAny_mono one (fun r s' z => ?_) fun _ _ e => e)
  obtain ⟨v, rfl, hv⟩ := z
  cases v <;> first | exact hv.elim | skip
  obtain ⟨z, u, e, q⟩ := hv
  exact wpAny_bind (wpAny_isInstance (typeIs_str _ _ _) isSubtype_str_str (wpAny_pure ⟨z, u, e, q⟩))
end
end PySem.W
namespace Dg
open PySem PySem.Spec PyProof.Rows L2 L2H LamX
abbrev emptyL : Obj := { cls := .type "list", dict := none, data := .seq #[] 0, slots := #[] }
/-- repr of a list of one thing that runs code of its own -/
theorem repr_one {prog : Program} {w : World} {A : Around} {E : Value → Shared → Prop} {s : Shared} {a : Addr} {x : Value} {na : Nat} {g : List Code} {Q : Value → Shared → Prop} (hg : A.guards = some g) (hu : A.units + 8 < cLine) (hcl : Clear g a)
    (ha : s.heap.get? a = some { cls := .type "list", data := .seq #[x] na })
    (h : ∀ A' : Around, A'.guards = some (Code.builtin "list.__repr__.loop" ⟨[.ref a, rawInt 0, .ref s.heap.objs.size, rawInt 0], []⟩ :: g) → A'.handled = A.handled → A'.depth ≤ A.depth + 3 → A'.units ≤ A.units + 3 → A'.frames = A.frames →
      wpAny (model prog w) A' (pyReprUnder 1 x) (fun z s2 => z.length ≤ 100000 ∧ s2.heap.get? s.heap.objs.size = some emptyL ∧ (∃ na', s2.heap.get? a = some { cls := .type "list", data := .seq #[x] na' }) ∧
        ∀ h' u tk, (∀ b o, b ≠ s.heap.objs.size → s2.heap.get? b = some o → h'.get? b = some o) → Q (.str (listText [z]) u) { s2 with heap := h', toks := tk }) E { s with heap := s.heap.push emptyL }) :
    wpAny (model prog w) A (call (.builtin "repr") [.ref a]) Q E s := by
  have hT : s.TypeIs (.ref a) "list" := ⟨_, ha, rfl⟩
  have hP : a ≠ s.heap.objs.size := Nat.ne_of_lt (Heap.lt_size ha)
  refine call_repr_slot (by omega) hT F.slot_list_repr.toG ?_
  refine wpAny_call (codeAny_call_builtin F.slot_list_repr.plain F.entry_list_repr (F.slot_list_repr.check _ _ _ _ _ _ _ _ hT (F.args_list_repr_1 _) ?_))
  refine wpAny_list_repr_head (l := []) (g := g) hg (fun v rest kw hm => listSameRef_of_ne (hcl _ _ _ _ hm)) ha rfl ?_
  refine wpAny_bind (m := newList []) (wpAny_newObj_type (wpAny_pure ⟨F.quiet_list_repr_loop _, codeAny_builtin F.entry_list_repr_loop ?_⟩))
  have haP : (s.heap.push emptyL).get? a = some _ := Heap.get?_push_of_some _ ha
  show wpAny _ _ (Builtin.«list.__repr__.loop» ⟨[.ref a, .int 0 0, .ref s.heap.objs.size, .int 0 0], []⟩) _ _ _
  rw [repr_loop_tree]
  refine wpAny_bind (wpAny_listItems haP rfl ?_)
  show wpAny _ _ (do
      let z ← holding [x] (pyReprUnder 1 x)
      let signs := (0 : Int).toNat + (z.length + 2)
      let r ← mkStr z
      Builtin.List.listUpdate (.ref s.heap.objs.size) (·.push r)
      again (.builtin "list.__repr__.loop" ⟨[.ref a, rawInt (0 + 1), .ref s.heap.objs.size, rawInt signs], []⟩)) _ _ _
  refine wpAny_bind (wpAny_holding (wpAny_mono (h _ (guards_under_guard (isGuard_list_loop _) hg) rfl (by show A.depth + Code.weight _ ≤ _; exact Nat.add_le_add_left (show Code.weight _ ≤ 3 from Nat.le_trans (Nat.le_of_eq (by first | rfl | simp [Code.weight])) (by decide : 1 ≤ 3)) _) (by rw [units_under_list_loop]; show A.units + 1 + 1 ≤ _; omega) rfl) (fun z s2 hz => ?_) fun _ _ e => e))
  obtain ⟨zl, hP2, ⟨na', ha2⟩, fin⟩ := hz
  have big : (100000 : Nat) ≤ sizeLine := by decide
  refine wpAny_bind (wpAny_mkStr ?_ (Nat.le_trans zl big))
  refine wpAny_bind ?_
  show wpAny _ _ (updateSeq s.heap.objs.size _) _ _ _
  refine wpAny_updateSeq hP2 rfl (wpAny_pure ⟨F.quiet_list_repr_loop _, codeAny_builtin F.entry_list_repr_loop ?_⟩) (by decide)
  have get2 : ((s2.heap.update s.heap.objs.size (Obj.mapSeq fun x => x.push (Value.str z s2.toks)))).get? a = some _ := (Heap.get?_update_other _ _ (fun e => hP e.symm)).trans ha2
  show wpAny _ _ (Builtin.«list.__repr__.loop» ⟨[.ref a, .int 1 0, .ref s.heap.objs.size, .int _ 0], []⟩) _ _ _
  rw [repr_loop_tree]
  refine wpAny_bind (wpAny_listItems get2 rfl ?_)
  show wpAny _ _ (reprEnd (.ref s.heap.objs.size)) _ _ _
  unfold reprEnd
  refine wpAny_bind (wpAny_listItems (Heap.get?_update_self _ hP2 rfl) rfl ?_)
  have e1 : ((#[] : Array Value).push (Value.str z s2.toks)).toList = strValues [(z, s2.toks)] := rfl
  rw [e1, repr_fold]
  refine wpAny_bind (wpAny_pure (wpAny_bind (wpAny_mkStr (wpAny_pure ?_) ?_)))
  · exact ⟨_, _, rfl, fin _ _ _ fun b o nb e => (Heap.get?_update_other _ _ (fun y => nb y.symm)).trans e⟩
  · show ((("[" : Str) ++ ("" : Str) ++ z) ++ ("]" : Str)).length ≤ _
    rw [strLen_append, strLen_append, strLen_append]
    have b2 : (100002 : Nat) ≤ sizeLine := by decide
    have e2 : ("[" : Str).length = 1 := rfl
    have e3 : ("" : Str).length = 0 := rfl
    have e4 : ("]" : Str).length = 1 := rfl
    omega
/-- repr of a list of one Row -/
def rReprR1 (C : Addr) (sp : Sp) (E : XK) : List V → Hp → VK → Prop := fun xs H Q => ∃ L a dx fs, xs = [.ref L] ∧ H L = some (.lst [.ref a]) ∧ H a = some (.ins C dx fs) ∧ sp [.ref a] H (fun v H' => ∃ z : Str, v = .str z ∧ z.length ≤ 100000 ∧ H' = H ∧ Q (.str (listText [z])) H) E
section
variable {X : Cx} {CX : CXT} {n : Nat} {C f : Addr} {fd : FuncData} {ps : List Str} {sp : Sp} {E : XK}
/-- what the repr of a list of one Row asks of the Row's own __repr__ -/
theorem repr_r1 (hs : PySem.W.findIn X.K (.ref C) "__repr__" = some (some (.ref f))) (hf : PySem.W.isFn X.K (.ref f) = true) (hg : X.A.guards = some []) (hu : X.A.units + 16 < cLine)
    (own : ∀ {A : Around} {pins : List (Addr × Obj)} {s : Shared} {σ : L2.St} {H : Hp} {a : Addr} {Q : VK} {R : Value → Shared → Prop}, A.handled = X.A.handled → A.depth ≤ X.A.depth + 3 → A.units ≤ X.A.units + 3 → A.frames = X.A.frames → Inv X pins σ H s → sp [.ref a] H Q E →
      (∀ v u H' s', Inv X pins σ H' s' → RelV v u → Q v H' → R u s') → wpAny (model X.prog X.w) A (call (.ref f) [.ref a]) R X.xe s) : CallR X (.builtin "repr") (rReprR1 C sp E) := by
  intro pins s σ H xs us Q I r h
  obtain ⟨L, a, dx, fs, rfl, hL, ha, hsp⟩ := h
  obtain rfl := Vals.ref1 r
  obtain ⟨_, its, na, rv, e⟩ := I.hok _ _ hL
  have eits : its = [Value.ref a] := by
    cases rv with
    | cons h t =>
      cases t
      have h' : _ = Value.ref a := h
      rw [h']
  subst eits
  refine repr_one hg (by omega) (Clear.nil L) e fun A' g1 g2 g3 g4 g5 => ?_
  have hn : H s.heap.objs.size = none := I.hok.fresh (Nat.le_refl _)
  have I1 : Inv X pins σ H { s with heap := s.heap.push emptyL } := I.kept (t' := s.toks) fun b u z => Heap.get?_push_of_some _ z
  have fP : FpOk X pins H s.heap.objs.size := I.fpOk (Nat.le_refl _) hn
  have newP : (s.heap.push emptyL).get? s.heap.objs.size = some emptyL := Heap.get?_push_size _ rfl
  have I2 := I1.pinned (fp := [s.heap.objs.size]) (fun b hb => by rw [List.mem_singleton.mp hb]; exact fP) (fun b hb => by rw [List.mem_singleton.mp hb]; exact ⟨_, newP, fun v z => by cases z⟩)
  obtain ⟨mA, J, _⟩ := ins_get I2.hok ha
  obtain ⟨od, J, _⟩ := J.look
  refine PySem.W.under_K (by decide) (by omega) I2.kIn J hs hf (own g2 g3 g4 g5 I2 hsp fun v u H' s' I' rv z => ?_)
  obtain ⟨y, ez, zl, eH, q⟩ := z
  subst ez eH
  obtain ⟨t, rfl⟩ := rv
  have pin := I'.pin (s.heap.objs.size, emptyL) (List.mem_append_right _ (List.mem_append_right _ (mem_pinsAt List.mem_cons_self newP)))
  have I3 : Inv X pins σ H' s' := I'.pins_of fun p hp => I'.pin p (List.mem_append_right _ (List.mem_append_left _ hp))
  have got : ∃ na', s'.heap.get? L = some { cls := .type "list", data := .seq #[Value.ref a] na' } := by
    obtain ⟨_, its2, na2, rv2, e2⟩ := I3.hok _ _ hL
    have eits : its2 = [Value.ref a] := by
      cases rv2 with
      | cons h t =>
        cases t
        have h' : _ = Value.ref a := h
        rw [h']
    subst eits
    exact ⟨na2, e2⟩
  refine ⟨y, t, rfl, zl, pin.1, got, fun h' u tk keep => ?_⟩
  have fP' : FpOk X pins H' s.heap.objs.size := ⟨pin.2.1, fP.2⟩
  exact ⟨.str _, H', I3.turnedL (ch := [s.heap.objs.size]) (fun b o nb z => keep b o (fun y => nb (y ▸ List.mem_cons_self)) z) fun b hb => by rw [List.mem_singleton.mp hb]; exact fP', ⟨u, rfl⟩, q⟩
end
end Dg
namespace Dg
open PySem PySem.Spec PyProof.Rows L2 L2H LamX
section
variable {X : Cx} {CX : CXT} {n : Nat} {C f : Addr} {fd : FuncData} {ps : List Str} {sp : Sp} {E : XK} {K : PySem.W.Frag}
theorem call_reprR1 (F : FnOk X.prog X.w X.K X.mg X.base CX n f fd ps sp) (hb : Binds X.K fd ps []) (hs : PySem.W.findIn X.K (.ref C) "__repr__" = some (some (.ref f))) (hf : PySem.W.isFn X.K (.ref f) = true) (hg : X.A.guards = some []) (hr : Room (n + 1) X.A) (hx : Passes CX X E) : CallR X (.builtin "repr") (rReprR1 C sp E) :=
  repr_r1 hs hf hg (by have := hr.un; omega) fun {A} {pins} {s} {σ} {H} {a} {Q} {R} h1 h2 h3 h4 I h hR =>
    own_any (A := A) F hb hx ⟨h1.trans hr.hd, by have := hr.dp; omega, by have := hr.un; omega⟩ h4 I (vs := [V.ref a]) (.cons rfl .nil) h hR
theorem call_reprR1P {p : Addr × Obj} (F : FnP X.prog X.w X.K X.mg X.base n f fd ps sp) (hb : Binds X.K fd ps []) (hs : PySem.W.findIn X.K (.ref C) "__repr__" = some (some (.ref f))) (hf : PySem.W.isFn X.K (.ref f) = true) (hg : X.A.guards = some []) (hr : RoomH (n + 1) X.A) (hp : p ∈ X.pn) : CallR X (.builtin "repr") (rReprR1 C sp E0) :=
  repr_r1 hs hf hg (by have := hr.un; omega) fun {A} {pins} {s} {σ} {H} {a} {Q} {R} h1 h2 h3 h4 I h hR =>
    own_anyP (A := A) F hb ⟨by have := hr.dp; omega, by have := hr.un; omega⟩ hp h4 I (vs := [V.ref a]) (.cons rfl .nil) h hR
/-- repr of data, of a Row, of a list of one -/
def rReprM (K : PySem.W.Frag) (C : Addr) (sp : Sp) (E : XK) : List V → Hp → VK → Prop := fun xs H Q => (rReprX K xs H Q ∨ rStrO C sp E xs H Q) ∨ rReprR1 C sp E xs H Q
theorem call_reprM (hK : X.K = K) (F : FnOk X.prog X.w X.K X.mg X.base CX n f fd ps sp) (hb : Binds X.K fd ps []) (hs : PySem.W.findIn X.K (.ref C) "__repr__" = some (some (.ref f))) (hf : PySem.W.isFn X.K (.ref f) = true) (hg : X.A.guards = some []) (hr : Room (n + 1) X.A) (hx : Passes CX X E) : CallR X (.builtin "repr") (rReprM K C sp E) :=
  ((call_reprX hK hg (by have := hr.un; omega)).or (call_reprO F hb hs hf hr hx)).or (call_reprR1 F hb hs hf hg hr hx)
theorem call_reprMP {p : Addr × Obj} (hK : X.K = K) (F : FnP X.prog X.w X.K X.mg X.base n f fd ps sp) (hb : Binds X.K fd ps []) (hs : PySem.W.findIn X.K (.ref C) "__repr__" = some (some (.ref f))) (hf : PySem.W.isFn X.K (.ref f) = true) (hg : X.A.guards = some []) (hr : RoomH (n + 1) X.A) (hp : p ∈ X.pn) : CallR X (.builtin "repr") (rReprM K C sp E0) :=
  ((call_reprX hK hg (by have := hr.un; omega)).or (call_reprOP F hb hs hf hr hp)).or (call_reprR1P F hb hs hf hg hr hp)
end
end Dg

namespace Dg
open PySem PySem.Spec PyProof.Rows L2 L2H LamX
/-! ### where True stands in a list of truth values -/
def rIndB (K : PySem.W.Frag) : V → List V → Hp → VK → Prop := fun x xs H Q => ∃ (p : Addr) (bs : List Bool) (k : Bool) (j : Nat), x = .ref p ∧ xs = [.bl k] ∧ SqL K H p (bs.map V.bl) ∧ bs[j]? = some k ∧ (∀ m, m < j → bs[m]? ≠ some k) ∧ j < 1000 ∧ Q (.int (j : Nat)) H
section
variable {X : Cx}
theorem mt_lindexB : MtR X "list.index" (rIndB X.K) := by
  intro pins s σ H x xs v us Q I rx rxs h
  obtain ⟨p, bs, k, j, rfl, rfl, hs, hj, first, small, q⟩ := h
  cases rx
  obtain ⟨u, rfl, ru⟩ := rxs.one
  have eu : u = Value.bool k := ru
  subst eu
  obtain ⟨its, rv, ⟨⟨cls, dd, data, sl⟩, n, ho, hc, hdn, hd⟩, hlen⟩ := I.list hs
  simp only at hc hd
  subst hc hd
  have hi := bools_of rv
  subst hi
  have gi : ∀ m (hm : m < (bs.map Value.bool).toArray.size), eqb k (bs.map Value.bool).toArray[m] = true ↔ bs[m]? = some k := fun m hm => by
    have hm' : m < bs.length := by simpa using hm
    have e : (bs.map Value.bool).toArray[m] = Value.bool bs[m] := by simp
    rw [e, List.getElem?_eq_getElem hm']
    show (bs[m] == k) = true ↔ _
    rw [beq_iff_eq, Option.some.injEq]
  have jl : j < (bs.map Value.bool).toArray.size := by
    have := (List.getElem?_eq_some_iff.mp hj).1
    simpa using this
  refine call_meets PySem.F.slot_list_index ⟨_, ho, rfl⟩ PySem.F.entry_list_index (PySem.F.args_list_index_2 _ _)
    (SeqAt.list_indexAt p (bs.map Value.bool).toArray n dd sl (.bool k) (eqb k) j jl (by omega) ((gi j jl).mpr hj) fun m hm lt => ?_) ⟨ho, fun y hy => ?_, ?_⟩
  · cases e : eqb k (bs.map Value.bool).toArray[m] with
    | false => rfl
    | true => exact absurd ((gi m hm).mp e) (first m lt)
  · have hy' : y ∈ bs.map Value.bool := by simpa using hy
    obtain ⟨b, _, rfl⟩ := List.mem_map.mp hy'
    exact SeqAt.EqAt.bool_bool b k
  · exact ⟨.int (j : Nat), H, I.tok _, ⟨s.toks, rfl⟩, q⟩
theorem mtIndexB {K : PySem.W.Frag} (h : X.K = K) : MtR X "list.index" (rIndB K) := h ▸ mt_lindexB
end
/-! ### kinds moved by a tie are low -/
theorem move_low {ks ds : Kinds} {g m b : Int} (ok : OkK ks) (hg : 0 ≤ g ∧ g ≤ 10000000000000000000000000000000) (hm : 0 ≤ m ∧ m ≤ 10000000000000000000000000000000) (hb : b = 1 ∨ b = -1) (k : KindsOf (moveF ks g m b) ds) (l : ds.length ≤ 14) :
    LowK ds ∧ (0 ≤ g + b → 0 ≤ m + b → ∀ p ∈ ds, 0 ≤ p.1) := by
  have one01 : ∀ x y : Int, 0 ≤ one1 x y ∧ one1 x y ≤ 1 ∧ (one1 x y ≠ 0 → x = y) := fun x y => by
    unfold one1
    split
    · exact ⟨by decide, by decide, fun _ => by assumption⟩
    · exact ⟨by decide, by decide, fun z => absurd rfl z⟩
  have big : (10000000000000000000000000000001 : Nat) < 2 ^ 250 := by decide
  have big2 : (1000000000000000000000000000002 : Nat) < 2 ^ 240 := by decide
  have at_ : ∀ p ∈ ds, (0 < p.2 ∧ p.2 ≤ 1000000000000000000000000000002) ∧ ((0 ≤ p.1 ∧ p.1 ≤ 10000000000000000000000000000000) ∨ p.1 = g + b ∨ p.1 = m + b) := fun p hp => by
    have z := (k.2 p.1 p.2).mp hp
    have e : p.2 = val ks p.1 - one1 p.1 g - one1 p.1 m + one1 p.1 (g + b) + one1 p.1 (m + b) := z.1
    have o1 := one01 p.1 g
    have o2 := one01 p.1 m
    have o3 := one01 p.1 (g + b)
    have o4 := one01 p.1 (m + b)
    by_cases v : val ks p.1 = 0
    · refine ⟨⟨z.2, by omega⟩, .inr ?_⟩
      by_cases c : one1 p.1 (g + b) = 0
      · exact .inr (o4.2.2 (by omega))
      · exact .inl (o3.2.2 c)
    · obtain ⟨q, hq, eq⟩ := List.mem_map.mp (val_key v)
      have kk := ok.2.2.all q hq
      have vq : val ks p.1 = q.2 := by rw [← eq]; exact val_memN ok.nodup hq
      rw [eq] at kk
      exact ⟨⟨z.2, by omega⟩, .inl ⟨kk.1, kk.2.1⟩⟩
  refine ⟨⟨by omega, fun p hp => ?_⟩, fun h1 h2 p hp => ?_⟩
  · obtain ⟨a1, a2⟩ := at_ p hp
    refine ⟨Nat.lt_of_le_of_lt (m := 10000000000000000000000000000001) (by omega) big, by omega, Nat.lt_of_le_of_lt (m := 1000000000000000000000000000002) (by omega) big2⟩
  · obtain ⟨_, a2⟩ := at_ p hp
    omega
theorem val_rng {ks : Kinds} (ok : OkK ks) {g : Int} (h : val ks g ≠ 0) : 0 ≤ g ∧ g ≤ 10000000000000000000000000000000 := by
  obtain ⟨q, hq, eq⟩ := List.mem_map.mp (val_key h)
  have kk := ok.2.2.all q hq
  rw [eq] at kk
  exact ⟨kk.1, kk.2.1⟩
/-- called by keywords that stand the other way round -/
theorem vals_rev : ∀ {vs : List V} {us : List Value}, Vals vs us → Vals vs.reverse us.reverse
  | [], _, h => by cases h; exact .nil
  | v :: r, _, h => by
    cases h with
    | cons h t =>
      rw [List.reverse_cons, List.reverse_cons]
      exact (vals_rev t).append (.cons h .nil)
theorem fun_kwV {K : PySem.W.Frag} {x qual : Str} {st : Stmt} {f : Addr} {fd : FuncData} {ps ks : List Str} {n : Nat} (F : Fun K x qual st f fd)
    (h : ∀ (kV doc pm : Value) (an : Option Addr) (cdv ct : Value) (us ws : List Value), us.length = n → ws.length = ks.length → bindArgs (PySem.W.fnOf x qual (defArgs st) (defBody st) (defScope st) .none kV doc pm an cdv ct) ⟨us, ks.zip ws⟩ = pure (ps.zip (us ++ ws.reverse))) :
    KBn K fd ps n ks (fun us ws => us ++ ws.reverse) (fun vs zs => vs ++ zs.reverse) := by
  obtain ⟨oc, od, kV, doc, pm, an, cdv, ct, osl, rfl, lk, hcd⟩ := F.ex
  exact ⟨fun s us ws X l1 l2 => .of_eq (h kV doc pm an cdv ct us ws l1 l2), fun r1 r2 => r1.append (vals_rev r2)⟩
theorem opNeHK {X : Cx} {K : PySem.W.Frag} {k : Nat} (hr : RoomH k X.A) (h : X.K = K) : OpR X (compareOp .NotEq) (rNeA K) := h ▸ op_ne.or (op_neD (roomH_units hr))
end Dg

namespace Dg
/-! ### webs in which two places are tied, or not -/
/-- the first two places are tied (t) or not, and the rest is r -/
def TU (t : Bool) (u v : Int) (r : List Int) : Prop := ∃ (n : Nat) (s : List Int), u = n + (if t then 1 else 0) ∧ (t = true → 0 < v) ∧ Less1 n r s ∧ Web ((v - if t then 1 else 0) :: s)
theorem Web.tu {u v : Int} {r : List Int} : Web (u :: v :: r) ↔ TU true u v r ∨ TU false u v r := by
  constructor
  · intro h
    obtain ⟨n, s, rfl, h1, h2⟩ := h.inv
    cases h1 with
    | keep h1 => exact .inr ⟨n, _, by simp, fun z => (by cases z), h1, by simpa using h2⟩
    | @take k _ _ s c h1 => exact .inl ⟨k, s, by simp, fun _ => c, h1, by simpa using h2⟩
  · rintro (⟨n, s, rfl, c, h1, h2⟩ | ⟨n, s, rfl, c, h1, h2⟩)
    · have := Web.cons (.take (c rfl) h1) h2
      simpa using this
    · have := Web.cons (d := n) (.keep (x := v) h1) (by simpa using h2)
      simpa using this
theorem Less1.nonneg {n : Nat} {r s : List Int} (h : Less1 n r s) (nn : ∀ x ∈ s, 0 ≤ x) : ∀ x ∈ r, 0 ≤ x := by
  induction h with
  | nil => exact nn
  | keep _ ih =>
    intro x hx
    rcases List.mem_cons.mp hx with e | hx
    · exact nn x (e ▸ List.mem_cons_self)
    · exact ih (fun y hy => nn y (List.mem_cons_of_mem _ hy)) x hx
  | take c _ ih =>
    intro x hx
    rcases List.mem_cons.mp hx with e | hx
    · omega
    · exact ih (fun y hy => nn y (List.mem_cons_of_mem _ hy)) x hx
theorem Less1.permR {n : Nat} {r s r' : List Int} (h : Less1 n r s) (p : r.Perm r') : ∃ s', Less1 n r' s' ∧ s.Perm s' := Less1.perm p h
theorem TU.perm {t : Bool} {u v : Int} {r r' : List Int} (p : r.Perm r') (h : TU t u v r) : TU t u v r' := by
  obtain ⟨n, s, e, c, h1, h2⟩ := h
  obtain ⟨s', h3, p'⟩ := Less1.perm p h1
  exact ⟨n, s', e, c, h3, h2.perm (p'.cons _)⟩
/-- another place's ties are chosen first -/
theorem TU.step {t bu bv : Bool} {u v : Int} {k : Nat} {rs rs' : List Int} (h : Less1 k rs rs') (w : TU t u v rs') :
    TU t (u + if bu then 1 else 0) (v + if bv then 1 else 0) (((k : Int) + (if bu then 1 else 0) + (if bv then 1 else 0)) :: rs) := by
  obtain ⟨n1, w1, e, c, h1, h2⟩ := w
  obtain ⟨n2, w2, e2, h3, h4⟩ := h2.inv
  obtain ⟨s1, a1, a2⟩ := h.comm h1
  obtain ⟨s2, a3, a4⟩ := a2.comm h3
  -- rs - n1 = s1 - n2 = s2 - k = w2
  have last : Web ((k : Int) :: s2) := .cons a4 h4
  have mid : Web ((v + (if bv then 1 else 0) - if t then 1 else 0) :: ((k : Int) + if bv then 1 else 0) :: s1) := by
    cases bv with
    | true =>
      have := Web.cons (d := n2 + 1) (.take (x := (k : Int) + 1) (by omega) a3) (by simpa using last)
      have e3 : (v + (if true = true then 1 else 0) - if t then 1 else 0) = ((n2 + 1 : Nat) : Int) := by simp only [if_true]; omega
      rw [e3]
      exact this
    | false =>
      have := Web.cons (d := n2) (.keep (x := (k : Int)) a3) last
      have e3 : (v + (if false = true then 1 else 0) - if t then 1 else 0) = (n2 : Int) := by simp only [Bool.false_eq_true, if_false]; omega
      rw [e3]
      simpa using this
  have pos : t = true → 0 < v + if bv then 1 else 0 := fun z => by
    have := c z
    split <;> omega
  cases bu with
  | true =>
    refine ⟨n1 + 1, _, by simp only [if_true]; omega, pos, .take ?_ a1, ?_⟩
    · simp only [if_true]; split <;> omega
    · simp only [if_true]
      have e3 : (k : Int) + 1 + (if bv then 1 else 0) - 1 = (k : Int) + if bv then 1 else 0 := by omega
      rw [e3]
      exact mid
  | false =>
    refine ⟨n1, _, by simp only [Bool.false_eq_true, if_false]; omega, pos, .keep a1, ?_⟩
    simp only [Bool.false_eq_true, if_false, Int.add_zero]
    exact mid
theorem TU.back {t : Bool} {u v x : Int} {rs : List Int} (w : TU t u v (x :: rs)) : ∃ (bu bv : Bool) (k : Nat) (rs' : List Int), Less1 k rs rs' ∧ x = (k : Int) + (if bu then 1 else 0) + (if bv then 1 else 0) ∧ (bu = true → 0 < u) ∧ (bv = true → 0 < v) ∧ TU t (u - if bu then 1 else 0) (v - if bv then 1 else 0) rs' := by
  obtain ⟨n1, s, e, c, h1, h2⟩ := w
  obtain ⟨n2, w2, e2, h3, h4⟩ := h2.inv
  -- h1 : x::rs by n1 -> s ; h3 : s by n2 -> w2 ; Web w2
  have core : ∀ (bu : Bool) (m1 : Nat) (s1 : List Int), Less1 m1 rs s1 → n1 = m1 + (if bu then 1 else 0) → s = (x - if bu then 1 else 0) :: s1 → (bu = true → 0 < x) →
      ∃ (bu bv : Bool) (k : Nat) (rs' : List Int), Less1 k rs rs' ∧ x = (k : Int) + (if bu then 1 else 0) + (if bv then 1 else 0) ∧ (bu = true → 0 < u) ∧ (bv = true → 0 < v) ∧ TU t (u - if bu then 1 else 0) (v - if bv then 1 else 0) rs' := by
    intro bu m1 s1 l1 en es hx
    subst es
    have core2 : ∀ (bv : Bool) (m2 : Nat) (s2 : List Int), Less1 m2 s1 s2 → n2 = m2 + (if bv then 1 else 0) → w2 = ((x - if bu then 1 else 0) - if bv then 1 else 0) :: s2 →
        ∃ (bu bv : Bool) (k : Nat) (rs' : List Int), Less1 k rs rs' ∧ x = (k : Int) + (if bu then 1 else 0) + (if bv then 1 else 0) ∧ (bu = true → 0 < u) ∧ (bv = true → 0 < v) ∧ TU t (u - if bu then 1 else 0) (v - if bv then 1 else 0) rs' := by
      intro bv m2 s2 l2 en2 ew
      subst ew
      obtain ⟨k, w3, ek, l3, h5⟩ := h4.inv
      obtain ⟨q1, b1, b2⟩ := l2.comm l3
      obtain ⟨q2, b3, b4⟩ := l1.comm b1
      -- rs by k -> q2 by m1 -> q1 by m2 -> w3
      refine ⟨bu, bv, k, q2, b3, by omega, fun z => ?_, fun z => ?_, m1, q1, ?_, fun z => ?_, b4, ?_⟩
      · rw [z] at en; simp only [if_true] at en; split at e <;> omega
      · rw [z] at en2; simp only [if_true] at en2; split at e2 <;> omega
      · cases bu <;> cases t <;> simp at en e ⊢ <;> omega
      · have := c z
        rw [z] at e2
        simp only [if_true] at e2
        cases bv <;> simp at en2 ⊢ <;> omega
      · have : (v - (if bv then 1 else 0) - if t then 1 else 0) = (m2 : Int) := by cases bv <;> simp at en2 ⊢ <;> omega
        rw [this]
        exact .cons b2 h5
    cases h3 with
    | keep h3 => exact core2 false _ _ h3 (by simp) (by simp)
    | take c3 h3 => exact core2 true _ _ h3 (by simp) (by simp)
  cases h1 with
  | keep h1 => exact core false _ _ h1 (by simp) (by simp) (fun z => by cases z)
  | take c1 h1 => exact core true _ _ h1 (by simp) (by simp) (fun _ => c1)
/-! by a table: in a web's degrees one more or less at two places has a web just if they need not be tied, or need not be apart -/
def subsD : Nat → List Int → List (List Int)
  | 0, r => [r]
  | _ + 1, [] => []
  | n + 1, x :: r => (if 0 < x then (subsD n r).map ((x - 1) :: ·) else []) ++ (subsD (n + 1) r).map (x :: ·)
theorem subsD_less : ∀ {n : Nat} {r s : List Int}, s ∈ subsD n r → Less1 n r s
  | 0, r, s, h => by
    unfold subsD at h
    rw [List.mem_singleton.mp h]
    exact less_none r
  | n + 1, [], s, h => by cases h
  | n + 1, x :: r, s, h => by
    unfold subsD at h
    rcases List.mem_append.mp h with h | h
    · split at h
      · rename_i c
        obtain ⟨q, hq, rfl⟩ := List.mem_map.mp h
        exact .take c (subsD_less hq)
      · cases h
    · obtain ⟨q, hq, rfl⟩ := List.mem_map.mp h
      exact .keep (subsD_less hq)
def tuB (t : Bool) (u v : Int) (r : List Int) : Bool := decide (0 ≤ u - if t then 1 else 0) && (!t || decide (0 < v)) && (subsD (u - if t then 1 else 0).toNat r).any fun s => hhD 7 (sortD ((v - if t then 1 else 0) :: s))
theorem tuB_tu {t : Bool} {u v : Int} {r : List Int} (h : tuB t u v r = true) : TU t u v r := by
  unfold tuB at h
  simp only [Bool.and_eq_true, decide_eq_true_eq, List.any_eq_true] at h
  obtain ⟨⟨h0, h1⟩, s, hs, h2⟩ := h
  refine ⟨(u - if t then 1 else 0).toNat, s, by omega, fun z => ?_, subsD_less hs, (hhD_web h2).perm (sortD_perm _)⟩
  rw [z] at h1
  simpa using h1
def pairT (u v : Int) (r : List Int) : Bool := !goodL (sortD (u :: v :: r)) || ((!goodL (sortD ((u + 1) :: (v + 1) :: r)) || tuB false u v r) && (!(decide (0 < u) && decide (0 < v) && goodL (sortD ((u - 1) :: (v - 1) :: r))) || tuB true u v r))
theorem tableP : ((List.range 5).all fun n => (descL n 5).all fun r => (List.range 6).all fun (u : Nat) => (List.range 6).all fun (v : Nat) => pairT u v r) = true := by decide +kernel
theorem insD_mem {x y : Int} : ∀ {l : List Int}, y ∈ insD x l → y = x ∨ y ∈ l := fun {l} h => List.mem_cons.mp ((insD_perm x l).mem_iff.mp h)
theorem insD_desc {x : Int} : ∀ {l : List Int}, l.Pairwise (· ≥ ·) → (insD x l).Pairwise (· ≥ ·)
  | [], _ => List.pairwise_singleton _ _
  | y :: r, h => by
    obtain ⟨h1, h2⟩ := List.pairwise_cons.mp h
    unfold insD
    split
    · rename_i c
      refine List.pairwise_cons.mpr ⟨fun z hz => ?_, h⟩
      rcases List.mem_cons.mp hz with e | hz
      · rw [e]; exact c
      · have := h1 z hz; omega
    · rename_i c
      refine List.pairwise_cons.mpr ⟨fun z hz => ?_, insD_desc h2⟩
      rcases insD_mem hz with e | hz
      · rw [e]; omega
      · exact h1 z hz
theorem sortD_desc : ∀ l : List Int, (sortD l).Pairwise (· ≥ ·)
  | [] => .nil
  | x :: r => insD_desc (sortD_desc r)
theorem web_good {l : List Int} (nn : ∀ x ∈ l, 0 ≤ x) (l6 : l.length ≤ 6) : Web l ↔ goodL (sortD l) = true := by
  have p := sortD_perm l
  have e : Web l ↔ Web (sortD l) := ⟨Web.perm p.symm, Web.perm p⟩
  rw [e, web_iff (sortD_desc l) (fun x hx => nn x (p.mem_iff.mp hx)) (by rw [p.length_eq]; exact l6)]
  unfold goodL
  rw [Bool.and_eq_true, decide_eq_true_eq, List.all_eq_true]
  constructor
  · rintro ⟨a, b⟩
    exact ⟨a, fun k hk => decide_eq_true (b (k + 1) (by omega) (by have := List.mem_range.mp hk; omega))⟩
  · rintro ⟨a, b⟩
    refine ⟨a, fun k k1 k2 => ?_⟩
    have := of_decide_eq_true (b (k - 1) (List.mem_range.mpr (by omega)))
    rwa [show k - 1 + 1 = k by omega] at this
theorem Less1.le {n : Nat} {r s : List Int} (h : Less1 n r s) : n ≤ r.length := by
  induction h with
  | nil => exact Nat.le_refl _
  | keep _ ih => rw [List.length_cons]; omega
  | take _ _ ih => rw [List.length_cons]; omega
theorem Web.bound {l : List Int} (h : Web l) {x : Int} (hx : x ∈ l) : 0 ≤ x ∧ x + 1 ≤ l.length := by
  have p := List.perm_cons_erase hx
  obtain ⟨d, s, e, h1, _⟩ := (h.perm p).inv
  have := h1.le
  have := p.length_eq
  rw [List.length_cons] at this
  omega
theorem pair_iff {u v : Int} {r : List Int} (h : Web (u :: v :: r)) (l6 : r.length ≤ 4) :
    (TU false u v r ↔ Web ((u + 1) :: (v + 1) :: r)) ∧ (TU true u v r ↔ 0 < u ∧ 0 < v ∧ Web ((u - 1) :: (v - 1) :: r)) := by
  have bu := h.bound List.mem_cons_self
  have bv := h.bound (List.mem_cons_of_mem _ List.mem_cons_self)
  have br : ∀ x ∈ r, 0 ≤ x ∧ x ≤ 5 := fun x hx => by
    have := h.bound (List.mem_cons_of_mem _ (List.mem_cons_of_mem _ hx))
    simp only [List.length_cons] at this
    omega
  simp only [List.length_cons] at bu bv
  have pr := sortD_perm r
  have m : sortD r ∈ descL (sortD r).length 5 := mem_descL (sortD_desc r) fun x hx => br x (pr.mem_iff.mp hx)
  have t := List.all_eq_true.mp tableP (sortD r).length (List.mem_range.mpr (by rw [pr.length_eq]; omega))
  have t := List.all_eq_true.mp (List.all_eq_true.mp (List.all_eq_true.mp t _ m) u.toNat (List.mem_range.mpr (by omega))) v.toNat (List.mem_range.mpr (by omega))
  rw [Int.toNat_of_nonneg bu.1, Int.toNat_of_nonneg bv.1] at t
  have nn : ∀ x ∈ u :: v :: sortD r, 0 ≤ x := fun x hx => by
    rcases List.mem_cons.mp hx with e | hx
    · omega
    · rcases List.mem_cons.mp hx with e | hx
      · omega
      · exact (br x (pr.mem_iff.mp hx)).1
  have l6' : (sortD r).length ≤ 4 := by rw [pr.length_eq]; exact l6
  have good : goodL (sortD (u :: v :: sortD r)) = true := (web_good nn (by simp only [List.length_cons]; omega)).mp (h.perm ((pr.symm.cons v).cons u))
  unfold pairT at t
  rw [good] at t
  simp only [Bool.not_true, Bool.false_or, Bool.and_eq_true, Bool.or_eq_true, Bool.not_eq_true', decide_eq_true_eq] at t
  obtain ⟨t1, t2⟩ := t
  refine ⟨⟨?_, fun w => ?_⟩, ⟨?_, fun ⟨u0, v0, w⟩ => ?_⟩⟩
  · rintro ⟨n, s, e, _, h1, h2⟩
    simp only [Bool.false_eq_true, if_false, Int.add_zero, Int.sub_zero] at e h2
    have := Web.cons (.take (x := v + 1) (by omega) h1) (by rw [show v + 1 - 1 = v by omega]; exact h2)
    rw [e]
    simpa using this
  · have g : goodL (sortD ((u + 1) :: (v + 1) :: sortD r)) = true := (web_good (fun x hx => by
      rcases List.mem_cons.mp hx with e | hx
      · omega
      · rcases List.mem_cons.mp hx with e | hx
        · omega
        · exact (br x (pr.mem_iff.mp hx)).1) (by simp only [List.length_cons]; omega)).mp (w.perm ((pr.symm.cons _).cons _))
    rcases t1 with z | z
    · rw [z] at g; cases g
    · exact (tuB_tu z).perm pr
  · rintro ⟨n, s, e, c, h1, h2⟩
    have v0 := c rfl
    simp only [if_true] at e h2
    refine ⟨by omega, v0, ?_⟩
    rw [show u - 1 = (n : Int) by omega]
    exact .cons (.keep h1) h2
  · have g : goodL (sortD ((u - 1) :: (v - 1) :: sortD r)) = true := (web_good (fun x hx => by
      rcases List.mem_cons.mp hx with e | hx
      · omega
      · rcases List.mem_cons.mp hx with e | hx
        · omega
        · exact (br x (pr.mem_iff.mp hx)).1) (by simp only [List.length_cons]; omega)).mp (w.perm ((pr.symm.cons _).cons _))
    rcases t2 with z | z
    · simp [u0, v0, g] at z
    · exact (tuB_tu z).perm pr
end Dg

namespace Dg
open PySem PySem.Spec PyProof.Rows L2 L2H LamX
def b01 (b : Bool) : Nat := if b then 1 else 0
theorem b01_int (b : Bool) : ((b01 b : Nat) : Int) = if b then 1 else 0 := by cases b <;> rfl
/-! ### one more place among others -/
theorem less_ins {v : Int} {b : Bool} (hb : b = true → 0 < v) : ∀ {p : List Int} {n : Nat} {q s : List Int}, Less1 n (p ++ q) s → ∃ s1 s2, s = s1 ++ s2 ∧ s1.length = p.length ∧ Less1 (n + b01 b) (p ++ v :: q) (s1 ++ (v - if b then 1 else 0) :: s2)
  | [], n, q, s, h => by
    refine ⟨[], s, rfl, rfl, ?_⟩
    cases b with
    | true => exact .take (hb rfl) h
    | false => have := Less1.keep (x := v) h; simpa [b01] using this
  | x :: p, n, q, s, h => by
    cases h with
    | keep h =>
      obtain ⟨s1, s2, rfl, l, g⟩ := less_ins (p := p) hb h
      exact ⟨x :: s1, s2, rfl, by simp [l], .keep g⟩
    | @take m _ _ _ c h =>
      obtain ⟨s1, s2, rfl, l, g⟩ := less_ins (p := p) hb h
      refine ⟨(x - 1) :: s1, s2, rfl, by simp [l], ?_⟩
      rw [show m + 1 + b01 b = m + b01 b + 1 by omega]
      exact .take c g
theorem less_ext {v : Int} : ∀ {p : List Int} {n : Nat} {q s : List Int}, Less1 n (p ++ v :: q) s → ∃ (b : Bool) (m : Nat) (s1 s2 : List Int), s = s1 ++ (v - if b then 1 else 0) :: s2 ∧ s1.length = p.length ∧ (b = true → 0 < v) ∧ n = m + b01 b ∧ Less1 m (p ++ q) (s1 ++ s2)
  | [], n, q, s, h => by
    cases h with
    | @keep _ _ _ w h => exact ⟨false, n, [], w, by simp, rfl, (fun z => by cases z), rfl, h⟩
    | @take m _ _ w c h => exact ⟨true, m, [], w, by simp, rfl, (fun _ => c), rfl, h⟩
  | x :: p, n, q, s, h => by
    cases h with
    | keep h =>
      obtain ⟨b, m, s1, s2, rfl, l, c, e, g⟩ := less_ext (p := p) h
      exact ⟨b, m, x :: s1, s2, rfl, by simp [l], c, e, .keep g⟩
    | @take k _ _ _ c0 h =>
      obtain ⟨b, m, s1, s2, rfl, l, c, e, g⟩ := less_ext (p := p) h
      exact ⟨b, m + 1, (x - 1) :: s1, s2, rfl, by simp [l], c, by omega, .take c0 g⟩
theorem decAt_app {ch : List Int} : ∀ {p q : List Int} {o : Nat}, decAt o (p ++ q) ch = decAt o p ch ++ decAt (o + p.length) q ch
  | [], _, _ => rfl
  | x :: p, q, o => by
    show (x - if (o : Int) ∈ ch then 1 else 0) :: decAt (o + 1) (p ++ q) ch = _
    rw [decAt_app, show o + 1 + p.length = o + (x :: p).length by rw [List.length_cons]; omega]
    rfl
theorem decAt_mid {ch p q s1 s2 : List Int} {o : Nat} {v w : Int} (h : decAt o (p ++ v :: q) ch = s1 ++ w :: s2) (l : s1.length = p.length) : w = v - if ((o + p.length : Nat) : Int) ∈ ch then 1 else 0 := by
  rw [decAt_app] at h
  have e := (List.append_inj h (by rw [decAt_len, l])).2
  injection e with e1 _
  exact e1.symm
/-! ### the law's own order of the places -/
inductive WebI (a b : Nat) (t : Bool) : Nat → List Int → Prop
  | at_ {l ch : List Int} {x : Int} : l[a]? = some x → ch.Sublist (posn (a + 1) (l.drop (a + 1))) → (ch.length : Int) = x → ((b : Int) ∈ ch ↔ t = true) → Web ((decAt 0 l ch).drop (a + 1)) → WebI a b t a l
  | early {i : Nat} {l l' : List Int} : i < a → StepW i l l' → WebI a b t (i + 1) l' → WebI a b t i l
theorem drop_next {l p : List Int} {x : Int} {i : Nat} (h : l.drop i = x :: p) : l[i]? = some x ∧ l.drop (i + 1) = p ∧ i < l.length := by
  have hi : i < l.length := by
    rcases Nat.lt_or_ge i l.length with z | z
    · exact z
    · rw [List.drop_eq_nil_of_le z] at h; cases h
  rw [List.drop_eq_getElem_cons hi] at h
  injection h with h1 h2
  exact ⟨by rw [List.getElem?_eq_getElem hi, h1], h2, hi⟩
theorem web_split {a b : Nat} {t : Bool} : ∀ (k : Nat) {i : Nat} {l p1 p2 p3 : List Int} {u v : Int}, l.drop i = p1 ++ u :: (p2 ++ v :: p3) → p1.length = k → a = i + k → b = a + 1 + p2.length → (WebI a b t i l ↔ TU t u v (p1 ++ (p2 ++ p3)))
  | 0, i, l, p1, p2, p3, u, v, hd, hk, ha, hb => by
    have e1 : p1 = [] := List.eq_nil_of_length_eq_zero hk
    subst e1
    have ai : a = i := by omega
    subst ai
    obtain ⟨hx, hr, hi⟩ := drop_next hd
    constructor
    · intro h
      have fin : ∀ (ch : List Int) (x : Int), l[a]? = some x → ch.Sublist (posn (a + 1) (l.drop (a + 1))) → (ch.length : Int) = x → ((b : Int) ∈ ch ↔ t = true) → Web ((decAt 0 l ch).drop (a + 1)) → TU t u v ([] ++ (p2 ++ p3)) := by
        intro ch x h1 h2 h3 h4 h5
        rw [hx] at h1
        obtain rfl := Option.some.inj h1
        rw [decAt_drop, Nat.zero_add, hr] at h5
        rw [hr] at h2
        have lc := less_of h2
        obtain ⟨bv, m, s1, s2, es, ls, cv, en, g⟩ := less_ext lc
        have w := decAt_mid es ls
        rw [← hb] at w
        have et : bv = t := by
          cases bv <;> cases t <;> simp at h4 w ⊢ <;> simp [h4] at w <;> omega
        subst et
        refine ⟨m, s1 ++ s2, ?_, cv, g, ?_⟩
        · rw [← h3, en, Int.natCast_add, b01_int]
        · rw [es] at h5
          exact h5.perm List.perm_middle
      cases h with
      | at_ h1 h2 h3 h4 h5 => exact fin _ _ h1 h2 h3 h4 h5
      | early z _ _ => omega
    · rintro ⟨n, s, e, c, h1, h2⟩
      obtain ⟨s1, s2, rfl, ls, g⟩ := less_ins (p := p2) (q := p3) (v := v) (b := t) c (by simpa using h1)
      obtain ⟨ch, c1, c2, c3⟩ := less_to g (a + 1)
      have w := decAt_mid c3 ls
      rw [← hb] at w
      refine .at_ hx (by rw [hr]; exact c1) (by rw [c2, e, Int.natCast_add, b01_int]) ?_ ?_
      · cases t <;> simp at w ⊢ <;> by_cases z : (b : Int) ∈ ch <;> simp [z] at w ⊢ <;> omega
      · rw [decAt_drop, Nat.zero_add, hr, c3]
        exact h2.perm List.perm_middle.symm
  | k + 1, i, l, p1, p2, p3, u, v, hd, hk, ha, hb => by
    obtain ⟨y, p1', rfl⟩ : ∃ y p1', p1 = y :: p1' := by
      cases p1 with
      | nil => cases hk
      | cons y q => exact ⟨y, q, rfl⟩
    obtain ⟨hx, hr, hi⟩ := drop_next (show l.drop i = y :: (p1' ++ u :: (p2 ++ v :: p3)) from hd)
    have hk' : p1'.length = k := by simpa using hk
    constructor
    · intro h
      have fin : ∀ l', StepW i l l' → WebI a b t (i + 1) l' → TU t u v ((y :: p1') ++ (p2 ++ p3)) := by
        rintro l' ⟨ch, x, h1, h2, h3, rfl⟩ h4
        rw [hx] at h1
        obtain rfl := Option.some.inj h1
        rw [hr] at h2
        have lc := less_of h2
        obtain ⟨bu, m, s1, s2, es, ls, cu, en, g⟩ := less_ext lc
        obtain ⟨bv, m2, s3, s4, es2, ls2, cv, en2, g2⟩ := less_ext (p := p1' ++ p2) (by rw [List.append_assoc]; exact g)
        -- s1 ++ s2 = s3 ++ v' :: s4 with s3 as long as p1' ++ p2
        have l13 : s1.length ≤ s3.length := by rw [ls, ls2, List.length_append]; omega
        obtain ⟨q2, rfl⟩ : ∃ q2, s3 = s1 ++ q2 := by
          refine ⟨s3.drop s1.length, ?_⟩
          have := congrArg (List.take s1.length) es2
          rw [List.take_left, List.take_append_of_le_length l13] at this
          rw [this, List.length_take, Nat.min_eq_left l13]
          exact (List.take_append_drop _ _).symm
        have e2 : s2 = q2 ++ (v - if bv then 1 else 0) :: s4 := by
          rw [List.append_assoc] at es2
          exact List.append_cancel_left es2
        subst e2
        have lq2 : q2.length = p2.length := by
          rw [List.length_append, List.length_append, ls] at ls2
          omega
        have ih := (web_split (a := a) (b := b) (t := t) k (i := i + 1) (l := decAt 0 l ch) (p1 := s1) (p2 := q2) (p3 := s4) (by rw [decAt_drop, Nat.zero_add, hr, es]) (by rw [ls, hk']) (by omega) (by rw [hb, lq2])).mp h4
        have st := TU.step (bu := bu) (bv := bv) g2 (show TU t _ _ (s1 ++ q2 ++ s4) by rw [List.append_assoc]; exact ih)
        have e3 : (u - (if bu then 1 else 0) + if bu then 1 else 0) = u := by omega
        have e4 : (v - (if bv then 1 else 0) + if bv then 1 else 0) = v := by omega
        rw [e3, e4] at st
        have e5 : ((m2 : Int) + (if bu then 1 else 0) + if bv then 1 else 0) = y := by
          rw [← h3, en, en2, Int.natCast_add, Int.natCast_add, b01_int, b01_int]
          omega
        rw [e5, List.append_assoc] at st
        exact st
      cases h with
      | at_ => omega
      | early z h1 h2 => exact fin _ h1 h2
    · intro h
      obtain ⟨bu, bv, m, rs', h1, hy, cu, cv, h2⟩ := TU.back (show TU t u v (y :: (p1' ++ (p2 ++ p3))) from h)
      obtain ⟨sA, s4, rfl, lA, g1⟩ := less_ins (p := p1' ++ p2) (q := p3) (v := v) (b := bv) cv (by rw [List.append_assoc]; exact h1)
      obtain ⟨s1, s2, es, ls, g2⟩ := less_ins (p := p1') (q := p2 ++ v :: p3) (v := u) (b := bu) cu (by rw [List.append_assoc] at g1; exact g1)
      have l1A : s1.length ≤ sA.length := by rw [ls, lA, List.length_append]; omega
      obtain ⟨q2, rfl⟩ : ∃ q2, sA = s1 ++ q2 := by
        refine ⟨sA.drop s1.length, ?_⟩
        have := congrArg (List.take s1.length) es
        rw [List.take_left, List.take_append_of_le_length l1A] at this
        rw [← this, List.length_take, Nat.min_eq_left l1A]
        exact (List.take_append_drop _ _).symm
      have e2 : s2 = q2 ++ (v - if bv then 1 else 0) :: s4 := by
        rw [List.append_assoc] at es
        exact (List.append_cancel_left es).symm
      subst e2
      have lq2 : q2.length = p2.length := by
        rw [List.length_append, List.length_append, ls] at lA
        omega
      obtain ⟨ch, c1, c2, c3⟩ := less_to g2 (i + 1)
      refine .early (by omega) ⟨ch, y, hx, by rw [hr]; exact c1, ?_, rfl⟩ ?_
      · rw [c2, hy, Int.natCast_add, Int.natCast_add, b01_int, b01_int]
        omega
      · refine (web_split (a := a) (b := b) (t := t) k (i := i + 1) (l := decAt 0 l ch) (p1 := s1) (p2 := q2) (p3 := s4) (by rw [decAt_drop, Nat.zero_add, hr, c3]) (by rw [ls, hk']) (by omega) (by rw [hb, lq2])).mpr ?_
        rw [List.append_assoc] at h2
        exact h2
end Dg

namespace Dg
open PySem PySem.Spec PyProof.Rows L2 L2H LamX
/-! ### where a number stands in a list of numbers -/
def rIndI (K : PySem.W.Frag) : V → List V → Hp → VK → Prop := fun x xs H Q => ∃ (p : Addr) (ds : List Int) (k : Int) (j : Nat), x = .ref p ∧ xs = [.int k] ∧ SqL K H p (ds.map V.int) ∧ ds[j]? = some k ∧ (∀ m, m < j → ds[m]? ≠ some k) ∧ j < 1000 ∧ Q (.int (j : Nat)) H
theorem vals_at {ds : List Int} {us : List Value} (h : Vals (ds.map V.int) us) : us.length = ds.length ∧ ∀ m, m < us.length → ∀ u, us[m]? = some u → ∃ d t, ds[m]? = some d ∧ u = Value.int d t := by
  induction ds generalizing us with
  | nil => cases h; exact ⟨rfl, fun m hm => absurd hm (Nat.not_lt_zero _)⟩
  | cons d r ih =>
    cases h with
    | cons h t =>
      obtain ⟨tk, rfl⟩ := h
      obtain ⟨l, a⟩ := ih t
      refine ⟨by rw [List.length_cons, List.length_cons, l], fun m hm u hu => ?_⟩
      cases m with
      | zero => cases hu; exact ⟨d, tk, rfl, rfl⟩
      | succ m => exact a m (by rw [List.length_cons] at hm; omega) u hu
section
variable {X : Cx}
theorem mt_lindexI : MtR X "list.index" (rIndI X.K) := by
  intro pins s σ H x xs v us Q I rx rxs h
  obtain ⟨p, ds, k, j, rfl, rfl, hs, hj, first, small, q⟩ := h
  cases rx
  obtain ⟨u, rfl, ru⟩ := rxs.one
  obtain ⟨tk, rfl⟩ := ru
  obtain ⟨its, rv, ⟨⟨cls, dd, data, sl⟩, n, ho, hc, hdn, hd⟩, hlen⟩ := I.list hs
  simp only at hc hd
  subst hc hd
  obtain ⟨el, hat⟩ := vals_at rv
  obtain ⟨ec, hi⟩ := eqi_count (k := k) rv
  have gi : ∀ m (hm : m < its.toArray.size), eqiV k its.toArray[m] = true ↔ ds[m]? = some k := fun m hm => by
    have hm' : m < its.length := by simpa using hm
    obtain ⟨d, t, e1, e2⟩ := hat m hm' _ (List.getElem?_eq_getElem hm')
    have e : its.toArray[m] = Value.int d t := by rw [← e2]; simp
    rw [e, e1]
    show (d == k) = true ↔ _
    rw [beq_iff_eq, Option.some.injEq]
  have jl : j < its.toArray.size := by
    have := (List.getElem?_eq_some_iff.mp hj).1
    simp only [List.size_toArray]
    omega
  refine call_meets PySem.F.slot_list_index ⟨_, ho, rfl⟩ PySem.F.entry_list_index (PySem.F.args_list_index_2 _ _)
    (SeqAt.list_indexAt p its.toArray n dd sl (.int k tk) (eqiV k) j jl (by omega) ((gi j jl).mpr hj) fun m hm lt => ?_) ⟨ho, fun y hy => ?_, ?_⟩
  · cases e : eqiV k its.toArray[m] with
    | false => rfl
    | true => exact absurd ((gi m hm).mp e) (first m lt)
  · obtain ⟨d, t, rfl⟩ := hi y (by simpa using hy)
    exact SeqAt.EqAt.int_int d t k tk
  · exact ⟨.int (j : Nat), H, I.tok _, ⟨s.toks, rfl⟩, q⟩
theorem mtIndexI {K : PySem.W.Frag} (h : X.K = K) : MtR X "list.index" (rIndI K) := h ▸ mt_lindexI
end
theorem r_indI {K : PySem.W.Frag} {H : Hp} {Q : VK} {p : Addr} {ds : List Int} {k : Int} {j : Nat} (h : SqL K H p (ds.map V.int)) (hj : ds[j]? = some k) (first : ∀ m, m < j → ds[m]? ≠ some k) (s : j < 1000) (q : Q (.int (j : Nat)) H) : rIndI K (.ref p) [.int k] H Q := ⟨p, ds, k, j, rfl, rfl, h, hj, first, s, q⟩
/-- a list holds what it holds, first at some place -/
theorem first_at {k : Int} : ∀ {ds : List Int}, k ∈ ds → ∃ j, ds[j]? = some k ∧ (∀ m, m < j → ds[m]? ≠ some k) ∧ j < ds.length
  | [], h => absurd h List.not_mem_nil
  | d :: r, h => by
    by_cases c : d = k
    · exact ⟨0, by rw [c]; rfl, fun m hm => absurd hm (Nat.not_lt_zero _), Nat.zero_lt_succ _⟩
    · obtain ⟨j, h1, h2, h3⟩ := first_at (k := k) (ds := r) ((List.mem_cons.mp h).resolve_left fun z => c z.symm)
      refine ⟨j + 1, h1, fun m hm z => ?_, Nat.succ_lt_succ h3⟩
      cases m with
      | zero => exact c (Option.some.inj z)
      | succ m => exact h2 m (by omega) z
/-! ### what is sure of two places -/
open Classical in
noncomputable def kindsF (f : Int → Int) : Kinds := if h : ∃ ds, KindsOf f ds then h.choose else []
theorem kindsF_of {f : Int → Int} {ds : Kinds} (k : KindsOf f ds) : kindsF f = ds := by
  have h : ∃ ds, KindsOf f ds := ⟨ds, k⟩
  unfold kindsF
  rw [dif_pos h]
  exact KindsOf.one h.choose_spec k
noncomputable def canF (f : Int → Int) : Bool := (barK (kindsF f)).isNone
theorem canF_of {f : Int → Int} {ds : Kinds} (k : KindsOf f ds) : canF f = (barK ds).isNone := by unfold canF; rw [kindsF_of k]
noncomputable def wordK (ks : Kinds) (g m : Int) : Str := if canF (moveF ks g m 1) = false then "tied" else if g = 0 ∨ m = 0 ∨ canF (moveF ks g m (-1)) = false then "apart" else "open"
theorem moveF_swap (ks : Kinds) (g m b : Int) : moveF ks g m b = moveF ks m g b := funext fun d => by unfold moveF; omega
theorem wordK_swap (ks : Kinds) (g m : Int) : wordK ks m g = wordK ks g m := by
  unfold wordK
  rw [moveF_swap ks m g 1, moveF_swap ks m g (-1)]
  by_cases c1 : g = 0 <;> by_cases c2 : m = 0 <;> simp [c1, c2]
theorem wordK_small (ks : Kinds) (g m : Int) : (wordK ks g m).length ≤ 5 := by
  unfold wordK
  split
  · decide
  · split <;> decide
def rowP (k : Int × Int) (l : Kinds) : Kinds := (l.filter fun q => decide (q.1 < k.1 ∨ 1 < k.2)).map fun q => (k.1, q.1)
theorem rowP_snoc {k q : Int × Int} {l : Kinds} : rowP k (l ++ [q]) = rowP k l ++ if q.1 < k.1 ∨ 1 < k.2 then [(k.1, q.1)] else [] := by
  unfold rowP
  rw [List.filter_append, List.map_append]
  by_cases c : q.1 < k.1 ∨ 1 < k.2 <;> simp [c]
def pairsI (ks : Kinds) (i : Nat) : Kinds := (List.range i).flatMap fun j => match ks[j]? with
  | some k => rowP k (ks.drop j)
  | none => []
theorem pairsI_snoc {ks : Kinds} {i : Nat} {k : Int × Int} (h : ks[i]? = some k) : pairsI ks (i + 1) = pairsI ks i ++ rowP k (ks.drop i) := by
  unfold pairsI
  rw [List.range_succ, List.flatMap_append]
  simp [h]
theorem rowP_length {k : Int × Int} {l : Kinds} : (rowP k l).length ≤ l.length := by
  unfold rowP
  rw [List.length_map]
  exact List.length_filter_le _ _
theorem pairsI_length {ks : Kinds} : ∀ {i : Nat}, i ≤ ks.length → (pairsI ks i).length ≤ i * ks.length
  | 0, _ => by unfold pairsI; simp
  | i + 1, h => by
    rw [pairsI_snoc (List.getElem?_eq_getElem (by omega)), List.length_append]
    have := pairsI_length (ks := ks) (i := i) (by omega)
    have := rowP_length (k := ks[i]) (l := ks.drop i)
    rw [List.length_drop] at this
    rw [Nat.add_mul]
    omega
noncomputable def bD (ks : Kinds) (p : Int × Int) : PyData := .tuple [.int p.1, .int p.2, .str (wordK ks p.1 p.2)]
/-! ### by all webs -/
/-- a web as it lies -/
structure Wt where
  t : Addr
  tv : List V
  ps : Kinds
def dueB (bs : List Bool) : Str := if false ∈ bs then (if true ∈ bs then "open" else "apart") else "tied"
theorem lots_kindsL (ds : List Int) : KindsOf (cntOf ds) ((ascI ds).reverse.map fun d => (d, cntOf ds d)) := by
  refine ⟨?_, fun d c => ?_⟩
  · unfold DescP
    rw [List.pairwise_map, List.pairwise_reverse]
    exact asc_ascI
  · constructor
    · intro h
      obtain ⟨x, hx, e⟩ := List.mem_map.mp h
      injection e with e1 e2
      subst e1
      refine ⟨e2.symm, ?_⟩
      have m : x ∈ ds := mem_ascI.mp (List.mem_reverse.mp hx)
      have := List.count_pos_iff.mpr m
      rw [← e2]
      unfold cntOf
      omega
    · rintro ⟨rfl, h⟩
      refine List.mem_map.mpr ⟨d, List.mem_reverse.mpr (mem_ascI.mpr (List.count_pos_iff.mp ?_)), rfl⟩
      unfold cntOf at h
      omega
theorem cnt_cons {x d : Int} {l : List Int} : cntOf (x :: l) d = cntOf l d + one1 d x := by
  unfold cntOf one1
  rw [List.count_cons]
  by_cases c : d = x
  · subst c; simp
  · have c' : ¬ (x == d) = true := fun z => c (beq_iff_eq.mp z).symm
    rw [if_neg c', if_neg c]
    omega
theorem moved_cnt {ks : Kinds} {ds rest : List Int} {g m b : Int} (kk : KindsOf (cntOf ds) ks) (p : ds.Perm (g :: m :: rest)) : moveF ks g m b = cntOf ((g + b) :: (m + b) :: rest) := by
  funext d
  have c : ∀ d, cntOf ds d = cntOf (g :: m :: rest) d := fun d => by unfold cntOf; rw [p.count_eq]
  have v : val ks d = cntOf ds d := val_of kk d (by unfold cntOf; omega)
  unfold moveF
  rw [v, c, cnt_cons, cnt_cons, cnt_cons, cnt_cons]
  omega
theorem due_word {ks : Kinds} {ds p1 p2 p3 : List Int} {bs : List Bool} {g m : Int} {a b : Nat} (kk : KindsOf (cntOf ds) ks) (l6 : ds.length ≤ 6) (w : Web ds)
    (e : ds = p1 ++ g :: (p2 ++ m :: p3)) (ea : a = p1.length) (eb : b = a + 1 + p2.length) (hb : ∀ t, t ∈ bs ↔ WebI a b t 0 ds) : dueB bs = wordK ks g m := by
  have sp : ∀ t, t ∈ bs ↔ TU t g m (p1 ++ (p2 ++ p3)) := fun t => (hb t).trans (web_split p1.length (i := 0) (l := ds) (by rw [List.drop_zero]; exact e) rfl (by omega) eb)
  generalize er : p1 ++ (p2 ++ p3) = rest at sp
  have pm : ds.Perm (g :: m :: rest) := by
    rw [e, ← er]
    refine List.perm_middle.trans (List.Perm.cons _ ?_)
    have : p1 ++ (p2 ++ m :: p3) = (p1 ++ p2) ++ m :: p3 := by rw [List.append_assoc]
    rw [this, ← List.append_assoc]
    exact List.perm_middle
  have wg := w.perm pm
  have ln : ds.length = rest.length + 2 := by rw [pm.length_eq]; rfl
  obtain ⟨i1, i2⟩ := pair_iff wg (by omega)
  have b0 := wg.bound List.mem_cons_self
  have b1 := wg.bound (List.mem_cons_of_mem _ List.mem_cons_self)
  have nr : ∀ x ∈ rest, 0 ≤ x := fun x hx => (wg.bound (List.mem_cons_of_mem _ (List.mem_cons_of_mem _ hx))).1
  have up : canF (moveF ks g m 1) = true ↔ TU false g m rest := by
    rw [moved_cnt kk pm, canF_of (lots_kindsL _), i1, Option.isNone_iff_eq_none]
    refine bar_web (ss := []) (lots_kindsL _) (by simp) (fun d hd => ?_) (by simp only [List.length_cons]; omega)
    rcases List.mem_cons.mp hd with rfl | hd
    · omega
    · rcases List.mem_cons.mp hd with rfl | hd
      · omega
      · exact nr _ hd
  have dn : 0 < g → 0 < m → (canF (moveF ks g m (-1)) = true ↔ TU true g m rest) := fun g1 m1 => by
    rw [moved_cnt kk pm, canF_of (lots_kindsL _), i2, Option.isNone_iff_eq_none]
    refine (bar_web (ss := []) (lots_kindsL _) (by simp) (fun d hd => ?_) (by simp only [List.length_cons]; omega)).trans ⟨fun z => ⟨g1, m1, z⟩, fun z => z.2.2⟩
    rcases List.mem_cons.mp hd with rfl | hd
    · omega
    · rcases List.mem_cons.mp hd with rfl | hd
      · omega
      · exact nr _ hd
  have some_ := Web.tu.mp wg
  by_cases cf : TU false g m rest
  · have u1 := up.mpr cf
    have f1 := (sp false).mpr cf
    by_cases ct : TU true g m rest
    · obtain ⟨g1, m1, _⟩ := i2.mp ct
      have t1 := (sp true).mpr ct
      have d1 := (dn g1 m1).mpr ct
      have g0 : ¬ g = 0 := by omega
      have m0 : ¬ m = 0 := by omega
      unfold dueB wordK
      simp [f1, t1, u1, d1, g0, m0]
    · have t1 : ¬ true ∈ bs := fun z => ct ((sp true).mp z)
      have lo : g = 0 ∨ m = 0 ∨ canF (moveF ks g m (-1)) = false := by
        by_cases g1 : g = 0
        · exact .inl g1
        · by_cases m1 : m = 0
          · exact .inr (.inl m1)
          · refine .inr (.inr ?_)
            cases z : canF (moveF ks g m (-1)) with
            | false => rfl
            | true => exact absurd ((dn (by omega) (by omega)).mp z) ct
      unfold dueB wordK
      simp only [f1, t1, u1, lo, if_true, if_false, Bool.true_eq_false]
  · have f1 : ¬ false ∈ bs := fun z => cf ((sp false).mp z)
    have u1 : canF (moveF ks g m 1) = false := by
      cases z : canF (moveF ks g m 1) with
      | false => rfl
      | true => exact absurd (up.mp z) cf
    unfold dueB wordK
    simp only [f1, u1, if_true, if_false]
/-! ### places of falling degrees -/
theorem split_two {ds : List Int} {a b : Nat} {g m : Int} (ha : ds[a]? = some g) (hb : ds[b]? = some m) (ab : a < b) : ∃ p1 p2 p3, ds = p1 ++ g :: (p2 ++ m :: p3) ∧ a = p1.length ∧ b = a + 1 + p2.length := by
  obtain ⟨la, ea⟩ := List.getElem?_eq_some_iff.mp ha
  obtain ⟨lb, eb⟩ := List.getElem?_eq_some_iff.mp hb
  have e1 : ds = ds.take a ++ g :: ds.drop (a + 1) := by
    rw [← ea, List.getElem_cons_drop_succ_eq_drop (by exact la)]
    exact (List.take_append_drop a ds).symm
  have hd : (ds.drop (a + 1))[b - (a + 1)]? = some m := by rw [List.getElem?_drop, show a + 1 + (b - (a + 1)) = b by omega]; exact hb
  obtain ⟨ld, ed⟩ := List.getElem?_eq_some_iff.mp hd
  have e2 : ds.drop (a + 1) = (ds.drop (a + 1)).take (b - (a + 1)) ++ m :: (ds.drop (a + 1)).drop (b - (a + 1) + 1) := by
    conv => rhs; rw [← ed, List.getElem_cons_drop_succ_eq_drop (by exact ld)]
    exact (List.take_append_drop _ _).symm
  refine ⟨ds.take a, (ds.drop (a + 1)).take (b - (a + 1)), (ds.drop (a + 1)).drop (b - (a + 1) + 1), ?_, ?_, ?_⟩
  · rw [← e2]; exact e1
  · rw [List.length_take]; omega
  · rw [List.length_take, List.length_drop]; omega
theorem ends_at {ds : List Int} {a b : Nat} {g m : Int} (o : ds.Pairwise (· ≥ ·)) (ha : ds[a]? = some g) (fa : ∀ j, j < a → ds[j]? ≠ some g) (hb : ds[b]? = some m) (fb : ∀ j, b < j → ds[j]? ≠ some m) (le : m ≤ g) :
    a < b ↔ (m < g ∨ 1 < cntOf ds g) := by
  obtain ⟨la, ea⟩ := List.getElem?_eq_some_iff.mp ha
  obtain ⟨lb, eb⟩ := List.getElem?_eq_some_iff.mp hb
  constructor
  · intro ab
    by_cases c : m < g
    · exact .inl c
    · have e : m = g := by omega
      subst e
      obtain ⟨p1, p2, p3, e, _, _⟩ := split_two ha hb ab
      refine .inr ?_
      unfold cntOf
      rw [e]
      simp only [List.count_append, List.count_cons_self]
      omega
  · rintro (c | c)
    · refine Decidable.byContradiction fun z => ?_
      by_cases ab : a = b
      · subst ab
        rw [ha] at hb
        have := Option.some.inj hb
        omega
      · have := List.pairwise_iff_getElem.mp o b a lb la (by omega)
        omega
    · refine Decidable.byContradiction fun z => ?_
      have key : ∀ j, j ≠ a → ds[j]? ≠ some g := fun j hj hz => by
        by_cases c2 : j < a
        · exact fa j c2 hz
        · obtain ⟨lj, ej⟩ := List.getElem?_eq_some_iff.mp hz
          have r := List.pairwise_iff_getElem.mp o a j la lj (by omega)
          by_cases c3 : b < j
          · have : m = g := by
              refine Decidable.byContradiction fun ne => ?_
              by_cases c4 : a = b
              · subst c4; rw [ha] at hb; exact ne (Option.some.inj hb).symm
              · have := List.pairwise_iff_getElem.mp o b a lb la (by omega)
                omega
            exact fb j c3 (this ▸ hz)
          · omega
      have e1 : ds = ds.take a ++ g :: ds.drop (a + 1) := by
        rw [← ea, List.getElem_cons_drop_succ_eq_drop (by exact la)]
        exact (List.take_append_drop a ds).symm
      have n1 : g ∉ ds.take a := fun h => by
        obtain ⟨j, hj⟩ := List.getElem?_of_mem h
        have lj := (List.getElem?_eq_some_iff.mp hj).1
        rw [List.length_take] at lj
        rw [List.getElem?_take_of_lt (by omega)] at hj
        exact key j (by omega) hj
      have n2 : g ∉ ds.drop (a + 1) := fun h => by
        obtain ⟨j, hj⟩ := List.getElem?_of_mem h
        rw [List.getElem?_drop] at hj
        exact key _ (by omega) hj
      unfold cntOf at c
      rw [e1, List.count_append, List.count_cons_self, List.count_eq_zero_of_not_mem n1, List.count_eq_zero_of_not_mem n2] at c
      omega
end Dg


namespace Dg
open PySem PySem.Spec PyProof.Rows L2 L2H
def top (i : Nat) : Stmt := PySem.Challenge.pw_degreerows_k36_whole_bonds_by_all_webs.main.body.getD i (.Pass ⟨0, 0, 0, 0⟩)
abbrev s_is_filled : Stmt := top 5
abbrev nm_is_filled : List Str := ["value"]
theorem sc_is_filled : FnScope nm_is_filled ["value"] (defScope s_is_filled) := ⟨rfl, rfl, rfl, by decide +kernel, rfl, by decide +kernel, by decide +kernel⟩
abbrev s_is_integer : Stmt := top 2
abbrev nm_is_integer : List Str := ["value"]
theorem sc_is_integer : FnScope nm_is_integer ["value"] (defScope s_is_integer) := ⟨rfl, rfl, rfl, by decide +kernel, rfl, by decide +kernel, by decide +kernel⟩
abbrev s_is_between : Stmt := top 3
abbrev nm_is_between : List Str := ["value", "least", "most"]
theorem sc_is_between : FnScope nm_is_between ["value", "least", "most"] (defScope s_is_between) := ⟨rfl, rfl, rfl, by decide +kernel, rfl, by decide +kernel, by decide +kernel⟩
abbrev s_is_pair : Stmt := top 4
abbrev nm_is_pair : List Str := ["value"]
theorem sc_is_pair : FnScope nm_is_pair ["value"] (defScope s_is_pair) := ⟨rfl, rfl, rfl, by decide +kernel, rfl, by decide +kernel, by decide +kernel⟩
abbrev s_is_kind : Stmt := top 21
abbrev nm_is_kind : List Str := ["value", "most"]
theorem sc_is_kind : FnScope nm_is_kind ["value", "most"] (defScope s_is_kind) := ⟨rfl, rfl, rfl, by decide +kernel, rfl, by decide +kernel, by decide +kernel⟩
abbrev s_wrong_kind : Stmt := top 22
abbrev nm_wrong_kind : List Str := ["value", "most", "index", "kind"]
theorem sc_wrong_kind : FnScope nm_wrong_kind ["value"] (defScope s_wrong_kind) := ⟨rfl, rfl, rfl, by decide +kernel, rfl, by decide +kernel, by decide +kernel⟩
abbrev s_are_kinds : Stmt := top 23
abbrev nm_are_kinds : List Str := ["value"]
theorem sc_are_kinds : FnScope nm_are_kinds ["value"] (defScope s_are_kinds) := ⟨rfl, rfl, rfl, by decide +kernel, rfl, by decide +kernel, by decide +kernel⟩
abbrev s_Row___init__ : Stmt := inClass (top 33) 0
abbrev nm_Row___init__ : List Str := ["self", "kinds"]
theorem sc_Row___init__ : FnScope nm_Row___init__ ["self", "kinds"] (defScope s_Row___init__) := ⟨rfl, rfl, rfl, by decide +kernel, rfl, by decide +kernel, by decide +kernel⟩
abbrev s__law_due : Stmt := top 56
abbrev nm__law_due : List Str := ["some", "a", "b", "seen", "ties"]
theorem sc__law_due : FnScope nm__law_due ["some", "a", "b"] (defScope s__law_due) := ⟨rfl, rfl, rfl, by decide +kernel, rfl, by decide +kernel, by decide +kernel⟩
abbrev s__law_draw : Stmt := top 50
abbrev nm__law_draw : List Str := ["well", "many", "digit", "seed"]
theorem sc__law_draw : FnScope nm__law_draw ["well", "many"] (defScope s__law_draw) := ⟨rfl, rfl, rfl, by decide +kernel, rfl, by decide +kernel, by decide +kernel⟩
abbrev s__law_pick : Stmt := top 51
abbrev nm__law_pick : List Str := ["well", "choices"]
theorem sc__law_pick : FnScope nm__law_pick ["well", "choices"] (defScope s__law_pick) := ⟨rfl, rfl, rfl, by decide +kernel, rfl, by decide +kernel, by decide +kernel⟩
abbrev s__law_listed : Stmt := top 53
abbrev nm__law_listed : List Str := ["well", "most", "size", "way", "found", "share", "a", "b", "at", "place"]
theorem sc__law_listed : FnScope nm__law_listed ["well", "most"] (defScope s__law_listed) := ⟨rfl, rfl, rfl, by decide +kernel, rfl, by decide +kernel, by decide +kernel⟩
abbrev s__law_lots : Stmt := top 52
abbrev nm__law_lots : List Str := ["degrees", "degree"]
theorem sc__law_lots : FnScope nm__law_lots ["degrees"] (defScope s__law_lots) := ⟨rfl, rfl, rfl, by decide +kernel, rfl, by decide +kernel, by decide +kernel⟩
abbrev s__law_choices : Stmt := top 54
abbrev nm__law_choices : List Str := ["some", "many", "found", "at", "longer", "chosen"]
theorem sc__law_choices : FnScope nm__law_choices ["some", "many"] (defScope s__law_choices) := ⟨rfl, rfl, rfl, by decide +kernel, rfl, by decide +kernel, by decide +kernel⟩
abbrev s__law_webs : Stmt := top 55
abbrev nm__law_webs : List Str := ["degrees", "found", "place", "later", "ties", "left", "some", "chosen", "rest", "at"]
theorem sc__law_webs : FnScope nm__law_webs ["degrees"] (defScope s__law_webs) := ⟨rfl, rfl, rfl, by decide +kernel, rfl, by decide +kernel, by decide +kernel⟩
abbrev s_Row_kinds : Stmt := inClass (top 33) 3
abbrev nm_Row_kinds : List Str := ["self"]
theorem sc_Row_kinds : FnScope nm_Row_kinds ["self"] (defScope s_Row_kinds) := ⟨rfl, rfl, rfl, by decide +kernel, rfl, by decide +kernel, by decide +kernel⟩
abbrev s_ends_of : Stmt := top 26
abbrev nm_ends_of : List Str := ["kinds", "degree", "many"]
theorem sc_ends_of : FnScope nm_ends_of ["kinds"] (defScope s_ends_of) := ⟨rfl, rfl, rfl, by decide +kernel, rfl, by decide +kernel, by decide +kernel⟩
abbrev s_room_of_kinds : Stmt := top 43
abbrev nm_room_of_kinds : List Str := ["kinds", "k", "spare", "left", "degree", "many", "taken"]
theorem sc_room_of_kinds : FnScope nm_room_of_kinds ["kinds", "k"] (defScope s_room_of_kinds) := ⟨rfl, rfl, rfl, by decide +kernel, rfl, by decide +kernel, by decide +kernel⟩
abbrev s_turns : Stmt := top 41
abbrev nm_turns : List Str := ["kinds", "marks", "end", "degree", "many", "k"]
theorem sc_turns : FnScope nm_turns ["kinds"] (defScope s_turns) := ⟨rfl, rfl, rfl, by decide +kernel, rfl, by decide +kernel, by decide +kernel⟩
abbrev s_barred_kinds : Stmt := top 42
abbrev nm_barred_kinds : List Str := ["kinds", "before", "spare", "k", "now", "fall"]
theorem sc_barred_kinds : FnScope nm_barred_kinds ["kinds"] (defScope s_barred_kinds) := ⟨rfl, rfl, rfl, by decide +kernel, rfl, by decide +kernel, by decide +kernel⟩
abbrev s_kinds_can_be : Stmt := top 40
abbrev nm_kinds_can_be : List Str := ["kinds"]
theorem sc_kinds_can_be : FnScope nm_kinds_can_be ["kinds"] (defScope s_kinds_can_be) := ⟨rfl, rfl, rfl, by decide +kernel, rfl, by decide +kernel, by decide +kernel⟩
abbrev s_counted_kinds : Stmt := top 24
abbrev nm_counted_kinds : List Str := ["counts", "degree"]
theorem sc_counted_kinds : FnScope nm_counted_kinds ["counts"] (defScope s_counted_kinds) := ⟨rfl, rfl, rfl, by decide +kernel, rfl, by decide +kernel, by decide +kernel⟩
abbrev s_moved_kinds : Stmt := top 27
abbrev nm_moved_kinds : List Str := ["kinds", "one", "mate", "by", "degree", "counts", "many"]
theorem sc_moved_kinds : FnScope nm_moved_kinds ["kinds", "one", "mate", "by"] (defScope s_moved_kinds) := ⟨rfl, rfl, rfl, by decide +kernel, rfl, by decide +kernel, by decide +kernel⟩
abbrev s__word : Stmt := top 47
abbrev nm__word : List Str := ["kinds", "one", "mate"]
theorem sc__word : FnScope nm__word ["kinds", "one", "mate"] (defScope s__word) := ⟨rfl, rfl, rfl, by decide +kernel, rfl, by decide +kernel, by decide +kernel⟩
abbrev s_need_can_be : Stmt := top 39
abbrev nm_need_can_be : List Str := ["row"]
theorem sc_need_can_be : FnScope nm_need_can_be ["row"] (defScope s_need_can_be) := ⟨rfl, rfl, rfl, by decide +kernel, rfl, by decide +kernel, by decide +kernel⟩
abbrev s_Row_count : Stmt := inClass (top 33) 7
abbrev nm_Row_count : List Str := ["self", "degree", "own", "many"]
theorem sc_Row_count : FnScope nm_Row_count ["self", "degree"] (defScope s_Row_count) := ⟨rfl, rfl, rfl, by decide +kernel, rfl, by decide +kernel, by decide +kernel⟩
abbrev s_has_places : Stmt := top 36
abbrev nm_has_places : List Str := ["row", "one", "mate"]
theorem sc_has_places : FnScope nm_has_places ["row", "one", "mate"] (defScope s_has_places) := ⟨rfl, rfl, rfl, by decide +kernel, rfl, by decide +kernel, by decide +kernel⟩
abbrev s_need_places : Stmt := top 37
abbrev nm_need_places : List Str := ["row", "one", "mate"]
theorem sc_need_places : FnScope nm_need_places ["row", "one", "mate"] (defScope s_need_places) := ⟨rfl, rfl, rfl, by decide +kernel, rfl, by decide +kernel, by decide +kernel⟩
abbrev s_need_row : Stmt := top 35
abbrev nm_need_row : List Str := ["value"]
theorem sc_need_row : FnScope nm_need_row ["value"] (defScope s_need_row) := ⟨rfl, rfl, rfl, by decide +kernel, rfl, by decide +kernel, by decide +kernel⟩
abbrev s_bond : Stmt := top 45
abbrev nm_bond : List Str := ["row", "one", "mate"]
theorem sc_bond : FnScope nm_bond ["row", "one", "mate"] (defScope s_bond) := ⟨rfl, rfl, rfl, by decide +kernel, rfl, by decide +kernel, by decide +kernel⟩
abbrev s_bonds : Stmt := top 46
abbrev nm_bonds : List Str := ["row", "told", "index", "one", "many", "mate", "_"]
theorem sc_bonds : FnScope nm_bonds ["row"] (defScope s_bonds) := ⟨rfl, rfl, rfl, by decide +kernel, rfl, by decide +kernel, by decide +kernel⟩
abbrev s__law_right : Stmt := top 57
abbrev nm__law_right : List Str := ["well", "turn", "degrees", "some", "mine", "due", "one", "mate", "a", "b", "word", "told", "degree"]
theorem sc__law_right : FnScope nm__law_right ["well"] (defScope s__law_right) := ⟨rfl, rfl, rfl, by decide +kernel, rfl, by decide +kernel, by decide +kernel⟩
abbrev s__law_well : Stmt := top 49
abbrev nm__law_well : List Str := ["script", "spot", "state", "cell", "own"]
theorem sc__law_well : FnScope nm__law_well ["script", "spot"] (defScope s__law_well) := ⟨rfl, rfl, rfl, by decide +kernel, rfl, by decide +kernel, by decide +kernel⟩
abbrev s_law : Stmt := top 58
abbrev nm_law : List Str := ["script", "spot"]
theorem sc_law : FnScope nm_law ["script"] (defScope s_law) := ⟨rfl, rfl, rfl, by decide +kernel, rfl, by decide +kernel, by decide +kernel⟩
structure Ad where
  f_is_filled : Addr
  d_is_filled : FuncData
  f_is_integer : Addr
  d_is_integer : FuncData
  f_is_between : Addr
  d_is_between : FuncData
  f_is_pair : Addr
  d_is_pair : FuncData
  f_is_kind : Addr
  d_is_kind : FuncData
  f_wrong_kind : Addr
  d_wrong_kind : FuncData
  f_are_kinds : Addr
  d_are_kinds : FuncData
  f_Row___init__ : Addr
  d_Row___init__ : FuncData
  f__law_due : Addr
  d__law_due : FuncData
  f__law_draw : Addr
  d__law_draw : FuncData
  f__law_pick : Addr
  d__law_pick : FuncData
  f__law_listed : Addr
  d__law_listed : FuncData
  f__law_lots : Addr
  d__law_lots : FuncData
  f__law_choices : Addr
  d__law_choices : FuncData
  f__law_webs : Addr
  d__law_webs : FuncData
  f_Row_kinds : Addr
  d_Row_kinds : FuncData
  f_ends_of : Addr
  d_ends_of : FuncData
  f_room_of_kinds : Addr
  d_room_of_kinds : FuncData
  f_turns : Addr
  d_turns : FuncData
  f_barred_kinds : Addr
  d_barred_kinds : FuncData
  f_kinds_can_be : Addr
  d_kinds_can_be : FuncData
  f_counted_kinds : Addr
  d_counted_kinds : FuncData
  f_moved_kinds : Addr
  d_moved_kinds : FuncData
  f__word : Addr
  d__word : FuncData
  f_need_can_be : Addr
  d_need_can_be : FuncData
  f_Row_count : Addr
  d_Row_count : FuncData
  f_has_places : Addr
  d_has_places : FuncData
  f_need_places : Addr
  d_need_places : FuncData
  f_need_row : Addr
  d_need_row : FuncData
  f_bond : Addr
  d_bond : FuncData
  f_bonds : Addr
  d_bonds : FuncData
  f__law_right : Addr
  d__law_right : FuncData
  f__law_well : Addr
  d__law_well : FuncData
  f_law : Addr
  d_law : FuncData
  C_Row : Addr
  mc : Value
  p_Row_kinds : Addr
structure Txt (w : World) (K : PySem.W.Frag) (mg : Str → Option Value) (a : Ad) : Prop where
  u_is_filled : Fun K "is_filled" "is_filled" s_is_filled a.f_is_filled a.d_is_filled
  m_is_filled : mg "is_filled" = some (.ref a.f_is_filled)
  u_is_integer : Fun K "is_integer" "is_integer" s_is_integer a.f_is_integer a.d_is_integer
  m_is_integer : mg "is_integer" = some (.ref a.f_is_integer)
  u_is_between : Fun K "is_between" "is_between" s_is_between a.f_is_between a.d_is_between
  m_is_between : mg "is_between" = some (.ref a.f_is_between)
  u_is_pair : Fun K "is_pair" "is_pair" s_is_pair a.f_is_pair a.d_is_pair
  m_is_pair : mg "is_pair" = some (.ref a.f_is_pair)
  u_is_kind : Fun K "is_kind" "is_kind" s_is_kind a.f_is_kind a.d_is_kind
  m_is_kind : mg "is_kind" = some (.ref a.f_is_kind)
  u_wrong_kind : Fun K "wrong_kind" "wrong_kind" s_wrong_kind a.f_wrong_kind a.d_wrong_kind
  m_wrong_kind : mg "wrong_kind" = some (.ref a.f_wrong_kind)
  u_are_kinds : Fun K "are_kinds" "are_kinds" s_are_kinds a.f_are_kinds a.d_are_kinds
  m_are_kinds : mg "are_kinds" = some (.ref a.f_are_kinds)
  u_Row___init__ : Fun K "__init__" "Row.__init__" s_Row___init__ a.f_Row___init__ a.d_Row___init__
  u__law_due : Fun K "_law_due" "_law_due" s__law_due a.f__law_due a.d__law_due
  m__law_due : mg "_law_due" = some (.ref a.f__law_due)
  u__law_draw : Fun K "_law_draw" "_law_draw" s__law_draw a.f__law_draw a.d__law_draw
  m__law_draw : mg "_law_draw" = some (.ref a.f__law_draw)
  u__law_pick : Fun K "_law_pick" "_law_pick" s__law_pick a.f__law_pick a.d__law_pick
  m__law_pick : mg "_law_pick" = some (.ref a.f__law_pick)
  u__law_listed : Fun K "_law_listed" "_law_listed" s__law_listed a.f__law_listed a.d__law_listed
  m__law_listed : mg "_law_listed" = some (.ref a.f__law_listed)
  u__law_lots : Fun K "_law_lots" "_law_lots" s__law_lots a.f__law_lots a.d__law_lots
  m__law_lots : mg "_law_lots" = some (.ref a.f__law_lots)
  u__law_choices : Fun K "_law_choices" "_law_choices" s__law_choices a.f__law_choices a.d__law_choices
  m__law_choices : mg "_law_choices" = some (.ref a.f__law_choices)
  u__law_webs : Fun K "_law_webs" "_law_webs" s__law_webs a.f__law_webs a.d__law_webs
  m__law_webs : mg "_law_webs" = some (.ref a.f__law_webs)
  u_Row_kinds : Fun K "kinds" "Row.kinds" s_Row_kinds a.f_Row_kinds a.d_Row_kinds
  u_ends_of : Fun K "ends_of" "ends_of" s_ends_of a.f_ends_of a.d_ends_of
  m_ends_of : mg "ends_of" = some (.ref a.f_ends_of)
  u_room_of_kinds : Fun K "room_of_kinds" "room_of_kinds" s_room_of_kinds a.f_room_of_kinds a.d_room_of_kinds
  m_room_of_kinds : mg "room_of_kinds" = some (.ref a.f_room_of_kinds)
  u_turns : Fun K "turns" "turns" s_turns a.f_turns a.d_turns
  m_turns : mg "turns" = some (.ref a.f_turns)
  u_barred_kinds : Fun K "barred_kinds" "barred_kinds" s_barred_kinds a.f_barred_kinds a.d_barred_kinds
  m_barred_kinds : mg "barred_kinds" = some (.ref a.f_barred_kinds)
  u_kinds_can_be : Fun K "kinds_can_be" "kinds_can_be" s_kinds_can_be a.f_kinds_can_be a.d_kinds_can_be
  m_kinds_can_be : mg "kinds_can_be" = some (.ref a.f_kinds_can_be)
  u_counted_kinds : Fun K "counted_kinds" "counted_kinds" s_counted_kinds a.f_counted_kinds a.d_counted_kinds
  m_counted_kinds : mg "counted_kinds" = some (.ref a.f_counted_kinds)
  u_moved_kinds : Fun K "moved_kinds" "moved_kinds" s_moved_kinds a.f_moved_kinds a.d_moved_kinds
  m_moved_kinds : mg "moved_kinds" = some (.ref a.f_moved_kinds)
  u__word : Fun K "_word" "_word" s__word a.f__word a.d__word
  m__word : mg "_word" = some (.ref a.f__word)
  u_need_can_be : Fun K "need_can_be" "need_can_be" s_need_can_be a.f_need_can_be a.d_need_can_be
  m_need_can_be : mg "need_can_be" = some (.ref a.f_need_can_be)
  u_Row_count : Fun K "count" "Row.count" s_Row_count a.f_Row_count a.d_Row_count
  u_has_places : Fun K "has_places" "has_places" s_has_places a.f_has_places a.d_has_places
  m_has_places : mg "has_places" = some (.ref a.f_has_places)
  u_need_places : Fun K "need_places" "need_places" s_need_places a.f_need_places a.d_need_places
  m_need_places : mg "need_places" = some (.ref a.f_need_places)
  u_need_row : Fun K "need_row" "need_row" s_need_row a.f_need_row a.d_need_row
  m_need_row : mg "need_row" = some (.ref a.f_need_row)
  u_bond : Fun K "bond" "bond" s_bond a.f_bond a.d_bond
  m_bond : mg "bond" = some (.ref a.f_bond)
  u_bonds : Fun K "bonds" "bonds" s_bonds a.f_bonds a.d_bonds
  m_bonds : mg "bonds" = some (.ref a.f_bonds)
  u__law_right : Fun K "_law_right" "_law_right" s__law_right a.f__law_right a.d__law_right
  m__law_right : mg "_law_right" = some (.ref a.f__law_right)
  u__law_well : Fun K "_law_well" "_law_well" s__law_well a.f__law_well a.d__law_well
  m__law_well : mg "_law_well" = some (.ref a.f__law_well)
  u_law : Fun K "law" "law" s_law a.f_law a.d_law
  m_law : mg "law" = some (.ref a.f_law)
  b_abs : mg "abs" = none
  b_all : mg "all" = none
  b_bool : mg "bool" = none
  b_divmod : mg "divmod" = none
  b_enumerate : mg "enumerate" = none
  b_int : mg "int" = none
  b_isinstance : mg "isinstance" = none
  b_len : mg "len" = none
  b_list : mg "list" = none
  b_max : mg "max" = none
  b_min : mg "min" = none
  b_range : mg "range" = none
  b_repr : mg "repr" = none
  b_set : mg "set" = none
  b_sorted : mg "sorted" = none
  b_sum : mg "sum" = none
  b_tuple : mg "tuple" = none
  c_MOST_COUNT : ∃ u, mg "MOST_COUNT" = some u ∧ RelV (.int 1000000000000000000000000000000) u
  c_MOST_DEGREE : ∃ u, mg "MOST_DEGREE" = some u ∧ RelV (.int 10000000000000000000000000000000) u
  c_MOST_KINDS : ∃ u, mg "MOST_KINDS" = some u ∧ RelV (.int 10) u
  m_Row : mg "Row" = some (.ref a.C_Row)
  cl_Row : Cls K a.C_Row
  na_kinds : NoAttr K a.C_Row "_kinds"
  mk_Row : Mk K a.C_Row a.f_Row___init__
  p_kinds : PropOf K a.C_Row "kinds" a.p_Row_kinds a.f_Row_kinds
  me_count : Meth K a.C_Row "count" a.f_Row_count
  i1_Row : PySem.W.findIn K (.ref a.C_Row) "__class__" = some (some (.builtin "object.__class__"))
  i2_Row : PySem.W.specialIn K (.builtin "object.__class__") "__get__" = some (some (.builtin "getset_descriptor.__get__"))
  i3_Row : PySem.W.takesIn K (.builtin "object.__class__") = some true
  i4_Row : PySem.W.mroIn K a.C_Row (.type "object") = some true
  i5_Row : PySem.W.kitOne K (.ref a.C_Row) (.ref a.C_Row) = some true
section
variable {w : World} {K : PySem.W.Frag} {mg : Str → Option Value} {a : Ad}
theorem b_is_filled (T : Txt w K mg a) : Binds K a.d_is_filled ["value"] [] := T.u_is_filled.binds (fun _ _ _ _ _ _ us hl => match us, hl with | [_], _ => rfl)
theorem b_is_integer (T : Txt w K mg a) : Binds K a.d_is_integer ["value"] [] := T.u_is_integer.binds (fun _ _ _ _ _ _ us hl => match us, hl with | [_], _ => rfl)
theorem b_is_between (T : Txt w K mg a) : Binds K a.d_is_between ["value", "least", "most"] [] := T.u_is_between.binds (fun _ _ _ _ _ _ us hl => match us, hl with | [_, _, _], _ => rfl)
theorem b_is_pair (T : Txt w K mg a) : Binds K a.d_is_pair ["value"] [] := T.u_is_pair.binds (fun _ _ _ _ _ _ us hl => match us, hl with | [_], _ => rfl)
theorem b_is_kind (T : Txt w K mg a) : Binds K a.d_is_kind ["value", "most"] [] := T.u_is_kind.binds (fun _ _ _ _ _ _ us hl => match us, hl with | [_, _], _ => rfl)
theorem b_wrong_kind (T : Txt w K mg a) : Binds K a.d_wrong_kind ["value"] [] := T.u_wrong_kind.binds (fun _ _ _ _ _ _ us hl => match us, hl with | [_], _ => rfl)
theorem b_are_kinds (T : Txt w K mg a) : Binds K a.d_are_kinds ["value"] [] := T.u_are_kinds.binds (fun _ _ _ _ _ _ us hl => match us, hl with | [_], _ => rfl)
theorem b_Row___init__ (T : Txt w K mg a) : Binds K a.d_Row___init__ ["self", "kinds"] [] := T.u_Row___init__.binds (fun _ _ _ _ _ _ us hl => match us, hl with | [_, _], _ => rfl)
theorem b__law_due (T : Txt w K mg a) : Binds K a.d__law_due ["some", "a", "b"] [] := T.u__law_due.binds (fun _ _ _ _ _ _ us hl => match us, hl with | [_, _, _], _ => rfl)
theorem b__law_draw (T : Txt w K mg a) : Binds K a.d__law_draw ["well", "many"] [] := T.u__law_draw.binds (fun _ _ _ _ _ _ us hl => match us, hl with | [_, _], _ => rfl)
theorem b__law_pick (T : Txt w K mg a) : Binds K a.d__law_pick ["well", "choices"] [] := T.u__law_pick.binds (fun _ _ _ _ _ _ us hl => match us, hl with | [_, _], _ => rfl)
theorem b__law_listed (T : Txt w K mg a) : Binds K a.d__law_listed ["well", "most"] [] := T.u__law_listed.binds (fun _ _ _ _ _ _ us hl => match us, hl with | [_, _], _ => rfl)
theorem b__law_lots (T : Txt w K mg a) : Binds K a.d__law_lots ["degrees"] [] := T.u__law_lots.binds (fun _ _ _ _ _ _ us hl => match us, hl with | [_], _ => rfl)
theorem b__law_choices (T : Txt w K mg a) : Binds K a.d__law_choices ["some", "many"] [] := T.u__law_choices.binds (fun _ _ _ _ _ _ us hl => match us, hl with | [_, _], _ => rfl)
theorem b__law_webs (T : Txt w K mg a) : Binds K a.d__law_webs ["degrees"] [] := T.u__law_webs.binds (fun _ _ _ _ _ _ us hl => match us, hl with | [_], _ => rfl)
theorem b_Row_kinds (T : Txt w K mg a) : Binds K a.d_Row_kinds ["self"] [] := T.u_Row_kinds.binds (fun _ _ _ _ _ _ us hl => match us, hl with | [_], _ => rfl)
theorem b_ends_of (T : Txt w K mg a) : Binds K a.d_ends_of ["kinds"] [] := T.u_ends_of.binds (fun _ _ _ _ _ _ us hl => match us, hl with | [_], _ => rfl)
theorem b_room_of_kinds (T : Txt w K mg a) : Binds K a.d_room_of_kinds ["kinds", "k"] [] := T.u_room_of_kinds.binds (fun _ _ _ _ _ _ us hl => match us, hl with | [_, _], _ => rfl)
theorem b_turns (T : Txt w K mg a) : Binds K a.d_turns ["kinds"] [] := T.u_turns.binds (fun _ _ _ _ _ _ us hl => match us, hl with | [_], _ => rfl)
theorem b_barred_kinds (T : Txt w K mg a) : Binds K a.d_barred_kinds ["kinds"] [] := T.u_barred_kinds.binds (fun _ _ _ _ _ _ us hl => match us, hl with | [_], _ => rfl)
theorem b_kinds_can_be (T : Txt w K mg a) : Binds K a.d_kinds_can_be ["kinds"] [] := T.u_kinds_can_be.binds (fun _ _ _ _ _ _ us hl => match us, hl with | [_], _ => rfl)
theorem b_counted_kinds (T : Txt w K mg a) : Binds K a.d_counted_kinds ["counts"] [] := T.u_counted_kinds.binds (fun _ _ _ _ _ _ us hl => match us, hl with | [_], _ => rfl)
theorem b_moved_kinds (T : Txt w K mg a) : Binds K a.d_moved_kinds ["kinds", "one", "mate", "by"] [] := T.u_moved_kinds.binds (fun _ _ _ _ _ _ us hl => match us, hl with | [_, _, _, _], _ => rfl)
theorem b__word (T : Txt w K mg a) : Binds K a.d__word ["kinds", "one", "mate"] [] := T.u__word.binds (fun _ _ _ _ _ _ us hl => match us, hl with | [_, _, _], _ => rfl)
theorem b_need_can_be (T : Txt w K mg a) : Binds K a.d_need_can_be ["row"] [] := T.u_need_can_be.binds (fun _ _ _ _ _ _ us hl => match us, hl with | [_], _ => rfl)
theorem b_Row_count (T : Txt w K mg a) : Binds K a.d_Row_count ["self", "degree"] [] := T.u_Row_count.binds (fun _ _ _ _ _ _ us hl => match us, hl with | [_, _], _ => rfl)
theorem b_has_places (T : Txt w K mg a) : Binds K a.d_has_places ["row", "one", "mate"] [] := T.u_has_places.binds (fun _ _ _ _ _ _ us hl => match us, hl with | [_, _, _], _ => rfl)
theorem b_need_places (T : Txt w K mg a) : Binds K a.d_need_places ["row", "one", "mate"] [] := T.u_need_places.binds (fun _ _ _ _ _ _ us hl => match us, hl with | [_, _, _], _ => rfl)
theorem b_need_row (T : Txt w K mg a) : Binds K a.d_need_row ["value"] [] := T.u_need_row.binds (fun _ _ _ _ _ _ us hl => match us, hl with | [_], _ => rfl)
theorem b_bond (T : Txt w K mg a) : Binds K a.d_bond ["row", "one", "mate"] [] := T.u_bond.binds (fun _ _ _ _ _ _ us hl => match us, hl with | [_, _, _], _ => rfl)
theorem b_bonds (T : Txt w K mg a) : Binds K a.d_bonds ["row"] [] := T.u_bonds.binds (fun _ _ _ _ _ _ us hl => match us, hl with | [_], _ => rfl)
theorem b__law_right (T : Txt w K mg a) : Binds K a.d__law_right ["well"] [] := T.u__law_right.binds (fun _ _ _ _ _ _ us hl => match us, hl with | [_], _ => rfl)
theorem b__law_well (T : Txt w K mg a) : Binds K a.d__law_well ["script", "spot"] [] := T.u__law_well.binds (fun _ _ _ _ _ _ us hl => match us, hl with | [_, _], _ => rfl)
theorem b_law (T : Txt w K mg a) : Binds K a.d_law ["script"] [] := T.u_law.binds (fun _ _ _ _ _ _ us hl => match us, hl with | [_], _ => rfl)
theorem kb_bond (T : Txt w K mg a) : KBn K a.d_bond ["row", "one", "mate"] 0 ["mate", "one", "row"] (fun us ws => us ++ ws.reverse) (fun vs zs => vs ++ zs.reverse) := fun_kwV T.u_bond (fun _ _ _ _ _ _ us ws l1 l2 => match us, l1, ws, l2 with | [], _, [_, _, _], _ => rfl)
theorem kb_bonds (T : Txt w K mg a) : KBn K a.d_bonds ["row"] 0 ["row"] (fun us ws => us ++ ws) (fun vs zs => vs ++ zs) := fun_kw T.u_bonds (fun _ _ _ _ _ _ us ws l1 l2 => match us, l1, ws, l2 with | [], _, [_], _ => rfl)
end
end Dg

namespace Dg
open PySem PySem.Spec PyProof.Rows L2 L2H LamX
def sp_is_filled (K : PySem.W.Frag) (C : Addr) : Sp := fun vs H Q _ => ∃ x d, vs = [x] ∧ Dv K H x d ∧ Q (.bl (filledD d)) H

def sp_is_integer (K : PySem.W.Frag) (C : Addr) : Sp := fun vs H Q _ => ∃ x d, vs = [x] ∧ Dv K H x d ∧ Q (.bl (intD d)) H

def sp_is_between (K : PySem.W.Frag) (C : Addr) : Sp := fun vs H Q _ => ∃ x d lo hi, vs = [x, .int lo, .int hi] ∧ Dv K H x d ∧ Q (.bl (betweenD d lo hi)) H

def sp_is_pair (K : PySem.W.Frag) (C : Addr) : Sp := fun vs H Q _ => ∃ x d, vs = [x] ∧ Dv K H x d ∧ Q (.bl (pairD d)) H

def sp_is_kind (K : PySem.W.Frag) (C : Addr) : Sp := fun vs H Q _ => ∃ x d m, vs = [x, .int m] ∧ Dv K H x d ∧ Q (.bl (kindD d m)) H

def sp_wrong_kind (K : PySem.W.Frag) (C : Addr) : Sp := fun vs H Q _ => ∃ x d, vs = [x] ∧ Dv K H x d ∧ ∀ H', Same H H' → Q (optV (wrongD d)) H'

def sp_are_kinds (K : PySem.W.Frag) (C : Addr) : Sp := fun vs H Q _ => ∃ x d, vs = [x] ∧ Dv K H x d ∧ ∀ H', Same H H' → Q (.bl (okD d)) H'

def sp_Row___init__ (K : PySem.W.Frag) (C : Addr) : Sp := fun vs H Q _ => ∃ p dx v d, vs = [.ref p, v] ∧ H p = some (.ins C dx []) ∧ Dv K H v d ∧ okD d = true ∧ ∀ H', But p H H' → H' p = some (.ins C dx [("_kinds", v)]) → Q .non H'
theorem mk_Row {K : PySem.W.Frag} {C : Addr} {H : Hp} {v : V} {d : PyData} {E : XK} {R : Addr → Hp → Prop} (hd : Dv K H v d) (ok : okD d = true) (q : ∀ x dx H', H x = none → Same H H' → H' x = some (.ins C dx [("_kinds", v)]) → R x H') :
    ∀ x dx, H x = none → H dx = none → dx ≠ x → sp_Row___init__ K C (.ref x :: ([v] ++ [])) (upd (upd H dx (.own x)) x (.ins C dx [])) (fun v H2 => v = .non ∧ R x H2) E := by
  intro x dx hx hdx ne
  have s1 : Same H (upd (upd H dx (.own x)) x (.ins C dx [])) := fun b u e => by
    rw [upd_ne (ne_of_none e hx), upd_ne (ne_of_none e hdx)]
    exact e
  exact ⟨x, dx, v, d, rfl, upd_same, hd.same s1, ok, fun H' b e => ⟨rfl, q x dx H' hx (same_of_but s1 b hx) e⟩⟩

def sp__law_due (K : PySem.W.Frag) (C : Addr) : Sp := fun vs H Q _ => ∃ (l : Addr) (us : List Wt) (a b : Int), vs = [.ref l, .int a, .int b] ∧ H l = some (.lst (us.map fun u => V.ref u.t)) ∧ (∀ u ∈ us, H u.t = some (.lst u.tv) ∧ FzAll H u.tv (u.ps.map kD) ∧ u.tv.length ≤ 36) ∧ us.length ≤ 32768 ∧ ∀ H', Same H H' → Q (.str (dueB (us.map fun u => decide ((a, b) ∈ u.ps)))) H'

def sp__law_draw (K : PySem.W.Frag) (C : Addr) : Sp := fun vs H Q _ => ∃ p m, vs = [.ref p, .int m] ∧ Well H p ∧ 1 ≤ m ∧ m < 2 ^ 200 ∧ ∀ r H', 0 ≤ r → r < m → But p H H' → Well H' p → Q (.int r) H'

def sp__law_pick (K : PySem.W.Frag) (C : Addr) : Sp := fun vs H Q _ => ∃ p q xs, vs = [.ref p, .ref q] ∧ Well H p ∧ q ≠ p ∧ (SqL K H q xs ∨ SqT K H q xs) ∧ 1 ≤ xs.length ∧ xs.length ≤ 100000 ∧ ∀ v H', v ∈ xs → But p H H' → Well H' p → Q v H'

def sp__law_listed (K : PySem.W.Frag) (C : Addr) : Sp := fun vs H Q _ => ∃ (p : Addr) (most : Int), vs = [.ref p, .int most] ∧ Well H p ∧ 1 ≤ most ∧ most ≤ 50 ∧ ∀ (l : Addr) (ds : List Int) H', l ≠ p → But p H H' → Well H' p → H' l = some (.lst (ds.map V.int)) → H l = none → ds ≠ [] → (ds.length : Int) ≤ most → (∀ d ∈ ds, 0 ≤ d ∧ d ≤ 10000) → Q (.ref l) H'

def sp__law_lots (K : PySem.W.Frag) (C : Addr) : Sp := fun vs H Q _ => ∃ l ds, vs = [.ref l] ∧ H l = some (.lst (ds.map V.int)) ∧ ds.length ≤ 60 ∧ ∀ t H' ks, Same H H' → Fz H' (.ref t) (KD ks) → KindsOf (cntOf ds) ks → Q (.ref t) H'

def sp__law_choices (K : PySem.W.Frag) (C : Addr) : Sp := fun vs H Q _ => ∃ (l : Addr) (ss : List Int) (m : Int), vs = [.ref l, .int m] ∧ H l = some (.lst (ss.map V.int)) ∧ ss.length ≤ 8 ∧ 0 ≤ m ∧ ∀ (r : Addr) (cs : Lls) H', Same H H' → H' r = some (.lst (refL cs)) → LlsAt H' cs → H r = none → (∀ c ∈ cs, H c.1 = none) → cs.length ≤ 2 ^ ss.length → (∀ c ∈ cs, c.2.Sublist ss ∧ (c.2.length : Int) = m) → (∀ d : List Int, d.Sublist ss → (d.length : Int) = m → ∃ c ∈ cs, c.2 = d) → Q (.ref r) H'

def sp__law_webs (K : PySem.W.Frag) (C : Addr) : Sp := fun vs H Q _ => ∃ (l : Addr) (ds : List Int), vs = [.ref l] ∧ H l = some (.lst (ds.map V.int)) ∧ ds.length ≤ 6 ∧ (∀ d ∈ ds, 0 ≤ d) ∧ ∀ (r : Addr) (us : List Wt) H', Same H H' → H r = none → H' r = some (.lst (us.map fun u => V.ref u.t)) → (∀ u ∈ us, H' u.t = some (.lst u.tv) ∧ FzAll H' u.tv (u.ps.map kD) ∧ u.tv.length ≤ 36) → us.length ≤ 32768 → (us ≠ [] ↔ Web ds) →
  (∀ (a b : Nat) (t : Bool), a < b → b < ds.length → ((∃ u ∈ us, (((a : Int), (b : Int)) ∈ u.ps ↔ t = true)) ↔ WebI a b t 0 ds)) → Q (.ref r) H'

def sp_Row_kinds (K : PySem.W.Frag) (C : Addr) : Sp := fun vs H Q _ => ∃ p dx v, vs = [.ref p] ∧ H p = some (.ins C dx [("_kinds", v)]) ∧ Q v H

def sp_ends_of (K : PySem.W.Frag) (C : Addr) : Sp := fun vs H Q _ => ∃ v ks, vs = [v] ∧ Fz H v (KD ks) ∧ ks.length ≤ 1000 ∧ (∀ k ∈ ks, k.1.natAbs < 2 ^ 250 ∧ k.2.natAbs < 2 ^ 250) ∧ ∀ H', Same H H' → Q (.int (ks.map fun k => k.1 * k.2).sum) H'

def sp_room_of_kinds (K : PySem.W.Frag) (C : Addr) : Sp := fun vs H Q _ => ∃ v ks k, vs = [v, .int k] ∧ Fz H v (KD ks) ∧ LowK ks ∧ 0 ≤ k ∧ k.natAbs < 2 ^ 250 ∧ ∀ H', Same H H' → Q (.int (roomK ks k)) H'

def sp_turns (K : PySem.W.Frag) (C : Addr) : Sp := fun vs H Q _ => ∃ v ks, vs = [v] ∧ Fz H v (KD ks) ∧ LowK ks ∧ ∀ l H', Same H H' → H' l = some (.lst ((turnsK ks).map V.int)) → Q (.ref l) H'

def sp_barred_kinds (K : PySem.W.Frag) (C : Addr) : Sp := fun vs H Q _ => ∃ v ks, vs = [v] ∧ Fz H v (KD ks) ∧ LowK ks ∧ (∀ p ∈ ks, 0 ≤ p.1) ∧ ∀ H', Same H H' → Q (oiV (barK ks)) H'

def sp_kinds_can_be (K : PySem.W.Frag) (C : Addr) : Sp := fun vs H Q _ => ∃ v ks, vs = [v] ∧ Fz H v (KD ks) ∧ LowK ks ∧ (∀ p ∈ ks, 0 ≤ p.1) ∧ ∀ H', Same H H' → Q (.bl (barK ks).isNone) H'

def sp_counted_kinds (K : PySem.W.Frag) (C : Addr) : Sp := fun vs H Q _ => ∃ c cs, vs = [.ref c] ∧ DI H c cs ∧ cs.length ≤ 10000 ∧ ∀ p H' ks, Same H H' → Fz H' (.ref p) (KD ks) → KindsOf (val cs) ks → ks.length ≤ cs.length → Q (.ref p) H'

def sp_moved_kinds (K : PySem.W.Frag) (C : Addr) : Sp := fun vs H Q _ => ∃ (t : Addr) (ks : Kinds) (g m b : Int), vs = [.ref t, .int g, .int m, .int b] ∧ Fz H (.ref t) (KD ks) ∧ OkK ks ∧ val ks g ≠ 0 ∧ val ks m ≠ 0 ∧ ∀ p H' ds, Same H H' → Fz H' (.ref p) (KD ds) → KindsOf (moveF ks g m b) ds → ds.length ≤ 14 → Q (.ref p) H'

def sp__word (K : PySem.W.Frag) (C : Addr) : Sp := fun vs H Q _ => ∃ (t : Addr) (ks : Kinds) (g m : Int), vs = [.ref t, .int g, .int m] ∧ Fz H (.ref t) (KD ks) ∧ OkK ks ∧ val ks g ≠ 0 ∧ val ks m ≠ 0 ∧ ∀ H', Same H H' → Q (.str (wordK ks g m)) H'

def sp_need_can_be (K : PySem.W.Frag) (C : Addr) : Sp := fun vs H Q _ => ∃ p ks, vs = [.ref p] ∧ RowAt C H p ks ∧ OkK ks ∧ barK ks = none ∧ ∀ H', Same H H' → Q .non H'

def sp_Row_count (K : PySem.W.Frag) (C : Addr) : Sp := fun vs H Q _ => ∃ p ks x d, vs = [.ref p, x] ∧ RowAt C H p ks ∧ OkK ks ∧ Dv K H x d ∧ ∀ H', Same H H' → Q (.int (countD ks d)) H'

def sp_has_places (K : PySem.W.Frag) (C : Addr) : Sp := fun vs H Q _ => ∃ (p : Addr) (ks : Kinds) (x : V) (dx : PyData) (y : V) (dy : PyData), vs = [.ref p, x, y] ∧ RowAt C H p ks ∧ OkK ks ∧ Dv K H x dx ∧ Dv K H y dy ∧ (Plc ks dx dy → ∀ H', Same H H' → Q (.bl true) H') ∧ (¬ Plc ks dx dy → ∀ H', Same H H' → Q (.bl false) H')

def sp_need_places (K : PySem.W.Frag) (C : Addr) : Sp := fun vs H Q _ => ∃ (p : Addr) (ks : Kinds) (g m : Int), vs = [.ref p, .int g, .int m] ∧ RowAt C H p ks ∧ OkK ks ∧ val ks g ≠ 0 ∧ val ks m ≠ 0 ∧ (g ≠ m ∨ val ks g ≠ 1) ∧ ∀ H', Same H H' → Q .non H'

def sp_need_row (K : PySem.W.Frag) (C : Addr) : Sp := fun vs H Q _ => ∃ p ks, vs = [.ref p] ∧ RowAt C H p ks ∧ ∀ H', Same H H' → Q .non H'

def sp_bond (K : PySem.W.Frag) (C : Addr) : Sp := fun vs H Q _ => ∃ (p : Addr) (ks : Kinds) (g m : Int), vs = [.ref p, .int g, .int m] ∧ RowAt C H p ks ∧ OkK ks ∧ barK ks = none ∧ val ks g ≠ 0 ∧ val ks m ≠ 0 ∧ (g ≠ m ∨ val ks g ≠ 1) ∧ ∀ H', Same H H' → Q (.str (wordK ks g m)) H'

def sp_bonds (K : PySem.W.Frag) (C : Addr) : Sp := fun vs H Q _ => ∃ (p : Addr) (ks : Kinds), vs = [.ref p] ∧ RowAt C H p ks ∧ OkK ks ∧ barK ks = none ∧ ∀ t H', Same H H' → Fz H' (.ref t) (.tuple ((pairsI ks ks.length).map (bD ks))) → Q (.ref t) H'

def sp__law_right (K : PySem.W.Frag) (C : Addr) : Sp := fun vs H Q _ => ∃ p, vs = [.ref p] ∧ Well H p ∧ ∀ H', But p H H' → Well H' p → Q (.bl true) H'

def sp__law_well (K : PySem.W.Frag) (C : Addr) : Sp := fun vs H Q _ => ∃ (s : Addr) (ns : List Int) (t : Int), vs = [.ref s, .int t] ∧ SqL K H s (ns.map V.int) ∧ ns.length ≤ 63 ∧ 0 ≤ t ∧ t ≤ 100 ∧ ∀ p H', Same H H' → H p = none → Well H' p → Q (.ref p) H'

def sp_law (K : PySem.W.Frag) (C : Addr) : Sp := fun vs H Q _ => ∃ (s : Addr) (ns : List Int), vs = [.ref s] ∧ SqL K H s (ns.map V.int) ∧ ns.length ≤ 63 ∧ (∀ z ∈ ns, Builtin.Int.intBits z ≤ 1048576) ∧ ∀ H', Q (.bl true) H'

end Dg

namespace Dg
open PySem PySem.Spec PyProof.Rows L2 L2H LamX
local macro_rules | `(tactic| walk_at "go") => `(tactic| repeat (first
  | with_reducible refine r_seq ?_ | with_reducible refine r_next ?_ | with_reducible refine r_cont ?_ | with_reducible refine r_break ?_
  | with_reducible refine r_asg ?_ | with_reducible refine r_ret ?_ | with_reducible refine r_retN ?_ | with_reducible refine r_drop ?_ | with_reducible refine r_name ?_
  | ((with_reducible apply r_var); (focus exact rfl))
  | with_reducible refine r_c ?_ | with_reducible refine r_op ?_ | with_reducible refine r_un ?_ | with_reducible refine r_cb ?_ | with_reducible refine r_ckw ?_
  | with_reducible refine r_nil ?_ | with_reducible refine r_cons ?_ | with_reducible refine r_call ?_ | with_reducible refine r_ifS ?_ | with_reducible refine r_B ?_ | with_reducible refine r_test ?_ | with_reducible refine r_not ?_ | with_reducible refine r_and ?_ | with_reducible refine r_or ?_ | with_reducible refine r_bl ?_
  | with_reducible refine r_andV ?_ | with_reducible refine r_orV ?_ | with_reducible refine r_notV ?_ | with_reducible refine r_ifE ?_ | with_reducible refine r_t ?_ | with_reducible refine r_f ?_
  | with_reducible refine r_gnil ?_ | with_reducible refine r_gcons ?_ | with_reducible refine r_tup ?_ | with_reducible refine r_lst ?_
  | with_reducible refine r_addI ?_ | with_reducible refine r_addIB ?_ | with_reducible refine r_subI ?_ | with_reducible refine r_lt ?_ | with_reducible refine r_le ?_ | with_reducible refine r_gt ?_ | with_reducible refine r_ge ?_
  | with_reducible refine r_eqI ?_ | with_reducible refine r_neI ?_ | with_reducible refine r_is ?_ | with_reducible refine r_isnot ?_ | with_reducible refine r_abs ?_ | with_reducible refine r_max ?_ | with_reducible refine r_min ?_
  | with_reducible refine r_intI ?_ | with_reducible refine r_pow18 ?_ | with_reducible refine r_pow30 ?_ | with_reducible refine r_pow31 ?_ | with_reducible refine r_pow39 ?_ | with_reducible refine r_negI ?_ | with_reducible refine r_methV ?_ | with_reducible refine r_dget ?_ | with_reducible refine r_dget2 ?_ | with_reducible refine r_dput ?_ | with_reducible refine r_sl ?_ | with_reducible refine r_part ?_ | with_reducible refine r_partI ?_
  | with_reducible refine r_nopart ?_ | with_reducible refine r_revL ?_ | with_reducible refine r_bm ?_ | with_reducible refine r_bm0 ?_ | with_reducible refine r_tyS ?_ | with_reducible refine r_s0 ?_ | with_reducible refine r_s1 ?_ | with_reducible refine r_strS ?_ | with_reducible refine r_joined ?_ | with_reducible refine r_jnil ?_ | with_reducible refine r_jcons ?_ | with_reducible refine r_fmt ?_ | with_reducible refine r_eqS ?_ | with_reducible refine r_neS ?_ | with_reducible refine r_neB ?_ | with_reducible refine r_eqB ?_ | with_reducible refine r_gsub ?_ | with_reducible refine r_for ?_ | with_reducible refine r_iList ?_ | with_reducible refine r_iTup ?_
  | with_reducible refine r_iRng ?_ | with_reducible refine r_iEnT ?_ | with_reducible refine r_lc ?_ | with_reducible refine r_yes1 ?_ | with_reducible refine r_chain ?_ | with_reducible refine r_fld ?_ | with_reducible refine r_prop ?_ | with_reducible refine r_cmeth ?_ | with_reducible refine r_par ?_ | with_reducible refine r_cmethK ?_ | ((with_reducible apply r_mkL); (focus exact rfl))))


section
variable {P : Program} {w : World} {K : PySem.W.Frag} {mg : Str → Option Value} {base : Heap} {a : Ad}
theorem ok_is_filled (T : Txt w K mg a) : FnOk P w K mg base CX0 2 a.f_is_filled a.d_is_filled ["value"] (sp_is_filled K a.C_Row) := by
  refine Fun.ok (k := 1) T.u_is_filled sc_is_filled (fun vs H Q E h => ?_) (fun cdv A outer s H vs Q E hr h => ?_)
  · obtain ⟨x, d, rfl, _⟩ := h
    rfl
  · obtain ⟨x, d, rfl, hd, q⟩ := h
    refine ⟨_, (pss_one (ps_ret (pe_and (pe_callB (callIsiK (K := K) rfl) (by rfl) T.b_isinstance (by decide +kernel) (pa_cons (pv 0) (pa_cons (pe_ty "tuple" (by rfl) T.b_tuple (by decide +kernel)) pa_nil))) (pe_one (pe_cmpR opGt (pe_callB (callLenK (K := K) rfl) (by rfl) T.b_len (by decide +kernel) (pa_cons (pv 0) pa_nil)) pe_int (nomark _)))))), ?_⟩
    walk_at "go"
    refine r_isiD hd (kit_tuple d) ?_
    walk_at "go"
    refine r_bool (fun e => ?_) (fun e => ?_)
    · obtain ⟨p, xs, ds, rfl, rfl, h1, h2⟩ := hd.isT e
      walk_at "go"
      refine r_lenT h1 ?_
      walk_at "go"
      have z : filledD (.tuple ds) = decide ((0 : Int) < (xs.length : Int)) := by
        show decide (0 < ds.length) = _
        rw [h2.len]
        by_cases c : 0 < ds.length
        · rw [decide_eq_true c, decide_eq_true (by omega)]
        · rw [decide_eq_false c, decide_eq_false (by omega)]
      rw [← z]
      exact q
    · have z : filledD d = false := by cases d <;> first | rfl | (simp [isT] at e)
      rw [z] at q
      exact q
end


section
variable {P : Program} {w : World} {K : PySem.W.Frag} {mg : Str → Option Value} {base : Heap} {a : Ad}
theorem ok_is_integer (T : Txt w K mg a) : FnOk P w K mg base CX0 2 a.f_is_integer a.d_is_integer ["value"] (sp_is_integer K a.C_Row) := by
  refine Fun.ok (k := 1) T.u_is_integer sc_is_integer (fun vs H Q E h => ?_) (fun cdv A outer s H vs Q E hr h => ?_)
  · obtain ⟨x, d, rfl, _⟩ := h
    rfl
  · obtain ⟨x, d, rfl, hd, q⟩ := h
    refine ⟨_, (pss_one (ps_ret (pe_and (pe_callB (callIsiK (K := K) rfl) (by rfl) T.b_isinstance (by decide +kernel) (pa_cons (pv 0) (pa_cons (pe_ty "int" (by rfl) T.b_int (by decide +kernel)) pa_nil))) (pe_one (pe_not (pe_callB (callIsiK (K := K) rfl) (by rfl) T.b_isinstance (by decide +kernel) (pa_cons (pv 0) (pa_cons (pe_ty "bool" (by rfl) T.b_bool (by decide +kernel)) pa_nil)))))))), ?_⟩
    walk_at "go"
    refine r_isiD hd (kit_int d) ?_
    walk_at "go"
    unfold intD at q
    refine r_bool (fun e => ?_) (fun e => ?_)
    · rw [e, Bool.true_and] at q
      walk_at "go"
      refine r_isiD hd (kit_bool d) ?_
      walk_at "go"
      exact q
    · rw [e, Bool.false_and] at q
      exact q
end


section
variable {P : Program} {w : World} {K : PySem.W.Frag} {mg : Str → Option Value} {base : Heap} {a : Ad}
theorem ok_is_between (T : Txt w K mg a) : FnOk P w K mg base CX0 4 a.f_is_between a.d_is_between ["value", "least", "most"] (sp_is_between K a.C_Row) := by
  refine Fun.ok (k := 3) T.u_is_between sc_is_between (fun vs H Q E h => ?_) (fun cdv A outer s H vs Q E hr h => ?_)
  · obtain ⟨x, d, lo, hi, rfl, _⟩ := h
    rfl
  · obtain ⟨x, d, lo, hi, rfl, hd, q⟩ := h
    refine ⟨_, (pss_one (ps_ret (pe_and (pe_call (ok_is_integer T) (hr.mono (by decide)) (by rfl) T.m_is_integer T.u_is_integer.kp (b_is_integer T) .nil pass0 (pa_cons (pv 0) pa_nil)) (pe_one (pe_chain opLe opLe (pv 1) (pv 0) (pv 2)))))), ?_⟩
    walk_at "go"
    refine ⟨x, d, rfl, hd, ?_⟩
    walk_at "go"
    refine r_bool (fun e => ?_) (fun e => ?_)
    · obtain ⟨i, rfl⟩ := intD_int e
      obtain rfl := hd.int
      walk_at "go"
      refine r_dec (fun h1 => ?_) (fun h1 => ?_)
      · walk_at "go"
        have z : betweenD (.int i) lo hi = decide (i ≤ hi) := by
          show (decide (lo ≤ i) && decide (i ≤ hi)) = _
          rw [decide_eq_true h1, Bool.true_and]
        rw [← z]
        exact q
      · have z : betweenD (.int i) lo hi = false := by
          show (decide (lo ≤ i) && decide (i ≤ hi)) = _
          rw [decide_eq_false h1, Bool.false_and]
        rw [← z]
        exact q
    · rw [betweenD_no e] at q
      exact q
end


section
variable {P : Program} {w : World} {K : PySem.W.Frag} {mg : Str → Option Value} {base : Heap} {a : Ad}
theorem ok_is_pair (T : Txt w K mg a) : FnOk P w K mg base CX0 2 a.f_is_pair a.d_is_pair ["value"] (sp_is_pair K a.C_Row) := by
  refine Fun.ok (k := 1) T.u_is_pair sc_is_pair (fun vs H Q E h => ?_) (fun cdv A outer s H vs Q E hr h => ?_)
  · obtain ⟨x, d, rfl, _⟩ := h
    rfl
  · obtain ⟨x, d, rfl, hd, q⟩ := h
    refine ⟨_, (pss_one (ps_ret (pe_and (pe_callB (callIsiK (K := K) rfl) (by rfl) T.b_isinstance (by decide +kernel) (pa_cons (pv 0) (pa_cons (pe_ty "tuple" (by rfl) T.b_tuple (by decide +kernel)) pa_nil))) (pe_one (pe_cmpR (opEqK (K := K) hr rfl) (pe_callB (callLenK (K := K) rfl) (by rfl) T.b_len (by decide +kernel) (pa_cons (pv 0) pa_nil)) pe_int (nomark _)))))), ?_⟩
    walk_at "go"
    refine r_isiD hd (kit_tuple d) ?_
    walk_at "go"
    refine r_bool (fun e => ?_) (fun e => ?_)
    · obtain ⟨p, xs, ds, rfl, rfl, h1, h2⟩ := hd.isT e
      walk_at "go"
      refine r_lenT h1 ?_
      walk_at "go"
      have z : pairD (.tuple ds) = decide ((xs.length : Int) = 2) := by
        show decide (ds.length = 2) = _
        rw [h2.len]
        by_cases c : ds.length = 2
        · rw [decide_eq_true c, decide_eq_true (by omega)]
        · rw [decide_eq_false c, decide_eq_false (by omega)]
      rw [← z]
      exact q
    · have z : pairD d = false := by cases d <;> first | rfl | (simp [isT] at e)
      rw [z] at q
      exact q
end


section
variable {P : Program} {w : World} {K : PySem.W.Frag} {mg : Str → Option Value} {base : Heap} {a : Ad}
theorem ok_is_kind (T : Txt w K mg a) : FnOk P w K mg base CX0 6 a.f_is_kind a.d_is_kind ["value", "most"] (sp_is_kind K a.C_Row) := by
  refine Fun.ok (k := 5) T.u_is_kind sc_is_kind (fun vs H Q E h => ?_) (fun cdv A outer s H vs Q E hr h => ?_)
  · obtain ⟨x, d, m, rfl, _⟩ := h
    rfl
  · obtain ⟨x, d, m, rfl, hd, q⟩ := h
    refine ⟨_, (pss_one (ps_ret (pe_and (pe_call (ok_is_pair T) (hr.mono (by decide)) (by rfl) T.m_is_pair T.u_is_pair.kp (b_is_pair T) .nil pass0 (pa_cons (pv 0) pa_nil)) (pe_and (pe_call (ok_is_between T) (hr.mono (by decide)) (by rfl) T.m_is_between T.u_is_between.kp (b_is_between T) .nil pass0 (pa_cons (pe_ix (ixK (K := K) rfl) (pv 0) pe_int (fun _ _ => rfl)) (pa_cons pe_int (pa_cons (pv 1) pa_nil)))) (pe_one (pe_call (ok_is_between T) (hr.mono (by decide)) (by rfl) T.m_is_between T.u_is_between.kp (b_is_between T) .nil pass0 (pa_cons (pe_ix (ixK (K := K) rfl) (pv 0) pe_int (fun _ _ => rfl)) (pa_cons pe_int (pa_cons (pe_gk T.c_MOST_COUNT (by rfl)) pa_nil))))))))), ?_⟩
    walk_at "go"
    refine ⟨x, d, rfl, hd, ?_⟩
    walk_at "go"
    refine r_bool (fun e => ?_) (fun e => ?_)
    · have t : isT d = true := by cases d <;> first | rfl | (simp [pairD] at e)
      obtain ⟨p, xs, ds, rfl, rfl, h1, h2⟩ := hd.isT t
      obtain ⟨d1, d2, rfl⟩ : ∃ d1 d2, ds = [d1, d2] := by
        have l : ds.length = 2 := of_decide_eq_true e
        cases ds with
        | nil => cases l
        | cons d1 ds =>
          cases ds with
          | nil => cases l
          | cons d2 ds =>
            cases ds with
            | nil => exact ⟨d1, d2, rfl⟩
            | cons _ _ => simp at l
      obtain ⟨x1, x2, g1, g2, rfl⟩ : ∃ x1 x2, Dp K H x1 d1 ∧ Dp K H x2 d2 ∧ xs = [x1, x2] := by
        cases h2 with
        | cons g1 h2 =>
          cases h2 with
          | cons g2 h2 =>
            cases h2
            exact ⟨_, _, g1, g2, rfl⟩
      walk_at "go"
      refine r_ixT h1 (i := 0) (v := x1) rfl ?_
      walk_at "go"
      refine ⟨x1, d1, 0, m, rfl, .dp g1, ?_⟩
      walk_at "go"
      refine r_bool (fun e1 => ?_) (fun e1 => ?_)
      · walk_at "go"
        refine r_ixT h1 (i := 1) (v := x2) rfl ?_
        walk_at "go"
        refine ⟨x2, d2, 1, _, rfl, .dp g2, ?_⟩
        have z : kindD (.tuple [d1, d2]) m = betweenD d2 1 1000000000000000000000000000000 := by
          show (betweenD d1 0 m && betweenD d2 1 (1000000000000000000000000000000)) = _
          rw [e1, Bool.true_and]
        rw [← z]
        exact q
      · have z : kindD (.tuple [d1, d2]) m = false := by
          show (betweenD d1 0 m && betweenD d2 1 (1000000000000000000000000000000)) = _
          rw [e1, Bool.false_and]
        rw [← z]
        exact q
    · have z : kindD d m = false := by
        unfold kindD
        split
        · exact absurd e (by simp [pairD])
        · rfl
      rw [z] at q
      exact q
end

theorem filled_tup {d : PyData} (h : filledD d = true) : isT d = true := by cases d <;> first | rfl | (simp [filledD] at h)
theorem wrongFrom_more {ds : List PyData} {k : Nat} {d : PyData} {m : Int} (h : ds[k]? = some d) (i : Nat) : wrongFrom (ds.drop k) i m = if i = 10 ∨ kindD d m = false then some i else wrongFrom (ds.drop (k + 1)) (i + 1) (firstD d - 1) := by
  obtain ⟨hl, he⟩ := List.getElem?_eq_some_iff.mp h
  rw [List.drop_eq_getElem_cons hl, he]
  rfl

section
variable {P : Program} {w : World} {K : PySem.W.Frag} {mg : Str → Option Value} {base : Heap} {a : Ad}
theorem ok_wrong_kind (T : Txt w K mg a) : FnOk P w K mg base CX0 8 a.f_wrong_kind a.d_wrong_kind ["value"] (sp_wrong_kind K a.C_Row) := by
  refine Fun.ok (k := 7) T.u_wrong_kind sc_wrong_kind (fun vs H Q E h => ?_) (fun cdv A outer s H vs Q E hr h => ?_)
  · obtain ⟨x, d, rfl, _⟩ := h
    rfl
  · obtain ⟨x, d, rfl, hd, q⟩ := h
    refine ⟨_, (pss_cons (ps_if (pt_not (pt_val (pe_call (ok_is_filled T) (hr.mono (by decide)) (by rfl) T.m_is_filled T.u_is_filled.kp (b_is_filled T) .nil pass0 (pa_cons (pv 0) pa_nil)))) (pss_one (ps_ret pe_non)) pss_nil)
          (pss_cons (ps_set (i := 1) sc_wrong_kind.nd rfl (Or.inl rfl) (pe_gk T.c_MOST_DEGREE (by rfl)))
          (pss_cons (ps_for PassesOwn.never rfl (pi_enT (by rfl) T.b_enumerate (pa_cons (pv 0) pa_nil)) (pg_tup rfl (pgs_cons (pg_name (i := 2) sc_wrong_kind.nd rfl (Or.inl rfl)) (pgs_cons (pg_name (i := 3) sc_wrong_kind.nd rfl (Or.inl rfl)) pgs_nil))) (pss_cons (ps_if (PW.pt (pw_or (pt_cmpR (opEqK (K := K) hr rfl) (pv 2) (pe_gk T.c_MOST_KINDS (by rfl)) (nomark _)) (pw_or1 (pt_not (pt_val (pe_call (ok_is_kind T) (hr.mono (by decide)) (by rfl) T.m_is_kind T.u_is_kind.kp (b_is_kind T) .nil pass0 (pa_cons (pv 3) (pa_cons (pv 1) pa_nil)))))))) (pss_one (ps_ret (pv 2))) pss_nil)
          (pss_one (ps_set (i := 1) sc_wrong_kind.nd rfl (Or.inl rfl) (pe_op opSub (pe_ix (ixK (K := K) rfl) (pv 3) pe_int (fun _ _ => rfl)) pe_int)))))
          (pss_one (ps_ret pe_non))))), ?_⟩
    walk_at "go"
    refine ⟨x, d, rfl, hd, ?_⟩
    walk_at "go"
    refine r_bool (fun e => ?_) (fun e => ?_)
    · have e' : filledD d = false := by
        cases c : filledD d
        · rfl
        · rw [c] at e; cases e
      walk_at "go"
      have z : optV (wrongD d) = .non := by
        cases d <;> first | rfl | skip
        rename_i ds
        cases ds
        · rfl
        · simp [filledD] at e'
      rw [← z]
      exact q H (Same.refl H)
    · have e' : filledD d = true := by
        cases c : filledD d
        · rw [c] at e; cases e
        · rfl
      obtain ⟨p, xs, ds, rfl, rfl, h1, h2⟩ := hd.isT (filled_tup e')
      have ne : ds ≠ [] := by
        rintro rfl
        cases e'
      have wr : wrongD (.tuple ds) = wrongFrom ds 0 (10000000000000000000000000000000) := if_neg ne
      walk_at "go"
      refine r_enT h1 ?_
      refine r_walk (walk_iet (xs := xs)) (fun i σ H' => ∃ v1 v2 m, σ = [some (.ref p), some (.int m), v1, v2] ∧ Same H H' ∧ wrongD (.tuple ds) = wrongFrom (ds.drop i) i m) ?_ ?_ ?_ ?_
      · exact ⟨none, none, _, rfl, Same.refl H, wr⟩
      · rintro i σ H' hi ⟨v1, v2, m, rfl, s1, _⟩
        exact SqT.ext h1 s1
      · rintro i y σ H1 H2 hi ⟨v1, v2, m, rfl, s1, hw⟩ ⟨TT, n1, n2, rfl, hT, rfl, e1, e2⟩
        cases e1
        obtain ⟨dk, hdk, gk⟩ := h2.at e2
        have s2 : Same H1 (upd H1 TT (.tup [.int (i : Nat), n2])) := fun b u e => by rw [upd_ne (ne_of_none e hT)]; exact e
        have s3 := s1.trans s2
        have gk' : Dv K (upd H1 TT (.tup [.int (i : Nat), n2])) n2 dk := .dp (Dp.same s3 gk)
        have hT2 : (upd H1 TT (.tup [.int (i : Nat), n2])) TT = some (.tup [.int (i : Nat), n2]) := upd_same
        rw [wrongFrom_more hdk] at hw
        generalize upd H1 TT (.tup [.int (i : Nat), n2]) = HH at s2 s3 gk' hT2
        refine r_gtup (SqT.of hT2) rfl ?_
        walk_at "go"
        refine r_dec (fun c => ?_) (fun c => ?_)
        · walk_at "go"
          have ci : i = 10 := by omega
          rw [if_pos (.inl ci)] at hw
          have := q HH s3
          rw [hw] at this
          exact this
        · walk_at "go"
          refine ⟨n2, dk, m, rfl, gk', ?_⟩
          walk_at "go"
          refine r_bool (fun c2 => ?_) (fun c2 => ?_)
          · have ck : kindD dk m = false := by
              cases z : kindD dk m
              · rfl
              · rw [z] at c2; cases c2
            walk_at "go"
            rw [if_pos (.inr ck)] at hw
            have := q HH s3
            rw [hw] at this
            exact this
          · have ck : kindD dk m = true := by
              cases z : kindD dk m
              · rw [z] at c2; cases c2
              · rfl
            obtain ⟨u1, u2, rfl, _⟩ := kindD_shape ck
            obtain ⟨b, ys, rfl, k1, k2⟩ := gk'.tup
            cases k2 with
            | cons k2 k3 =>
              cases k2
              walk_at "go"
              refine r_ixT k1 at0 ?_
              walk_at "go"
              rw [if_neg (fun z => z.elim (fun z => c (by omega)) (fun z => by rw [ck] at z; cases z))] at hw
              exact ⟨_, _, u1 - 1, rfl, s3, hw⟩
      · rintro σ H' ⟨v1, v2, m, rfl, s1, hw⟩
        walk_at "go"
        have l : ds.drop xs.length = [] := by
          rw [h2.len]
          exact List.drop_length
        rw [l] at hw
        have := q H' s1
        rw [hw] at this
        exact this
end


section
variable {P : Program} {w : World} {K : PySem.W.Frag} {mg : Str → Option Value} {base : Heap} {a : Ad}
theorem ok_are_kinds (T : Txt w K mg a) : FnOk P w K mg base CX0 10 a.f_are_kinds a.d_are_kinds ["value"] (sp_are_kinds K a.C_Row) := by
  refine Fun.ok (k := 9) T.u_are_kinds sc_are_kinds (fun vs H Q E h => ?_) (fun cdv A outer s H vs Q E hr h => ?_)
  · obtain ⟨x, d, rfl, _⟩ := h
    rfl
  · obtain ⟨x, d, rfl, hd, q⟩ := h
    refine ⟨_, (pss_one (ps_ret (pe_and (pe_call (ok_is_filled T) (hr.mono (by decide)) (by rfl) T.m_is_filled T.u_is_filled.kp (b_is_filled T) .nil pass0 (pa_cons (pv 0) pa_nil)) (pe_one (pe_cmpR opIs (pe_call (ok_wrong_kind T) (hr.mono (by decide)) (by rfl) T.m_wrong_kind T.u_wrong_kind.kp (b_wrong_kind T) .nil pass0 (pa_cons (pv 0) pa_nil)) pe_non (nomark _)))))), ?_⟩
    walk_at "go"
    refine ⟨x, d, rfl, hd, ?_⟩
    walk_at "go"
    unfold okD at q
    refine r_bool (fun e => ?_) (fun e => ?_)
    · rw [e] at q
      walk_at "go"
      refine ⟨x, d, rfl, hd, fun H' s1 => ?_⟩
      walk_at "go"
      rw [optV_none]
      exact q H' s1
    · rw [e] at q
      exact q H (Same.refl H)
end


section
variable {P : Program} {w : World} {K : PySem.W.Frag} {mg : Str → Option Value} {base : Heap} {a : Ad}
theorem ok_Row___init__ (T : Txt w K mg a) : FnOk P w K mg base CX0 12 a.f_Row___init__ a.d_Row___init__ ["self", "kinds"] (sp_Row___init__ K a.C_Row) := by
  refine Fun.ok (k := 11) T.u_Row___init__ sc_Row___init__ (fun vs H Q E h => ?_) (fun cdv A outer s H vs Q E hr h => ?_)
  · obtain ⟨p, dx, v, d, rfl, _⟩ := h
    rfl
  · obtain ⟨p, dx, v, d, rfl, hp, hd, ok, q⟩ := h
    refine ⟨_, (pss_cons (ps_if (pt_not (pt_val (pe_call (ok_are_kinds T) (hr.mono (by decide)) (by rfl) T.m_are_kinds T.u_are_kinds.kp (b_are_kinds T) .nil pass0 (pa_cons (pv 1) pa_nil)))) (pss_one ps_never) pss_nil)
          (pss_one (ps_fld (pv 0) (pv 1) rfl))), ?_⟩
    walk_at "go"
    refine ⟨v, d, rfl, hd, fun H1 s1 => ?_⟩
    rw [ok]
    walk_at "go"
    refine iteF ?_
    walk_at "go"
    refine r_sfld ?_
    walk_at "go"
    refine ⟨p, a.C_Row, dx, [], rfl, s1 _ _ hp, T.cl_Row, T.na_kinds, by decide, r_put fun H2 b2 h2 _ => ?_⟩
    walk_at "go"
    exact q H2 (fun c u n e => b2 c u n (s1 c u e)) h2
end

theorem shaped_prs (ps : Kinds) : SeqAt.shaped (.list (ps.map kD)) = true := by
  have z : ∀ l : Kinds, PyData.canLayAll0 (l.map kD) = true ∧ PyData.depthAll (l.map kD) ≤ 1 := by
    intro l
    induction l with
    | nil => exact ⟨rfl, Nat.zero_le _⟩
    | cons k r ih =>
      refine ⟨?_, ?_⟩
      · show (PyData.canLay0 (kD k) && PyData.canLayAll0 (r.map kD)) = true
        rw [ih.1]
        rfl
      · show max (PyData.depth (kD k)) (PyData.depthAll (r.map kD)) ≤ 1
        exact Nat.max_le.mpr ⟨Nat.le_refl _, ih.2⟩
  show (PyData.canLayAll0 (ps.map kD) && decide (PyData.depthAll (ps.map kD) + 1 ≤ 64)) = true
  rw [(z ps).1, decide_eq_true (Nat.le_trans (Nat.add_le_add_right (z ps).2 1) (by decide))]
  rfl
theorem any_prs (p : Int × Int) : ∀ ps : Kinds, ((ps.map kD).any fun z => PyData.eqv z (kD p)) = decide (p ∈ ps)
  | [] => rfl
  | k :: r => by
    rw [List.map_cons, List.any_cons, any_prs p r, eqv_kD]
    by_cases c : k = p
    · subst c; simp
    · have c' : ¬ p = k := fun z => c z.symm
      simp [c, c']
theorem flat_bls : ∀ l : List Bool, (l.map V.bl).all flatV = true
  | [] => rfl
  | b :: r => by
    rw [List.map_cons, List.all_cons, flat_bls r]
    rfl
theorem in_bls (x : Bool) : ∀ l : List Bool, inV (.bl x) (l.map V.bl) = decide (x ∈ l)
  | [] => rfl
  | b :: r => by
    have e : inV (.bl x) ((b :: r).map V.bl) = (eqV (V.bl b) (V.bl x) || inV (.bl x) (r.map V.bl)) := rfl
    rw [e, in_bls x r]
    cases b <;> cases x <;> simp [eqV]

section
variable {P : Program} {w : World} {K : PySem.W.Frag} {mg : Str → Option Value} {base : Heap} {a : Ad}
theorem ok__law_due (T : Txt w K mg a) : FnOk P w K mg base CX0 2 a.f__law_due a.d__law_due ["some", "a", "b"] (sp__law_due K a.C_Row) := by
  refine Fun.ok (k := 1) T.u__law_due sc__law_due (fun vs H Q E h => ?_) (fun cdv A outer s H vs Q E hr h => ?_)
  · obtain ⟨l, us, a, b, rfl, _⟩ := h
    rfl
  · obtain ⟨l, us, a, b, rfl, hl, at_, few, q⟩ := h
    refine ⟨_, (pss_cons (ps_setLc (i := 3) (own := [("ties", 4)]) (g := (gName 4)) (by rfl) sc__law_due.nd rfl rfl (sw_true rfl rfl rfl (by decide +kernel)) (pi_list (pv 0)) (blkOk_by (own := [("ties", 4)]) (N := nm__law_due) (sc := defScope s__law_due) (by decide +kernel)) (fun _ _ _ _ _ => (pg_name (i := 4) sc__law_due.nd rfl (Or.inl rfl))) (fun _ _ _ _ _ => pts_nil) (fun _ _ _ _ _ => (pe_cmpR (opInX (K := K) hr rfl) (pe_tupN (pa_cons (pv 1) (pa_cons (pv 2) pa_nil))) (pv 4) (by rfl))))
          (pss_one (ps_ret (pe_ifExp (pt_cmpR (opNotInK (K := K) rfl) pe_bl (pv 3) (by rfl)) pe_str (pe_ifExp (pt_cmpR (opNotInK (K := K) rfl) pe_bl (pv 3) (by rfl)) pe_str pe_str))))), ?_⟩
    walk_at "go"
    refine r_iAt ⟨_, .of hl⟩ ?_
    intro D hD
    refine r_lcw (walk_list (xs := us.map fun u => V.ref u.t)) hD (fun i acc H' => Same H H' ∧ acc = ((us.take i).map fun u => decide ((a, b) ∈ u.ps)).map V.bl) ?_ ?_ ?_ ?_
    · exact fun H' e' _ => ⟨e', rfl⟩
    · rintro i acc H' _ ⟨e', _⟩ _
      exact .of (e' _ _ hl)
    · rintro i x acc H6 H7 hi hl' ⟨e', rfl⟩ h6 ⟨e67, hxi⟩
      subst e67
      rw [List.getElem?_map] at hxi
      obtain ⟨u, hu, rfl⟩ := Option.map_eq_some_iff.mp hxi
      rw [List.length_map] at hi
      obtain ⟨u1, u2, u3⟩ := at_ u (List.mem_of_getElem? hu)
      walk_at "go"
      refine ⟨rfl, ?_⟩
      walk_at "go"
      refine r_fits (by simp) fun t H8 n8 s8 h8 => ?_
      walk_at "go"
      refine r_inD ⟨kD (a, b), u.ps.map kD, (Fz.kD_mk h8).dp, .lst (.of (s8 _ _ (e' _ _ u1))) (FzAll.dp (FzAll.same (e'.trans s8) u2)), rfl, shaped_prs _, ?_⟩
      rw [any_prs]
      refine r_acc (i := i) (s8 _ _ h6) hl' (by omega) fun H9 b9 h9 _ => ?_
      refine ⟨same_of_but (H := H) (e'.trans s8) b9 hD, ?_⟩
      rw [take_snoc hu, List.map_append, List.map_append]
      rfl
    rintro acc H6 hl' ⟨e6, rfl⟩ h6
    rw [List.length_map, List.take_length] at h6
    have q := q H6 e6
    obtain ⟨bs, ebs⟩ : ∃ bs, bs = us.map fun u => decide ((a, b) ∈ u.ps) := ⟨_, rfl⟩
    rw [← ebs] at h6 q
    unfold dueB at q
    walk_at "go"
    refine ⟨D, bs.map V.bl, rfl, .inl (.of h6), rfl, flat_bls _, ?_⟩
    rw [in_bls]
    by_cases c1 : false ∈ bs
    · rw [if_pos c1] at q
      rw [decide_eq_true c1]
      walk_at "go"
      refine iteF ?_
      walk_at "go"
      refine ⟨D, bs.map V.bl, rfl, .inl (.of h6), rfl, flat_bls _, ?_⟩
      rw [in_bls]
      by_cases c2 : true ∈ bs
      · rw [if_pos c2] at q
        rw [decide_eq_true c2]
        walk_at "go"
        refine iteF ?_
        walk_at "go"
        exact q
      · rw [if_neg c2] at q
        rw [decide_eq_false c2]
        walk_at "go"
        refine iteT ?_
        walk_at "go"
        exact q
    · rw [if_neg c1] at q
      rw [decide_eq_false c1]
      walk_at "go"
      refine iteT ?_
      walk_at "go"
      exact q
end


section
variable {P : Program} {w : World} {K : PySem.W.Frag} {mg : Str → Option Value} {base : Heap} {a : Ad}
theorem ok__law_draw (T : Txt w K mg a) : FnOk P w K mg base CX0 2 a.f__law_draw a.d__law_draw ["well", "many"] (sp__law_draw K a.C_Row) := by
  refine Fun.ok (k := 1) T.u__law_draw sc__law_draw (fun vs H Q E h => ?_) (fun cdv A outer s H vs Q E hr h => ?_)
  · obtain ⟨p, m, rfl, _⟩ := h
    rfl
  · obtain ⟨p, m, rfl, ⟨a1, b1, c1, hp, h0, h1, h2, h3⟩, m1, m2, q⟩ := h
    refine ⟨_, (pss_cons (ps_if (pt_cmpR opGt (pe_ix (ixK (K := K) rfl) (pv 0) pe_int (fun _ _ => rfl)) pe_int (nomark _)) (pss_cons (ps_asg (pe_callB callDivmod (by rfl) T.b_divmod (by decide +kernel) (pa_cons (pe_ix (ixK (K := K) rfl) (pv 0) pe_int (fun _ _ => rfl)) (pa_cons (pv 1) pa_nil))) (pg_tup rfl (pgs_cons (pg_sub (pv 0) pe_int set_list) (pgs_cons (pg_name (i := 2) sc__law_draw.nd rfl (Or.inl rfl)) pgs_nil))))
          (pss_one (ps_ret (pv 2)))) pss_nil)
          (pss_cons (ps_asg (pe_op (opAddK (K := K) rfl) (pe_ix (ixK (K := K) rfl) (pv 0) pe_int (fun _ _ => rfl)) pe_int) (pg_sub (pv 0) pe_int set_list))
          (pss_cons (ps_set (i := 3) sc__law_draw.nd rfl (Or.inl rfl) (pe_callTy callInt (by rfl) T.b_int (by decide +kernel) (pa_cons (pe_ix (ixK (K := K) rfl) (pv 0) pe_int (fun _ _ => rfl)) pa_nil)))
          (pss_cons (ps_asg (pe_op opMod (pe_callTy callInt (by rfl) T.b_int (by decide +kernel) (pa_cons (pe_op (opAddK (K := K) rfl) (pe_op (opAddK (K := K) rfl) (pe_op opMul (pv 3) pe_int) (pe_op opMul (pe_ix (ixK (K := K) rfl) (pv 0) pe_int (fun _ _ => rfl)) pe_int)) pe_int) pa_nil)) pe_int) (pg_sub (pv 0) pe_int set_list))
          (pss_one (ps_ret (pe_op opMod (pe_callTy callInt (by rfl) T.b_int (by decide +kernel) (pa_cons (pe_op opDiv (pe_ix (ixK (K := K) rfl) (pv 0) pe_int (fun _ _ => rfl)) pe_int) pa_nil)) (pv 1)))))))), ?_⟩
    walk_at "go"
    refine r_ixL (.of hp) at2 ?_
    walk_at "go"
    refine r_dec (fun pos => ?_) (fun pos => ?_)
    · walk_at "go"
      refine r_ixL (.of hp) at2 ?_
      walk_at "go"
      refine r_divmod (by omega) m2 (r_new fun t H1 n1 s1 e1 => ?_)
      walk_at "go"
      refine r_gtup (.of e1) rfl ?_
      walk_at "go"
      refine r_setL (k := 2) (s1 _ _ hp) (by simp) (r_put fun H2 b2 e2 _ => ?_)
      walk_at "go"
      have d1 := Int.emod_nonneg c1 (show m ≠ 0 by omega)
      have d2 := Int.emod_lt_of_pos c1 (show 0 < m by omega)
      exact q _ H2 d1 d2 (fun c u n e => b2 c u n (s1 c u e)) ⟨a1, b1, _, e2, h0, h1, h2, Int.ediv_nonneg (by omega) (by omega)⟩
    · walk_at "go"
      refine r_ixL (.of hp) at1 ?_
      walk_at "go"
      refine r_setL (k := 1) hp (by simp) (r_put fun H2 b2 e2 _ => ?_)
      walk_at "go"
      refine r_ixL (.of e2) at0 ?_
      walk_at "go"
      refine r_mulI (mul_r (by omega) (by omega)) ?_
      walk_at "go"
      refine r_ixL (.of e2) at1 ?_
      walk_at "go"
      refine r_mulI (mul_r (by omega) (by omega)) ?_
      walk_at "go"
      refine r_modI (by omega) ?_
      walk_at "go"
      refine r_setL (k := 0) e2 (by simp) (r_put fun H3 b3 e3 _ => ?_)
      walk_at "go"
      refine r_ixL (.of e3) at0 ?_
      walk_at "go"
      refine r_divI (by omega) (by omega) ?_
      walk_at "go"
      refine r_modI (by omega) ?_
      exact q _ H3 (Int.emod_nonneg _ (by omega)) (Int.emod_lt_of_pos _ (by omega)) (b2.trans b3) ⟨_, b1 + 1, c1, e3, Int.emod_nonneg _ (by omega), Int.emod_lt_of_pos _ (by omega), by omega, h3⟩
end


section
variable {P : Program} {w : World} {K : PySem.W.Frag} {mg : Str → Option Value} {base : Heap} {a : Ad}
theorem ok__law_pick (T : Txt w K mg a) : FnOk P w K mg base CX0 4 a.f__law_pick a.d__law_pick ["well", "choices"] (sp__law_pick K a.C_Row) := by
  refine Fun.ok (k := 3) T.u__law_pick sc__law_pick (fun vs H Q E h => ?_) (fun cdv A outer s H vs Q E hr h => ?_)
  · obtain ⟨p, q, xs, rfl, _⟩ := h
    rfl
  · obtain ⟨p, q, xs, rfl, hp, ne, hx, l1, l2, k⟩ := h
    refine ⟨_, (pss_one (ps_ret (pe_ix (ixK (K := K) rfl) (pv 1) (pe_call (ok__law_draw T) (hr.mono (by decide)) (by rfl) T.m__law_draw T.u__law_draw.kp (b__law_draw T) .nil pass0 (pa_cons (pv 0) (pa_cons (pe_callB (callLenK (K := K) rfl) (by rfl) T.b_len (by decide +kernel) (pa_cons (pv 1) pa_nil)) pa_nil))) (fun _ _ => rfl)))), ?_⟩
    walk_at "go"
    have step : ∀ R : V → Hp → Prop, (∀ r H', 0 ≤ r → r < (xs.length : Int) → But p H H' → Well H' p → R (.int r) H') → sp__law_draw K a.C_Row [.ref p, .int xs.length] H R E0 := fun R z =>
      ⟨p, xs.length, rfl, hp, by omega, by omega, z⟩
    have at_ : ∀ r : Int, 0 ≤ r → r < (xs.length : Int) → ∃ v, atI xs r = some v ∧ v ∈ xs := fun r h1 h2 => by
      have hl : r.toNat < xs.length := by omega
      exact ⟨xs[r.toNat], atI_of h1 (List.getElem?_eq_getElem hl), List.getElem_mem hl⟩
    rcases hx with hx | hx
    · refine r_lenL hx ?_
      walk_at "go"
      refine step _ fun r H1 r0 r1 b1 p1 => ?_
      obtain ⟨v, hv, mv⟩ := at_ r r0 r1
      exact r_ixL (hx.but b1 ne) hv (k v H1 mv b1 p1)
    · refine r_lenT hx ?_
      walk_at "go"
      refine step _ fun r H1 r0 r1 b1 p1 => ?_
      obtain ⟨v, hv, mv⟩ := at_ r r0 r1
      exact r_ixT (hx.but b1 ne) hv (k v H1 mv b1 p1)
end

theorem r_setLz {H : Hp} {v : V} {l : Addr} {xs : List V} {k : Nat} {z : Int} {R : Hp → Prop} (e : z = (k : Int)) (h : H l = some (.lst xs)) (hk : k < xs.length) (q : Put l H (.lst (xs.set k v)) R) : rSetL (.ref l) (.int z) v H R := by
  subst e
  exact r_setL h hk q

section
variable {P : Program} {w : World} {K : PySem.W.Frag} {mg : Str → Option Value} {base : Heap} {a : Ad}
theorem ok__law_listed (T : Txt w K mg a) : FnOk P w K mg base CX0 6 a.f__law_listed a.d__law_listed ["well", "most"] (sp__law_listed K a.C_Row) := by
  refine Fun.ok (k := 5) T.u__law_listed sc__law_listed (fun vs H Q E h => ?_) (fun cdv A outer s H vs Q E hr h => ?_)
  · obtain ⟨p, most, rfl, _⟩ := h
    rfl
  · obtain ⟨p, most, rfl, hp, m1, m2, q⟩ := h
    refine ⟨_, (pss_cons (ps_asg (pe_tupN (pa_cons (pe_op (opAddK (K := K) rfl) pe_int (pe_call (ok__law_draw T) (hr.mono (by decide)) (by rfl) T.m__law_draw T.u__law_draw.kp (b__law_draw T) .nil pass0 (pa_cons (pv 0) (pa_cons (pv 1) pa_nil)))) (pa_cons (pe_call (ok__law_draw T) (hr.mono (by decide)) (by rfl) T.m__law_draw T.u__law_draw.kp (b__law_draw T) .nil pass0 (pa_cons (pv 0) (pa_cons pe_int pa_nil))) pa_nil))) (pg_tup rfl (pgs_cons (pg_name (i := 2) sc__law_listed.nd rfl (Or.inr rfl)) (pgs_cons (pg_name (i := 3) sc__law_listed.nd rfl (Or.inl rfl)) pgs_nil))))
          (pss_cons (ps_if (pt_cmpR (opEqK (K := K) hr rfl) (pv 3) pe_int (nomark _)) (pss_one (ps_ret (pe_lc (own := [("place", 9)]) (g := (gName 9)) (by rfl) sc__law_listed.nd (pi_range1 (by rfl) T.b_range (pa_cons (pv 2) pa_nil)) (blkOk_by (own := [("place", 9)]) (N := nm__law_listed) (sc := defScope s__law_listed) (by decide +kernel)) (fun _ _ _ _ _ => (pg_name (i := 9) sc__law_listed.nd rfl (Or.inl rfl))) (fun _ _ _ _ _ => pts_nil) (fun _ _ _ _ _ => (pe_call (ok__law_draw T) (hr.mono (by decide)) (by rfl) T.m__law_draw T.u__law_draw.kp (b__law_draw T) .nil pass0 (pa_cons (pv 0) (pa_cons (pe_op (opAddK (K := K) rfl) (pv 2) pe_int) pa_nil))))))) pss_nil)
          (pss_cons (ps_setLc (i := 4) (own := [("place", 9)]) (g := (gName 9)) (by rfl) sc__law_listed.nd rfl rfl (sw_true rfl rfl rfl (by decide +kernel)) (pi_range1 (by rfl) T.b_range (pa_cons (pv 2) pa_nil)) (blkOk_by (own := [("place", 9)]) (N := nm__law_listed) (sc := defScope s__law_listed) (by decide +kernel)) (fun _ _ _ _ _ => (pg_name (i := 9) sc__law_listed.nd rfl (Or.inl rfl))) (fun _ _ _ _ _ => pts_nil) (fun _ _ _ _ _ => pe_int))
          (pss_cons (ps_set (i := 5) sc__law_listed.nd rfl (Or.inl rfl) (pe_call (ok__law_pick T) (hr.mono (by decide)) (by rfl) T.m__law_pick T.u__law_pick.kp (b__law_pick T) .nil pass0 (pa_cons (pv 0) (pa_cons (pe_lstN (pa_cons pe_int (pa_cons pe_int (pa_cons pe_int (pa_cons pe_int (pa_cons pe_int pa_nil)))))) pa_nil))))
          (pss_cons (ps_for PassesOwn.never rfl (pi_range1 (by rfl) T.b_range (pa_cons (pv 2) pa_nil)) (pg_name (i := 6) sc__law_listed.nd rfl (Or.inl rfl)) (pss_one (ps_for PassesOwn.never rfl (pi_range2 (by rfl) T.b_range (pa_cons (pe_op (opAddK (K := K) rfl) (pv 6) pe_int) (pa_cons (pv 2) pa_nil))) (pg_name (i := 7) sc__law_listed.nd rfl (Or.inl rfl)) (pss_one (ps_if (pt_cmpR opLt (pe_call (ok__law_draw T) (hr.mono (by decide)) (by rfl) T.m__law_draw T.u__law_draw.kp (b__law_draw T) .nil pass0 (pa_cons (pv 0) (pa_cons pe_int pa_nil))) (pv 5) (nomark _)) (pss_one (ps_asg (pe_tupN (pa_cons (pe_op (opAddK (K := K) rfl) (pe_ix (ixK (K := K) rfl) (pv 4) (pv 6) (fun _ _ => rfl)) pe_int) (pa_cons (pe_op (opAddK (K := K) rfl) (pe_ix (ixK (K := K) rfl) (pv 4) (pv 7) (fun _ _ => rfl)) pe_int) pa_nil))) (pg_tup rfl (pgs_cons (pg_sub (pv 4) (pv 6) set_list) (pgs_cons (pg_sub (pv 4) (pv 7) set_list) pgs_nil))))) pss_nil)))))
          (pss_cons (ps_if (pt_cmpR (opEqK (K := K) hr rfl) (pv 3) pe_int (nomark _)) (pss_cons (ps_set (i := 8) sc__law_listed.nd rfl (Or.inl rfl) (pe_call (ok__law_draw T) (hr.mono (by decide)) (by rfl) T.m__law_draw T.u__law_draw.kp (b__law_draw T) .nil pass0 (pa_cons (pv 0) (pa_cons (pv 2) pa_nil))))
          (pss_one (ps_asg (pe_callB (callMax rfl) (by rfl) T.b_max (by decide +kernel) (pa_cons pe_int (pa_cons (pe_op (opAddK (K := K) rfl) (pe_ix (ixK (K := K) rfl) (pv 4) (pv 8) (fun _ _ => rfl)) (pe_call (ok__law_pick T) (hr.mono (by decide)) (by rfl) T.m__law_pick T.u__law_pick.kp (b__law_pick T) .nil pass0 (pa_cons (pv 0) (pa_cons (pe_lstN (pa_cons pe_int (pa_cons (pe_un un_neg pe_int) (pa_cons pe_int (pa_cons (pe_un un_neg pe_int) pa_nil))))) pa_nil)))) pa_nil))) (pg_sub (pv 4) (pv 8) set_list)))) pss_nil)
          (pss_one (ps_ret (pv 4))))))))), ?_⟩
    walk_at "go"
    have nw : ∀ {HA : Hp} {c : Addr}, Well HA p → HA c = none → c ≠ p := fun wA n e => by
      obtain ⟨_, _, _, z, _⟩ := wA
      rw [e, z] at n
      cases n
    have fin : ∀ {H1 H2 : Hp} {l : Addr} {ds : List Int}, But p H H1 → Same H1 H2 → H1 l = none → l ≠ p → H l = none := fun b s n nl => by
      cases z : H _ with
      | none => rfl
      | some o =>
        have := b _ _ nl z
        rw [n] at this
        cases this
    refine ⟨p, most, rfl, hp, by omega, by omega, fun r H1 r0 r1 b1 p1 => ?_⟩
    walk_at "go"
    obtain ⟨m, em⟩ : ∃ m : Int, m = 1 + r := ⟨_, rfl⟩
    rw [← em]
    refine ⟨p, 5, rfl, p1, by decide, by decide, fun way Hw _ _ b2' p2' => ?_⟩
    walk_at "go"
    refine r_fits (by simp) fun R0 H2 nR sR hR => ?_
    refine r_gtup (.of hR) rfl ?_
    walk_at "go"
    have p2 := p2'.same sR
    have b12 : But p H H2 := (b1.trans b2').trans (But.same sR)
    refine r_dec (fun c => ?_) (fun c => ?_)
    · walk_at "go"
      refine ⟨m, rfl, by omega, by omega, ?_⟩
      intro D hD
      have nDp : D ≠ p := nw p2 hD
      refine r_lcw (walk_range (lo := 0) (n := m.toNat)) hD (fun i acc H' => ∃ ds : List Int, acc = ds.map V.int ∧ ds.length = i ∧ But p H H' ∧ Well H' p ∧ ∀ d ∈ ds, 0 ≤ d ∧ d ≤ 10000) ?_ ?_ ?_ ?_
      · intro H' s' _
        exact ⟨[], rfl, rfl, b12.trans (But.same s'), p2.same s', fun d hd => absurd hd List.not_mem_nil⟩
      · intro i acc H' _ _ _
        exact True.intro
      · rintro i x acc H3 H4 hi hl ⟨ds, rfl, ld, b3, p3, all⟩ h3 ⟨e, rfl⟩
        subst e
        walk_at "go"
        refine ⟨rfl, ?_⟩
        walk_at "go"
        refine ⟨p, m + 1, rfl, p3, by omega, by omega, fun r3 H4 z0 z1 b4 p4 => ?_⟩
        refine r_acc (i := i) (b4 _ _ nDp h3) hl (by omega) fun H5 b5 h5 _ => ?_
        refine ⟨ds ++ [r3], by rw [List.map_append]; rfl, by rw [List.length_append, ld]; rfl, ?_, p4.but b5 nDp.symm, fun d hd => ?_⟩
        · intro b u nb hb
          exact b5 _ _ (fun z => by
            subst z
            have := b12 _ _ nb hb
            rw [hD] at this
            cases this) (b4 _ _ nb (b3 _ _ nb hb))
        · rcases List.mem_append.mp hd with hd | hd
          · exact all d hd
          · rw [List.mem_singleton.mp hd]
            exact ⟨z0, by omega⟩
      · rintro acc H3 hl ⟨ds, rfl, ld, b3, p3, all⟩ h3
        refine q D ds H3 nDp b3 p3 h3 ?_ (fun z => ?_) (by omega) all
        · cases z : H D with
          | none => rfl
          | some o =>
            have := b12 _ _ nDp z
            rw [hD] at this
            cases this
        · rw [z] at ld
          simp only [List.length_nil] at ld
          omega
    walk_at "go"
    refine ⟨m, rfl, by omega, by omega, ?_⟩
    intro F hF
    have nFp : F ≠ p := nw p2 hF
    have nF : H F = none := by
      cases z : H F with
      | none => rfl
      | some o =>
        have := b12 _ _ nFp z
        rw [hF] at this
        cases this
    refine r_lcw (walk_range (lo := 0) (n := m.toNat)) hF (fun i acc H' => acc = (List.replicate i (0 : Int)).map V.int ∧ Same H2 H') ?_ ?_ ?_ ?_
    · intro H' s' _
      exact ⟨rfl, s'⟩
    · intro i acc H' _ _ _
      exact True.intro
    · rintro i x acc H3 H4 hi hl ⟨rfl, s3⟩ h3 ⟨e, rfl⟩
      subst e
      walk_at "go"
      refine ⟨rfl, ?_⟩
      walk_at "go"
      refine r_acc (i := i) h3 hl (by omega) fun H5 b5 h5 _ => ?_
      refine ⟨?_, same_of_but (H := H2) s3 b5 hF⟩
      rw [List.replicate_succ', List.map_append]
      rfl
    rintro acc H4 hl4 ⟨rfl, s4⟩ h4
    have p4 := p2.same s4
    walk_at "go"
    refine r_fits (by simp) fun Ms H5 n5 s5 h5 => ?_
    have p5 := p4.same s5
    refine ⟨p, Ms, _, rfl, p5, nw p4 n5, .inl (.of h5), by simp, by simp, fun sh H6 hv b6 p6 => ?_⟩
    obtain ⟨share, rfl⟩ : ∃ i : Int, sh = .int i := by
      simp only [List.mem_cons, List.not_mem_nil, or_false] at hv
      rcases hv with rfl | rfl | rfl | rfl | rfl <;> exact ⟨_, rfl⟩
    walk_at "go"
    have h6 := b6 _ _ nFp (s5 _ _ h4)
    have b06 : But p H H6 := b12.trans ((But.same (s4.trans s5)).trans b6)
    refine ⟨m, rfl, by omega, by omega, ?_⟩
    refine r_walk (walk_range (lo := 0) (n := m.toNat)) (fun i σ H' => ∃ (ds : List Int) (v6 v7 v8 v9 : Option V), σ = [some (.ref p), some (.int most), some (.int m), some (.int way), some (.ref F), some (.int share), v6, v7, v8, v9] ∧ But p H H' ∧ Well H' p ∧ H' F = some (.lst (ds.map V.int)) ∧ ds.length = m.toNat ∧ ∀ d ∈ ds, 0 ≤ d ∧ d ≤ 50 * i) ?_ ?_ ?_ ?_
    · exact ⟨List.replicate m.toNat 0, _, _, _, _, rfl, b06, p6, h6, List.length_replicate, fun d hd => by rw [List.eq_of_mem_replicate hd]; omega⟩
    · intro i σ H' _ _
      exact True.intro
    · rintro i x σ H7 H8 hi ⟨ds, v6, v7, v8, v9, rfl, b7, p7, h7, ld, all⟩ ⟨e, rfl⟩
      subst e
      walk_at "go"
      unfold iRng2
      walk_at "go"
      obtain ⟨n, rfl⟩ : ∃ n : Nat, m = (n : Int) := ⟨m.toNat, by omega⟩
      have hin : i < n := by have := hi; omega
      refine ⟨0 + (i : Int) + 1, (n : Int), rfl, by omega, ?_⟩
      have en : ((n : Int) - (0 + (i : Int) + 1)).toNat = n - (i + 1) := by omega
      rw [en]
      refine r_walk (walk_range (lo := 0 + (i : Int) + 1) (n := n - (i + 1))) (fun j σ H' => ∃ (ds : List Int) (v7 v8 v9 : Option V), σ = [some (.ref p), some (.int most), some (.int n), some (.int way), some (.ref F), some (.int share), some (.int (0 + (i : Int))), v7, v8, v9] ∧ But p H H' ∧ Well H' p ∧ H' F = some (.lst (ds.map V.int)) ∧ ds.length = n ∧ ∀ d ∈ ds, 0 ≤ d ∧ d ≤ 50 * i + j) ?_ ?_ ?_ ?_
      · exact ⟨ds, _, _, _, rfl, b7, p7, h7, by omega, fun d hd => by have := all d hd; omega⟩
      · intro j σ H' _ _
        exact True.intro
      · rintro j y σ H9 H10 hj ⟨es, v7', v8', v9', rfl, b9, p9, h9, le, all9⟩ ⟨e, rfl⟩
        subst e
        walk_at "go"
        refine ⟨p, 6, rfl, p9, by decide, by decide, fun r3 H11 _ _ b11 p11 => ?_⟩
        have h11 := b11 _ _ nFp h9
        have b011 := b9.trans b11
        walk_at "go"
        refine r_dec (fun c2 => ?_) (fun c2 => ?_)
        · obtain ⟨k, ek⟩ : ∃ k : Nat, (0 + (i : Int) + 1 + (j : Int)) = (k : Int) := ⟨i + 1 + j, by omega⟩
          have hj' : j < n - (i + 1) := hj
          have li : i < es.length := by omega
          have lj : k < es.length := by omega
          have ai : atI (es.map V.int) (0 + (i : Int)) = some (V.int es[i]) := by
            rw [Int.zero_add]
            exact atI_nat (by rw [List.getElem?_map, List.getElem?_eq_getElem li]; rfl)
          have aj : atI (es.map V.int) (0 + (i : Int) + 1 + (j : Int)) = some (V.int es[k]) := by
            rw [ek]
            exact atI_nat (by rw [List.getElem?_map, List.getElem?_eq_getElem lj]; rfl)
          have bi := all9 _ (List.getElem_mem li)
          have bj := all9 _ (List.getElem_mem lj)
          walk_at "go"
          refine r_ixL (.of h11) ai ?_
          walk_at "go"
          refine r_ixL (.of h11) aj ?_
          walk_at "go"
          refine r_fits (by simp) fun w' H12 n12 s12 h12 => ?_
          refine r_gtup (.of h12) rfl ?_
          walk_at "go"
          refine r_setLz (k := i) (Int.zero_add _) (s12 _ _ h11) (by rw [List.length_map]; exact li) (r_put fun H13 b13 h13 _ => ?_)
          walk_at "go"
          refine r_setLz (k := k) ek h13 (by rw [List.length_set, List.length_map]; exact lj) (r_put fun H14 b14 h14 _ => ?_)
          walk_at "go"
          refine ⟨(es.set i (es[i] + 1)).set k (es[k] + 1), _, _, _, rfl, ?_, ((p11.same s12).but b13 nFp.symm).but b14 nFp.symm, ?_, by rw [List.length_set, List.length_set]; exact le, fun d hd => ?_⟩
          · intro b u nb hb
            have nF' : b ≠ F := fun z => by
              subst z
              rw [nF] at hb
              cases hb
            exact b14 _ _ nF' (b13 _ _ nF' (s12 _ _ (b011 _ _ nb hb)))
          · rw [h14, List.map_set, List.map_set]
          · rcases List.mem_or_eq_of_mem_set hd with hd | hd
            · rcases List.mem_or_eq_of_mem_set hd with hd | hd
              · have := all9 d hd
                omega
              · omega
            · omega
        · walk_at "go"
          exact ⟨es, _, _, _, rfl, b011, p11, h11, le, fun d hd => by have := all9 d hd; omega⟩
      · rintro σ H9 ⟨es, v7', v8', v9', rfl, b9, p9, h9, le, all9⟩
        refine ⟨es, _, _, _, _, rfl, b9, p9, h9, by omega, fun d hd => by have := all9 d hd; omega⟩
    · rintro σ H7 ⟨ds, v6, v7, v8, v9, rfl, b7, p7, h7, ld, all⟩
      have ne : ds ≠ [] := fun z => by
        rw [z] at ld
        simp only [List.length_nil] at ld
        omega
      have all' : ∀ d ∈ ds, 0 ≤ d ∧ d ≤ 5000 := fun d hd => by have := all d hd; omega
      walk_at "go"
      refine r_dec (fun cw => ?_) (fun cw => ?_)
      · walk_at "go"
        refine ⟨p, m, rfl, p7, by omega, by omega, fun at_ H8 a0 a1 b8 p8 => ?_⟩
        have h8 := b8 _ _ nFp h7
        walk_at "go"
        obtain ⟨k, rfl⟩ : ∃ k : Nat, at_ = (k : Int) := ⟨at_.toNat, by omega⟩
        have lk : k < ds.length := by omega
        have ak : atI (ds.map V.int) (k : Int) = some (V.int ds[k]) := atI_nat (by rw [List.getElem?_map, List.getElem?_eq_getElem lk]; rfl)
        refine r_ixL (.of h8) ak ?_
        walk_at "go"
        refine r_fits (by simp) fun Ns H9 n9 s9 h9 => ?_
        refine ⟨p, Ns, _, rfl, p8.same s9, nw p8 n9, .inl (.of h9), by simp, by simp, fun sg H10 hv b10 p10 => ?_⟩
        obtain ⟨z, rfl, z1, z2⟩ : ∃ i : Int, sg = .int i ∧ -2 ≤ i ∧ i ≤ 2 := by
          simp only [List.mem_cons, List.not_mem_nil, or_false] at hv
          rcases hv with rfl | rfl | rfl | rfl <;> exact ⟨_, rfl, by decide, by decide⟩
        walk_at "go"
        have bk := all' _ (List.getElem_mem lk)
        have h10 := b10 _ _ nFp (s9 _ _ h8)
        refine r_setLz (k := k) rfl h10 (by rw [List.length_map]; exact lk) (r_put fun H11 b11 h11 _ => ?_)
        walk_at "go"
        rw [← List.map_set] at h11
        refine q F _ H11 nFp ?_ (p10.but b11 nFp.symm) h11 nF (fun e => ne (by have := congrArg List.length e; rw [List.length_set] at this; exact List.eq_nil_of_length_eq_zero this)) (by rw [List.length_set]; omega) fun d hd => ?_
        · intro b u nb hb
          have nF' : b ≠ F := fun z => by
            subst z
            rw [nF] at hb
            cases hb
          exact b11 _ _ nF' (b10 _ _ nb (s9 _ _ (b8 _ _ nb (b7 _ _ nb hb))))
        · rcases List.mem_or_eq_of_mem_set hd with hd | hd
          · have := all' d hd
            omega
          · rw [hd]
            split <;> omega
      · walk_at "go"
        exact q F ds H7 nFp b7 p7 h7 nF ne (by omega) fun d hd => by have := all' d hd; omega
end

theorem lots_kinds (ds : List Int) : KindsOf (cntOf ds) ((ascI ds).reverse.map fun d => (d, cntOf ds d)) := by
  refine ⟨?_, fun d c => ?_⟩
  · unfold DescP
    rw [List.pairwise_map, List.pairwise_reverse]
    exact asc_ascI
  · constructor
    · intro h
      obtain ⟨x, hx, e⟩ := List.mem_map.mp h
      injection e with e1 e2
      subst e1
      refine ⟨e2.symm, ?_⟩
      have m : x ∈ ds := mem_ascI.mp (List.mem_reverse.mp hx)
      have := List.count_pos_iff.mpr m
      rw [← e2]
      unfold cntOf
      omega
    · rintro ⟨rfl, h⟩
      refine List.mem_map.mpr ⟨d, List.mem_reverse.mpr (mem_ascI.mpr (List.count_pos_iff.mp ?_)), rfl⟩
      unfold cntOf at h
      omega

section
variable {P : Program} {w : World} {K : PySem.W.Frag} {mg : Str → Option Value} {base : Heap} {a : Ad}
theorem ok__law_lots (T : Txt w K mg a) : FnOk P w K mg base CX0 2 a.f__law_lots a.d__law_lots ["degrees"] (sp__law_lots K a.C_Row) := by
  refine Fun.ok (k := 1) T.u__law_lots sc__law_lots (fun vs H Q E h => ?_) (fun cdv A outer s H vs Q E hr h => ?_)
  · obtain ⟨l, ds, rfl, _⟩ := h
    rfl
  · obtain ⟨l, ds, rfl, hl, few, q⟩ := h
    refine ⟨_, (pss_one (ps_ret (pe_callTy (callTupK (K := K) rfl) (by rfl) T.b_tuple (by decide +kernel) (pa_cons (pe_lc (own := [("degree", 1)]) (g := (gName 1)) (by rfl) sc__law_lots.nd (pi_list (pe_revL (pe_callB (callSortedS (by rfl)) (by rfl) T.b_sorted (by decide +kernel) (pa_cons (pe_callTy (callSetL (K := K) (w := w) (by rfl) rfl rfl) (by rfl) T.b_set (by decide +kernel) (pa_cons (pv 0) pa_nil)) pa_nil)))) (blkOk_by (own := [("degree", 1)]) (N := nm__law_lots) (sc := defScope s__law_lots) (by decide +kernel)) (fun _ _ _ _ _ => (pg_name (i := 1) sc__law_lots.nd rfl (Or.inl rfl))) (fun _ _ _ _ _ => pts_nil) (fun _ _ _ _ _ => (pe_tupN (pa_cons (pv 1) (pa_cons (pe_bmK (K := K) rfl PySem.F.plainAttrs_list PySem.F.slot_list_count PySem.F.type_list_count (mtCountI (K := K) rfl) (pv 0) (pa_cons (pv 1) pa_nil)) pa_nil))))) pa_nil)))), ?_⟩
    walk_at "go"
    refine r_setNs (.of hl) (by omega) fun D0 H1 n1 s1 h1 => ?_
    walk_at "go"
    refine r_sortedS h1 (by omega) (r_new fun L H2 n2 s2 h2 => ?_)
    walk_at "go"
    refine r_revLI (.of h2) (r_new fun R H3 n3 s3 h3 => ?_)
    rw [← List.map_reverse] at h3
    have hl3 := s3 _ _ (s2 _ _ (s1 _ _ hl))
    have s03 := s1.trans (s2.trans s3)
    obtain ⟨ns, ens⟩ : ∃ ns, ns = (ascI ds).reverse := ⟨_, rfl⟩
    have ln : ns.length ≤ 60 := by rw [ens, List.length_reverse]; exact Nat.le_trans ascI_length few
    rw [← ens] at h3
    refine r_iAt ⟨_, .of h3⟩ ?_
    intro D hD
    refine r_lcw (walk_list (xs := ns.map V.int)) hD (fun i acc H' => Same H3 H' ∧ FzAll H' acc (((ns.take i).map fun d => (d, cntOf ds d)).map kD)) ?_ ?_ ?_ ?_
    · intro H' e' _
      exact ⟨e', .nil⟩
    · rintro i acc H' _ ⟨e', _⟩ _
      exact .of (e' _ _ h3)
    · rintro i x acc H6 H7 hi hl' ⟨e', f⟩ h6 ⟨e67, hxi⟩
      subst e67
      obtain ⟨d, hd, rfl⟩ := ints_at hxi
      rw [List.length_map] at hi
      walk_at "go"
      refine ⟨rfl, ?_⟩
      walk_at "go"
      have hl7 := e' _ _ hl3
      refine r_tyL (.of hl7) ?_
      walk_at "go"
      refine r_cntI (.of hl7) ?_
      walk_at "go"
      refine r_fits (by simp) fun t H8 n8 s8 h8 => ?_
      refine r_acc (i := i) (s8 _ _ h6) hl' (by omega) fun H9 b9 h9 _ => ?_
      refine ⟨same_of_but (H := H3) (e'.trans s8) b9 hD, ?_⟩
      rw [take_snoc hd, List.map_append, List.map_append]
      exact FzAll.snoc (FzAll.kp ((Kp.same s8).trans (Kp.butL b9 (s8 _ _ h6))) f) (Fz.kD_mk (Kp.butL b9 (s8 _ _ h6) _ _ True.intro h8))
    · rintro acc H' hl' ⟨e', f⟩ h6
      rw [List.length_map, List.take_length] at f
      rw [List.length_map] at hl'
      walk_at "go"
      refine r_tupL (.of h6) (r_new fun t H8 n8 s8 h8 => ?_)
      refine q t H8 _ (s03.trans (e'.trans s8)) (.tup h8 (f.same s8)) ?_
      rw [ens]
      exact lots_kinds ds
end

theorem refL_one {p : Addr × List Int → Bool} {d : Addr × List Int} (h : p d = true) : refL ([d].filter p) = [.ref d.1] := by
  rw [List.filter_cons_of_pos h]
  rfl
theorem refL_zero {p : Addr × List Int → Bool} {d : Addr × List Int} (h : p d = false) : refL ([d].filter p) = [] := by
  rw [List.filter_cons_of_neg (by rw [h]; decide)]
  rfl

section
variable {P : Program} {w : World} {K : PySem.W.Frag} {mg : Str → Option Value} {base : Heap} {a : Ad}
theorem ok__law_choices (T : Txt w K mg a) : FnOk P w K mg base CX0 2 a.f__law_choices a.d__law_choices ["some", "many"] (sp__law_choices K a.C_Row) := by
  refine Fun.ok (k := 1) T.u__law_choices sc__law_choices (fun vs H Q E h => ?_) (fun cdv A outer s H vs Q E hr h => ?_)
  · obtain ⟨l, ss, m, rfl, _⟩ := h
    rfl
  · obtain ⟨l, ss, m, rfl, hl, few, m0, q⟩ := h
    refine ⟨_, (pss_cons (ps_set (i := 2) sc__law_choices.nd rfl (Or.inl rfl) (pe_lstN (pa_cons (pe_lstN pa_nil) pa_nil)))
          (pss_cons (ps_for PassesOwn.never rfl (pi_range1 (by rfl) T.b_range (pa_cons (pe_callB (callLenK (K := K) rfl) (by rfl) T.b_len (by decide +kernel) (pa_cons (pv 0) pa_nil)) pa_nil)) (pg_name (i := 3) sc__law_choices.nd rfl (Or.inr rfl)) (pss_cons (ps_setLc (i := 4) (own := [("chosen", 5)]) (g := (gName 5)) (by rfl) sc__law_choices.nd rfl rfl (sw_true rfl rfl rfl (by decide +kernel)) (pi_list (pv 2)) (blkOk_by (own := [("chosen", 5)]) (N := nm__law_choices) (sc := defScope s__law_choices) (by decide +kernel)) (fun _ _ _ _ _ => (pg_name (i := 5) sc__law_choices.nd rfl (Or.inl rfl))) (fun _ _ _ _ _ => (pts_one (pt_cmpR opLt (pe_callB (callLenK (K := K) rfl) (by rfl) T.b_len (by decide +kernel) (pa_cons (pv 5) pa_nil)) (pv 1) (nomark _)))) (fun _ _ _ _ _ => (pe_op (opAddK (K := K) rfl) (pv 5) (pe_lstN (pa_cons (pe_ix (ixK (K := K) rfl) (pv 0) (pv 3) (fun _ _ => rfl)) pa_nil)))))
          (pss_one (ps_set (i := 2) sc__law_choices.nd rfl (Or.inl rfl) (pe_op (opAddK (K := K) rfl) (pe_lc (own := [("chosen", 5)]) (g := (gName 5)) (by rfl) sc__law_choices.nd (pi_list (pv 2)) (blkOk_by (own := [("chosen", 5)]) (N := nm__law_choices) (sc := defScope s__law_choices) (by decide +kernel)) (fun _ _ _ _ _ => (pg_name (i := 5) sc__law_choices.nd rfl (Or.inl rfl))) (fun _ _ _ _ _ => (pts_one (pt_cmpR opGe (pe_op opSub (pe_op opSub (pe_op (opAddK (K := K) rfl) (pe_callB (callLenK (K := K) rfl) (by rfl) T.b_len (by decide +kernel) (pa_cons (pv 5) pa_nil)) (pe_callB (callLenK (K := K) rfl) (by rfl) T.b_len (by decide +kernel) (pa_cons (pv 0) pa_nil))) (pv 3)) pe_int) (pv 1) (nomark _)))) (fun _ _ _ _ _ => (pv 5))) (pv 4))))))
          (pss_one (ps_ret (pe_lc (own := [("chosen", 5)]) (g := (gName 5)) (by rfl) sc__law_choices.nd (pi_list (pv 2)) (blkOk_by (own := [("chosen", 5)]) (N := nm__law_choices) (sc := defScope s__law_choices) (by decide +kernel)) (fun _ _ _ _ _ => (pg_name (i := 5) sc__law_choices.nd rfl (Or.inl rfl))) (fun _ _ _ _ _ => (pts_one (pt_cmpR (opEqK (K := K) hr rfl) (pe_callB (callLenK (K := K) rfl) (by rfl) T.b_len (by decide +kernel) (pa_cons (pv 5) pa_nil)) (pv 1) (nomark _)))) (fun _ _ _ _ _ => (pv 5))))))), ?_⟩
    walk_at "go"
    refine r_fits (by simp) fun c0 H1 n1 s1 h1 => ?_
    walk_at "go"
    refine r_fits (by simp) fun F0 H2 n2 s2 h2 => ?_
    walk_at "go"
    have s02 := s1.trans s2
    refine r_lenL (.of (s02 _ _ hl)) ?_
    walk_at "go"
    rw [List.length_map]
    refine ⟨(ss.length : Int), rfl, by omega, by omega, ?_⟩
    rw [Int.toNat_natCast]
    refine r_walk (walk_range (lo := 0) (n := ss.length)) (fun i σ H' => ∃ (F : Addr) (cs : Lls) (v3 v4 v5 : Option V), σ = [some (.ref l), some (.int m), some (.ref F), v3, v4, v5] ∧ Same H H' ∧ H' F = some (.lst (refL cs)) ∧ LlsAt H' cs ∧ (∀ c ∈ cs, H c.1 = none) ∧ Cand ss i m cs ∧ cs.length ≤ 2 ^ i) ?_ ?_ ?_ ?_
    · refine ⟨F0, [(c0, [])], none, none, none, rfl, s02, h2, fun c hc => ?_, fun c hc => ?_, ⟨fun c hc => ?_, fun d hd _ _ => ?_⟩, Nat.le_refl _⟩
      · rw [List.mem_singleton.mp hc]
        exact s2 _ _ h1
      · rw [List.mem_singleton.mp hc]
        exact n1
      · rw [List.mem_singleton.mp hc]
        exact ⟨.slnil, m0⟩
      · exact ⟨(c0, []), List.mem_cons_self, (List.sublist_nil.mp (by simpa using hd)).symm⟩
    · intro i σ H' _ _
      exact True.intro
    · rintro i x σ H3 H4 hi ⟨F, cs, v3, v4, v5, rfl, s3, h3, at3, fr3, cand, len⟩ ⟨e, rfl⟩
      subst e
      obtain ⟨x, hx⟩ : ∃ x, ss[i]? = some x := ⟨ss[i], List.getElem?_eq_getElem hi⟩
      have few2 : 2 ^ i ≤ 2 ^ 8 := Nat.pow_le_pow_right (by decide) (by omega)
      have len' : cs.length ≤ 256 := Nat.le_trans len few2
      walk_at "go"
      refine r_iAt ⟨_, .of h3⟩ ?_
      intro D hD
      refine r_lcw (walk_list (xs := refL cs)) hD (fun j acc H' => Same H4 H' ∧ ∃ ls : Lls, acc = refL ls ∧ LlsAt H' ls ∧ (∀ c ∈ ls, c.1 ≠ D ∧ H c.1 = none) ∧ (∀ c ∈ ls, ∃ d ∈ cs, c.2 = d.2 ++ [x] ∧ (d.2.length : Int) < m) ∧ ∀ d ∈ cs.take j, (d.2.length : Int) < m → ∃ c ∈ ls, c.2 = d.2 ++ [x]) ?_ ?_ ?_ ?_
      · exact fun H' e' _ => ⟨e', [], rfl, fun c hc => absurd hc List.not_mem_nil, fun c hc => absurd hc List.not_mem_nil, fun c hc => absurd hc List.not_mem_nil, fun d hd => absurd hd List.not_mem_nil⟩
      · rintro j acc H' _ ⟨e', _⟩ _
        exact .of (e' _ _ h3)
      · rintro j y acc H6 H7 hj hl' ⟨e', ls, rfl, ats, gn, g1, g2⟩ h6 ⟨e67, hy⟩
        subst e67
        obtain ⟨d, hd, rfl⟩ := refL_at hy
        rw [refL_len] at hj
        have hdm := List.mem_of_getElem? hd
        have hd7 := e' _ _ (at3 d hdm)
        have dl : d.2.length ≤ 8 := Nat.le_trans (cand.1 d hdm).1.length_le (by rw [List.length_take]; omega)
        refine ⟨rfl, ?_⟩
        walk_at "go"
        refine r_lenL (.of hd7) ?_
        walk_at "go"
        rw [List.length_map]
        refine r_dec (fun lt => ?_) (fun nlt => ?_)
        · walk_at "go"
          refine r_ixL (.of (e' _ _ (s3 _ _ hl))) (show atI (ss.map V.int) (0 + (i : Int)) = some (V.int x) by rw [Int.zero_add]; exact atI_nat (by rw [List.getElem?_map, hx]; rfl)) ?_
          walk_at "go"
          refine r_fits (by simp) fun L1 H8 n8 s8 h8 => ?_
          refine r_addL (s8 _ _ hd7) h8 (by rw [List.length_map]; simp; omega) (r_new fun L2 H9 n9 s9 h9 => ?_)
          have s79 := s8.trans s9
          have nL2 : L2 ≠ D := fun z => by
            have := s8 _ _ h6
            rw [← z, n9] at this
            cases this
          refine r_acc (i := j) (s79 _ _ h6) hl' (by omega) fun H10 b10 h10 _ => ?_
          refine ⟨same_of_but (H := H4) (e'.trans s79) b10 hD, ls ++ [(L2, d.2 ++ [x])], by rw [refL_app]; rfl, ?_, ?_, ?_, ?_⟩
          · refine LlsAt.snoc (fun c hc => b10 _ _ (gn c hc).1 (s79 _ _ (ats c hc))) ?_
            rw [b10 _ _ nL2 h9, List.map_append]
            rfl
          · intro c hc
            rcases List.mem_append.mp hc with hc | hc
            · exact gn c hc
            · rw [List.mem_singleton.mp hc]
              exact ⟨nL2, Same.none s3 (Same.none (e'.trans s8) n9)⟩
          · intro c hc
            rcases List.mem_append.mp hc with hc | hc
            · exact g1 c hc
            · rw [List.mem_singleton.mp hc]
              exact ⟨d, hdm, rfl, lt⟩
          · intro d' hd' lt
            rw [take_snoc hd] at hd'
            rcases List.mem_append.mp hd' with hd' | hd'
            · obtain ⟨c, hc, e⟩ := g2 d' hd' lt
              exact ⟨c, List.mem_append_left _ hc, e⟩
            · rw [List.mem_singleton.mp hd']
              exact ⟨_, List.mem_append_right _ List.mem_cons_self, rfl⟩
        · refine ⟨refL ls, h6, by omega, e', ls, rfl, ats, gn, g1, fun d' hd' lt => ?_⟩
          rw [take_snoc hd] at hd'
          rcases List.mem_append.mp hd' with hd' | hd'
          · exact g2 d' hd' lt
          · rw [List.mem_singleton.mp hd'] at lt
            exact absurd lt nlt
      rintro acc H5 hl5 ⟨e5, ls, rfl, ats, gn, g1, g2⟩ h5
      rw [refL_len, List.take_length] at g2
      walk_at "go"
      refine r_iAt ⟨_, .of (e5 _ _ h3)⟩ ?_
      intro D2 hD2
      refine r_lcw (walk_list (xs := refL cs)) hD2 (fun j acc H' => Same H5 H' ∧ acc = refL ((cs.take j).filter fun c => decide ((c.2.length : Int) + ss.length - i - 1 ≥ m))) ?_ ?_ ?_ ?_
      · exact fun H' e' _ => ⟨e', rfl⟩
      · rintro j acc H' _ ⟨e', _⟩ _
        exact .of (e' _ _ (e5 _ _ h3))
      · rintro j y acc H6 H7 hj hl' ⟨e', rfl⟩ h6 ⟨e67, hy⟩
        subst e67
        obtain ⟨d, hd, rfl⟩ := refL_at hy
        rw [refL_len] at hj
        have hdm := List.mem_of_getElem? hd
        have hd7 := (e5.trans e') _ _ (at3 d hdm)
        have dl : d.2.length ≤ 8 := Nat.le_trans (cand.1 d hdm).1.length_le (by rw [List.length_take]; omega)
        refine ⟨rfl, ?_⟩
        walk_at "go"
        refine r_lenL (.of hd7) ?_
        walk_at "go"
        refine r_lenL (.of ((e5.trans e') _ _ (s3 _ _ hl))) ?_
        walk_at "go"
        rw [List.length_map, List.length_map]
        refine r_dec (fun c => ?_) (fun c => ?_)
        · walk_at "go"
          refine r_acc (i := j) h6 hl' (by omega) fun H8 b8 h8 _ => ?_
          refine ⟨same_of_but (H := H5) e' b8 hD2, ?_⟩
          rw [take_snoc hd, List.filter_append, refL_app]
          exact congrArg _ (refL_one (decide_eq_true (by omega))).symm
        · refine ⟨_, h6, by omega, e', ?_⟩
          rw [take_snoc hd, List.filter_append, refL_app]
          exact ((congrArg (refL _ ++ ·) (refL_zero (decide_eq_false (by omega)))).trans (List.append_nil _)).symm
      rintro acc H6 hl6 ⟨e6, rfl⟩ h6
      simp only [refL_len, List.take_length] at h6 hl5 hl6
      walk_at "go"
      obtain ⟨ks, eks⟩ : ∃ ks : Lls, ks = cs.filter fun c => decide ((c.2.length : Int) + ss.length - i - 1 ≥ m) := ⟨_, rfl⟩
      rw [← eks] at h6 hl6
      have ll : ls.length ≤ cs.length := hl5
      have kl : ks.length ≤ cs.length := hl6
      refine r_addL h6 (e6 _ _ h5) (by rw [refL_len, refL_len]; omega) (r_new fun F2 H7 n7 s7 h7 => ?_)
      walk_at "go"
      rw [← refL_app] at h7
      have s47 := e5.trans (e6.trans s7)
      refine ⟨F2, ks ++ ls, _, _, _, rfl, s3.trans s47, h7, ?_, ?_, cand.step hx g1 (fun d hd lt => g2 d hd lt) eks, ?_⟩
      · refine LlsAt.app (fun c hc => ?_) (ats.same (e6.trans s7))
        rw [eks] at hc
        exact s47 _ _ (at3 c (List.mem_filter.mp hc).1)
      · intro c hc
        rcases List.mem_append.mp hc with hc | hc
        · rw [eks] at hc
          exact fr3 c (List.mem_filter.mp hc).1
        · exact (gn c hc).2
      · rw [List.length_append, Nat.pow_succ]
        omega
    · rintro σ H3 ⟨F, cs, v3, v4, v5, rfl, s3, h3, at3, fr3, cand, len⟩
      have few2 : 2 ^ ss.length ≤ 2 ^ 8 := Nat.pow_le_pow_right (by decide) (by omega)
      have len' : cs.length ≤ 256 := Nat.le_trans len few2
      have c1 := cand.1
      have c2 := cand.2
      rw [List.take_length] at c1 c2
      walk_at "go"
      refine r_iAt ⟨_, .of h3⟩ ?_
      intro D2 hD2
      refine r_lcw (walk_list (xs := refL cs)) hD2 (fun j acc H' => Same H3 H' ∧ acc = refL ((cs.take j).filter fun c => decide ((c.2.length : Int) = m))) ?_ ?_ ?_ ?_
      · exact fun H' e' _ => ⟨e', rfl⟩
      · rintro j acc H' _ ⟨e', _⟩ _
        exact .of (e' _ _ h3)
      · rintro j y acc H6 H7 hj hl' ⟨e', rfl⟩ h6 ⟨e67, hy⟩
        subst e67
        obtain ⟨d, hd, rfl⟩ := refL_at hy
        rw [refL_len] at hj
        have hdm := List.mem_of_getElem? hd
        have hd7 := e' _ _ (at3 d hdm)
        refine ⟨rfl, ?_⟩
        walk_at "go"
        refine r_lenL (.of hd7) ?_
        walk_at "go"
        rw [List.length_map]
        refine r_dec (fun c => ?_) (fun c => ?_)
        · walk_at "go"
          refine r_acc (i := j) h6 hl' (by omega) fun H8 b8 h8 _ => ?_
          refine ⟨same_of_but (H := H3) e' b8 hD2, ?_⟩
          rw [take_snoc hd, List.filter_append, refL_app]
          exact congrArg _ (refL_one (decide_eq_true c)).symm
        · refine ⟨_, h6, by omega, e', ?_⟩
          rw [take_snoc hd, List.filter_append, refL_app]
          exact ((congrArg (refL _ ++ ·) (refL_zero (decide_eq_false c))).trans (List.append_nil _)).symm
      rintro acc H6 hl6 ⟨e6, rfl⟩ h6
      rw [refL_len, List.take_length] at h6
      refine q D2 _ H6 (s3.trans e6) h6 (fun c hc => e6 _ _ (at3 c (List.mem_filter.mp hc).1)) (Same.none s3 hD2) (fun c hc => fr3 c (List.mem_filter.mp hc).1) (Nat.le_trans (List.length_filter_le _ _) len) (fun c hc => ?_) fun d hd e => ?_
      · obtain ⟨a1, a2⟩ := List.mem_filter.mp hc
        exact ⟨(c1 c a1).1, of_decide_eq_true a2⟩
      · obtain ⟨c, hc, ec⟩ := c2 d hd (by omega) (by omega)
        exact ⟨c, List.mem_filter.mpr ⟨hc, decide_eq_true (by rw [ec]; exact e)⟩, ec⟩
end

structure Wb where
  w : Addr
  t : Addr
  l : Addr
  tv : List V
  ls : List Int
  ps : Kinds
def refW (ws : List Wb) : List V := ws.map fun w => V.ref w.w
def WbsAt (H : Hp) (ws : List Wb) : Prop := ∀ w ∈ ws, H w.w = some (.tup [.ref w.t, .ref w.l]) ∧ H w.t = some (.lst w.tv) ∧ H w.l = some (.lst (w.ls.map V.int)) ∧ FzAll H w.tv (w.ps.map kD)
def WbsNe (La : Addr) (ws : List Wb) : Prop := ∀ w ∈ ws, w.w ≠ La ∧ w.t ≠ La ∧ w.l ≠ La
def WbsOk (n i : Nat) (ws : List Wb) : Prop := ∀ w ∈ ws, w.ls.length = n ∧ (∀ x ∈ w.ls, 0 ≤ x) ∧ w.tv.length ≤ 6 * i ∧ ∀ q ∈ w.ps, q.1 < (i : Int)
theorem WbsAt.same {H H' : Hp} {ws : List Wb} (s : Same H H') (h : WbsAt H ws) : WbsAt H' ws := fun w hw => ⟨s _ _ (h w hw).1, s _ _ (h w hw).2.1, s _ _ (h w hw).2.2.1, FzAll.same s (h w hw).2.2.2⟩
theorem refW_at {ws : List Wb} {j : Nat} {v : V} (h : (refW ws)[j]? = some v) : ∃ w, ws[j]? = some w ∧ v = .ref w.w := by
  unfold refW at h
  rw [List.getElem?_map] at h
  obtain ⟨r, hr, rfl⟩ := Option.map_eq_some_iff.mp h
  exact ⟨r, hr, rfl⟩
theorem refW_len (ws : List Wb) : (refW ws).length = ws.length := by unfold refW; rw [List.length_map]
/-- how many there may be ahead of a place -/
def bndW : Nat → Nat
  | 0 => 1
  | 1 => 32
  | 2 => 512
  | 3 => 4096
  | 4 => 16384
  | _ => 32768
theorem bndW_step {i n : Nat} (hn : n ≤ 6) (hi : i < n) : bndW i * 2 ^ (n - (i + 1)) ≤ bndW (i + 1) := by
  have p : 2 ^ (n - (i + 1)) ≤ 2 ^ (5 - i) := Nat.pow_le_pow_right (by decide) (by omega)
  have i6 : i < 6 := by omega
  refine Nat.le_trans (Nat.mul_le_mul_left _ p) ?_
  have : ∀ i : Fin 6, bndW i.1 * 2 ^ (5 - i.1) ≤ bndW (i.1 + 1) := by decide
  exact this ⟨i, i6⟩
theorem bndW_top {i : Nat} : bndW i ≤ 32768 := by
  rcases i with _ | _ | _ | _ | _ | i <;> simp [bndW]
theorem posn_in {o : Nat} {r : List Int} : ∀ {k : Nat} {a : Int}, a ∈ posn (o + k) (r.drop k) → a ∈ posn o r
  | 0, a, h => h
  | k + 1, a, h => by
    cases r with
    | nil => exact h
    | cons x r =>
      rw [List.drop_succ_cons, show o + (k + 1) = (o + 1) + k by omega] at h
      have := posn_in (o := o + 1) (r := r) h
      unfold posn
      split
      · exact List.mem_cons_of_mem _ this
      · exact this
theorem decAt_nn {ch : List Int} : ∀ {r : List Int} {o : Nat}, (∀ x ∈ r, 0 ≤ x) → (∀ k ∈ ch, (o : Int) ≤ k → k ∈ posn o r) → ∀ x ∈ decAt o r ch, 0 ≤ x
  | [], _, _, _, x, h => by cases h
  | y :: r, o, nn, hk, x, h => by
    have y0 := nn y List.mem_cons_self
    rcases List.mem_cons.mp h with e | h
    · rw [e]
      by_cases c : (o : Int) ∈ ch
      · have m := hk _ c (Int.le_refl _)
        unfold posn at m
        by_cases c0 : 0 < y
        · rw [if_pos c]; omega
        · rw [if_neg c0] at m
          have := posn_ge _ m
          omega
      · rw [if_neg c]; omega
    · refine decAt_nn (r := r) (o := o + 1) (fun z hz => nn z (List.mem_cons_of_mem _ hz)) (fun k hkc lk => ?_) x h
      have m := hk k hkc (by omega)
      unfold posn at m
      split at m
      · rcases List.mem_cons.mp m with e | m
        · omega
        · exact m
      · exact m
def prs (i : Nat) (ch : List Int) : Kinds := ch.map fun c => ((i : Int), c)
def StepP (i : Nat) (w : Wb) (l' : List Int) (p' : Kinds) : Prop := ∃ (ch : List Int) (x : Int), w.ls[i]? = some x ∧ ch.Sublist (posn (i + 1) (w.ls.drop (i + 1))) ∧ (ch.length : Int) = x ∧ l' = decAt 0 w.ls ch ∧ p' = w.ps ++ prs i ch
theorem StepP.w {i : Nat} {w : Wb} {l' : List Int} {p' : Kinds} (h : StepP i w l' p') : StepW i w.ls l' := by
  obtain ⟨ch, x, h1, h2, h3, h4, _⟩ := h
  exact ⟨ch, x, h1, h2, h3, h4⟩
def Stat (a b : Nat) (t : Bool) (i : Nat) (w : Wb) : Prop := (i ≤ a ∧ WebI a b t i w.ls) ∨ (a < i ∧ (((a : Int), (b : Int)) ∈ w.ps ↔ t = true) ∧ Web (w.ls.drop i))
theorem mem_prs {i a b : Nat} {ch : List Int} : ((a : Int), (b : Int)) ∈ prs i ch ↔ a = i ∧ (b : Int) ∈ ch := by
  unfold prs
  constructor
  · intro h
    obtain ⟨c, hc, e⟩ := List.mem_map.mp h
    injection e with e1 e2
    exact ⟨by omega, e2 ▸ hc⟩
  · rintro ⟨rfl, h⟩
    exact List.mem_map.mpr ⟨_, h, rfl⟩
theorem stat_step {n i a b : Nat} {t : Bool} {ws us : List Wb} (hi : i < n) (ok : WbsOk n i ws) (g1 : ∀ u ∈ us, ∃ w ∈ ws, StepP i w u.ls u.ps) (g2 : ∀ w ∈ ws, ∀ l' p', StepP i w l' p' → ∃ u ∈ us, u.ls = l' ∧ u.ps = p') :
    (∃ u ∈ us, Stat a b t (i + 1) u) ↔ ∃ w ∈ ws, Stat a b t i w := by
  constructor
  · rintro ⟨u, hu, st⟩
    obtain ⟨w, hw, sp⟩ := g1 u hu
    refine ⟨w, hw, ?_⟩
    obtain ⟨o1, o2, o3, o4⟩ := ok w hw
    rcases st with ⟨ia, wi⟩ | ⟨ai, e, wb⟩
    · exact .inl ⟨by omega, .early (by omega) sp.w wi⟩
    · obtain ⟨ch, x, h1, h2, h3, h4, h5⟩ := id sp
      by_cases z : a = i
      · subst z
        refine .inl ⟨Nat.le_refl _, .at_ h1 h2 h3 ?_ (by rw [← h4]; exact wb)⟩
        rw [← e, h5, List.mem_append, mem_prs]
        constructor
        · exact fun y => .inr ⟨rfl, y⟩
        · rintro (y | y)
          · exact absurd (o4 _ y) (by simp)
          · exact y.2
      · refine .inr ⟨by omega, ?_, (StepW.web (by rw [o1]; exact hi)).mpr ⟨_, sp.w, wb⟩⟩
        rw [← e, h5, List.mem_append, mem_prs]
        constructor
        · exact .inl
        · rintro (y | y)
          · exact y
          · exact absurd y.1 z
  · rintro ⟨w, hw, st⟩
    obtain ⟨o1, o2, o3, o4⟩ := ok w hw
    rcases st with ⟨ia, wi⟩ | ⟨ai, e, wb⟩
    · have atc : a = i → ∀ (ch : List Int) (x : Int), w.ls[a]? = some x → ch.Sublist (posn (a + 1) (w.ls.drop (a + 1))) → (ch.length : Int) = x → ((b : Int) ∈ ch ↔ t = true) → Web ((decAt 0 w.ls ch).drop (a + 1)) → ∃ u ∈ us, Stat a b t (i + 1) u := by
        intro z ch x h1 h2 h3 h4 h5
        subst z
        obtain ⟨u, hu, e1, e2⟩ := g2 w hw _ _ ⟨ch, x, h1, h2, h3, rfl, rfl⟩
        refine ⟨u, hu, .inr ⟨by omega, ?_, by rw [e1]; exact h5⟩⟩
        rw [← h4, e2, List.mem_append, mem_prs]
        constructor
        · rintro (y | y)
          · exact absurd (o4 _ y) (by simp)
          · exact y.2
        · exact fun y => .inr ⟨rfl, y⟩
      have erl : i < a → ∀ l', StepW i w.ls l' → WebI a b t (i + 1) l' → ∃ u ∈ us, Stat a b t (i + 1) u := by
        rintro z l' ⟨ch, x, h1, h2, h3, h4⟩ wi'
        obtain ⟨u, hu, e1, e2⟩ := g2 w hw l' _ ⟨ch, x, h1, h2, h3, h4, rfl⟩
        exact ⟨u, hu, .inl ⟨by omega, by rw [e1]; exact wi'⟩⟩
      generalize hl : w.ls = l at wi
      cases wi with
      | at_ h1 h2 h3 h4 h5 => subst hl; exact atc rfl _ _ h1 h2 h3 h4 h5
      | early z h1 h2 => subst hl; exact erl z _ h1 h2
    · obtain ⟨l', st, z'⟩ := (StepW.web (by rw [o1]; exact hi)).mp wb
      obtain ⟨ch, x, h1, h2, h3, h4⟩ := id st
      obtain ⟨u, hu, e1, e2⟩ := g2 w hw l' _ ⟨ch, x, h1, h2, h3, h4, rfl⟩
      refine ⟨u, hu, .inr ⟨by omega, ?_, by rw [e1]; exact z'⟩⟩
      rw [← e, e2, List.mem_append, mem_prs]
      constructor
      · rintro (y | y)
        · exact y
        · exact absurd y.1 (by omega)
      · exact .inl
theorem StepW.nn {i : Nat} {l l' : List Int} (h : StepW i l l') (nn : ∀ x ∈ l, 0 ≤ x) : ∀ x ∈ l', 0 ≤ x := by
  obtain ⟨ch, x, _, c1, _, rfl⟩ := h
  refine decAt_nn nn fun k hk _ => ?_
  have := c1.subset hk
  exact posn_in (o := 0) (k := i + 1) (by rw [Nat.zero_add]; exact this)
theorem flat_intsW : ∀ l : List Int, (l.map V.int).all flatV = true
  | [] => rfl
  | b :: r => by
    rw [List.map_cons, List.all_cons, flat_intsW r]
    rfl
theorem in_intsW (x : Int) : ∀ l : List Int, inV (.int x) (l.map V.int) = decide (x ∈ l)
  | [] => rfl
  | b :: r => by
    have e : inV (.int x) ((b :: r).map V.int) = (eqV (V.int b) (V.int x) || inV (.int x) (r.map V.int)) := rfl
    rw [e, in_intsW x r]
    by_cases c : b = x
    · subst c; simp [eqV]
    · have c' : ¬ x = b := fun z => c z.symm
      simp [eqV, c, c']

section
variable {P : Program} {w : World} {K : PySem.W.Frag} {mg : Str → Option Value} {base : Heap} {a : Ad}
theorem ok__law_webs (T : Txt w K mg a) : FnOk P w K mg base CX0 4 a.f__law_webs a.d__law_webs ["degrees"] (sp__law_webs K a.C_Row) := by
  refine Fun.ok (k := 3) T.u__law_webs sc__law_webs (fun vs H Q E h => ?_) (fun cdv A outer s H vs Q E hr h => ?_)
  · obtain ⟨l, ds, rfl, _⟩ := h
    rfl
  · obtain ⟨l, ds, rfl, hl, n6, nn, q⟩ := h
    refine ⟨_, (pss_cons (ps_set (i := 1) sc__law_webs.nd rfl (Or.inl rfl) (pe_lstN (pa_cons (pe_tupN (pa_cons (pe_lstN pa_nil) (pa_cons (pe_callTy (callListK (K := K) rfl rfl) (by rfl) T.b_list (by decide +kernel) (pa_cons (pv 0) pa_nil)) pa_nil))) pa_nil)))
          (pss_cons (ps_for PassesOwn.never rfl (pi_range1 (by rfl) T.b_range (pa_cons (pe_callB (callLenK (K := K) rfl) (by rfl) T.b_len (by decide +kernel) (pa_cons (pv 0) pa_nil)) pa_nil)) (pg_name (i := 2) sc__law_webs.nd rfl (Or.inr rfl)) (pss_cons (ps_set (i := 3) sc__law_webs.nd rfl (Or.inl rfl) (pe_lstN pa_nil))
          (pss_cons (ps_for PassesOwn.never rfl (pi_list (pv 1)) (pg_tup rfl (pgs_cons (pg_name (i := 4) sc__law_webs.nd rfl (Or.inl rfl)) (pgs_cons (pg_name (i := 5) sc__law_webs.nd rfl (Or.inr rfl)) pgs_nil))) (pss_cons (ps_setLc (i := 6) (own := [("at", 9)]) (g := (gName 9)) (by rfl) sc__law_webs.nd rfl rfl (sw_true rfl rfl rfl (by decide +kernel)) (pi_range2 (by rfl) T.b_range (pa_cons (pe_op (opAddK (K := K) rfl) (pv 2) pe_int) (pa_cons (pe_callB (callLenK (K := K) rfl) (by rfl) T.b_len (by decide +kernel) (pa_cons (pv 0) pa_nil)) pa_nil))) (blkOk_by (own := [("at", 9)]) (N := nm__law_webs) (sc := defScope s__law_webs) (by decide +kernel)) (fun _ _ _ _ _ => (pg_name (i := 9) sc__law_webs.nd rfl (Or.inl rfl))) (fun _ _ _ _ _ => (pts_one (pt_cmpR opGt (pe_ix (ixK (K := K) rfl) (pv 5) (pv 9) (fun _ _ => rfl)) pe_int (nomark _)))) (fun _ _ _ _ _ => (pv 9)))
          (pss_one (ps_for PassesOwn.never rfl (pi_list (pe_call (ok__law_choices T) (hr.mono (by decide)) (by rfl) T.m__law_choices T.u__law_choices.kp (b__law_choices T) .nil pass0 (pa_cons (pv 6) (pa_cons (pe_ix (ixK (K := K) rfl) (pv 5) (pv 2) (fun _ _ => rfl)) pa_nil)))) (pg_name (i := 7) sc__law_webs.nd rfl (Or.inr rfl)) (pss_cons (ps_setLc (i := 8) (own := [("at", 9)]) (g := (gName 9)) (by rfl) sc__law_webs.nd rfl rfl (sw_true rfl rfl rfl (by decide +kernel)) (pi_range1 (by rfl) T.b_range (pa_cons (pe_callB (callLenK (K := K) rfl) (by rfl) T.b_len (by decide +kernel) (pa_cons (pv 5) pa_nil)) pa_nil)) (blkOk_by (own := [("at", 9)]) (N := nm__law_webs) (sc := defScope s__law_webs) (by decide +kernel)) (fun _ _ _ _ _ => (pg_name (i := 9) sc__law_webs.nd rfl (Or.inl rfl))) (fun _ _ _ _ _ => pts_nil) (fun _ _ _ _ _ => (pe_op opSub (pe_ix (ixK (K := K) rfl) (pv 5) (pv 9) (fun _ _ => rfl)) (pe_callTy callInt (by rfl) T.b_int (by decide +kernel) (pa_cons (pe_cmpR (opInK (K := K) rfl) (pv 9) (pv 7) (by rfl)) pa_nil)))))
          (pss_one (ps_expr (pe_bm PySem.F.plainAttrs_list PySem.F.slot_list_append PySem.F.type_list_append mt_append (pv 3) (pa_cons (pe_tupN (pa_cons (pe_op (opAddK (K := K) rfl) (pv 4) (pe_lc (own := [("at", 9)]) (g := (gName 9)) (by rfl) sc__law_webs.nd (pi_list (pv 7)) (blkOk_by (own := [("at", 9)]) (N := nm__law_webs) (sc := defScope s__law_webs) (by decide +kernel)) (fun _ _ _ _ _ => (pg_name (i := 9) sc__law_webs.nd rfl (Or.inl rfl))) (fun _ _ _ _ _ => pts_nil) (fun _ _ _ _ _ => (pe_tupN (pa_cons (pv 2) (pa_cons (pv 9) pa_nil)))))) (pa_cons (pv 8) pa_nil))) pa_nil)))))))))
          (pss_one (ps_set (i := 1) sc__law_webs.nd rfl (Or.inl rfl) (pv 3))))))
          (pss_one (ps_ret (pe_lc (own := [("ties", 4), ("left", 5)]) (g := (gTup K 2 (gCons (gName 4) (gCons (gName 5) gNil)))) (by rfl) sc__law_webs.nd (pi_list (pv 1)) (blkOk_by (own := [("ties", 4), ("left", 5)]) (N := nm__law_webs) (sc := defScope s__law_webs) (by decide +kernel)) (fun _ _ _ _ _ => (pg_tup rfl (pgs_cons (pg_name (i := 4) sc__law_webs.nd rfl (Or.inl rfl)) (pgs_cons (pg_name (i := 5) sc__law_webs.nd rfl (Or.inl rfl)) pgs_nil)))) (fun _ _ _ _ _ => pts_nil) (fun _ _ _ _ _ => (pv 4))))))), ?_⟩
    walk_at "go"
    refine r_fits (by simp) fun t0 H1 n1 s1 h1 => ?_
    walk_at "go"
    refine r_listL (.of (s1 _ _ hl)) (r_new fun l0 H2 n2 s2 h2 => ?_)
    walk_at "go"
    refine r_fits (by simp) fun w0 H3 n3 s3 h3 => ?_
    walk_at "go"
    refine r_fits (by simp) fun F0 H4 n4 s4 h4 => ?_
    walk_at "go"
    have s04 := s1.trans (s2.trans (s3.trans s4))
    refine r_lenL (.of (s04 _ _ hl)) ?_
    walk_at "go"
    rw [List.length_map]
    obtain ⟨n, en⟩ : ∃ n, n = ds.length := ⟨_, rfl⟩
    rw [← en]
    rw [← en] at n6
    refine ⟨(n : Int), rfl, by omega, by omega, ?_⟩
    rw [Int.toNat_natCast]
    refine r_walk (walk_range (lo := 0) (n := n)) (fun i σ H' => ∃ (F : Addr) (ws : List Wb) (v2 v3 v4 v5 v6 v7 v8 v9 : Option V), σ = [some (.ref l), some (.ref F), v2, v3, v4, v5, v6, v7, v8, v9] ∧ Same H H' ∧ H' F = some (.lst (refW ws)) ∧ WbsAt H' ws ∧ WbsOk n i ws ∧ ws.length ≤ bndW i ∧ ((∃ w ∈ ws, Web (w.ls.drop i)) ↔ Web ds) ∧ ∀ (a b : Nat) (t : Bool), a < b → b < n → ((∃ w ∈ ws, Stat a b t i w) ↔ WebI a b t 0 ds)) ?_ ?_ ?_ ?_
    · refine ⟨F0, [⟨w0, t0, l0, [], ds, []⟩], _, _, _, _, _, _, _, _, rfl, s04, h4, fun w hw => ?_, fun w hw => ?_, Nat.le_refl _, ?_, fun a b t _ _ => ?_⟩
      · rw [List.mem_singleton.mp hw]
        exact ⟨s4 _ _ h3, (s2.trans (s3.trans s4)) _ _ h1, (s3.trans s4) _ _ h2, .nil⟩
      · rw [List.mem_singleton.mp hw]
        exact ⟨en.symm, nn, Nat.zero_le _, fun q hq => absurd hq List.not_mem_nil⟩
      · exact ⟨fun ⟨w, hw, z⟩ => by rw [List.mem_singleton.mp hw] at z; exact z, fun z => ⟨_, List.mem_cons_self, z⟩⟩
      · exact ⟨fun ⟨w, hw, z⟩ => by
          rw [List.mem_singleton.mp hw] at z
          rcases z with z | z
          · exact z.2
          · exact absurd z.1 (Nat.not_lt_zero _), fun z => ⟨_, List.mem_cons_self, .inl ⟨Nat.zero_le _, z⟩⟩⟩
    · intro i σ H' _ _
      exact True.intro
    · rintro i x σ Hz H5 hi ⟨F, ws, v2, v3, v4, v5, v6, v7, v8, v9, rfl, s5, h5, at5, ok5, len, iff5, stat5⟩ ⟨e, rfl⟩
      subst e
      walk_at "go"
      refine r_fits (by simp) fun La Ha na sa ha => ?_
      walk_at "go"
      have sHa := s5.trans sa
      have hFa := sa _ _ h5
      have ata := at5.same sa
      have nLa : H La = none := Same.none s5 na
      obtain ⟨B, eB⟩ : ∃ B, B = 2 ^ (n - (i + 1)) := ⟨_, rfl⟩
      have B1 : 1 ≤ B := by rw [eB]; exact Nat.one_le_two_pow
      have hi' : i < n := hi
      have bs := bndW_step n6 hi'
      rw [← eB] at bs
      have top := bndW_top (i := i + 1)
      have lenB : ws.length * B ≤ 32768 := Nat.le_trans (Nat.mul_le_mul_right _ len) (Nat.le_trans bs top)
      refine r_iAt ⟨_, .of hFa⟩ ?_
      refine r_walk (walk_list (xs := refW ws)) (fun j σ H' => ∃ (us : List Wb) (v4 v5 v6 v7 v8 v9 : Option V), σ = [some (.ref l), some (.ref F), some (.int (0 + (i : Int))), some (.ref La), v4, v5, v6, v7, v8, v9] ∧ But La Ha H' ∧ H' La = some (.lst (refW us)) ∧ WbsAt H' us ∧ WbsNe La us ∧ WbsOk n (i + 1) us ∧ us.length ≤ j * B ∧
        (∀ u ∈ us, ∃ w ∈ ws.take j, StepP i w u.ls u.ps) ∧ ∀ w ∈ ws.take j, ∀ l' p', StepP i w l' p' → ∃ u ∈ us, u.ls = l' ∧ u.ps = p') ?_ ?_ ?_ ?_
      · exact ⟨[], _, _, _, _, _, _, rfl, But.refl, ha, fun u hu => absurd hu List.not_mem_nil, fun u hu => absurd hu List.not_mem_nil, fun u hu => absurd hu List.not_mem_nil, Nat.zero_le _, fun u hu => absurd hu List.not_mem_nil, fun w hw => absurd hw List.not_mem_nil⟩
      · rintro j σ H' _ ⟨us, v4, v5, v6, v7, v8, v9, rfl, b', _⟩
        exact .of (b' _ _ (ne_of_none h5 na) hFa)
      · rintro j y σ Hz H6 hj ⟨us, v4, v5, v6, v7, v8, v9, rfl, b6, h6, at6, ne6, ok6, len6, g1, g2⟩ ⟨e, hy⟩
        subst e
        obtain ⟨w, hw, rfl⟩ := refW_at hy
        rw [refW_len] at hj
        have hwm := List.mem_of_getElem? hw
        have nLw : ∀ {b : Addr} {o : HO}, H5 b = some o → b ≠ La := fun hb => ne_of_none hb na
        obtain ⟨x1, x2, x3, x4⟩ := at5 w hwm
        obtain ⟨y1, y2, y3, y4⟩ := ok5 w hwm
        have w1 := b6 _ _ (nLw x1) (sa _ _ x1)
        have w2 := b6 _ _ (nLw x2) (sa _ _ x2)
        have w3 := b6 _ _ (nLw x3) (sa _ _ x3)
        refine r_gtup (.of w1) rfl ?_
        walk_at "go"
        unfold iRng2
        walk_at "go"
        refine r_lenL (.of (same_of_but sHa b6 nLa _ _ hl)) ?_
        walk_at "go"
        rw [List.length_map, ← en]
        refine ⟨0 + (i : Int) + 1, (n : Int), rfl, by omega, ?_⟩
        have en2 : ((n : Int) - (0 + (i : Int) + 1)).toNat = n - (i + 1) := by omega
        rw [en2]
        have ldrop : (w.ls.drop (i + 1)).length = n - (i + 1) := by rw [List.length_drop, y1]
        intro D hD
        refine r_lcw (walk_range (lo := 0 + (i : Int) + 1) (n := n - (i + 1))) hD (fun k acc H' => Same H6 H' ∧ acc = (posn (i + 1) ((w.ls.drop (i + 1)).take k)).map V.int) ?_ ?_ ?_ ?_
        · exact fun H' e' _ => ⟨e', rfl⟩
        · intro k acc H' _ _ _
          exact True.intro
        · rintro k z acc Hz H7 hk hl' ⟨e', rfl⟩ h7 ⟨e, rfl⟩
          subst e
          have hk' : k < n - (i + 1) := hk
          obtain ⟨x, hx⟩ : ∃ x, w.ls[i + 1 + k]? = some x := ⟨w.ls[i + 1 + k], List.getElem?_eq_getElem (by omega)⟩
          have hxd : (w.ls.drop (i + 1))[k]? = some x := by rw [List.getElem?_drop]; exact hx
          have ek : (0 + (i : Int) + 1 + (k : Int)) = ((i + 1 + k : Nat) : Int) := by omega
          have ix : atI (w.ls.map V.int) (0 + (i : Int) + 1 + (k : Int)) = some (V.int x) := by
            rw [ek]
            exact atI_nat (by rw [List.getElem?_map, hx]; rfl)
          have lt : ((w.ls.drop (i + 1)).take k).length = k := by rw [List.length_take, ldrop]; omega
          walk_at "go"
          refine ⟨rfl, ?_⟩
          walk_at "go"
          refine r_ixL (.of (e' _ _ w3)) ix ?_
          walk_at "go"
          have step : (posn (i + 1) ((w.ls.drop (i + 1)).take (k + 1))).map V.int = (posn (i + 1) ((w.ls.drop (i + 1)).take k)).map V.int ++ if 0 < x then [V.int (0 + (i : Int) + 1 + (k : Int))] else [] := by
            rw [take_snoc hxd, posn_snoc, lt, List.map_append, ek]
            split <;> rfl
          refine r_dec (fun c => ?_) (fun c => ?_)
          · walk_at "go"
            refine r_acc (i := k) h7 hl' (by omega) fun H8 b8 h8 _ => ?_
            refine ⟨same_of_but (H := H6) e' b8 hD, ?_⟩
            rw [step, if_pos c]
          · refine ⟨_, h7, by omega, e', ?_⟩
            rw [step, if_neg c, List.append_nil]
        rintro acc H7 hl7 ⟨e7, rfl⟩ h7
        rw [← ldrop, List.take_length] at h7
        walk_at "go"
        obtain ⟨x, hx⟩ : ∃ x, w.ls[i]? = some x := ⟨w.ls[i], List.getElem?_eq_getElem (by omega)⟩
        have x0 := y2 x (List.mem_of_getElem? hx)
        refine r_ixL (.of (e7 _ _ w3)) (show atI (w.ls.map V.int) (0 + (i : Int)) = some (V.int x) by rw [Int.zero_add]; exact atI_nat (by rw [List.getElem?_map, hx]; rfl)) ?_
        walk_at "go"
        have pl : (posn (i + 1) (w.ls.drop (i + 1))).length ≤ n - (i + 1) := by rw [← ldrop]; exact posn_len
        refine ⟨D, _, x, rfl, h7, by omega, x0, fun r cs H8 s8 h8 at8 nr fr8 len8 c1 c2 => ?_⟩
        have lenB8 : cs.length ≤ B := by rw [eB]; exact Nat.le_trans len8 (Nat.pow_le_pow_right (by decide) pl)
        have e68 := e7.trans s8
        refine r_iAt ⟨_, .of h8⟩ ?_
        have h7La := e7 _ _ h6
        have nLr : r ≠ La := fun z => by
          rw [z, h7La] at nr
          cases nr
        have nLc : ∀ c ∈ cs, c.1 ≠ La := fun c hc z => by
          have := fr8 c hc
          rw [z, h7La] at this
          cases this
        have h8La := s8 _ _ h7La
        have w38 := e68 _ _ w3
        have w28 := e68 _ _ w2
        have nLa2 : La ≠ D := fun z => by
          rw [← z, h6] at hD
          cases hD
        refine r_walk (walk_list (xs := refL cs)) (fun k σ H' => ∃ (us : List Wb) (v7 v8 v9 : Option V), σ = [some (.ref l), some (.ref F), some (.int (0 + (i : Int))), some (.ref La), some (.ref w.t), some (.ref w.l), some (.ref D), v7, v8, v9] ∧ But La H8 H' ∧ H' La = some (.lst (refW us)) ∧ WbsAt H' us ∧ WbsNe La us ∧ WbsOk n (i + 1) us ∧ us.length ≤ j * B + k ∧
          (∀ u ∈ us, ∃ w' ∈ ws.take (j + 1), StepP i w' u.ls u.ps) ∧ (∀ w' ∈ ws.take j, ∀ l' p', StepP i w' l' p' → ∃ u ∈ us, u.ls = l' ∧ u.ps = p') ∧ ∀ c ∈ cs.take k, ∃ u ∈ us, u.ls = decAt 0 w.ls c.2 ∧ u.ps = w.ps ++ prs i c.2) ?_ ?_ ?_ ?_
        · refine ⟨us, _, _, _, rfl, But.refl, h8La, at6.same e68, ne6, ok6, len6, fun u hu => ?_, g2, fun c hc => absurd hc List.not_mem_nil⟩
          obtain ⟨w', hw', st⟩ := g1 u hu
          exact ⟨w', by rw [take_snoc hw]; exact List.mem_append_left _ hw', st⟩
        · rintro k σ H' _ ⟨us, v7, v8, v9, rfl, b', _⟩
          exact .of (b' _ _ nLr h8)
        · rintro k y σ Hz H9 hk ⟨us, v7, v8, v9, rfl, b9, h9, at9, ne9, ok9, len9, k1, k2, k3⟩ ⟨e, hy⟩
          subst e
          obtain ⟨c, hc, rfl⟩ := refL_at hy
          rw [refL_len] at hk
          have hcm := List.mem_of_getElem? hc
          obtain ⟨cs1, cs2⟩ := c1 c hcm
          have nw : ∀ {b : Addr} {o : HO}, H5 b = some o → b ≠ La := nLw
          have c9 := b9 _ _ (nLc c hcm) (at8 c hcm)
          have w39 := b9 _ _ (nLw x3) w38
          have w29 := b9 _ _ (nLw x2) w28
          have cl : c.2.length ≤ 5 := Nat.le_trans cs1.length_le (by omega)
          walk_at "go"
          refine r_lenL (.of w39) ?_
          walk_at "go"
          rw [List.length_map, y1]
          refine ⟨(n : Int), rfl, by omega, by omega, ?_⟩
          rw [Int.toNat_natCast]
          intro D3 hD3
          refine r_lcw (walk_range (lo := 0) (n := n)) hD3 (fun t acc H' => Same H9 H' ∧ acc = (decAt 0 (w.ls.take t) c.2).map V.int) ?_ ?_ ?_ ?_
          · exact fun H' e' _ => ⟨e', rfl⟩
          · intro t acc H' _ _ _
            exact True.intro
          · rintro t z acc Hz H10 ht hl' ⟨e', rfl⟩ h10 ⟨e, rfl⟩
            subst e
            have ht' : t < n := ht
            obtain ⟨x', hx'⟩ : ∃ x', w.ls[t]? = some x' := ⟨w.ls[t], List.getElem?_eq_getElem (by omega)⟩
            have lt : (w.ls.take t).length = t := by rw [List.length_take, y1]; omega
            walk_at "go"
            refine ⟨rfl, ?_⟩
            walk_at "go"
            refine r_ixL (.of (e' _ _ w39)) (show atI (w.ls.map V.int) (0 + (t : Int)) = some (V.int x') by rw [Int.zero_add]; exact atI_nat (by rw [List.getElem?_map, hx']; rfl)) ?_
            walk_at "go"
            refine ⟨c.1, c.2.map V.int, rfl, .inl (.of (e' _ _ c9)), rfl, flat_intsW _, ?_⟩
            rw [in_intsW]
            walk_at "go"
            refine r_intB ?_
            walk_at "go"
            refine r_acc (i := t) h10 hl' (by omega) fun H11 b11 h11 _ => ?_
            refine ⟨same_of_but (H := H9) e' b11 hD3, ?_⟩
            rw [take_snoc hx', decAt_snoc, lt, List.map_append, show ((0 + t : Nat) : Int) = 0 + (t : Int) by omega]
            congr 1
            by_cases m : 0 + (t : Int) ∈ c.2 <;> simp [m]
          rintro acc H10 hl10 ⟨e10, rfl⟩ h10
          rw [← y1, List.take_length] at h10
          walk_at "go"
          refine r_tyL (.of (e10 _ _ h9)) ?_
          walk_at "go"
          refine r_iAt ⟨_, .of (e10 _ _ c9)⟩ ?_
          intro D4 hD4
          refine r_lcw (walk_list (xs := c.2.map V.int)) hD4 (fun t acc H' => Same H10 H' ∧ FzAll H' acc ((prs i (c.2.take t)).map kD)) ?_ ?_ ?_ ?_
          · exact fun H' e' _ => ⟨e', .nil⟩
          · rintro t acc H' _ ⟨e', _⟩ _
            exact .of (e' _ _ (e10 _ _ c9))
          · rintro t z acc Hz H11 ht hl' ⟨e', fz⟩ h11 ⟨e, hz⟩
            subst e
            obtain ⟨zc, hzc, rfl⟩ := ints_at hz
            rw [List.length_map] at ht
            walk_at "go"
            refine ⟨rfl, ?_⟩
            walk_at "go"
            refine r_fits (by simp) fun pr H12 n12 s12 h12 => ?_
            refine r_acc (i := t) (s12 _ _ h11) hl' (by omega) fun H13 b13 h13 _ => ?_
            refine ⟨same_of_but (H := H10) (e'.trans s12) b13 hD4, ?_⟩
            unfold prs
            rw [take_snoc hzc, List.map_append, List.map_append]
            refine FzAll.snoc (FzAll.kp ((Kp.same s12).trans (Kp.butL b13 (s12 _ _ h11))) fz) (Fz.kD_mk (Kp.butL b13 (s12 _ _ h11) _ _ True.intro ?_))
            have e0 : (0 + (i : Int)) = (i : Int) := by omega
            rw [e0] at h12
            exact h12
          rintro acc H11 hl11 ⟨e11, f11⟩ h11
          rw [List.length_map] at hl11 f11
          rw [List.take_length] at f11
          walk_at "go"
          have s911 := e10.trans e11
          have hok := ok5 w hwm
          refine r_addL (s911 _ _ w29) h11 (by omega) (r_new fun T2 H12 n12 s12 h12 => ?_)
          walk_at "go"
          refine r_fits (by simp) fun W2 H13 n13 s13 h13 => ?_
          walk_at "go"
          have s913 := s911.trans (s12.trans s13)
          have h13La := s913 _ _ h9
          refine r_append h13La (by rw [refW_len]; have : (j + 1) * B ≤ ws.length * B := Nat.mul_le_mul_right _ (by omega)
                                    rw [Nat.add_mul] at this; omega) (r_put fun H14 b14 h14 _ => ?_)
          have nD3 : D3 ≠ La := fun z => by
            rw [z, h9] at hD3
            cases hD3
          have nT2 : T2 ≠ La := fun z => by
            rw [z, s911 _ _ h9] at n12
            cases n12
          have nW2 : W2 ≠ La := fun z => by
            rw [z, s12 _ _ (s911 _ _ h9)] at n13
            cases n13
          have k14 : Kp H13 H14 := Kp.butL b14 h13La
          have kLa : ∀ {HA HB : Hp} {xs : List V}, HA La = some (.lst xs) → But La HA HB → Kp HA HB := fun h b => Kp.butL b h
          have w49 : FzAll H9 w.tv (w.ps.map kD) := FzAll.kp (kLa h8La b9) (FzAll.same e68 (FzAll.kp (kLa ha b6) (FzAll.same sa x4)))
          refine ⟨us ++ [⟨W2, T2, D3, w.tv ++ acc, decAt 0 w.ls c.2, w.ps ++ prs i c.2⟩], _, _, _, rfl, (b9.trans (But.same s913)).trans b14, ?_, ?_, ?_, ?_, ?_, ?_, ?_, ?_⟩
          · rw [h14]; unfold refW; rw [List.map_append]; rfl
          · intro u hu
            rcases List.mem_append.mp hu with hu | hu
            · obtain ⟨p1, p2, p3, p4⟩ := at9 u hu
              obtain ⟨q1, q2, q3⟩ := ne9 u hu
              exact ⟨b14 _ _ q1 (s913 _ _ p1), b14 _ _ q2 (s913 _ _ p2), b14 _ _ q3 (s913 _ _ p3), FzAll.kp k14 (FzAll.same s913 p4)⟩
            · rw [List.mem_singleton.mp hu]
              refine ⟨b14 _ _ nW2 h13, b14 _ _ nT2 (s13 _ _ h12), b14 _ _ nD3 ((e11.trans (s12.trans s13)) _ _ h10), FzAll.kp k14 ?_⟩
              show FzAll H13 (w.tv ++ acc) ((w.ps ++ prs i c.2).map kD)
              rw [List.map_append]
              exact FzAll.app (FzAll.same s913 w49) (FzAll.same (s12.trans s13) f11)
          · intro u hu
            rcases List.mem_append.mp hu with hu | hu
            · exact ne9 u hu
            · rw [List.mem_singleton.mp hu]
              exact ⟨nW2, nT2, nD3⟩
          · intro u hu
            rcases List.mem_append.mp hu with hu | hu
            · exact ok9 u hu
            · rw [List.mem_singleton.mp hu]
              refine ⟨by rw [← y1]; exact decAt_len, StepW.nn ⟨c.2, x, hx, cs1, cs2, rfl⟩ y2, ?_, fun q hq => ?_⟩
              · show (w.tv ++ acc).length ≤ _
                rw [List.length_append]
                omega
              · rcases List.mem_append.mp hq with hq | hq
                · have := y4 q hq
                  omega
                · obtain ⟨z, _, rfl⟩ := List.mem_map.mp hq
                  show (i : Int) < _
                  omega
          · rw [List.length_append, List.length_singleton]
            omega
          · intro u hu
            rcases List.mem_append.mp hu with hu | hu
            · exact k1 u hu
            · rw [List.mem_singleton.mp hu]
              exact ⟨w, by rw [take_snoc hw]; exact List.mem_append_right _ List.mem_cons_self, c.2, x, hx, cs1, cs2, rfl, rfl⟩
          · intro w' hw' l' p' st
            obtain ⟨u, hu, e⟩ := k2 w' hw' l' p' st
            exact ⟨u, List.mem_append_left _ hu, e⟩
          · intro c' hc'
            rw [take_snoc hc] at hc'
            rcases List.mem_append.mp hc' with hc' | hc'
            · obtain ⟨u, hu, e⟩ := k3 c' hc'
              exact ⟨u, List.mem_append_left _ hu, e⟩
            · rw [List.mem_singleton.mp hc']
              exact ⟨_, List.mem_append_right _ List.mem_cons_self, rfl, rfl⟩
        · rintro σ H9 ⟨us, v7, v8, v9, rfl, b9, h9, at9, ne9, ok9, len9, k1, k2, k3⟩
          rw [refL_len] at len9 k3
          rw [List.take_length] at k3
          refine ⟨us, _, _, _, _, _, _, rfl, b6.trans ((But.same e68).trans b9), h9, at9, ne9, ok9, by rw [Nat.add_mul]; omega, k1, fun w' hw' l' p' st => ?_⟩
          rw [take_snoc hw] at hw'
          rcases List.mem_append.mp hw' with hw' | hw'
          · exact k2 w' hw' l' p' st
          · rw [List.mem_singleton.mp hw'] at st
            obtain ⟨ch, x', hx', d1, d2, rfl, rfl⟩ := st
            rw [hx] at hx'
            obtain rfl := Option.some.inj hx'
            obtain ⟨c, hc, ec⟩ := c2 ch d1 d2
            obtain ⟨u, hu, e, e'⟩ := k3 c hc
            exact ⟨u, hu, by rw [e, ec], by rw [e', ec]⟩
      · rintro σ H6 ⟨us, v4, v5, v6, v7, v8, v9, rfl, b6, h6, at6, ne6, ok6, len6, g1, g2⟩
        walk_at "go"
        rw [refW_len] at len6 g1 g2
        rw [List.take_length] at g1 g2
        refine ⟨La, us, _, _, _, _, _, _, _, _, rfl, same_of_but sHa b6 nLa, h6, at6, ok6, Nat.le_trans len6 (Nat.le_trans (Nat.mul_le_mul_right _ len) bs), ?_, fun a b t ab bn => (stat_step hi' ok5 g1 g2).trans (stat5 a b t ab bn)⟩
        rw [← iff5]
        constructor
        · rintro ⟨u, hu, z⟩
          obtain ⟨w, hw, st⟩ := g1 u hu
          exact ⟨w, hw, (StepW.web (by rw [(ok5 w hw).1]; exact hi')).mpr ⟨_, st.w, z⟩⟩
        · rintro ⟨w, hw, z⟩
          obtain ⟨l', st, z'⟩ := (StepW.web (by rw [(ok5 w hw).1]; exact hi')).mp z
          obtain ⟨ch, x, d1, d2, d3, d4⟩ := st
          obtain ⟨u, hu, e, _⟩ := g2 w hw l' _ ⟨ch, x, d1, d2, d3, d4, rfl⟩
          exact ⟨u, hu, by rw [e]; exact z'⟩
    · rintro σ H5 ⟨F, ws, v2, v3, v4, v5, v6, v7, v8, v9, rfl, s5, h5, at5, ok5, len, iff5, stat5⟩
      have top := bndW_top (i := n)
      walk_at "go"
      refine r_iAt ⟨_, .of h5⟩ ?_
      intro D hD
      refine r_lcw (walk_list (xs := refW ws)) hD (fun j acc H' => Same H5 H' ∧ acc = (ws.take j).map fun w => V.ref w.t) ?_ ?_ ?_ ?_
      · exact fun H' e' _ => ⟨e', rfl⟩
      · rintro j acc H' _ ⟨e', _⟩ _
        exact .of (e' _ _ h5)
      · rintro j y acc H6 H7 hj hl' ⟨e', rfl⟩ h6 ⟨e67, hy⟩
        subst e67
        obtain ⟨w, hw, rfl⟩ := refW_at hy
        rw [refW_len] at hj
        have hwm := List.mem_of_getElem? hw
        refine r_gtup (.of (e' _ _ (at5 w hwm).1)) rfl ?_
        walk_at "go"
        refine ⟨rfl, ?_⟩
        walk_at "go"
        refine r_acc (i := j) h6 hl' (by omega) fun H8 b8 h8 _ => ?_
        refine ⟨same_of_but (H := H5) e' b8 hD, ?_⟩
        rw [take_snoc hw, List.map_append]
        rfl
      rintro acc H6 hl6 ⟨e6, rfl⟩ h6
      rw [refW_len, List.take_length] at h6
      refine q D (ws.map fun w => ⟨w.t, w.tv, w.ps⟩) H6 (s5.trans e6) (Same.none s5 hD) (by rw [h6, List.map_map]; rfl) (fun u hu => ?_) (by rw [List.length_map]; exact Nat.le_trans len top) ?_ fun a b t ab bn => ?_
      · obtain ⟨w, hw, rfl⟩ := List.mem_map.mp hu
        obtain ⟨a1, a2, a3, a4⟩ := at5 w hw
        refine ⟨e6 _ _ a2, FzAll.same e6 a4, ?_⟩
        have := (ok5 w hw).2.2.1
        show w.tv.length ≤ 36
        omega
      · rw [← iff5]
        constructor
        · intro z
          obtain ⟨w, hw⟩ := List.exists_mem_of_ne_nil _ (fun e => z (by rw [e]; rfl) : ws ≠ [])
          refine ⟨w, hw, ?_⟩
          rw [List.drop_of_length_le (by rw [(ok5 w hw).1]; exact Nat.le_refl _)]
          exact .nil
        · rintro ⟨w, hw, _⟩ z
          rw [List.map_eq_nil_iff] at z
          rw [z] at hw
          cases hw
      · rw [← stat5 a b t ab (by omega)]
        constructor
        · rintro ⟨u, hu, e⟩
          obtain ⟨w, hw, rfl⟩ := List.mem_map.mp hu
          refine ⟨w, hw, .inr ⟨by omega, e, ?_⟩⟩
          rw [List.drop_of_length_le (by rw [(ok5 w hw).1]; exact Nat.le_refl _)]
          exact .nil
        · rintro ⟨w, hw, st⟩
          rcases st with ⟨z, _⟩ | ⟨_, e, _⟩
          · omega
          · exact ⟨_, List.mem_map_of_mem hw, e⟩
end


section
variable {P : Program} {w : World} {K : PySem.W.Frag} {mg : Str → Option Value} {base : Heap} {a : Ad}
theorem ok_Row_kinds (T : Txt w K mg a) : FnOk P w K mg base CX0 2 a.f_Row_kinds a.d_Row_kinds ["self"] (sp_Row_kinds K a.C_Row) := by
  refine Fun.ok (k := 1) T.u_Row_kinds sc_Row_kinds (fun vs H Q E h => ?_) (fun cdv A outer s H vs Q E hr h => ?_)
  · obtain ⟨p, dx, v, rfl, _⟩ := h
    rfl
  · obtain ⟨p, dx, v, rfl, hp, q⟩ := h
    refine ⟨_, (pss_one (ps_ret (pe_fld (pv 0) rfl))), ?_⟩
    walk_at "go"
    exact r_fldI hp T.cl_Row T.na_kinds lookKinds q
end


section
variable {P : Program} {w : World} {K : PySem.W.Frag} {mg : Str → Option Value} {base : Heap} {a : Ad}
theorem ok_ends_of (T : Txt w K mg a) : FnOk P w K mg base CX0 2 a.f_ends_of a.d_ends_of ["kinds"] (sp_ends_of K a.C_Row) := by
  refine Fun.ok (k := 1) T.u_ends_of sc_ends_of (fun vs H Q E h => ?_) (fun cdv A outer s H vs Q E hr h => ?_)
  · obtain ⟨v, ks, rfl, _⟩ := h
    rfl
  · obtain ⟨v, ks, rfl, hv, len, small, q⟩ := h
    obtain ⟨b, xs, rfl, hb, hxs⟩ := hv.tup_inv
    refine ⟨_, (pss_one (ps_ret (pe_callB (callSumK (K := K) rfl rfl) (by rfl) T.b_sum (by decide +kernel) (pa_cons (pe_lc (own := [("degree", 1), ("many", 2)]) (g := (gTup K 2 (gCons (gName 1) (gCons (gName 2) gNil)))) (by rfl) sc_ends_of.nd (pi_tup (pv 0)) (blkOk_by (own := [("degree", 1), ("many", 2)]) (N := nm_ends_of) (sc := defScope s_ends_of) (by decide +kernel)) (fun _ _ _ _ _ => (pg_tup rfl (pgs_cons (pg_name (i := 1) sc_ends_of.nd rfl (Or.inl rfl)) (pgs_cons (pg_name (i := 2) sc_ends_of.nd rfl (Or.inl rfl)) pgs_nil)))) (fun _ _ _ _ _ => pts_nil) (fun _ _ _ _ _ => (pe_op opMul (pv 1) (pv 2)))) pa_nil)))), ?_⟩
    walk_at "go"
    refine r_iAt ⟨xs, .of hb⟩ ?_
    intro D hD
    have lx : xs.length = ks.length := by rw [hxs.len, List.length_map]
    refine r_lcT hb (by omega) hD (fun i => .int ((ks.map fun k => k.1 * k.2).getD i 0)) ?_ ?_ ?_ ?_
    · intro i x H1 hi e1
      obtain ⟨d, hd, hf⟩ := hxs.at hi
      rw [List.getElem?_map] at hd
      obtain ⟨k, hk, rfl⟩ := Option.map_eq_some_iff.mp hd
      obtain ⟨c, rfl, hc⟩ := (hf.same e1).kD_inv
      refine r_gtup (.of hc) rfl ?_
      walk_at "go"
      refine ⟨rfl, ?_⟩
      walk_at "go"
      have kk := small k (List.mem_of_getElem? hk)
      refine r_mulI (mul_w (a := 250) (b := 250) kk.1 kk.2 (by decide) (by decide) (by decide)) ?_
      refine ⟨?_, Same.refl _⟩
      rw [List.getD_eq_getElem?_getD, List.getElem?_map, hk]
      rfl
    · intro x σ H R R' m q
      obtain ⟨a1, ys, h1, h2, h3, y1, r1, h4, y2, r2, h5, h6, h7⟩ := q
      exact ⟨a1, ys, h1, h2, h3, y1, r1, h4, y2, r2, h5, h6, m _ _ h7⟩
    · intro σ H R R' m q
      obtain ⟨u, h1, u2, h2, h3⟩ := q
      refine ⟨u, h1, u2, h2, ?_⟩
      rcases h3 with ⟨i, j, e1, e2, e3, e4⟩ | ⟨l, k, xs, e1, e2, e3, e4, e5, e6, e7⟩
      · exact .inl ⟨i, j, e1, e2, e3, m _ _ e4⟩
      · exact .inr ⟨l, k, xs, e1, e2, e3, e4, e5, e6, fun p hp => m _ _ (e7 p hp)⟩
    · intro H2 e2 h2
      walk_at "go"
      refine r_sum (ns := ks.map fun k => k.1 * k.2) (.of ?_) (q H2 e2)
      rw [h2, lx, ints_range (by rw [List.length_map])]
end


section
variable {P : Program} {w : World} {K : PySem.W.Frag} {mg : Str → Option Value} {base : Heap} {a : Ad}
theorem ok_room_of_kinds (T : Txt w K mg a) : FnOk P w K mg base CX0 2 a.f_room_of_kinds a.d_room_of_kinds ["kinds", "k"] (sp_room_of_kinds K a.C_Row) := by
  refine Fun.ok (k := 1) T.u_room_of_kinds sc_room_of_kinds (fun vs H Q E h => ?_) (fun cdv A outer s H vs Q E hr h => ?_)
  · obtain ⟨v, ks, k, rfl, _⟩ := h
    rfl
  · obtain ⟨v, ks, k, rfl, hv, low, k0, kb, q⟩ := h
    obtain ⟨b, xs, rfl, hb, hxs⟩ := hv.tup_inv
    have lx : xs.length = ks.length := by rw [hxs.len, List.length_map]
    refine ⟨_, (pss_cons (ps_set (i := 2) sc_room_of_kinds.nd rfl (Or.inl rfl) (pe_op opMul (pv 1) (pe_op opSub (pv 1) pe_int)))
          (pss_cons (ps_set (i := 3) sc_room_of_kinds.nd rfl (Or.inl rfl) (pv 1))
          (pss_cons (ps_for PassesOwn.never rfl (pi_tup (pv 0)) (pg_tup rfl (pgs_cons (pg_name (i := 4) sc_room_of_kinds.nd rfl (Or.inl rfl)) (pgs_cons (pg_name (i := 5) sc_room_of_kinds.nd rfl (Or.inl rfl)) pgs_nil))) (pss_cons (ps_set (i := 6) sc_room_of_kinds.nd rfl (Or.inl rfl) (pe_callB (callMin rfl) (by rfl) T.b_min (by decide +kernel) (pa_cons (pv 5) (pa_cons (pv 3) pa_nil))))
          (pss_cons (ps_aug (i := 3) sc_room_of_kinds.nd rfl (Or.inl rfl) (pv 6) ip_sub)
          (pss_one (ps_aug (i := 2) sc_room_of_kinds.nd rfl (Or.inl rfl) (pe_op opSub (pe_op opMul (pe_op opSub (pv 5) (pv 6)) (pe_callB (callMin rfl) (by rfl) T.b_min (by decide +kernel) (pa_cons (pv 1) (pa_cons (pv 4) pa_nil)))) (pe_op opMul (pv 6) (pv 4))) ip_add)))))
          (pss_one (ps_ret (pv 2)))))), ?_⟩
    walk_at "go"
    refine r_mulI (mul_w (a := 250) (b := 251) kb (by omega) (by decide) (by decide) (by decide)) ?_
    walk_at "go"
    refine r_iAt ⟨xs, .of hb⟩ ?_
    refine r_walk (walk_tup (xs := xs)) (fun j σ H' => ∃ sp left v1 v2 v3, σ = [some (.ref b), some (.int k), some (.int sp), some (.int left), v1, v2, v3] ∧ Same H H' ∧ 0 ≤ left ∧ left ≤ k ∧ roomK ks k = roomGo k (ks.drop j) left sp) ?_ ?_ ?_ ?_
    · exact ⟨_, _, none, none, none, rfl, Same.refl H, k0, Int.le_refl _, rfl⟩
    · rintro j σ H' _ ⟨sp, left, v1, v2, v3, rfl, e, _⟩
      exact .of (e _ _ hb)
    · rintro j y σ H1 H2 hj ⟨sp, left, v1, v2, v3, rfl, s1, l0, l1, hr'⟩ ⟨e12, hy⟩
      subst e12
      obtain ⟨d, hd', hf⟩ := hxs.at hy
      rw [List.getElem?_map] at hd'
      obtain ⟨p, hp, rfl⟩ := Option.map_eq_some_iff.mp hd'
      obtain ⟨u, rfl, hu⟩ := (hf.same s1).kD_inv
      have kk := low.2 p (List.mem_of_getElem? hp)
      obtain ⟨dg, m⟩ := p
      have kd : dg.natAbs < 2 ^ 250 := kk.1
      have m0 : 0 ≤ m := kk.2.1
      have km : m.natAbs < 2 ^ 250 := Nat.lt_trans kk.2.2 (by decide)
      rw [drop_at hp, roomGo] at hr'
      refine r_gtup (.of hu) rfl ?_
      walk_at "go"
      have t0 : 0 ≤ mi m left := by unfold mi; split <;> omega
      have t1 : mi m left ≤ left := by unfold mi; split <;> omega
      have t2 : mi m left ≤ m := by unfold mi; split <;> omega
      have g1 : (mi k dg).natAbs < 2 ^ 250 := by unfold mi; split <;> assumption
      refine r_aug0 rfl ?_
      walk_at "go"
      refine r_ip ?_
      walk_at "go"
      refine r_aug0 rfl ?_
      walk_at "go"
      refine r_mulI (mul_w (i := m - mi m left) (j := mi k dg) (a := 250) (b := 250) (by omega) g1 (by decide) (by decide) (by decide)) ?_
      walk_at "go"
      refine r_mulI (mul_w (i := mi m left) (j := dg) (a := 250) (b := 250) (by omega) kd (by decide) (by decide) (by decide)) ?_
      walk_at "go"
      refine r_ip ?_
      walk_at "go"
      exact ⟨_, _, _, _, _, rfl, s1, by change 0 ≤ left - mi m left; omega, by change left - mi m left ≤ k; omega, hr'⟩
    · rintro σ H1 ⟨sp, left, v1, v2, v3, rfl, s1, l0, l1, hr'⟩
      walk_at "go"
      have z : ks.drop xs.length = [] := by
        rw [lx]
        exact List.drop_length
      rw [z, roomGo] at hr'
      rw [← hr']
      exact q H1 s1
end


section
variable {P : Program} {w : World} {K : PySem.W.Frag} {mg : Str → Option Value} {base : Heap} {a : Ad}
theorem ok_turns (T : Txt w K mg a) : FnOk P w K mg base CX0 2 a.f_turns a.d_turns ["kinds"] (sp_turns K a.C_Row) := by
  refine Fun.ok (k := 1) T.u_turns sc_turns (fun vs H Q E h => ?_) (fun cdv A outer s H vs Q E hr h => ?_)
  · obtain ⟨v, ks, rfl, _⟩ := h
    rfl
  · obtain ⟨v, ks, rfl, hv, low, q⟩ := h
    obtain ⟨b, xs, rfl, hb, hxs⟩ := hv.tup_inv
    have lx : xs.length = ks.length := by rw [hxs.len, List.length_map]
    refine ⟨_, (pss_cons (ps_set (i := 1) sc_turns.nd rfl (Or.inl rfl) (pe_lstN pa_nil))
          (pss_cons (ps_set (i := 2) sc_turns.nd rfl (Or.inr rfl) pe_int)
          (pss_cons (ps_for PassesOwn.never rfl (pi_tup (pv 0)) (pg_tup rfl (pgs_cons (pg_name (i := 3) sc_turns.nd rfl (Or.inl rfl)) (pgs_cons (pg_name (i := 4) sc_turns.nd rfl (Or.inl rfl)) pgs_nil))) (pss_cons (ps_aug (i := 2) sc_turns.nd rfl (Or.inr rfl) (pv 4) ip_add)
          (pss_cons (ps_expr (pe_bm PySem.F.plainAttrs_list PySem.F.slot_list_append PySem.F.type_list_append mt_append (pv 1) (pa_cons (pv 3) pa_nil)))
          (pss_one (ps_expr (pe_bm PySem.F.plainAttrs_list PySem.F.slot_list_append PySem.F.type_list_append mt_append (pv 1) (pa_cons (pv 2) pa_nil)))))))
          (pss_one (ps_ret (pe_callB (callSortedS (by rfl)) (by rfl) T.b_sorted (by decide +kernel) (pa_cons (pe_ic (own := [("k", 5)]) (g := (gName 5)) (by rfl) sc_turns.nd (pi_list (pv 1)) (blkOk_by (own := [("k", 5)]) (N := nm_turns) (sc := defScope s_turns) (by decide +kernel)) (fun _ _ _ _ _ => (pg_name (i := 5) sc_turns.nd rfl (Or.inl rfl))) (fun _ _ _ _ _ => (pts_one (pt_chain opLt opLe pe_int (pv 5) (pv 2)))) (fun _ _ _ _ _ => (pv 5))) pa_nil))))))), ?_⟩
    walk_at "go"
    refine ⟨Nat.zero_le _, r_new fun l H1 n1 s1 h1 => ?_⟩
    walk_at "go"
    refine r_iAt ⟨xs, .of (s1 _ _ hb)⟩ ?_
    refine r_walk (walk_tup (xs := xs)) (fun j σ H' => ∃ v1 v2 v3, σ = [some (.ref b), some (.ref l), some (.int (placesK (ks.take j))), v1, v2, v3] ∧ Same H H' ∧ H' l = some (.lst ((marksK (ks.take j) 0).map V.int))) ?_ ?_ ?_ ?_
    · exact ⟨none, none, none, rfl, s1, h1⟩
    · rintro j σ H' _ ⟨v1, v2, v3, rfl, e, _⟩
      exact .of (e _ _ hb)
    · rintro j y σ H2 H3 hj ⟨v1, v2, v3, rfl, s2, h2⟩ ⟨e12, hy⟩
      subst e12
      obtain ⟨d, hd', hf⟩ := hxs.at hy
      rw [List.getElem?_map] at hd'
      obtain ⟨p, hp, rfl⟩ := Option.map_eq_some_iff.mp hd'
      obtain ⟨u, rfl, hu⟩ := (hf.same s2).kD_inv
      obtain ⟨dg, m⟩ := p
      have len : (marksK (ks.take j) 0).length ≤ 60 := by
        rw [marksK_length, List.length_take]
        have := low.1
        omega
      have nl : H l = none := n1
      refine r_gtup (.of hu) rfl ?_
      walk_at "go"
      refine r_aug0 rfl ?_
      walk_at "go"
      refine r_ip ?_
      walk_at "go"
      refine r_tyL (.of h2) ?_
      walk_at "go"
      refine r_append h2 (by rw [List.length_map]; omega) (r_put fun H4 b4 h4 _ => ?_)
      walk_at "go"
      refine r_tyL (.of h4) ?_
      walk_at "go"
      refine r_append h4 (by rw [List.length_append, List.length_map]; exact Nat.lt_of_le_of_lt (Nat.add_le_add_right len 1) (by decide)) (r_put fun H5 b5 h5 _ => ?_)
      walk_at "go"
      refine ⟨some (.int dg), some (.int m), v3, ?_, ?_, ?_⟩
      · rw [take_snoc hp, placesK_snoc]
        rfl
      · exact fun c o e => by
          have ne : c ≠ l := fun z => by rw [z, nl] at e; cases e
          exact b5 _ _ ne (b4 _ _ ne (s2 _ _ e))
      · rw [h5, take_snoc hp, marksK_snoc, List.map_append, List.append_assoc, Int.zero_add]
        rfl
    · rintro σ H2 ⟨v1, v2, v3, rfl, s2, h2⟩
      rw [show ks.take xs.length = ks by rw [lx]; exact List.take_length] at h2 ⊢
      walk_at "go"
      refine r_ic ?_
      walk_at "go"
      refine r_iAt ⟨_, .of h2⟩ ?_
      intro D hD
      have nD : H D = none := by
        cases e : H D with
        | none => rfl
        | some o =>
          rw [s2 _ _ e] at hD
          cases hD
      obtain ⟨ms, hms⟩ : ∃ ms, ms = marksK ks 0 := ⟨_, rfl⟩
      rw [← hms] at h2
      have len : ms.length ≤ 60 := by
        rw [hms, marksK_length]
        have := low.1
        omega
      obtain ⟨f, hf⟩ : ∃ f : Int → Bool, f = fun k => decide (0 < k) && decide (k ≤ placesK ks) := ⟨_, rfl⟩
      have kept : ∀ {H' : Hp}, Same H2 H' → H' l = some (.lst (ms.map V.int)) := fun s => s _ _ h2
      refine r_icw (w := w) (walk_list (xs := ms.map V.int)) hD (fun i L H' => Same H2 H' ∧ L = (ms.take i).filter f) ?_ ?_ ?_ ?_
      · exact fun H' s' _ => ⟨s', rfl⟩
      · exact fun i L H' _ ⟨s', _⟩ _ => .of (kept s')
      · rintro i x L H3 H4 hi hl ⟨s3, rfl⟩ hL ⟨e34, hx⟩
        subst e34
        rw [List.getElem?_map] at hx
        obtain ⟨k, hk, rfl⟩ := Option.map_eq_some_iff.mp hx
        have tk := take_snoc hk
        rw [List.length_map] at hi
        walk_at "go"
        refine ⟨rfl, ?_⟩
        walk_at "go"
        have no : f k = false → IcP w D (fun i L H' => Same H2 H' ∧ L = (ms.take i).filter f) (i + 1) H4 := fun e => by
          refine r_skipI hL hl ⟨s3, ?_⟩
          rw [tk, List.filter_append, List.filter_cons_of_neg (by rw [e]; exact Bool.false_ne_true), List.filter_nil, List.append_nil]
        by_cases c1 : 0 < k
        · rw [if_pos (decide_eq_true c1)]
          walk_at "go"
          by_cases c2 : k ≤ placesK ks
          · rw [if_pos (decide_eq_true c2)]
            walk_at "go"
            refine r_into hL hl (by omega) fun H5 b5 h5 => ⟨same_of_but (H := H2) s3 b5 hD, ?_⟩
            rw [tk, List.filter_append, List.filter_cons_of_pos (by rw [hf]; simp [c1, c2]), List.filter_nil]
          · rw [if_neg (by simp [c2])]
            exact no (by rw [hf]; simp [c2])
        · rw [if_neg (by simp [c1])]
          refine ⟨false, rfl, ?_⟩
          rw [if_neg Bool.false_ne_true]
          exact no (by rw [hf]; simp [c1])
      · rintro L H3 hl ⟨s3, rfl⟩ hL
        rw [List.length_map] at hl
        rw [List.length_map, List.take_length] at hL
        walk_at "go"
        refine r_sortedS (w := w) hL ?_ (r_new fun p H4 n4 s4 h4 => ?_)
        · exact Nat.lt_of_le_of_lt (List.length_filter_le _ _) (by omega)
        · refine q p H4 (s2.trans (s3.trans s4)) ?_
          rw [h4, hf, hms]
          rfl
end


section
variable {P : Program} {w : World} {K : PySem.W.Frag} {mg : Str → Option Value} {base : Heap} {a : Ad}
theorem ok_barred_kinds (T : Txt w K mg a) : FnOk P w K mg base CX0 4 a.f_barred_kinds a.d_barred_kinds ["kinds"] (sp_barred_kinds K a.C_Row) := by
  refine Fun.ok (k := 3) T.u_barred_kinds sc_barred_kinds (fun vs H Q E h => ?_) (fun cdv A outer s H vs Q E hr h => ?_)
  · obtain ⟨v, ks, rfl, _⟩ := h
    rfl
  · obtain ⟨v, ks, rfl, hv, low, hd, q⟩ := h
    have hm : ∀ p ∈ ks, 0 ≤ p.2 := fun p hp => (low.2 p hp).2.1
    have ⟨n0, nb⟩ := low.places
    refine ⟨_, (pss_cons (ps_if (pt_cmpR (opEqK (K := K) hr rfl) (pe_op opMod (pe_call (ok_ends_of T) (hr.mono (by decide)) (by rfl) T.m_ends_of T.u_ends_of.kp (b_ends_of T) .nil pass0 (pa_cons (pv 0) pa_nil)) pe_int) pe_int (nomark _)) (pss_one (ps_ret pe_int)) pss_nil)
          (pss_cons (ps_set (i := 1) sc_barred_kinds.nd rfl (Or.inl rfl) pe_int)
          (pss_cons (ps_set (i := 2) sc_barred_kinds.nd rfl (Or.inl rfl) pe_int)
          (pss_cons (ps_for PassesOwn.never rfl (pi_list (pe_call (ok_turns T) (hr.mono (by decide)) (by rfl) T.m_turns T.u_turns.kp (b_turns T) .nil pass0 (pa_cons (pv 0) pa_nil))) (pg_name (i := 3) sc_barred_kinds.nd rfl (Or.inl rfl)) (pss_cons (ps_set (i := 4) sc_barred_kinds.nd rfl (Or.inl rfl) (pe_call (ok_room_of_kinds T) (hr.mono (by decide)) (by rfl) T.m_room_of_kinds T.u_room_of_kinds.kp (b_room_of_kinds T) .nil pass0 (pa_cons (pv 0) (pa_cons (pv 3) pa_nil))))
          (pss_cons (ps_if (pt_cmpR opLt (pv 4) pe_int (nomark _)) (pss_cons (ps_set (i := 5) sc_barred_kinds.nd rfl (Or.inl rfl) (pe_op opDiv (pe_op opSub (pv 2) (pv 4)) (pe_op opSub (pv 3) (pv 1))))
          (pss_one (ps_ret (pe_op (opAddK (K := K) rfl) (pe_op (opAddK (K := K) rfl) (pv 1) (pe_op opDiv (pv 2) (pv 5))) pe_int)))) pss_nil)
          (pss_cons (ps_set (i := 1) sc_barred_kinds.nd rfl (Or.inl rfl) (pv 3))
          (pss_one (ps_set (i := 2) sc_barred_kinds.nd rfl (Or.inl rfl) (pv 4)))))))
          (pss_one (ps_ret pe_non)))))), ?_⟩
    walk_at "go"
    refine ⟨_, ks, rfl, hv, Nat.le_trans low.1 (by decide), fun p hp => ⟨(low.2 p hp).1, Nat.lt_trans (low.2 p hp).2.2 (by decide)⟩, fun H1 s1 => ?_⟩
    walk_at "go"
    refine r_modI (by decide) ?_
    walk_at "go"
    refine r_dec (fun c => ?_) (fun c => ?_)
    · walk_at "go"
      have z := q H1 s1
      unfold barK at z
      rw [if_pos (show endsK ks % 2 = 1 from c)] at z
      exact z
    walk_at "go"
    refine ⟨_, ks, rfl, hv.same s1, low, fun l H2 s2 h2 => ?_⟩
    have bar0 : barK ks = barGo ks (turnsK ks) 0 0 := if_neg c
    have tin : ∀ j ∈ turnsK ks, 0 < j ∧ j ≤ placesK ks := fun j hj => by
      have := (List.mem_filter.mp (mem_ascI.mp hj)).2
      simp only [Bool.and_eq_true, decide_eq_true_eq] at this
      exact this
    have tall : ∀ j ∈ marksK ks 0, 0 < j → j ≤ placesK ks → j ∈ turnsK ks := fun j hj h1 h2 =>
      mem_ascI.mpr (List.mem_filter.mpr ⟨hj, by simp only [Bool.and_eq_true, decide_eq_true_eq]; exact ⟨h1, h2⟩⟩)
    have asc : (turnsK ks).Pairwise (· < ·) := asc_ascI
    obtain ⟨ts, hts⟩ : ∃ ts, ts = turnsK ks := ⟨_, rfl⟩
    rw [← hts] at bar0 tin tall asc h2
    have z0 := room_zero hm hd
    walk_at "go"
    refine r_iAt ⟨_, .of h2⟩ ?_
    refine r_walk (walk_list (xs := ts.map V.int)) (fun i σ H' => ∃ b v1 v2 v3, σ = [some v, some (.int b), some (.int (roomK ks b)), v1, v2, v3] ∧ Same H2 H' ∧ 0 ≤ b ∧ b ≤ placesK ks ∧ 0 ≤ roomK ks b ∧
      barK ks = barGo ks (ts.drop i) b (roomK ks b) ∧ (∀ j ∈ ts.drop i, b < j) ∧ ∀ j ∈ marksK ks 0, b < j → j ≤ placesK ks → j ∈ ts.drop i) ?_ ?_ ?_ ?_
    · refine ⟨0, none, none, none, ?_, Same.refl _, Int.le_refl _, n0, by rw [z0]; exact Int.le_refl _, ?_, fun j hj => (tin j hj).1, tall⟩
      · rw [z0]
        rfl
      · rw [bar0, z0]
        rfl
    · rintro i σ H' _ ⟨b, v1, v2, v3, rfl, e, _⟩
      exact .of (e _ _ h2)
    · rintro i y σ H3 H4 hi ⟨b, v1, v2, v3, rfl, s3, b0, bn, br, hbar, hin, hall⟩ ⟨e34, hy⟩
      subst e34
      rw [List.getElem?_map] at hy
      obtain ⟨t, ht, rfl⟩ := Option.map_eq_some_iff.mp hy
      have tm : t ∈ ts := List.mem_of_getElem? ht
      have dr := drop_at ht
      rw [dr] at hbar hin hall
      have pw : (t :: ts.drop (i + 1)).Pairwise (· < ·) := by
        rw [← dr]
        exact List.Pairwise.sublist (List.drop_sublist _ _) asc
      have ⟨p1, p2⟩ := List.pairwise_cons.mp pw
      have bt := hin t List.mem_cons_self
      have tn := (tin t tm).2
      have tb : t.natAbs < 2 ^ 250 := Nat.lt_of_le_of_lt (by omega) nb
      have hj : ∀ j ∈ marksK ks 0, j ≤ b ∨ t ≤ j := fun j hj => by
        rcases Int.lt_or_le b j with lt | ge
        · rcases Int.lt_or_le j t with lt' | ge'
          · rcases List.mem_cons.mp (hall j hj lt (by omega)) with e | e
            · omega
            · have := p1 j e
              omega
          · exact .inr ge'
        · exact .inl ge
      walk_at "go"
      refine ⟨_, ks, t, rfl, hv.same (s1.trans (s2.trans s3)), low, by omega, tb, fun H5 s5 => ?_⟩
      walk_at "go"
      rw [barGo] at hbar
      refine r_dec (fun cn => ?_) (fun cn => ?_)
      · rw [if_pos cn] at hbar
        have ⟨f0, f1⟩ := fall_right hm b0 bt tn hj br cn
        have g1 := room_small low b0 (Nat.lt_of_le_of_lt (show b.natAbs ≤ (placesK ks).natAbs by omega) nb)
        have g2 := room_small low (show 0 ≤ t by omega) tb
        have fb : ((roomK ks b - roomK ks t) / (t - b)).natAbs < 2 ^ 700 := by
          refine Nat.lt_of_le_of_lt (m := (roomK ks b).natAbs + (roomK ks t).natAbs) (by omega) (Nat.lt_of_lt_of_le (Nat.add_lt_add g1 g2) (by decide))
        walk_at "go"
        refine r_divW (by omega) (Nat.lt_of_le_of_lt (show (t - b).natAbs ≤ t.natAbs by omega) (Nat.lt_of_lt_of_le tb (by decide))) ?_
        walk_at "go"
        refine r_divW f0 fb ?_
        walk_at "go"
        have z := q H5 (s1.trans (s2.trans (s3.trans s5)))
        rw [hbar] at z
        exact z
      · rw [if_neg cn] at hbar
        walk_at "go"
        refine ⟨t, _, _, _, rfl, s3.trans s5, by omega, tn, by omega, hbar, p1, fun j hj' h1 h2 => ?_⟩
        rcases List.mem_cons.mp (hall j hj' (by omega) h2) with e | e
        · omega
        · exact e
    · rintro σ H3 ⟨b, v1, v2, v3, rfl, s3, b0, bn, br, hbar, hin, hall⟩
      walk_at "go"
      have z : ts.drop (ts.map V.int).length = [] := by
        rw [List.length_map]
        exact List.drop_length
      rw [z] at hbar
      have z := q H3 (s1.trans (s2.trans s3))
      rw [hbar] at z
      exact z
end


section
variable {P : Program} {w : World} {K : PySem.W.Frag} {mg : Str → Option Value} {base : Heap} {a : Ad}
theorem ok_kinds_can_be (T : Txt w K mg a) : FnOk P w K mg base CX0 6 a.f_kinds_can_be a.d_kinds_can_be ["kinds"] (sp_kinds_can_be K a.C_Row) := by
  refine Fun.ok (k := 5) T.u_kinds_can_be sc_kinds_can_be (fun vs H Q E h => ?_) (fun cdv A outer s H vs Q E hr h => ?_)
  · obtain ⟨v, ks, rfl, _⟩ := h
    rfl
  · obtain ⟨v, ks, rfl, hv, low, hd, q⟩ := h
    refine ⟨_, (pss_one (ps_ret (pe_cmpR opIs (pe_call (ok_barred_kinds T) (hr.mono (by decide)) (by rfl) T.m_barred_kinds T.u_barred_kinds.kp (b_barred_kinds T) .nil pass0 (pa_cons (pv 0) pa_nil)) pe_non (nomark _)))), ?_⟩
    walk_at "go"
    refine ⟨v, ks, rfl, hv, low, hd, fun H1 s1 => ?_⟩
    have z := q H1 s1
    cases e : barK ks with
    | none =>
      rw [e] at z
      walk_at "go"
      exact z
    | some j =>
      rw [e] at z
      walk_at "go"
      exact z
end

theorem pick_len (f : Int → Int) (l : List Int) : (pick f l).length ≤ l.length := List.length_filterMap_le _ _

section
variable {P : Program} {w : World} {K : PySem.W.Frag} {mg : Str → Option Value} {base : Heap} {a : Ad}
theorem ok_counted_kinds (T : Txt w K mg a) : FnOk P w K mg base CX0 2 a.f_counted_kinds a.d_counted_kinds ["counts"] (sp_counted_kinds K a.C_Row) := by
  refine Fun.ok (k := 1) T.u_counted_kinds sc_counted_kinds (fun vs H Q E h => ?_) (fun cdv A outer s H vs Q E hr h => ?_)
  · obtain ⟨c, cs, rfl, _⟩ := h
    rfl
  · obtain ⟨c, cs, rfl, ⟨hc, nd⟩, small, q⟩ := h
    refine ⟨_, (pss_one (ps_ret (pe_callTy (callTupK (K := K) rfl) (by rfl) T.b_tuple (by decide +kernel) (pa_cons (pe_lc (own := [("degree", 1)]) (g := (gName 1)) (by rfl) sc_counted_kinds.nd (pi_list (pe_callBK (cr_sortedRev (b := true)) (by rfl) T.b_sorted (by decide +kernel) (pa_cons (pe_callTy (callListK (K := K) rfl rfl) (by rfl) T.b_list (by decide +kernel) (pa_cons (pv 0) pa_nil)) pa_nil) (pk_cons pe_bl pk_nil))) (blkOk_by (own := [("degree", 1)]) (N := nm_counted_kinds) (sc := defScope s_counted_kinds) (by decide +kernel)) (fun _ _ _ _ _ => (pg_name (i := 1) sc_counted_kinds.nd rfl (Or.inl rfl))) (fun _ _ _ _ _ => (pts_one (pt_cmpR opGt (pe_dget (hu_of hr) (pv 0) (pv 1) (fun _ _ => rfl)) pe_int (nomark _)))) (fun _ _ _ _ _ => (pe_tupN (pa_cons (pv 1) (pa_cons (pe_dget (hu_of hr) (pv 0) (pv 1) (fun _ _ => rfl)) pa_nil))))) pa_nil)))), ?_⟩
    walk_at "go"
    refine r_listD hc (r_new fun p1 H1 n1 s1 h1 => ?_)
    walk_at "go"
    rw [DI.keys] at h1
    refine r_sortedRev (.of h1) fun ns pm ord => r_new fun p2 H2 n2 s2 h2 => ?_
    have len : ns.length ≤ 10000 := by rw [pm.length_eq, List.length_map]; exact small
    refine r_iAt ⟨_, .of h2⟩ ?_
    intro D hD
    have s12 := s1.trans s2
    refine r_lcw (walk_list (xs := ns.map V.int)) hD (fun i acc H' => Same H2 H' ∧ FzAll H' acc ((pick (val cs) (ns.take i)).map kD)) ?_ ?_ ?_ ?_
    · intro H' e _
      exact ⟨e, .nil⟩
    · rintro i acc H' _ ⟨e, _⟩ _
      exact .of (e _ _ h2)
    · rintro i x acc H3 H4 hi hl ⟨e, f⟩ h3 ⟨e34, hx⟩
      subst e34
      rw [List.getElem?_map] at hx
      obtain ⟨d, hd, rfl⟩ := Option.map_eq_some_iff.mp hx
      have hk : d ∈ cs.map (·.1) := pm.mem_iff.mp (List.mem_of_getElem? hd)
      have hc3 := e _ _ (s12 _ _ hc)
      rw [List.length_map] at hi
      walk_at "go"
      refine ⟨rfl, ?_⟩
      walk_at "go"
      refine r_dgetI hc3 (DI.val hk) ?_
      walk_at "go"
      refine r_dec (fun pos => ?_) (fun pos => ?_)
      · walk_at "go"
        refine r_dgetI hc3 (DI.val hk) ?_
        walk_at "go"
        refine r_fits (by simp) fun t H5 n5 s5 h5 => ?_
        refine r_acc (i := i) (s5 _ _ h3) hl (by omega) fun H6 b6 h6 _ => ?_
        have s36 := same_of_but (H := H2) (e.trans s5) b6 hD
        refine ⟨s36, ?_⟩
        have k56 : Kp _ H6 := (Kp.same s5).trans (Kp.butL b6 (s5 _ _ h3))
        rw [take_snoc hd, pick_snoc, if_pos pos, List.map_append]
        exact FzAll.snoc (FzAll.kp k56 f) (Fz.kD_mk (Kp.butL b6 (s5 _ _ h3) _ _ True.intro h5))
      · refine r_skip h3 hl ⟨e, ?_⟩
        rw [take_snoc hd, pick_snoc, if_neg pos, List.append_nil]
        exact f
    · rintro acc H' hl ⟨e, f⟩ h3
      rw [List.length_map, List.take_length] at f
      walk_at "go"
      refine r_tupL (.of h3) (r_new fun p3 H6 n6 s6 h6 => ?_)
      exact q p3 H6 _ (s12.trans (e.trans s6)) (.tup h6 (FzAll.same s6 f)) (kindsOf_pick pm (strict_of ord (pm.nodup_iff.mpr nd))) (Nat.le_trans (pick_len _ _) (by rw [pm.length_eq, List.length_map]; exact Nat.le_refl _))
end


section
variable {P : Program} {w : World} {K : PySem.W.Frag} {mg : Str → Option Value} {base : Heap} {a : Ad}
theorem ok_moved_kinds (T : Txt w K mg a) : FnOk P w K mg base CX0 4 a.f_moved_kinds a.d_moved_kinds ["kinds", "one", "mate", "by"] (sp_moved_kinds K a.C_Row) := by
  refine Fun.ok (k := 3) T.u_moved_kinds sc_moved_kinds (fun vs H Q E h => ?_) (fun cdv A outer s H vs Q E hr h => ?_)
  · obtain ⟨t, ks, g, m, b, rfl, _⟩ := h
    rfl
  · obtain ⟨t, ks, g, m, b, rfl, ft, ok, h1, h2, q⟩ := h
    obtain ⟨t', xs, et, ht, fx⟩ := ft.tup_inv
    cases et
    have lx : xs.length = ks.length := by rw [fx.len, List.length_map]
    have ten := ok.2.1
    refine ⟨_, (pss_cons (ps_setDc (i := 5) (own := [("degree", 4), ("many", 6)]) (g := (gTup K 2 (gCons (gName 4) (gCons (gName 6) gNil)))) (by rfl) sc_moved_kinds.nd rfl rfl (swap_dict rfl rfl rfl (by decide +kernel)) (pi_tup (pv 0)) (blkOk_by (own := [("degree", 4), ("many", 6)]) (N := nm_moved_kinds) (sc := defScope s_moved_kinds) (by decide +kernel)) (fun _ _ _ _ _ => (pg_tup rfl (pgs_cons (pg_name (i := 4) sc_moved_kinds.nd rfl (Or.inl rfl)) (pgs_cons (pg_name (i := 6) sc_moved_kinds.nd rfl (Or.inl rfl)) pgs_nil)))) (fun _ _ _ _ _ => pts_nil) (fun _ _ _ _ _ => (pv 4)) (fun _ _ _ _ _ => (pv 6)))
          (pss_cons (ps_for PassesOwn.never rfl (pi_tup (pe_tupN (pa_cons (pv 1) (pa_cons (pv 2) pa_nil)))) (pg_name (i := 4) sc_moved_kinds.nd rfl (Or.inl rfl)) (pss_cons (ps_daug (hu_of hr) (pv 5) (pv 4) pe_int in_sub (fun _ _ _ => rfl))
          (pss_one (ps_dput (hu_of hr) (pv 5) (pe_op (opAddK (K := K) rfl) (pv 4) (pv 3)) (pe_op (opAddK (K := K) rfl) (pe_dget2 (hu_of hr) (pv 5) (pe_op (opAddK (K := K) rfl) (pv 4) (pv 3)) pe_int ⟨rfl, rfl, rfl, rfl⟩) pe_int) rfl))))
          (pss_one (ps_ret (pe_call (ok_counted_kinds T) (hr.mono (by decide)) (by rfl) T.m_counted_kinds T.u_counted_kinds.kp (b_counted_kinds T) .nil pass0 (pa_cons (pv 5) pa_nil)))))), ?_⟩
    walk_at "go"
    refine r_dc ?_
    walk_at "go"
    refine r_iAt ⟨_, .of ht⟩ ?_
    intro D hD
    refine dc_tup (xs := xs) (fun i H' => But D H H' ∧ DI H' D (ks.take i)) ⟨fun b u n e => by rw [upd_ne n]; exact e, upd_same, List.nodup_nil⟩ ?_ ?_ ?_
    · rintro i H' _ ⟨e, _⟩
      exact .of (e _ _ (ne_of_none ht hD) ht)
    · rintro i y H1 hy ⟨e, dI⟩
      obtain ⟨d, hd, hf⟩ := fx.at hy
      rw [List.getElem?_map] at hd
      obtain ⟨k, hk, rfl⟩ := Option.map_eq_some_iff.mp hd
      obtain ⟨u, rfl, hu⟩ := hf.kD_inv
      refine r_gtup (.of (e _ _ (ne_of_none hu hD) hu)) rfl ?_
      walk_at "go"
      refine ⟨rfl, ?_⟩
      walk_at "go"
      have len : ((ks.take i).map embP).length < sizeLine := by
        rw [List.length_map, List.length_take]
        exact Nat.lt_of_le_of_lt (Nat.le_trans (Nat.min_le_right _ _) ten) (by decide)
      refine ⟨(ks.take i).map embP, Sum.inl k.1, rfl, dI.1, len, fun b u n z => by rw [upd_ne n]; exact e b u n z, ?_⟩
      rw [putK_emb, put_fresh (nodup_snoc ok.nodup hk), ← take_snoc hk]
      refine ⟨upd_same, ?_⟩
      rw [List.map_take]
      exact ok.nodup.sublist (List.take_sublist _ _)
    · rintro H1 ⟨e1, dI⟩
      rw [lx, List.take_length] at dI
      walk_at "go"
      refine r_fits (by simp) fun u H2 n2 s2 hu => ?_
      have nDu : D ≠ u := ne_of_none dI.1 n2
      refine r_iAt ⟨_, .of hu⟩ ?_
      refine r_walk (walk_tup (xs := [V.int g, V.int m])) (fun i σ H' => ∃ (cs : Kinds) (v4 v6 : Option V), σ = [some (.ref t), some (.int g), some (.int m), some (.int b), v4, some (.ref D), v6] ∧ But D H H' ∧ H' u = some (.tup [V.int g, V.int m]) ∧ DI H' D cs ∧ cs.length ≤ 10 + i * 2 ∧ (∀ k ∈ ks.map (·.1), k ∈ cs.map (·.1)) ∧ ∀ d, val cs d = (if i = 0 then val ks d else if i = 1 then stepF (val ks) g b d else stepF (stepF (val ks) g b) m b d)) ?_ ?_ ?_ ?_
      · exact ⟨ks, _, _, rfl, fun b u n z => s2 _ _ (e1 b u n z), hu, dI.same s2, by omega, fun k hk => hk, fun d => rfl⟩
      · rintro i σ H' _ ⟨cs, v4, v6, rfl, e, hu', _⟩
        exact .of hu'
      · rintro i y σ H3 H4 hi ⟨cs, v4, v6, rfl, e, hu', dc, lc, sub, hv⟩ ⟨e34, hy⟩
        subst e34
        obtain ⟨x, rfl, mx, sx⟩ : ∃ x, y = V.int x ∧ x ∈ ks.map (·.1) ∧ ∀ d, (if i + 1 = 0 then val ks d else if i + 1 = 1 then stepF (val ks) g b d else stepF (stepF (val ks) g b) m b d) = stepF (fun d => if i = 0 then val ks d else if i = 1 then stepF (val ks) g b d else stepF (stepF (val ks) g b) m b d) x b d := by
          rcases i with _ | _ | i
          · exact ⟨g, (Option.some.inj hy).symm, val_key h1, fun d => rfl⟩
          · exact ⟨m, (Option.some.inj hy).symm, val_key h2, fun d => rfl⟩
          · cases hy
        have hi' : i < 2 := hi
        walk_at "go"
        refine r_daug ?_
        walk_at "go"
        refine r_daugI dc (sub x mx) ?_
        walk_at "go"
        refine ⟨_, _, rfl, rfl, ?_⟩
        refine r_dputA dc (by omega) fun H5 b5 d5 _ => ?_
        have l5 : (putI cs x (val cs x - 1)).length ≤ cs.length + 1 := len_put _ _ _
        walk_at "go"
        refine r_dget2D d5.1 ?_
        walk_at "go"
        refine r_dget2I d5.1 ?_
        rw [DI.val?]
        walk_at "go"
        refine r_dputI d5.1 (by rw [List.length_map]; omega) ?_
        rw [putK_emb]
        refine r_put fun H6 b6 h6 _ => ?_
        have l6 : (putI (putI cs x (val cs x - 1)) (x + b) (val (putI cs x (val cs x - 1)) (x + b) + 1)).length ≤ (putI cs x (val cs x - 1)).length + 1 := len_put _ _ _
        refine ⟨_, _, _, rfl, (e.trans b5).trans b6, b6 _ _ nDu.symm (b5 _ _ nDu.symm hu'), ⟨h6, nodup_put d5.2⟩, by omega, fun k hk => ?_, fun d => ?_⟩
        · exact mem_keys_put.mpr (.inr (mem_keys_put.mpr (.inr (sub k hk))))
        · rw [sx, val_put, val_put, val_put, hv, hv, hv]
          unfold stepF one1
          by_cases z1 : d = x + b <;> by_cases z2 : d = x <;> by_cases z3 : x + b = x
          all_goals first | omega | (subst z1; simp [z2, z3]; try omega) | (simp [z1, z2, z3]; try omega)
      · rintro σ H3 ⟨cs, v4, v6, rfl, e, hu', dc, lc, sub, hv⟩
        have lc' : cs.length ≤ 14 := lc
        walk_at "go"
        refine ⟨D, cs, rfl, dc, by omega, fun p H4 ds s4 f4 k4 l4 => ?_⟩
        refine q p H4 ds (fun b u z => s4 _ _ (e b u (ne_of_none z hD) z)) f4 (k4.congr (funext fun d => ?_)) (Nat.le_trans l4 lc')
        rw [hv]
        exact step_two ks g m b d
end


section
variable {P : Program} {w : World} {K : PySem.W.Frag} {mg : Str → Option Value} {base : Heap} {a : Ad}
theorem ok__word (T : Txt w K mg a) : FnOk P w K mg base CX0 8 a.f__word a.d__word ["kinds", "one", "mate"] (sp__word K a.C_Row) := by
  refine Fun.ok (k := 7) T.u__word sc__word (fun vs H Q E h => ?_) (fun cdv A outer s H vs Q E hr h => ?_)
  · obtain ⟨t, ks, g, m, rfl, _⟩ := h
    rfl
  · obtain ⟨t, ks, g, m, rfl, ft, ok, vg, vm, q⟩ := h
    have rg := val_rng ok vg
    have rm := val_rng ok vm
    refine ⟨_, (pss_cons (ps_if (pt_not (pt_val (pe_call (ok_kinds_can_be T) (hr.mono (by decide)) (by rfl) T.m_kinds_can_be T.u_kinds_can_be.kp (b_kinds_can_be T) .nil pass0 (pa_cons (pe_call (ok_moved_kinds T) (hr.mono (by decide)) (by rfl) T.m_moved_kinds T.u_moved_kinds.kp (b_moved_kinds T) .nil pass0 (pa_cons (pv 0) (pa_cons (pv 1) (pa_cons (pv 2) (pa_cons pe_int pa_nil))))) pa_nil)))) (pss_one (ps_ret pe_str)) pss_nil)
          (pss_cons (ps_if (PW.pt (pw_or (pt_cmpR (opEqK (K := K) hr rfl) (pe_callB (callMin rfl) (by rfl) T.b_min (by decide +kernel) (pa_cons (pv 1) (pa_cons (pv 2) pa_nil))) pe_int (nomark _)) (pw_or1 (pt_not (pt_val (pe_call (ok_kinds_can_be T) (hr.mono (by decide)) (by rfl) T.m_kinds_can_be T.u_kinds_can_be.kp (b_kinds_can_be T) .nil pass0 (pa_cons (pe_call (ok_moved_kinds T) (hr.mono (by decide)) (by rfl) T.m_moved_kinds T.u_moved_kinds.kp (b_moved_kinds T) .nil pass0 (pa_cons (pv 0) (pa_cons (pv 1) (pa_cons (pv 2) (pa_cons (pe_un un_neg pe_int) pa_nil))))) pa_nil))))))) (pss_one (ps_ret pe_str)) pss_nil)
          (pss_one (ps_ret pe_str)))), ?_⟩
    walk_at "go"
    refine ⟨t, ks, g, m, 1, rfl, ft, ok, vg, vm, fun p H1 ds s1 f1 k1 l1 => ?_⟩
    have lo := move_low ok rg rm (.inl rfl) k1 l1
    walk_at "go"
    refine ⟨_, ds, rfl, f1, lo.1, lo.2 (by omega) (by omega), fun H2 s2 => ?_⟩
    have s02 := s1.trans s2
    have q := fun H' s' z (e : wordK ks g m = z) => e ▸ q H' s'
    unfold wordK at q
    rw [canF_of k1] at q
    cases c1 : (barK ds).isNone with
    | false =>
      rw [c1] at q
      walk_at "go"
      refine iteT ?_
      walk_at "go"
      exact q H2 s02 "tied" (if_pos rfl)
    | true =>
      rw [c1] at q
      walk_at "go"
      refine iteF ?_
      walk_at "go"
      obtain ⟨mn, emn⟩ : ∃ mn, mn = if m < g then m else g := ⟨_, rfl⟩
      rw [← emn]
      refine r_dec (fun z => ?_) (fun z => ?_)
      · walk_at "go"
        refine q H2 s02 "apart" ((if_neg (by decide)).trans (if_pos ?_))
        rw [emn] at z
        split at z
        · exact .inr (.inl z)
        · exact .inl z
      · have gm : 1 ≤ g ∧ 1 ≤ m := by
          rw [emn] at z
          split at z <;> omega
        walk_at "go"
        refine ⟨t, ks, g, m, -1, rfl, ft.same s02, ok, vg, vm, fun p3 H3 ds3 s3 f3 k3 l3 => ?_⟩
        have lo3 := move_low ok rg rm (.inr rfl) k3 l3
        walk_at "go"
        refine ⟨_, ds3, rfl, f3, lo3.1, lo3.2 (by omega) (by omega), fun H4 s4 => ?_⟩
        have s04 := s02.trans (s3.trans s4)
        rw [canF_of k3] at q
        cases c3 : (barK ds3).isNone with
        | false =>
          rw [c3] at q
          walk_at "go"
          refine iteT ?_
          walk_at "go"
          exact q H4 s04 "apart" ((if_neg (by decide)).trans (if_pos (.inr (.inr rfl))))
        | true =>
          rw [c3] at q
          walk_at "go"
          refine iteF ?_
          walk_at "go"
          refine q H4 s04 "open" ((if_neg (by decide)).trans (if_neg ?_))
          rintro (z | z | z)
          · omega
          · omega
          · cases z
end


section
variable {P : Program} {w : World} {K : PySem.W.Frag} {mg : Str → Option Value} {base : Heap} {a : Ad}
theorem ok_need_can_be (T : Txt w K mg a) : FnOk P w K mg base CX0 8 a.f_need_can_be a.d_need_can_be ["row"] (sp_need_can_be K a.C_Row) := by
  refine Fun.ok (k := 7) T.u_need_can_be sc_need_can_be (fun vs H Q E h => ?_) (fun cdv A outer s H vs Q E hr h => ?_)
  · obtain ⟨p, ks, rfl, _⟩ := h
    rfl
  · obtain ⟨p, ks, rfl, row, ok, nb, q⟩ := h
    obtain ⟨dx, v, hp, hv⟩ := id row
    refine ⟨_, (pss_one (ps_if (pt_not (pt_val (pe_call (ok_kinds_can_be T) (hr.mono (by decide)) (by rfl) T.m_kinds_can_be T.u_kinds_can_be.kp (b_kinds_can_be T) .nil pass0 (pa_cons (pe_prop (pv 0) T.cl_Row T.p_kinds (ok_Row_kinds T) (hr.mono (by decide)) (b_Row_kinds T) .nil pass0 rfl) pa_nil)))) (pss_one ps_never) pss_nil)), ?_⟩
    walk_at "go"
    refine r_propI hp ⟨p, dx, v, rfl, hp, ?_⟩
    walk_at "go"
    refine ⟨v, ks, rfl, hv, ok.low, fun k hk => (ok.2.2.all k hk).1, fun H1 s1 => ?_⟩
    rw [nb]
    walk_at "go"
    exact q H1 s1
end


section
variable {P : Program} {w : World} {K : PySem.W.Frag} {mg : Str → Option Value} {base : Heap} {a : Ad}
theorem ok_Row_count (T : Txt w K mg a) : FnOk P w K mg base CX0 4 a.f_Row_count a.d_Row_count ["self", "degree"] (sp_Row_count K a.C_Row) := by
  refine Fun.ok (k := 3) T.u_Row_count sc_Row_count (fun vs H Q E h => ?_) (fun cdv A outer s H vs Q E hr h => ?_)
  · obtain ⟨p, ks, x, d, rfl, _⟩ := h
    rfl
  · obtain ⟨p, ks, x, d, rfl, ⟨dx, v, hp, hv⟩, ok, hd, q⟩ := h
    refine ⟨_, (pss_cons (ps_if (pt_not (pt_val (pe_call (ok_is_integer T) (hr.mono (by decide)) (by rfl) T.m_is_integer T.u_is_integer.kp (b_is_integer T) .nil pass0 (pa_cons (pv 1) pa_nil)))) (pss_one (ps_ret pe_int)) pss_nil)
          (pss_cons (ps_for PassesOwn.never rfl (pi_tup (pe_fld (pv 0) rfl)) (pg_tup rfl (pgs_cons (pg_name (i := 2) sc_Row_count.nd rfl (Or.inl rfl)) (pgs_cons (pg_name (i := 3) sc_Row_count.nd rfl (Or.inl rfl)) pgs_nil))) (pss_one (ps_if (pt_cmpR (opEqK (K := K) hr rfl) (pv 2) (pv 1) (nomark _)) (pss_one (ps_ret (pv 3))) pss_nil)))
          (pss_one (ps_ret pe_int)))), ?_⟩
    walk_at "go"
    refine ⟨x, d, rfl, hd, ?_⟩
    walk_at "go"
    refine r_bool (fun e => ?_) (fun e => ?_)
    · have e' : intD d = false := by
        cases c : intD d
        · rfl
        · rw [c] at e; cases e
      walk_at "go"
      rw [← countD_no e']
      exact q H (Same.refl H)
    · have e' : intD d = true := by
        cases c : intD d
        · rw [c] at e; cases e
        · rfl
      obtain ⟨i, rfl⟩ := intD_int e'
      obtain rfl := hd.int
      obtain ⟨b, xs, rfl, hb, hxs⟩ := hv.tup_inv
      walk_at "go"
      refine r_fldI hp T.cl_Row T.na_kinds lookKinds ?_
      refine r_iAt ⟨_, .of hb⟩ ?_
      refine r_walk (walk_tup (xs := xs)) (fun j σ H' => ∃ v1 v2, σ = [some (.ref p), some (.int i), v1, v2] ∧ Same H H' ∧ val ks i = val (ks.drop j) i) ?_ ?_ ?_ ?_
      · exact ⟨none, none, rfl, Same.refl H, rfl⟩
      · rintro j σ H' _ ⟨v1, v2, rfl, e, _⟩
        exact .of (e _ _ hb)
      · rintro j y σ H1 H2 hj ⟨v1, v2, rfl, s1, hv'⟩ ⟨e12, hy⟩
        subst e12
        obtain ⟨d, hd', hf⟩ := hxs.at hy
        rw [List.getElem?_map] at hd'
        obtain ⟨k, hk, rfl⟩ := Option.map_eq_some_iff.mp hd'
        obtain ⟨u, rfl, hu⟩ := (hf.same s1).kD_inv
        rw [val_drop hk] at hv'
        refine r_gtup (.of hu) rfl ?_
        walk_at "go"
        refine r_dec (fun c => ?_) (fun c => ?_)
        · walk_at "go"
          rw [if_pos c] at hv'
          rw [← hv']
          exact q _ s1
        · walk_at "go"
          rw [if_neg c] at hv'
          exact ⟨_, _, rfl, s1, hv'⟩
      · rintro σ H1 ⟨v1, v2, rfl, s1, hv'⟩
        walk_at "go"
        have z : ks.drop xs.length = [] := by
          rw [hxs.len, List.length_map]
          exact List.drop_length
        rw [z] at hv'
        have := q H1 s1
        rw [show countD ks (.int i) = val ks i from rfl, hv'] at this
        exact this
end


section
variable {P : Program} {w : World} {K : PySem.W.Frag} {mg : Str → Option Value} {base : Heap} {a : Ad}
theorem ok_has_places (T : Txt w K mg a) : FnOk P w K mg base CX0 8 a.f_has_places a.d_has_places ["row", "one", "mate"] (sp_has_places K a.C_Row) := by
  refine Fun.ok (k := 7) T.u_has_places sc_has_places (fun vs H Q E h => ?_) (fun cdv A outer s H vs Q E hr h => ?_)
  · obtain ⟨p, ks, x, dx, y, dy, rfl, _⟩ := h
    rfl
  · obtain ⟨p, ks, x, dx, y, dy, rfl, row, ok, hx, hy, q1, q2⟩ := h
    refine ⟨_, (pss_cons (ps_if (PW.pt (pw_or (pt_cmpR (opEqK (K := K) hr rfl) (pe_meth (pv 0) T.cl_Row T.me_count (ok_Row_count T) (hr.mono (by decide)) (b_Row_count T) .nil pass0 (pa_cons (pv 1) pa_nil)) pe_int (nomark _)) (pw_or1 (pt_cmpR (opEqK (K := K) hr rfl) (pe_meth (pv 0) T.cl_Row T.me_count (ok_Row_count T) (hr.mono (by decide)) (b_Row_count T) .nil pass0 (pa_cons (pv 2) pa_nil)) pe_int (nomark _))))) (pss_one (ps_ret pe_bl)) pss_nil)
          (pss_one (ps_ret (pe_or (pe_cmpR (opNeK (K := K) hr rfl) (pv 2) (pv 1) (nomark _)) (pe_one (pe_cmpR opGt (pe_meth (pv 0) T.cl_Row T.me_count (ok_Row_count T) (hr.mono (by decide)) (b_Row_count T) .nil pass0 (pa_cons (pv 1) pa_nil)) pe_int (nomark _))))))), ?_⟩
    walk_at "go"
    refine r_methR row (by decide +kernel) ?_
    walk_at "go"
    refine ⟨p, ks, _, _, rfl, row, ok, hx, fun H1 s1 => ?_⟩
    walk_at "go"
    refine r_dec (fun c => ?_) (fun c => ?_)
    · walk_at "go"
      exact q2 (fun z => z.1 c) H1 s1
    · walk_at "go"
      refine r_methR (row.same s1) (by decide +kernel) ?_
      walk_at "go"
      refine ⟨p, ks, _, _, rfl, row.same s1, ok, hy.same s1, fun H2 s2 => ?_⟩
      have s02 := s1.trans s2
      walk_at "go"
      refine r_dec (fun c2 => ?_) (fun c2 => ?_)
      · walk_at "go"
        exact q2 (fun z => z.2.1 c2) H2 s02
      · obtain ⟨g, rfl⟩ := countD_int c
        obtain ⟨m, rfl⟩ := countD_int c2
        obtain rfl := hx.int
        obtain rfl := hy.int
        walk_at "go"
        refine r_ndec (fun ne => ?_) (fun e => ?_)
        · exact q1 ⟨c, c2, fun z => ne (PyData.int.inj z.1)⟩ H2 s02
        · walk_at "go"
          refine r_methR (row.same s02) (by decide +kernel) ?_
          walk_at "go"
          refine ⟨p, ks, _, _, rfl, row.same s02, ok, .dp (.int g), fun H3 s3 => ?_⟩
          have s03 := s02.trans s3
          walk_at "go"
          have nn := (countD_le ok (.int g)).1
          by_cases c3 : countD ks (.int g) = 1
          · rw [show decide (countD ks (.int g) > 1) = false from decide_eq_false (by omega)]
            exact q2 (fun z => z.2.2 ⟨by rw [e], c3⟩) H3 s03
          · rw [show decide (countD ks (.int g) > 1) = true from decide_eq_true (by omega)]
            exact q1 ⟨c, c2, fun z => c3 z.2⟩ H3 s03
end


section
variable {P : Program} {w : World} {K : PySem.W.Frag} {mg : Str → Option Value} {base : Heap} {a : Ad}
theorem ok_need_places (T : Txt w K mg a) : FnOk P w K mg base CX0 10 a.f_need_places a.d_need_places ["row", "one", "mate"] (sp_need_places K a.C_Row) := by
  refine Fun.ok (k := 9) T.u_need_places sc_need_places (fun vs H Q E h => ?_) (fun cdv A outer s H vs Q E hr h => ?_)
  · obtain ⟨p, ks, g, m, rfl, _⟩ := h
    rfl
  · obtain ⟨p, ks, g, m, rfl, row, ok, h1, h2, h3, q⟩ := h
    refine ⟨_, (pss_cons (ps_if (pt_cmpR (opEqK (K := K) hr rfl) (pe_meth (pv 0) T.cl_Row T.me_count (ok_Row_count T) (hr.mono (by decide)) (b_Row_count T) .nil pass0 (pa_cons (pv 1) pa_nil)) pe_int (nomark _)) (pss_one ps_never) pss_nil)
          (pss_one (ps_if (pt_not (pt_val (pe_call (ok_has_places T) (hr.mono (by decide)) (by rfl) T.m_has_places T.u_has_places.kp (b_has_places T) .nil pass0 (pa_cons (pv 0) (pa_cons (pv 1) (pa_cons (pv 2) pa_nil)))))) (pss_one ps_never) pss_nil))), ?_⟩
    walk_at "go"
    refine r_methR row (by decide +kernel) ?_
    walk_at "go"
    refine ⟨p, ks, _, _, rfl, row, ok, .dp (.int g), fun H1 s1 => ?_⟩
    walk_at "go"
    refine r_no h1 ?_
    walk_at "go"
    refine ⟨p, ks, _, _, _, _, rfl, row.same s1, ok, .dp (.int g), .dp (.int m), fun _ H2 s2 => ?_, fun no => absurd ⟨h1, h2, fun z => h3.elim (fun y => y (PyData.int.inj z.1).symm) (fun y => y z.2)⟩ no⟩
    walk_at "go"
    refine iteF ?_
    walk_at "go"
    exact q H2 (s1.trans s2)
end


section
variable {P : Program} {w : World} {K : PySem.W.Frag} {mg : Str → Option Value} {base : Heap} {a : Ad}
theorem ok_need_row (T : Txt w K mg a) : FnOk P w K mg base CX0 2 a.f_need_row a.d_need_row ["value"] (sp_need_row K a.C_Row) := by
  refine Fun.ok (k := 1) T.u_need_row sc_need_row (fun vs H Q E h => ?_) (fun cdv A outer s H vs Q E hr h => ?_)
  · obtain ⟨p, ks, rfl, _⟩ := h
    rfl
  · obtain ⟨p, ks, rfl, ⟨dx, v, hp, hv⟩, q⟩ := h
    refine ⟨_, (pss_one (ps_if (pt_not (pt_val (pe_callB (callIsiK (K := K) rfl) (by rfl) T.b_isinstance (by decide +kernel) (pa_cons (pv 0) (pa_cons (pe_glob (v := .ref a.C_Row) (by rfl) T.m_Row rfl) pa_nil))))) (pss_one ps_never) pss_nil)), ?_⟩
    walk_at "go"
    refine r_isiO hp T.cl_Row T.i1_Row T.i2_Row T.i3_Row T.i4_Row T.i5_Row ?_
    walk_at "go"
    exact q H (Same.refl H)
end


section
variable {P : Program} {w : World} {K : PySem.W.Frag} {mg : Str → Option Value} {base : Heap} {a : Ad}
theorem ok_bond (T : Txt w K mg a) : FnOk P w K mg base CX0 12 a.f_bond a.d_bond ["row", "one", "mate"] (sp_bond K a.C_Row) := by
  refine Fun.ok (k := 11) T.u_bond sc_bond (fun vs H Q E h => ?_) (fun cdv A outer s H vs Q E hr h => ?_)
  · obtain ⟨p, ks, g, m, rfl, _⟩ := h
    rfl
  · obtain ⟨p, ks, g, m, rfl, row, ok, nb, vg, vm, two, q⟩ := h
    refine ⟨_, (pss_cons (ps_expr (pe_call (ok_need_row T) (hr.mono (by decide)) (by rfl) T.m_need_row T.u_need_row.kp (b_need_row T) .nil pass0 (pa_cons (pv 0) pa_nil)))
          (pss_cons (ps_expr (pe_call (ok_need_places T) (hr.mono (by decide)) (by rfl) T.m_need_places T.u_need_places.kp (b_need_places T) .nil pass0 (pa_cons (pv 0) (pa_cons (pv 1) (pa_cons (pv 2) pa_nil)))))
          (pss_cons (ps_expr (pe_call (ok_need_can_be T) (hr.mono (by decide)) (by rfl) T.m_need_can_be T.u_need_can_be.kp (b_need_can_be T) .nil pass0 (pa_cons (pv 0) pa_nil)))
          (pss_one (ps_ret (pe_call (ok__word T) (hr.mono (by decide)) (by rfl) T.m__word T.u__word.kp (b__word T) .nil pass0 (pa_cons (pe_prop (pv 0) T.cl_Row T.p_kinds (ok_Row_kinds T) (hr.mono (by decide)) (b_Row_kinds T) .nil pass0 rfl) (pa_cons (pv 1) (pa_cons (pv 2) pa_nil))))))))), ?_⟩
    walk_at "go"
    refine ⟨p, ks, rfl, row, fun H1 s1 => ?_⟩
    walk_at "go"
    refine ⟨p, ks, g, m, rfl, row.same s1, ok, vg, vm, two, fun H2 s2 => ?_⟩
    have s02 := s1.trans s2
    walk_at "go"
    refine ⟨p, ks, rfl, row.same s02, ok, nb, fun H3 s3 => ?_⟩
    have s03 := s02.trans s3
    obtain ⟨dr, v, hp, hv⟩ := id (row.same s03)
    walk_at "go"
    refine r_propI hp ⟨p, dr, v, rfl, hp, ?_⟩
    obtain ⟨b, xs, rfl, hb, hxs⟩ := id hv.tup_inv
    walk_at "go"
    exact ⟨b, ks, g, m, rfl, hv, ok, vg, vm, fun H4 s4 => q H4 (s03.trans s4)⟩
end


section
variable {P : Program} {w : World} {K : PySem.W.Frag} {mg : Str → Option Value} {base : Heap} {a : Ad}
theorem ok_bonds (T : Txt w K mg a) : FnOk P w K mg base CX0 10 a.f_bonds a.d_bonds ["row"] (sp_bonds K a.C_Row) := by
  refine Fun.ok (k := 9) T.u_bonds sc_bonds (fun vs H Q E h => ?_) (fun cdv A outer s H vs Q E hr h => ?_)
  · obtain ⟨p, ks, rfl, _⟩ := h
    rfl
  · obtain ⟨p, ks, rfl, row, ok, nb, q⟩ := h
    refine ⟨_, (pss_cons (ps_expr (pe_call (ok_need_row T) (hr.mono (by decide)) (by rfl) T.m_need_row T.u_need_row.kp (b_need_row T) .nil pass0 (pa_cons (pv 0) pa_nil)))
          (pss_cons (ps_expr (pe_call (ok_need_can_be T) (hr.mono (by decide)) (by rfl) T.m_need_can_be T.u_need_can_be.kp (b_need_can_be T) .nil pass0 (pa_cons (pv 0) pa_nil)))
          (pss_cons (ps_set (i := 1) sc_bonds.nd rfl (Or.inl rfl) (pe_lstN pa_nil))
          (pss_cons (ps_for PassesOwn.never rfl (pi_enT (by rfl) T.b_enumerate (pa_cons (pe_prop (pv 0) T.cl_Row T.p_kinds (ok_Row_kinds T) (hr.mono (by decide)) (b_Row_kinds T) .nil pass0 rfl) pa_nil)) (pg_tup rfl (pgs_cons (pg_name (i := 2) sc_bonds.nd rfl (Or.inl rfl)) (pgs_cons (pg_tup rfl (pgs_cons (pg_name (i := 3) sc_bonds.nd rfl (Or.inl rfl)) (pgs_cons (pg_name (i := 4) sc_bonds.nd rfl (Or.inl rfl)) pgs_nil))) pgs_nil))) (pss_one (ps_for PassesOwn.never rfl (pi_tup (pe_slice (slBK (K := K) rfl) (pe_prop (pv 0) T.cl_Row T.p_kinds (ok_Row_kinds T) (hr.mono (by decide)) (b_Row_kinds T) .nil pass0 rfl) (po_some (pv 2)) po_none)) (pg_tup rfl (pgs_cons (pg_name (i := 5) sc_bonds.nd rfl (Or.inl rfl)) (pgs_cons (pg_name (i := 6) sc_bonds.nd rfl (Or.inl rfl)) pgs_nil))) (pss_one (ps_if (PW.pt (pw_or (pt_cmpR opLt (pv 5) (pv 3) (nomark _)) (pw_or1 (pt_cmpR opGt (pv 4) pe_int (nomark _))))) (pss_one (ps_expr (pe_bm PySem.F.plainAttrs_list PySem.F.slot_list_append PySem.F.type_list_append mt_append (pv 1) (pa_cons (pe_tupN (pa_cons (pv 3) (pa_cons (pv 5) (pa_cons (pe_call (ok__word T) (hr.mono (by decide)) (by rfl) T.m__word T.u__word.kp (b__word T) .nil pass0 (pa_cons (pe_prop (pv 0) T.cl_Row T.p_kinds (ok_Row_kinds T) (hr.mono (by decide)) (b_Row_kinds T) .nil pass0 rfl) (pa_cons (pv 3) (pa_cons (pv 5) pa_nil)))) pa_nil)))) pa_nil)))) pss_nil)))))
          (pss_one (ps_ret (pe_callTy (callTupK (K := K) rfl) (by rfl) T.b_tuple (by decide +kernel) (pa_cons (pv 1) pa_nil)))))))), ?_⟩
    walk_at "go"
    refine ⟨p, ks, rfl, row, fun H1 s1 => ?_⟩
    walk_at "go"
    refine ⟨p, ks, rfl, row.same s1, ok, nb, fun H2 s2 => ?_⟩
    have s02 := s1.trans s2
    walk_at "go"
    refine r_fits (by simp) fun L H3 n3 s3 h3 => ?_
    walk_at "go"
    obtain ⟨dr, v, hp, hv⟩ := id (row.same s02)
    obtain ⟨b, xs, rfl, hb, hxs⟩ := id hv.tup_inv
    have lx : xs.length = ks.length := by rw [hxs.len, List.length_map]
    have ten := ok.2.1
    have vof : ∀ {k : Int × Int}, k ∈ ks → val ks k.1 ≠ 0 := fun {k} hk => by
      have := val_memN ok.nodup hk
      have := ok.2.2.all k hk
      omega
    refine r_propI (s3 _ _ hp) ⟨p, dr, _, rfl, s3 _ _ hp, ?_⟩
    walk_at "go"
    refine r_enT (.of (s3 _ _ hb)) ?_
    refine r_walk (walk_iet (xs := xs)) (fun i σ H' => ∃ (ys : List V) (v2 v3 v4 v5 v6 : Option V), σ = [some (.ref p), some (.ref L), v2, v3, v4, v5, v6] ∧ Same H2 H' ∧ H' L = some (.lst ys) ∧ FzAll H' ys ((pairsI ks i).map (bD ks))) ?_ ?_ ?_ ?_
    · exact ⟨[], _, _, _, _, _, rfl, s3, h3, .nil⟩
    · rintro i σ H' _ ⟨ys, v2, v3, v4, v5, v6, rfl, e, _⟩
      exact .of (e _ _ hb)
    · rintro i y σ H4 H5 hi ⟨ys, v2, v3, v4, v5, v6, rfl, e, hL, fz⟩ ⟨TT, z1, z2, rfl, hT, rfl, e1, e2⟩
      cases e1
      obtain ⟨d, hd', hf⟩ := hxs.at e2
      rw [List.getElem?_map] at hd'
      obtain ⟨k, hk, rfl⟩ := Option.map_eq_some_iff.mp hd'
      obtain ⟨u, rfl, hu⟩ := (hf.same e).kD_inv
      have hkm := List.mem_of_getElem? hk
      have s4 : Same H4 (upd H4 TT (.tup [.int (i : Nat), .ref u])) := fun b u e => by rw [upd_ne (ne_of_none e hT)]; exact e
      have hT2 : (upd H4 TT (.tup [.int (i : Nat), .ref u])) TT = some (.tup [.int (i : Nat), .ref u]) := upd_same
      generalize upd H4 TT (.tup [.int (i : Nat), .ref u]) = H5 at s4 hT2
      have e5 := e.trans s4
      refine r_gtup (SqT.of hT2) rfl ?_
      walk_at "go"
      refine r_gtup (.of (s4 _ _ hu)) rfl ?_
      walk_at "go"
      refine r_propI (e5 _ _ hp) ⟨p, dr, _, rfl, e5 _ _ hp, ?_⟩
      walk_at "go"
      refine ⟨_, rfl, ?_⟩
      refine r_slTB (e5 _ _ hb) fun c H6 s6 h6 => ?_
      rw [cut_from (by omega), Int.toNat_natCast] at h6
      have ili : i < ks.length := by rw [← lx]; exact hi
      refine r_iAt ⟨_, .of h6⟩ ?_
      have e6 := e5.trans s6
      have nLc : c ≠ L := fun z => by
        rw [z, s6 _ _ (s4 _ _ hL)] at h6
        cases h6
      refine r_walk (walk_tup (xs := xs.drop i)) (fun j σ H' => ∃ (ys : List V) (v5 v6 : Option V), σ = [some (.ref p), some (.ref L), some (.int (i : Nat)), some (.int k.1), some (.int k.2), v5, v6] ∧ Same H2 H' ∧ H' c = some (.tup (xs.drop i)) ∧ H' L = some (.lst ys) ∧ FzAll H' ys ((pairsI ks i ++ rowP k ((ks.drop i).take j)).map (bD ks))) ?_ ?_ ?_ ?_
      · exact ⟨ys, _, _, rfl, e6, h6, s6 _ _ (s4 _ _ hL), by rw [List.take_zero]; unfold rowP; simpa using FzAll.same (s4.trans s6) fz⟩
      · rintro j σ H' _ ⟨ys, v5, v6, rfl, e7, hc, _⟩
        exact .of hc
      · rintro j y σ H7 H8 hj ⟨ys, v5, v6, rfl, e7, hc, hL7, fz7⟩ ⟨e78, hy⟩
        subst e78
        rw [List.getElem?_drop] at hy
        obtain ⟨d, hd', hf⟩ := hxs.at hy
        rw [List.getElem?_map] at hd'
        obtain ⟨q', hq, rfl⟩ := Option.map_eq_some_iff.mp hd'
        obtain ⟨u', rfl, hu'⟩ := (hf.same e7).kD_inv
        have hqm := List.mem_of_getElem? hq
        have hqd : (ks.drop i)[j]? = some q' := by rw [List.getElem?_drop]; exact hq
        have jl : j ≤ 10 := by
          rw [List.length_drop] at hj
          omega
        have sn : rowP k ((ks.drop i).take (j + 1)) = rowP k ((ks.drop i).take j) ++ if q'.1 < k.1 ∨ 1 < k.2 then [(k.1, q'.1)] else [] := by rw [take_snoc hqd, rowP_snoc]
        have len : ys.length ≤ 120 := by
          rw [fz7.len, List.length_map, List.length_append]
          have a1 := pairsI_length (ks := ks) (i := i) (by omega)
          have a2 := rowP_length (k := k) (l := (ks.drop i).take j)
          rw [List.length_take] at a2
          have a3 : i * ks.length ≤ 10 * 10 := Nat.mul_le_mul (by omega) ten
          omega
        refine r_gtup (.of hu') rfl ?_
        walk_at "go"
        refine r_dec (fun c1 => ?_) (fun c1 => ?_)
        case' refine_1 =>
          have cc : q'.1 < k.1 ∨ 1 < k.2 := .inl c1
        case' refine_2 =>
          walk_at "go"
          refine r_dec (fun c2 => ?_) (fun c2 => ?_)
          case' refine_1 =>
            have cc : q'.1 < k.1 ∨ 1 < k.2 := .inr c2
          case' refine_2 =>
            walk_at "go"
            refine ⟨ys, _, _, rfl, e7, hc, hL7, ?_⟩
            rw [sn, if_neg (fun z => z.elim c1 c2), List.append_nil]
            exact fz7
        all_goals
          walk_at "go"
          refine r_tyL (.of hL7) ?_
          walk_at "go"
          refine r_propI (e7 _ _ hp) ⟨p, dr, _, rfl, e7 _ _ hp, ?_⟩
          walk_at "go"
          refine ⟨b, ks, k.1, q'.1, rfl, hv.same e7, ok, vof hkm, vof hqm, fun H9 s9 => ?_⟩
          walk_at "go"
          refine r_fits (by simp) fun t H10 n10 s10 h10 => ?_
          walk_at "go"
          have hL10 := s10 _ _ (s9 _ _ hL7)
          refine r_append hL10 (by omega) (r_put fun H11 b11 h11 _ => ?_)
          refine ⟨_, _, _, rfl, same_of_but (H := H2) (e7.trans (s9.trans s10)) b11 n3, b11 _ _ nLc (s10 _ _ (s9 _ _ hc)), h11, ?_⟩
          rw [sn, if_pos cc, ← List.append_assoc, List.map_append]
          exact FzAll.snoc (FzAll.kp ((Kp.same (s9.trans s10)).trans (Kp.butL b11 hL10)) fz7) (.tup (Kp.butL b11 hL10 _ _ True.intro h10) (.cons (.int _) (.cons (.int _) (.cons (.str _) .nil))))
      · rintro σ H7 ⟨ys, v5, v6, rfl, e7, hc, hL7, fz7⟩
        refine ⟨ys, _, _, _, _, _, rfl, e7, hL7, ?_⟩
        rw [pairsI_snoc hk]
        rw [show (ks.drop i).take (xs.drop i).length = ks.drop i by rw [List.length_drop, lx, ← List.length_drop, List.take_length]] at fz7
        exact fz7
    · rintro σ H4 ⟨ys, v2, v3, v4, v5, v6, rfl, e, hL, fz⟩
      rw [lx] at fz
      walk_at "go"
      refine r_tupL (.of hL) (r_new fun t H5 n5 s5 h5 => ?_)
      exact q t H5 (s02.trans (e.trans s5)) (.tup h5 (FzAll.same s5 fz))
end

theorem kinds_fewD {ds : List Int} {ks : Kinds} (h : KindsOf (cntOf ds) ks) : ks.length ≤ ds.length := by
  have z := kinds_places h
  have g : ∀ ls : Kinds, (∀ k ∈ ls, 1 ≤ k.2) → (ls.length : Int) ≤ (ls.map fun k => k.2).sum := by
    intro ls
    induction ls with
    | nil => intro _; exact Int.le_refl _
    | cons k r ih =>
      intro h
      have := h k List.mem_cons_self
      have := ih fun q hq => h q (List.mem_cons_of_mem _ hq)
      rw [List.map_cons, List.sum_cons, List.length_cons]
      omega
  have := g ks fun k hk => by have := (h.2 k.1 k.2).mp hk; omega
  omega
theorem filter_from : ∀ {ns : List Int} {i : Nat} {g : Int}, ns.Pairwise (· > ·) → ns[i]? = some g → ns.filter (fun d => decide (d ≤ g)) = ns.drop i
  | [], _, _, _, h => by cases h
  | x :: r, 0, g, o, h => by
    have e : x = g := Option.some.inj h
    subst e
    rw [List.drop_zero]
    refine List.filter_eq_self.mpr fun y hy => decide_eq_true ?_
    rcases List.mem_cons.mp hy with rfl | hy
    · exact Int.le_refl _
    · exact Int.le_of_lt ((List.pairwise_cons.mp o).1 y hy)
  | x :: r, i + 1, g, o, h => by
    have m : g ∈ r := List.mem_of_getElem? (by simpa using h)
    have := (List.pairwise_cons.mp o).1 g m
    rw [List.filter_cons, if_neg (by simpa using this), List.drop_succ_cons]
    exact filter_from (List.pairwise_cons.mp o).2 (by simpa using h)
theorem okd_word (ks : Kinds) (g m : Int) : Okd (.str (wordK ks g m)) 0 10 := by
  unfold wordK
  split
  · exact okd_str (by decide +kernel) (by decide +kernel) (by decide)
  · split
    · exact okd_str (by decide +kernel) (by decide +kernel) (by decide)
    · exact okd_str (by decide +kernel) (by decide +kernel) (by decide)
theorem pairs_in {ks : Kinds} {i : Nat} {q : Int × Int} (h : q ∈ pairsI ks i) : q.1 ∈ ks.map (·.1) ∧ q.2 ∈ ks.map (·.1) := by
  unfold pairsI at h
  obtain ⟨j, _, hj⟩ := List.mem_flatMap.mp h
  cases e : ks[j]? with
  | none => rw [e] at hj; cases hj
  | some k =>
    rw [e] at hj
    unfold rowP at hj
    obtain ⟨z, hz, rfl⟩ := List.mem_map.mp hj
    exact ⟨List.mem_map.mpr ⟨k, List.mem_of_getElem? e, rfl⟩, List.mem_map.mpr ⟨z, List.drop_subset _ _ (List.mem_filter.mp hz).1, rfl⟩⟩
theorem last_at {k : Int} {ds : List Int} (h : k ∈ ds) : ∃ j b, ds.reverse[j]? = some k ∧ (∀ m, m < j → ds.reverse[m]? ≠ some k) ∧ j < ds.length ∧ b + 1 + j = ds.length ∧ ds[b]? = some k ∧ ∀ m, b < m → ds[m]? ≠ some k := by
  obtain ⟨j, h1, h2, h3⟩ := first_at (ds := ds.reverse) (List.mem_reverse.mpr h)
  rw [List.length_reverse] at h3
  refine ⟨j, ds.length - 1 - j, h1, h2, h3, by omega, ?_, fun m hm z => ?_⟩
  · rw [List.getElem?_reverse h3] at h1
    exact h1
  · have lm := (List.getElem?_eq_some_iff.mp z).1
    refine h2 (ds.length - 1 - m) (by omega) ?_
    rw [List.getElem?_reverse (by omega), show ds.length - 1 - (ds.length - 1 - m) = m by omega]
    exact z

section
variable {P : Program} {w : World} {K : PySem.W.Frag} {mg : Str → Option Value} {base : Heap} {a : Ad}
theorem ok__law_right (T : Txt w K mg a) : FnG P w K mg base CX0 16 a.f__law_right a.d__law_right ["well"] (sp__law_right K a.C_Row) := by
  refine funG (k := 15) T.u__law_right sc__law_right (fun vs H Q E h => ?_) (fun cdv A outer s H vs Q E hgd hr h => ?_)
  · obtain ⟨p, rfl, _⟩ := h
    rfl
  · obtain ⟨p, rfl, hp, q⟩ := h
    refine ⟨_, (pss_cons (ps_for PassesOwn.never rfl (pi_range1 (by rfl) T.b_range (pa_cons pe_int pa_nil)) (pg_name (i := 1) sc__law_right.nd rfl (Or.inl rfl)) (pss_cons (ps_set (i := 2) sc__law_right.nd rfl (Or.inl rfl) (pe_revL (pe_callB (callSortedK (K := K) rfl) (by rfl) T.b_sorted (by decide +kernel) (pa_cons (pe_call (ok__law_listed T) (hr.mono (by decide)) (by rfl) T.m__law_listed T.u__law_listed.kp (b__law_listed T) .nil pass0 (pa_cons (pv 0) (pa_cons pe_int pa_nil))) pa_nil))))
          (pss_cons (ps_par3 (i := 3) (j := 4) (l := 5) rfl sc__law_right.nd rfl rfl rfl (by decide) (by decide) (by decide) rfl rfl rfl (pa_cons (pe_call (ok__law_webs T) (hr.mono (by decide)) (by rfl) T.m__law_webs T.u__law_webs.kp (b__law_webs T) .nil pass0 (pa_cons (pv 2) pa_nil)) (pa_cons (pe_make T.mk_Row (ok_Row___init__ T) (hr.mono (by decide)) (by rfl) T.m_Row (b_Row___init__ T) .nil pass0 (pa_cons (pe_call (ok__law_lots T) (hr.mono (by decide)) (by rfl) T.m__law_lots T.u__law_lots.kp (b__law_lots T) .nil pass0 (pa_cons (pv 2) pa_nil)) pa_nil)) (pa_cons (pe_lstN pa_nil) pa_nil))) rfl)
          (pss_one (ps_if (pt_cmpR (opNeL (K := K) hr rfl) (pv 3) (pe_lstN pa_nil) (nomark _)) (pss_cons (ps_for PassesOwn.never rfl (pi_list (pe_revL (pe_callB (callSortedS (by rfl)) (by rfl) T.b_sorted (by decide +kernel) (pa_cons (pe_callTy (callSetL (K := K) (w := w) (by rfl) rfl rfl) (by rfl) T.b_set (by decide +kernel) (pa_cons (pv 2) pa_nil)) pa_nil)))) (pg_name (i := 6) sc__law_right.nd rfl (Or.inr rfl)) (pss_one (ps_for PassesOwn.never rfl (pi_list (pe_lc (own := [("degree", 12)]) (g := (gName 12)) (by rfl) sc__law_right.nd (pi_list (pe_revL (pe_callB (callSortedS (by rfl)) (by rfl) T.b_sorted (by decide +kernel) (pa_cons (pe_callTy (callSetL (K := K) (w := w) (by rfl) rfl rfl) (by rfl) T.b_set (by decide +kernel) (pa_cons (pv 2) pa_nil)) pa_nil)))) (blkOk_by (own := [("degree", 12)]) (N := nm__law_right) (sc := defScope s__law_right) (by decide +kernel)) (fun _ _ _ _ _ => (pg_name (i := 12) sc__law_right.nd rfl (Or.inl rfl))) (fun _ _ _ _ _ => (pts_one (pt_cmpR opLe (pv 12) (pv 6) (nomark _)))) (fun _ _ _ _ _ => (pv 12)))) (pg_name (i := 7) sc__law_right.nd rfl (Or.inl rfl)) (pss_cons (ps_set (i := 8) sc__law_right.nd rfl (Or.inl rfl) (pe_bmK (K := K) rfl PySem.F.plainAttrs_list PySem.F.slot_list_index PySem.F.type_list_index (mtIndexI (K := K) rfl) (pv 2) (pa_cons (pv 6) pa_nil)))
          (pss_cons (ps_set (i := 9) sc__law_right.nd rfl (Or.inl rfl) (pe_op opSub (pe_op opSub (pe_callB (callLenK (K := K) rfl) (by rfl) T.b_len (by decide +kernel) (pa_cons (pv 2) pa_nil)) pe_int) (pe_bmK (K := K) rfl PySem.F.plainAttrs_list PySem.F.slot_list_index PySem.F.type_list_index (mtIndexI (K := K) rfl) (pe_revL (pv 2)) (pa_cons (pv 7) pa_nil))))
          (pss_one (ps_if (pt_cmpR opLt (pv 8) (pv 9) (nomark _)) (pss_cons (ps_set (i := 10) sc__law_right.nd rfl (Or.inl rfl) (pe_call (ok__law_due T) (hr.mono (by decide)) (by rfl) T.m__law_due T.u__law_due.kp (b__law_due T) .nil pass0 (pa_cons (pv 3) (pa_cons (pv 8) (pa_cons (pv 9) pa_nil)))))
          (pss_cons (ps_expr (pe_bm PySem.F.plainAttrs_list PySem.F.slot_list_append PySem.F.type_list_append mt_append (pv 5) (pa_cons (pe_tupN (pa_cons (pv 6) (pa_cons (pv 7) (pa_cons (pv 10) pa_nil)))) pa_nil)))
          (pss_cons (ps_set (i := 11) sc__law_right.nd rfl (Or.inl rfl) (pe_lstN (pa_cons (pe_call (ok_bond T) (hr.mono (by decide)) (by rfl) T.m_bond T.u_bond.kp (b_bond T) .nil pass0 (pa_cons (pv 4) (pa_cons (pv 6) (pa_cons (pv 7) pa_nil)))) (pa_cons (pe_call (ok_bond T) (hr.mono (by decide)) (by rfl) T.m_bond T.u_bond.kp (b_bond T) .nil pass0 (pa_cons (pv 4) (pa_cons (pv 7) (pa_cons (pv 6) pa_nil)))) (pa_cons (pe_callK0 (ok_bond T) (hr.mono (by decide)) (by rfl) T.m_bond T.u_bond.kp (kb_bond T) pass0 (pk_cons (pv 7) (pk_cons (pv 6) (pk_cons (pv 4) pk_nil)))) pa_nil)))))
          (pss_one (ps_if (pt_cmpR (opNeL (K := K) hr rfl) (pe_callB (call_repr hgd hr) (by rfl) T.b_repr (by decide +kernel) (pa_cons (pv 11) pa_nil)) (pe_callB (call_repr hgd hr) (by rfl) T.b_repr (by decide +kernel) (pa_cons (pe_op opMul (pe_lstN (pa_cons (pv 10) pa_nil)) pe_int) pa_nil)) (nomark _)) (pss_one (ps_ret pe_bl)) pss_nil))))) pss_nil)))))))
          (pss_one (ps_if (pt_cmpR (opNeL (K := K) hr rfl) (pe_callB (call_repr hgd hr) (by rfl) T.b_repr (by decide +kernel) (pa_cons (pe_lstN (pa_cons (pe_call (ok_bonds T) (hr.mono (by decide)) (by rfl) T.m_bonds T.u_bonds.kp (b_bonds T) .nil pass0 (pa_cons (pv 4) pa_nil)) (pa_cons (pe_callK0 (ok_bonds T) (hr.mono (by decide)) (by rfl) T.m_bonds T.u_bonds.kp (kb_bonds T) pass0 (pk_cons (pv 4) pk_nil)) pa_nil))) pa_nil)) (pe_callB (call_repr hgd hr) (by rfl) T.b_repr (by decide +kernel) (pa_cons (pe_op opMul (pe_lstN (pa_cons (pe_callTy (callTupK (K := K) rfl) (by rfl) T.b_tuple (by decide +kernel) (pa_cons (pv 5) pa_nil)) pa_nil)) pe_int) pa_nil)) (nomark _)) (pss_one (ps_ret pe_bl)) pss_nil))) pss_nil)))))
          (pss_one (ps_ret pe_bl))), ?_⟩
    walk_at "go"
    refine ⟨3, rfl, by decide, by decide, ?_⟩
    refine r_walk (walk_range (lo := 0) (n := 3)) (fun i σ H' => ∃ (v1 v2 v3 v4 v5 v6 v7 v8 v9 v10 v11 v12 : Option V), σ = [some (.ref p), v1, v2, v3, v4, v5, v6, v7, v8, v9, v10, v11, v12] ∧ But p H H' ∧ Well H' p) ?_ ?_ ?_ ?_
    · exact ⟨_, _, _, _, _, _, _, _, _, _, _, _, rfl, But.refl, hp⟩
    · intro i σ H' _ _
      exact True.intro
    · rintro i0 x σ Hz H1 hi0 ⟨v1, v2, v3, v4, v5, v6, v7, v8, v9, v10, v11, v12, rfl, b1, p1⟩ ⟨e, rfl⟩
      subst e
      walk_at "go"
      refine ⟨p, 6, rfl, p1, by decide, by decide, fun l ds0 H2 nlp b2 p2 hl nl ne0 len0 bnd0 => ?_⟩
      walk_at "go"
      refine r_sorted (.of hl) fun ss pm asc => r_new fun L H3 n3 s3 h3 => ?_
      refine r_revLI (.of h3) (r_new fun D H4 n4 s4 h4 => ?_)
      rw [← List.map_reverse] at h4
      obtain ⟨ds, eds⟩ : ∃ ds, ds = ss.reverse := ⟨_, rfl⟩
      rw [← eds] at h4
      have pd : ds.Perm ds0 := by rw [eds]; exact (List.reverse_perm ss).trans pm
      have ord : ds.Pairwise (· ≥ ·) := by rw [eds, List.pairwise_reverse]; exact asc
      have small : ds.length ≤ 6 := by rw [pd.length_eq]; omega
      have ne : ds ≠ [] := fun z => ne0 (by rw [z] at pd; exact pd.symm.eq_nil)
      have bnd : ∀ d ∈ ds, 0 ≤ d ∧ d ≤ 10000 := fun d hd => bnd0 d (pd.mem_iff.mp hd)
      obtain ⟨n, en⟩ : ∃ n, n = ds.length := ⟨_, rfl⟩
      clear eds
      walk_at "go"
      refine r_par3 ?_
      walk_at "go"
      refine ⟨D, ds, rfl, h4, small, fun d hd => (bnd d hd).1, fun r us H5 s5 nr h5 at5 few5 ne5 stat5 => ?_⟩
      walk_at "go"
      refine r_mk ?_
      walk_at "go"
      refine ⟨D, ds, rfl, s5 _ _ h4, by omega, fun t H6 ks s6 f6 kk => ?_⟩
      walk_at "go"
      have ok := okK_count kk (by have := kinds_fewD kk; omega) ne (by omega) fun d hd => ⟨(bnd d hd).1, by have := (bnd d hd).2; omega⟩
      refine mk_Row (.dp f6.dp) (okD_KD ok) fun m dx H7 _ s7 h7 => ?_
      have row7 : RowAt a.C_Row H7 m ks := ⟨dx, _, h7, f6.same s7⟩
      walk_at "go"
      refine r_fits (by simp) fun Du H8 n8 s8 h8 => ?_
      walk_at "go"
      refine ⟨_, _, _, rfl, ?_⟩
      walk_at "go"
      refine r_fits (by simp) fun N H9 n9 s9 h9 => ?_
      have s57 := s6.trans s7
      have s27 : Same H2 H7 := s3.trans (s4.trans (s5.trans s57))
      have s79 := s8.trans s9
      refine r_neL0 (.of (s79 _ _ (s57 _ _ h5))) (.of h9) ?_
      by_cases un : us = []
      · rw [decide_eq_true (show (us.map fun u => V.ref u.t) = [] by rw [un]; rfl)]
        walk_at "go"
        refine iteF ?_
        exact ⟨_, _, _, _, _, _, _, _, _, _, _, _, rfl, b1.trans (b2.trans (But.same (s27.trans s79))), p2.same (s27.trans s79)⟩
      rw [decide_eq_false (show ¬ (us.map fun u => V.ref u.t) = [] from fun z => un (List.map_eq_nil_iff.mp z))]
      walk_at "go"
      refine iteT ?_
      have wb := ne5.mp un
      have nb : barK ks = none := (bar_web (ss := []) kk ne (fun d hd => (bnd d hd).1) small).mpr wb
      have eks := kk.one (lots_kindsL ds)
      obtain ⟨ns, ens⟩ : ∃ ns, ns = (ascI ds).reverse := ⟨_, rfl⟩
      rw [← ens] at eks
      have lns : ns.length ≤ 6 := by rw [ens, List.length_reverse]; exact Nat.le_trans ascI_length small
      have nso : ns.Pairwise (· > ·) := by rw [ens, List.pairwise_reverse]; exact asc_ascI
      have nsm : ∀ {d : Int}, d ∈ ns → d ∈ ds := fun h => mem_ascI.mp (List.mem_reverse.mp (ens ▸ h))
      have kat : ∀ {i : Nat} {d : Int}, ns[i]? = some d → ks[i]? = some (d, cntOf ds d) := fun h => by rw [eks, List.getElem?_map, h]; rfl
      have lks : ks.length = ns.length := by rw [eks, List.length_map]
      have vof : ∀ {d : Int}, d ∈ ns → val ks d ≠ 0 := fun {d} h => by
        rw [val_of kk d (by unfold cntOf; omega)]
        have := List.count_pos_iff.mpr (nsm h)
        unfold cntOf
        omega
      have s49 : Same H4 H9 := s5.trans (s57.trans s79)
      have hD9 := s49 _ _ h4
      walk_at "go"
      refine r_setNs (.of hD9) (by omega) fun S0 H10 n10 s10 h10 => ?_
      walk_at "go"
      refine r_sortedS h10 (by omega) (r_new fun L1 H11 n11 s11 h11 => ?_)
      refine r_revLI (.of h11) (r_new fun R1 H12 n12 s12 h12 => ?_)
      rw [← List.map_reverse, ← ens] at h12
      refine r_iAt ⟨_, .of h12⟩ ?_
      have s9c : Same H9 H12 := s10.trans (s11.trans s12)
      have s7c : Same H7 H12 := s79.trans s9c
      have hR7 : R1 ≠ Du := fun z => by
        rw [z, s11 _ _ (s10 _ _ (s9 _ _ h8))] at n12
        cases n12
      have keep : ∀ {H' H'' : Hp}, H' R1 = some (.lst (ns.map V.int)) → But Du H' H'' → H'' R1 = some (.lst (ns.map V.int)) := fun h b => b _ _ hR7 h
      refine r_walk (walk_list (xs := ns.map V.int)) (fun i σ H' => ∃ (ys : List V) (v6 v7 v8 v9 v10 v11 v12 : Option V), σ = [some (.ref p), some (.int (0 + (i0 : Int))), some (.ref D), some (.ref r), some (.ref m), some (.ref Du), v6, v7, v8, v9, v10, v11, v12] ∧ Same H7 H' ∧ H' R1 = some (.lst (ns.map V.int)) ∧ H' Du = some (.lst ys) ∧ FzAll H' ys ((pairsI ks i).map (bD ks))) ?_ ?_ ?_ ?_
      · exact ⟨[], _, _, _, _, _, _, _, rfl, s7c, h12, s9c _ _ (s9 _ _ h8), .nil⟩
      · rintro i σ H' _ ⟨ys, v6, v7, v8, v9, v10, v11, v12, rfl, e, hr1, _⟩
        exact .of hr1
      · rintro i x σ Hz H13 hi ⟨ys, v6, v7, v8, v9, v10, v11, v12, rfl, e13, hR13, hL13, fz13⟩ ⟨e, hx⟩
        subst e
        obtain ⟨g, hg, rfl⟩ := ints_at hx
        rw [List.length_map] at hi
        have gns := List.mem_of_getElem? hg
        have gds := nsm gns
        have kg := kat hg
        walk_at "go"
        refine r_setNs (.of (e13 _ _ (s57 _ _ (s5 _ _ h4)))) (by omega) fun S1 H14 n14 s14 h14 => ?_
        walk_at "go"
        refine r_sortedS h14 (by omega) (r_new fun L2 H15 n15 s15 h15 => ?_)
        refine r_revLI (.of h15) (r_new fun R2 H16 n16 s16 h16 => ?_)
        rw [← List.map_reverse, ← ens] at h16
        have s36 : Same H13 H16 := s14.trans (s15.trans s16)
        refine r_iAt ⟨_, .of h16⟩ ?_
        intro D2 hD2
        refine r_lcw (walk_list (xs := ns.map V.int)) hD2 (fun j acc H' => Same H16 H' ∧ acc = ((ns.take j).filter fun d => decide (d ≤ g)).map V.int) ?_ ?_ ?_ ?_
        · exact fun H' e' _ => ⟨e', rfl⟩
        · rintro j acc H' _ ⟨e', _⟩ _
          exact .of (e' _ _ h16)
        · rintro j y acc H17 H18 hj hl' ⟨e', rfl⟩ h17 ⟨e78, hy⟩
          subst e78
          obtain ⟨d, hd, rfl⟩ := ints_at hy
          rw [List.length_map] at hj
          walk_at "go"
          refine ⟨rfl, ?_⟩
          walk_at "go"
          refine r_dec (fun c => ?_) (fun c => ?_)
          · walk_at "go"
            refine r_acc (i := j) h17 hl' (by omega) fun H19 b19 h19 _ => ?_
            refine ⟨same_of_but (H := H16) e' b19 hD2, ?_⟩
            rw [take_snoc hd, List.filter_append, List.map_append]
            simp [c]
          · refine r_skip h17 hl' ⟨e', ?_⟩
            rw [take_snoc hd, List.filter_append, List.map_append]
            simp [c]
        rintro acc H17 hl17 ⟨e17, rfl⟩ h17
        rw [List.length_map, List.take_length, filter_from nso hg] at h17
        walk_at "go"
        refine r_iAt ⟨_, .of h17⟩ ?_
        have nD2 : D2 ≠ Du := fun z => by
          rw [z, s36 _ _ hL13] at hD2
          cases hD2
        have s37 := s36.trans e17
        refine r_walk (walk_list (xs := (ns.drop i).map V.int)) (fun j σ H' => ∃ (ys : List V) (v7 v8 v9 v10 v11 v12 : Option V), σ = [some (.ref p), some (.int (0 + (i0 : Int))), some (.ref D), some (.ref r), some (.ref m), some (.ref Du), some (.int g), v7, v8, v9, v10, v11, v12] ∧ Same H7 H' ∧ H' R1 = some (.lst (ns.map V.int)) ∧ H' D2 = some (.lst ((ns.drop i).map V.int)) ∧ H' Du = some (.lst ys) ∧ FzAll H' ys ((pairsI ks i ++ rowP (g, cntOf ds g) ((ks.drop i).take j)).map (bD ks))) ?_ ?_ ?_ ?_
        · exact ⟨ys, _, _, _, _, _, _, rfl, e13.trans s37, s37 _ _ hR13, h17, s37 _ _ hL13, by rw [List.take_zero]; unfold rowP; simpa using FzAll.same s37 fz13⟩
        · rintro j σ H' _ ⟨ys, v7, v8, v9, v10, v11, v12, rfl, e, hr1, hd2, _⟩
          exact .of hd2
        · rintro j x σ Hz H18 hj ⟨ys, v7, v8, v9, v10, v11, v12, rfl, e18, hR18, hD18, hL18, fz18⟩ ⟨e, hx⟩
          subst e
          obtain ⟨mt, hm, rfl⟩ := ints_at hx
          rw [List.length_map, List.length_drop] at hj
          have hmn : ns[i + j]? = some mt := by rw [List.getElem?_drop] at hm; exact hm
          have mns := List.mem_of_getElem? hmn
          have mds := nsm mns
          have km := kat hmn
          have kmd : (ks.drop i)[j]? = some (mt, cntOf ds mt) := by rw [List.getElem?_drop]; exact km
          have sn : rowP (g, cntOf ds g) ((ks.drop i).take (j + 1)) = rowP (g, cntOf ds g) ((ks.drop i).take j) ++ if mt < g ∨ 1 < cntOf ds g then [(g, mt)] else [] := by rw [take_snoc kmd, rowP_snoc]
          have mg : mt ≤ g := by
            have z : mt ∈ ns.filter fun d => decide (d ≤ g) := by rw [filter_from nso hg]; exact List.mem_of_getElem? hm
            exact of_decide_eq_true (List.mem_filter.mp z).2
          have len : ys.length ≤ 120 := by
            rw [fz18.len, List.length_map, List.length_append]
            have a1 := pairsI_length (ks := ks) (i := i) (by omega)
            have a2 := rowP_length (k := (g, cntOf ds g)) (l := (ks.drop i).take j)
            rw [List.length_take] at a2
            have a3 : i * ks.length ≤ 6 * 6 := Nat.mul_le_mul (by omega) (by omega)
            omega
          have hDs : H18 D = some (.lst (ds.map V.int)) := e18 _ _ (s57 _ _ (s5 _ _ h4))
          obtain ⟨pa, ha1, ha2, ha3⟩ := first_at gds
          obtain ⟨pj, pb, hb1, hb2, hb3, hb4, hb5, hb6⟩ := last_at mds
          walk_at "go"
          refine r_tyL (.of hDs) ?_
          walk_at "go"
          refine r_indI (.of hDs) ha1 ha2 (by omega) ?_
          walk_at "go"
          refine r_lenL (.of hDs) ?_
          walk_at "go"
          refine r_revLI (.of hDs) (r_new fun R3 H19 n19 s19 h19 => ?_)
          rw [← List.map_reverse] at h19
          walk_at "go"
          refine r_tyL (.of h19) ?_
          walk_at "go"
          refine r_indI (.of h19) hb1 hb2 (by omega) ?_
          walk_at "go"
          rw [List.length_map, show ((ds.length : Int) - 1 - (pj : Int)) = (pb : Int) by omega]
          have ends := ends_at ord ha1 ha2 hb5 hb6 mg
          refine r_dec (fun c => ?_) (fun c => ?_)
          · have ab : pa < pb := by omega
            have cc := ends.mp ab
            have e19 := e18.trans s19
            have at19 : H19 r = some (.lst (us.map fun u => V.ref u.t)) := e19 _ _ (s57 _ _ h5)
            walk_at "go"
            refine ⟨r, us, (pa : Int), (pb : Int), rfl, at19, fun u hu => ⟨(s57.trans e19) _ _ (at5 u hu).1, FzAll.same (s57.trans e19) (at5 u hu).2.1, (at5 u hu).2.2⟩, few5, fun H20 s20 => ?_⟩
            obtain ⟨q1, q2, q3, eq, eqa, eqb⟩ := split_two ha1 hb5 ab
            rw [due_word (bs := us.map fun u => decide (((pa : Int), (pb : Int)) ∈ u.ps)) kk small wb eq eqa eqb fun t => by
              rw [List.mem_map, ← stat5 pa pb t ab (by omega)]
              refine exists_congr fun u => and_congr_right fun _ => ?_
              cases t <;> simp]
            walk_at "go"
            refine r_tyL (.of (s20 _ _ (s19 _ _ hL18))) ?_
            walk_at "go"
            refine r_fits (by simp) fun T1 H21 n21 s21 h21 => ?_
            walk_at "go"
            have hL21 := s21 _ _ (s20 _ _ (s19 _ _ hL18))
            have s821 := s19.trans (s20.trans s21)
            refine r_append hL21 (by omega) (r_put fun H22 b22 h22 _ => ?_)
            have nDu7 : H7 Du = none := n8
            have e22 : Same H7 H22 := same_of_but (H := H7) (e18.trans s821) b22 nDu7
            have fz22 : FzAll H22 (ys ++ [V.ref T1]) ((pairsI ks i ++ rowP (g, cntOf ds g) ((ks.drop i).take (j + 1))).map (bD ks)) := by
              rw [sn, if_pos cc, ← List.append_assoc, List.map_append]
              exact FzAll.snoc (FzAll.kp ((Kp.same s821).trans (Kp.butL b22 hL21)) fz18) (.tup (Kp.butL b22 hL21 _ _ True.intro h21) (.cons (.int _) (.cons (.int _) (.cons (.str _) .nil))))
            have hR22 := b22 _ _ hR7 (s821 _ _ hR18)
            have hD22 := b22 _ _ nD2 (s821 _ _ hD18)
            have two1 : g ≠ mt ∨ val ks g ≠ 1 := by
              rw [val_of kk g (by unfold cntOf; omega)]
              omega
            have two2 : mt ≠ g ∨ val ks mt ≠ 1 := by
              rw [val_of kk mt (by unfold cntOf; omega)]
              by_cases z : mt = g
              · subst z; omega
              · exact .inl z
            walk_at "go"
            refine ⟨m, ks, g, mt, rfl, row7.same e22, ok, nb, vof gns, vof mns, two1, fun H23 s23 => ?_⟩
            walk_at "go"
            refine ⟨m, ks, mt, g, rfl, row7.same (e22.trans s23), ok, nb, vof mns, vof gns, two2, fun H24 s24 => ?_⟩
            rw [wordK_swap ks g mt]
            walk_at "go"
            refine ⟨V.int mt, rfl, V.int g, rfl, V.ref m, rfl, rfl, m, ks, g, mt, rfl, row7.same (e22.trans (s23.trans s24)), ok, nb, vof gns, vof mns, two1, fun H25 s25 => ?_⟩
            walk_at "go"
            refine r_fits (by simp) fun To H26 n26 s26 h26 => ?_
            walk_at "go"
            have okw := okd_word ks g mt
            have okt : Okd (.list [.str (wordK ks g mt), .str (wordK ks g mt), .str (wordK ks g mt)]) 1 40 := (Okd.lst (.cons okw (.cons okw (.cons okw .nil)))).mono (Nat.le_refl _) (by decide)
            refine r_show (.lst (.of h26) (.cons (.str _) (.cons (.str _) (.cons (.str _) .nil)))) okt (by decide) (by decide) ?_
            walk_at "go"
            refine r_fits (by simp) fun L5 H27 n27 s27 h27 => ?_
            refine r_repL h27 (by decide) (by decide) (show 1 * 3 ≤ 100000 by decide) (r_new fun L6 H28 n28 s28 h28 => ?_)
            walk_at "go"
            refine r_show (d := .list [.str (wordK ks g mt), .str (wordK ks g mt), .str (wordK ks g mt)]) (.lst (.of (show H28 L6 = some (.lst [.str (wordK ks g mt), .str (wordK ks g mt), .str (wordK ks g mt)]) from h28)) (.cons (.str _) (.cons (.str _) (.cons (.str _) .nil)))) okt (by decide) (by decide) ?_
            refine r_neL (r_neS ?_)
            walk_at "go"
            refine r_ndec (fun z => absurd rfl z) (fun _ => ?_)
            have s228 : Same H22 H28 := s23.trans (s24.trans (s25.trans (s26.trans (s27.trans s28))))
            exact ⟨_, _, _, _, _, _, _, rfl, e22.trans s228, s228 _ _ hR22, s228 _ _ hD22, s228 _ _ h22, FzAll.same s228 fz22⟩
          · refine ⟨ys, _, _, _, _, _, _, rfl, e18.trans s19, s19 _ _ hR18, s19 _ _ hD18, s19 _ _ hL18, ?_⟩
            rw [sn, if_neg (fun z => c (by have := ends.mpr z; omega)), List.append_nil]
            exact FzAll.same s19 fz18
        · rintro σ H18 ⟨ys, v7, v8, v9, v10, v11, v12, rfl, e18, hR18, hD18, hL18, fz18⟩
          refine ⟨ys, _, _, _, _, _, _, _, rfl, e18, hR18, hL18, ?_⟩
          rw [pairsI_snoc kg]
          rw [show (ks.drop i).take ((ns.drop i).map V.int).length = ks.drop i by rw [List.length_map, List.length_drop, ← lks, ← List.length_drop, List.take_length]] at fz18
          exact fz18
      · rintro σ H13 ⟨ys, v6, v7, v8, v9, v10, v11, v12, rfl, e13, hR13, hL13, fz13⟩
        rw [List.length_map, ← lks] at fz13
        walk_at "go"
        refine ⟨m, ks, rfl, row7.same e13, ok, nb, fun t1 H14 s14 f14 => ?_⟩
        walk_at "go"
        refine ⟨V.ref m, rfl, rfl, m, ks, rfl, row7.same (e13.trans s14), ok, nb, fun t2 H15 s15 f15 => ?_⟩
        walk_at "go"
        refine r_fits (by simp) fun L5 H16 n16 s16 h16 => ?_
        walk_at "go"
        have lp : (pairsI ks ks.length).length ≤ 36 := by
          have a1 := pairsI_length (ks := ks) (i := ks.length) (Nat.le_refl _)
          have a3 : ks.length * ks.length ≤ 6 * 6 := Nat.mul_le_mul (by omega) (by omega)
          omega
        have okb : Okd (.tuple ((pairsI ks ks.length).map (bD ks))) 2 600 := by
          refine (Okd.tup (OkdAll.map (f := bD ks) (n := 1) (b := 15) (pairsI ks ks.length) fun q hq => ?_)).mono (Nat.le_refl _) (by omega)
          obtain ⟨qb1, qb2⟩ := pairs_in hq
          refine (Okd.tup (.cons (Okd.int ?_) (.cons (Okd.int ?_) (.cons (okd_word ks q.1 q.2) .nil)))).mono (Nat.le_refl _) (by decide)
          · obtain ⟨k, hk, e⟩ := List.mem_map.mp qb1
            have := ok.2.2.all k hk
            exact log_small (by omega) (by omega)
          · obtain ⟨k, hk, e⟩ := List.mem_map.mp qb2
            have := ok.2.2.all k hk
            exact log_small (by omega) (by omega)
        have okl : Okd (.list [.tuple ((pairsI ks ks.length).map (bD ks)), .tuple ((pairsI ks ks.length).map (bD ks))]) 3 1300 := (Okd.lst (.cons okb (.cons okb .nil))).mono (Nat.le_refl _) (by decide)
        refine r_show (.lst (.of h16) (.cons (f14.same (s15.trans s16)).dp (.cons (f15.same s16).dp .nil))) okl (by decide) (by decide) ?_
        walk_at "go"
        have s36 := s14.trans (s15.trans s16)
        refine r_tupL (.of (s36 _ _ hL13)) (r_new fun tt H17 n17 s17 h17 => ?_)
        walk_at "go"
        refine r_fits (by simp) fun L6 H18 n18 s18 h18 => ?_
        refine r_repL h18 (by decide) (by decide) (show 1 * 2 ≤ 100000 by decide) (r_new fun L7 H19 n19 s19 h19 => ?_)
        walk_at "go"
        have s39 := s36.trans (s17.trans (s18.trans s19))
        have ft : Fz H19 (.ref tt) (.tuple ((pairsI ks ks.length).map (bD ks))) := .tup (s19 _ _ (s18 _ _ h17)) (FzAll.same s39 fz13)
        refine r_show (d := .list [.tuple ((pairsI ks ks.length).map (bD ks)), .tuple ((pairsI ks ks.length).map (bD ks))]) (.lst (.of (show H19 L7 = some (.lst [.ref tt, .ref tt]) from h19)) (.cons ft.dp (.cons ft.dp .nil))) okl (by decide) (by decide) ?_
        refine r_neL (r_neS ?_)
        walk_at "go"
        refine r_ndec (fun z => absurd rfl z) (fun _ => ?_)
        have sEnd : Same H2 H19 := s27.trans (e13.trans s39)
        exact ⟨_, _, _, _, _, _, _, _, _, _, _, _, rfl, b1.trans (b2.trans (But.same sEnd)), p2.same sEnd⟩
    · rintro σ H1 ⟨v1, v2, v3, v4, v5, v6, v7, v8, v9, v10, v11, v12, rfl, b1, p1⟩
      walk_at "go"
      exact q H1 b1 p1
end


section
variable {P : Program} {w : World} {K : PySem.W.Frag} {mg : Str → Option Value} {base : Heap} {a : Ad}
theorem ok__law_well (T : Txt w K mg a) : FnOk P w K mg base CX0 2 a.f__law_well a.d__law_well ["script", "spot"] (sp__law_well K a.C_Row) := by
  refine Fun.ok (k := 1) T.u__law_well sc__law_well (fun vs H Q E h => ?_) (fun cdv A outer s H vs Q E hr h => ?_)
  · obtain ⟨s, ns, t, rfl, _⟩ := h
    rfl
  · obtain ⟨s, ns, t, rfl, hs, few, t0, t1, q⟩ := h
    refine ⟨_, (pss_cons (ps_set (i := 2) sc__law_well.nd rfl (Or.inl rfl) (pe_op (opAddK (K := K) rfl) pe_int (pe_op opMul pe_int (pv 1))))
          (pss_cons (ps_for PassesOwn.never rfl (pi_list (pe_op (opAddK (K := K) rfl) (pe_slice (slK (K := K) rfl) (pv 0) po_none (po_some pe_int)) (pe_slice (slK (K := K) rfl) (pv 0) (po_some (pv 1)) (po_some (pe_op (opAddK (K := K) rfl) (pv 1) pe_int))))) (pg_name (i := 3) sc__law_well.nd rfl (Or.inl rfl)) (pss_one (ps_set (i := 2) sc__law_well.nd rfl (Or.inl rfl) (pe_op opMod (pe_callTy callInt (by rfl) T.b_int (by decide +kernel) (pa_cons (pe_op (opAddK (K := K) rfl) (pe_op (opAddK (K := K) rfl) (pe_op opMul (pv 2) pe_int) (pv 3)) pe_int) pa_nil)) pe_int))))
          (pss_cons (ps_set (i := 4) sc__law_well.nd rfl (Or.inl rfl) (pe_ifExp (pt_cmpR opLt (pv 1) (pe_callB (callLenK (K := K) rfl) (by rfl) T.b_len (by decide +kernel) (pa_cons (pv 0) pa_nil)) (nomark _)) (pe_ix (ixK (K := K) rfl) (pv 0) (pv 1) (fun _ _ => rfl)) pe_int))
          (pss_one (ps_ret (pe_lstN (pa_cons (pv 2) (pa_cons pe_int (pa_cons (pe_ifExp (pt_cmpR opGe (pe_callB callAbs (by rfl) T.b_abs (by decide +kernel) (pa_cons (pv 4) pa_nil)) (pe_op opPow pe_int pe_int) (nomark _)) (pe_callB callAbs (by rfl) T.b_abs (by decide +kernel) (pa_cons (pv 4) pa_nil)) pe_int) pa_nil))))))))), ?_⟩
    walk_at "go"
    refine r_mulI (mul_r (by omega) (by omega)) ?_
    walk_at "go"
    refine ⟨4, rfl, ?_⟩
    refine r_slL hs (r_new fun L1 H1 n1 s1 h1 => ?_)
    walk_at "go"
    refine ⟨t, rfl, ?_⟩
    walk_at "go"
    refine ⟨t + 1, rfl, ?_⟩
    refine r_slL (hs.butN (But.same s1) n1) (r_new fun L2 H2 n2 s2 h2 => ?_)
    walk_at "go"
    obtain ⟨ms1, em1, sub1⟩ := cut_ints ns none (some 4)
    obtain ⟨ms2, em2, sub2⟩ := cut_ints ns (some t) (some (t + 1))
    have lc := fun lo hi => cut_few (ns.map V.int) lo hi
    have l1 := lc none (some 4)
    have l2 := lc (some t) (some (t + 1))
    rw [List.length_map] at l1 l2
    refine r_addL (s2 _ _ h1) h2 (by omega) (r_new fun L3 H3 n3 s3 h3 => ?_)
    rw [em1, em2, ← List.map_append] at h3
    obtain ⟨ms, ems⟩ : ∃ ms, ms = ms1 ++ ms2 := ⟨_, rfl⟩
    rw [← ems] at h3
    refine r_iAt ⟨_, .of h3⟩ ?_
    refine r_walk (walk_list (xs := ms.map V.int)) (fun i σ H' => ∃ (st : Int) (v1 v2 : Option V), σ = [some (.ref s), some (.int t), some (.int st), v1, v2] ∧ 0 ≤ st ∧ st < 2147483629 ∧ Same H3 H') ?_ ?_ ?_ ?_
    · exact ⟨_, none, none, rfl, by omega, by omega, Same.refl H3⟩
    · rintro i σ H' _ ⟨st, v1, v2, rfl, _, _, e⟩
      exact .of (e _ _ h3)
    · rintro i x σ H4 H5 hi ⟨st, v1, v2, rfl, g0, g1, e⟩ ⟨e45, hxi⟩
      subst e45
      obtain ⟨n, hn, rfl⟩ := ints_at hxi
      walk_at "go"
      refine r_mulI (mul_r (by omega) (by omega)) ?_
      walk_at "go"
      refine r_modI (by omega) ?_
      walk_at "go"
      exact ⟨_, _, _, rfl, Int.emod_nonneg _ (by omega), Int.lt_trans (Int.emod_lt_of_pos _ (by omega)) (by omega), e⟩
    · rintro σ H4 ⟨st, v1, v2, rfl, g0, g1, e⟩
      have s04 : Same H H4 := s1.trans (s2.trans (s3.trans e))
      walk_at "go"
      refine r_lenL (hs.butN (But.same s04) n1) ?_
      walk_at "go"
      rw [List.length_map]
      refine r_dec (fun lt => ?_) (fun _ => ?_)
      case' refine_1 =>
        obtain ⟨k, rfl⟩ := Int.eq_ofNat_of_zero_le t0
        have hk : k < ns.length := by omega
        obtain ⟨own, eo⟩ : ∃ own, ns[k] = own := ⟨_, rfl⟩
        generalize hkt : (k : Int) = t at *
        walk_at "go"
        refine r_ixL (hs.butN (But.same s04) n1) (v := .int own) (by rw [← hkt]; exact atI_nat (by rw [List.getElem?_map, List.getElem?_eq_getElem hk, eo]; rfl)) ?_
      case' refine_2 =>
        obtain ⟨own, eo⟩ : ∃ own : Int, own = 0 := ⟨0, rfl⟩
        refine r_cE eo ?_
      all_goals
        walk_at "go"
        refine r_dec (fun big => ?_) (fun sm => ?_)
        case' refine_1 =>
          walk_at "go"
          obtain ⟨a0, ea, ha⟩ : ∃ a0 : Int, (if own < 0 then -own else own) = a0 ∧ 0 ≤ a0 := ⟨_, rfl, by split <;> omega⟩
          rw [ea]
        case' refine_2 =>
          obtain ⟨a0, ea, ha⟩ : ∃ a0 : Int, a0 = 0 ∧ 0 ≤ a0 := ⟨0, rfl, by omega⟩
          refine r_cE ea ?_
        all_goals
          walk_at "go"
          refine r_fits (by simp) fun p H6 n6 s6 h6 => ?_
          exact q p H6 (s04.trans s6) (Same.none s04 n6) ⟨st, 0, a0, h6, g0, g1, Int.le_refl _, ha⟩
end


section
variable {P : Program} {w : World} {K : PySem.W.Frag} {mg : Str → Option Value} {base : Heap} {a : Ad}
theorem ok_law (T : Txt w K mg a) : FnG P w K mg base CX0 18 a.f_law a.d_law ["script"] (sp_law K a.C_Row) := by
  refine funG (k := 17) T.u_law sc_law (fun vs H Q E h => ?_) (fun cdv A outer s H vs Q E hgd hr h => ?_)
  · obtain ⟨s, ns, rfl, _⟩ := h
    rfl
  · obtain ⟨s, ns, rfl, hs, few, bits, q⟩ := h
    refine ⟨_, (pss_one (ps_ret (pe_callB (callAllK (K := K) rfl rfl) (by rfl) T.b_all (by decide +kernel) (pa_cons (pe_lc (own := [("spot", 1)]) (g := (gName 1)) (by rfl) sc_law.nd (pi_range1 (by rfl) T.b_range (pa_cons pe_int pa_nil)) (blkOk_by (own := [("spot", 1)]) (N := nm_law) (sc := defScope s_law) (by decide +kernel)) (fun _ _ _ _ _ => (pg_name (i := 1) sc_law.nd rfl (Or.inl rfl))) (fun _ _ _ _ _ => pts_nil) (fun _ _ _ _ _ => (pe_callG (ok__law_right T) hgd (hr.mono (by decide)) (by rfl) T.m__law_right T.u__law_right.kp (b__law_right T) pass0 (pa_cons (pe_call (ok__law_well T) (hr.mono (by decide)) (by rfl) T.m__law_well T.u__law_well.kp (b__law_well T) .nil pass0 (pa_cons (pv 0) (pa_cons (pv 1) pa_nil))) pa_nil)))) pa_nil)))), ?_⟩
    walk_at "go"
    refine ⟨2, rfl, by decide, by decide, ?_⟩
    intro D hD
    refine r_lcw (walk_range (lo := 0) (n := 2)) hD (fun i acc H' => But D H H' ∧ acc = (List.replicate i true).map V.bl) ?_ ?_ ?_ ?_
    · intro H' s' _
      exact ⟨But.same s', rfl⟩
    · intro i acc H' _ _ _
      exact True.intro
    · rintro i x acc H1 H2 hi hl ⟨k1, rfl⟩ h1 ⟨e, rfl⟩
      subst e
      walk_at "go"
      refine ⟨rfl, ?_⟩
      walk_at "go"
      refine ⟨s, ns, _, rfl, hs.butN k1 hD, few, by omega, by omega, fun p H3 s3 n3 p3 => ?_⟩
      walk_at "go"
      refine ⟨p, rfl, p3, fun H4 b4 p4 => ?_⟩
      have nDp : D ≠ p := ne_of_none h1 n3
      refine r_acc (i := i) (b4 _ _ nDp (s3 _ _ h1)) hl (by omega) fun H5 b5 h5 _ => ?_
      refine ⟨?_, by rw [List.replicate_succ', List.map_append]; rfl⟩
      intro b u nb hb
      have hb1 := k1 b u nb hb
      exact b5 _ _ nb (b4 _ _ (ne_of_none hb1 n3) (s3 _ _ hb1))
    · rintro acc H1 hl ⟨k1, rfl⟩ h1
      walk_at "go"
      refine r_all (.of h1) ?_
      exact q H1
end

end Dg
namespace Dg
open PySem PySem.Spec PyProof.Rows L2
theorem all_mk {l : PySem.W.OpenLaw} {w : World} {K : PySem.W.Frag} {h : Heap} {mg : Str → Option Value} {fa f0 f1 f2 f3 f4 f5 f6 f7 f8 f9 f10 f11 f12 f13 f14 f15 p15 f16 f17 f18 f19 f20 f21 f22 f23 f24 f25 f26 f27 f28 f29 f30 f31 f32 f33 C : Addr} {r15 : List Value} (X : K.In h) (G : h.Ns mainGlobals mg) (hfa : mg "law" = some (.ref fa))
    {oc0 kV0 dc0 pm0 cd0 ct0 : Value} {od0 an0 : Option Addr} {sl0 : Array (Option Value)}
    {oc1 kV1 dc1 pm1 cd1 ct1 : Value} {od1 an1 : Option Addr} {sl1 : Array (Option Value)}
    {oc2 kV2 dc2 pm2 cd2 ct2 : Value} {od2 an2 : Option Addr} {sl2 : Array (Option Value)}
    {oc3 kV3 dc3 pm3 cd3 ct3 : Value} {od3 an3 : Option Addr} {sl3 : Array (Option Value)}
    {oc4 kV4 dc4 pm4 cd4 ct4 : Value} {od4 an4 : Option Addr} {sl4 : Array (Option Value)}
    {oc5 kV5 dc5 pm5 cd5 ct5 : Value} {od5 an5 : Option Addr} {sl5 : Array (Option Value)}
    {oc6 kV6 dc6 pm6 cd6 ct6 : Value} {od6 an6 : Option Addr} {sl6 : Array (Option Value)}
    {oc7 kV7 dc7 pm7 cd7 ct7 : Value} {od7 an7 : Option Addr} {sl7 : Array (Option Value)}
    {oc8 kV8 dc8 pm8 cd8 ct8 : Value} {od8 an8 : Option Addr} {sl8 : Array (Option Value)}
    {oc9 kV9 dc9 pm9 cd9 ct9 : Value} {od9 an9 : Option Addr} {sl9 : Array (Option Value)}
    {oc10 kV10 dc10 pm10 cd10 ct10 : Value} {od10 an10 : Option Addr} {sl10 : Array (Option Value)}
    {oc11 kV11 dc11 pm11 cd11 ct11 : Value} {od11 an11 : Option Addr} {sl11 : Array (Option Value)}
    {oc12 kV12 dc12 pm12 cd12 ct12 : Value} {od12 an12 : Option Addr} {sl12 : Array (Option Value)}
    {oc13 kV13 dc13 pm13 cd13 ct13 : Value} {od13 an13 : Option Addr} {sl13 : Array (Option Value)}
    {oc14 kV14 dc14 pm14 cd14 ct14 : Value} {od14 an14 : Option Addr} {sl14 : Array (Option Value)}
    {oc15 kV15 dc15 pm15 cd15 ct15 : Value} {od15 an15 : Option Addr} {sl15 : Array (Option Value)}
    {oc16 kV16 dc16 pm16 cd16 ct16 : Value} {od16 an16 : Option Addr} {sl16 : Array (Option Value)}
    {oc17 kV17 dc17 pm17 cd17 ct17 : Value} {od17 an17 : Option Addr} {sl17 : Array (Option Value)}
    {oc18 kV18 dc18 pm18 cd18 ct18 : Value} {od18 an18 : Option Addr} {sl18 : Array (Option Value)}
    {oc19 kV19 dc19 pm19 cd19 ct19 : Value} {od19 an19 : Option Addr} {sl19 : Array (Option Value)}
    {oc20 kV20 dc20 pm20 cd20 ct20 : Value} {od20 an20 : Option Addr} {sl20 : Array (Option Value)}
    {oc21 kV21 dc21 pm21 cd21 ct21 : Value} {od21 an21 : Option Addr} {sl21 : Array (Option Value)}
    {oc22 kV22 dc22 pm22 cd22 ct22 : Value} {od22 an22 : Option Addr} {sl22 : Array (Option Value)}
    {oc23 kV23 dc23 pm23 cd23 ct23 : Value} {od23 an23 : Option Addr} {sl23 : Array (Option Value)}
    {oc24 kV24 dc24 pm24 cd24 ct24 : Value} {od24 an24 : Option Addr} {sl24 : Array (Option Value)}
    {oc25 kV25 dc25 pm25 cd25 ct25 : Value} {od25 an25 : Option Addr} {sl25 : Array (Option Value)}
    {oc26 kV26 dc26 pm26 cd26 ct26 : Value} {od26 an26 : Option Addr} {sl26 : Array (Option Value)}
    {oc27 kV27 dc27 pm27 cd27 ct27 : Value} {od27 an27 : Option Addr} {sl27 : Array (Option Value)}
    {oc28 kV28 dc28 pm28 cd28 ct28 : Value} {od28 an28 : Option Addr} {sl28 : Array (Option Value)}
    {oc29 kV29 dc29 pm29 cd29 ct29 : Value} {od29 an29 : Option Addr} {sl29 : Array (Option Value)}
    {oc30 kV30 dc30 pm30 cd30 ct30 : Value} {od30 an30 : Option Addr} {sl30 : Array (Option Value)}
    {oc31 kV31 dc31 pm31 cd31 ct31 : Value} {od31 an31 : Option Addr} {sl31 : Array (Option Value)}
    {oc32 kV32 dc32 pm32 cd32 ct32 : Value} {od32 an32 : Option Addr} {sl32 : Array (Option Value)}
    {oc33 kV33 dc33 pm33 cd33 ct33 : Value} {od33 an33 : Option Addr} {sl33 : Array (Option Value)}
    {tk0 : Tok}
    {tk1 : Tok}
    {tk2 : Tok}
    (aC : PySem.W.nsIn K mainGlobals "Row" = some (some (.ref C)))
    (a0 : PySem.W.nsIn K mainGlobals "is_filled" = some (some (.ref f0)))
    (l0 : K.lookup f0 = some ⟨oc0, od0, .func (PySem.W.fnOf "is_filled" "is_filled" (defArgs s_is_filled) (defBody s_is_filled) (defScope s_is_filled) .none kV0 dc0 pm0 an0 cd0 ct0), sl0⟩)
    (c0 : PySem.W.codeIn K cd0 "is_filled" = true)
    (k0 : PySem.W.keepIn K (.ref f0) = true)
    (a1 : PySem.W.nsIn K mainGlobals "is_integer" = some (some (.ref f1)))
    (l1 : K.lookup f1 = some ⟨oc1, od1, .func (PySem.W.fnOf "is_integer" "is_integer" (defArgs s_is_integer) (defBody s_is_integer) (defScope s_is_integer) .none kV1 dc1 pm1 an1 cd1 ct1), sl1⟩)
    (c1 : PySem.W.codeIn K cd1 "is_integer" = true)
    (k1 : PySem.W.keepIn K (.ref f1) = true)
    (a2 : PySem.W.nsIn K mainGlobals "is_between" = some (some (.ref f2)))
    (l2 : K.lookup f2 = some ⟨oc2, od2, .func (PySem.W.fnOf "is_between" "is_between" (defArgs s_is_between) (defBody s_is_between) (defScope s_is_between) .none kV2 dc2 pm2 an2 cd2 ct2), sl2⟩)
    (c2 : PySem.W.codeIn K cd2 "is_between" = true)
    (k2 : PySem.W.keepIn K (.ref f2) = true)
    (a3 : PySem.W.nsIn K mainGlobals "is_pair" = some (some (.ref f3)))
    (l3 : K.lookup f3 = some ⟨oc3, od3, .func (PySem.W.fnOf "is_pair" "is_pair" (defArgs s_is_pair) (defBody s_is_pair) (defScope s_is_pair) .none kV3 dc3 pm3 an3 cd3 ct3), sl3⟩)
    (c3 : PySem.W.codeIn K cd3 "is_pair" = true)
    (k3 : PySem.W.keepIn K (.ref f3) = true)
    (a4 : PySem.W.nsIn K mainGlobals "is_kind" = some (some (.ref f4)))
    (l4 : K.lookup f4 = some ⟨oc4, od4, .func (PySem.W.fnOf "is_kind" "is_kind" (defArgs s_is_kind) (defBody s_is_kind) (defScope s_is_kind) .none kV4 dc4 pm4 an4 cd4 ct4), sl4⟩)
    (c4 : PySem.W.codeIn K cd4 "is_kind" = true)
    (k4 : PySem.W.keepIn K (.ref f4) = true)
    (a5 : PySem.W.nsIn K mainGlobals "wrong_kind" = some (some (.ref f5)))
    (l5 : K.lookup f5 = some ⟨oc5, od5, .func (PySem.W.fnOf "wrong_kind" "wrong_kind" (defArgs s_wrong_kind) (defBody s_wrong_kind) (defScope s_wrong_kind) .none kV5 dc5 pm5 an5 cd5 ct5), sl5⟩)
    (c5 : PySem.W.codeIn K cd5 "wrong_kind" = true)
    (k5 : PySem.W.keepIn K (.ref f5) = true)
    (a6 : PySem.W.nsIn K mainGlobals "are_kinds" = some (some (.ref f6)))
    (l6 : K.lookup f6 = some ⟨oc6, od6, .func (PySem.W.fnOf "are_kinds" "are_kinds" (defArgs s_are_kinds) (defBody s_are_kinds) (defScope s_are_kinds) .none kV6 dc6 pm6 an6 cd6 ct6), sl6⟩)
    (c6 : PySem.W.codeIn K cd6 "are_kinds" = true)
    (k6 : PySem.W.keepIn K (.ref f6) = true)
    (a7 : PySem.W.findIn K (.ref C) "__init__" = some (some (.ref f7)))
    (n7 : PySem.W.isFn K (.ref f7) = true)
    (l7 : K.lookup f7 = some ⟨oc7, od7, .func (PySem.W.fnOf "__init__" "Row.__init__" (defArgs s_Row___init__) (defBody s_Row___init__) (defScope s_Row___init__) .none kV7 dc7 pm7 an7 cd7 ct7), sl7⟩)
    (c7 : PySem.W.codeIn K cd7 "Row.__init__" = true)
    (k7 : PySem.W.keepIn K (.ref f7) = true)
    (a8 : PySem.W.nsIn K mainGlobals "_law_due" = some (some (.ref f8)))
    (l8 : K.lookup f8 = some ⟨oc8, od8, .func (PySem.W.fnOf "_law_due" "_law_due" (defArgs s__law_due) (defBody s__law_due) (defScope s__law_due) .none kV8 dc8 pm8 an8 cd8 ct8), sl8⟩)
    (c8 : PySem.W.codeIn K cd8 "_law_due" = true)
    (k8 : PySem.W.keepIn K (.ref f8) = true)
    (a9 : PySem.W.nsIn K mainGlobals "_law_draw" = some (some (.ref f9)))
    (l9 : K.lookup f9 = some ⟨oc9, od9, .func (PySem.W.fnOf "_law_draw" "_law_draw" (defArgs s__law_draw) (defBody s__law_draw) (defScope s__law_draw) .none kV9 dc9 pm9 an9 cd9 ct9), sl9⟩)
    (c9 : PySem.W.codeIn K cd9 "_law_draw" = true)
    (k9 : PySem.W.keepIn K (.ref f9) = true)
    (a10 : PySem.W.nsIn K mainGlobals "_law_pick" = some (some (.ref f10)))
    (l10 : K.lookup f10 = some ⟨oc10, od10, .func (PySem.W.fnOf "_law_pick" "_law_pick" (defArgs s__law_pick) (defBody s__law_pick) (defScope s__law_pick) .none kV10 dc10 pm10 an10 cd10 ct10), sl10⟩)
    (c10 : PySem.W.codeIn K cd10 "_law_pick" = true)
    (k10 : PySem.W.keepIn K (.ref f10) = true)
    (a11 : PySem.W.nsIn K mainGlobals "_law_listed" = some (some (.ref f11)))
    (l11 : K.lookup f11 = some ⟨oc11, od11, .func (PySem.W.fnOf "_law_listed" "_law_listed" (defArgs s__law_listed) (defBody s__law_listed) (defScope s__law_listed) .none kV11 dc11 pm11 an11 cd11 ct11), sl11⟩)
    (c11 : PySem.W.codeIn K cd11 "_law_listed" = true)
    (k11 : PySem.W.keepIn K (.ref f11) = true)
    (a12 : PySem.W.nsIn K mainGlobals "_law_lots" = some (some (.ref f12)))
    (l12 : K.lookup f12 = some ⟨oc12, od12, .func (PySem.W.fnOf "_law_lots" "_law_lots" (defArgs s__law_lots) (defBody s__law_lots) (defScope s__law_lots) .none kV12 dc12 pm12 an12 cd12 ct12), sl12⟩)
    (c12 : PySem.W.codeIn K cd12 "_law_lots" = true)
    (k12 : PySem.W.keepIn K (.ref f12) = true)
    (a13 : PySem.W.nsIn K mainGlobals "_law_choices" = some (some (.ref f13)))
    (l13 : K.lookup f13 = some ⟨oc13, od13, .func (PySem.W.fnOf "_law_choices" "_law_choices" (defArgs s__law_choices) (defBody s__law_choices) (defScope s__law_choices) .none kV13 dc13 pm13 an13 cd13 ct13), sl13⟩)
    (c13 : PySem.W.codeIn K cd13 "_law_choices" = true)
    (k13 : PySem.W.keepIn K (.ref f13) = true)
    (a14 : PySem.W.nsIn K mainGlobals "_law_webs" = some (some (.ref f14)))
    (l14 : K.lookup f14 = some ⟨oc14, od14, .func (PySem.W.fnOf "_law_webs" "_law_webs" (defArgs s__law_webs) (defBody s__law_webs) (defScope s__law_webs) .none kV14 dc14 pm14 an14 cd14 ct14), sl14⟩)
    (c14 : PySem.W.codeIn K cd14 "_law_webs" = true)
    (k14 : PySem.W.keepIn K (.ref f14) = true)
    (a15 : PySem.W.findIn K (.ref C) "kinds" = some (some (.ref p15)))
    (gq15 : PySem.W.specialIn K (.ref p15) "__get__" = some (some (.builtin "property.__get__")))
    (t15 : PySem.W.takesIn K (.ref p15) = some true)
    (r15h : PySem.W.recIn K p15 "property" = some (.ref f15 :: r15))
    (l15 : K.lookup f15 = some ⟨oc15, od15, .func (PySem.W.fnOf "kinds" "Row.kinds" (defArgs s_Row_kinds) (defBody s_Row_kinds) (defScope s_Row_kinds) .none kV15 dc15 pm15 an15 cd15 ct15), sl15⟩)
    (c15 : PySem.W.codeIn K cd15 "Row.kinds" = true)
    (k15 : PySem.W.keepIn K (.ref f15) = true)
    (a16 : PySem.W.nsIn K mainGlobals "ends_of" = some (some (.ref f16)))
    (l16 : K.lookup f16 = some ⟨oc16, od16, .func (PySem.W.fnOf "ends_of" "ends_of" (defArgs s_ends_of) (defBody s_ends_of) (defScope s_ends_of) .none kV16 dc16 pm16 an16 cd16 ct16), sl16⟩)
    (c16 : PySem.W.codeIn K cd16 "ends_of" = true)
    (k16 : PySem.W.keepIn K (.ref f16) = true)
    (a17 : PySem.W.nsIn K mainGlobals "room_of_kinds" = some (some (.ref f17)))
    (l17 : K.lookup f17 = some ⟨oc17, od17, .func (PySem.W.fnOf "room_of_kinds" "room_of_kinds" (defArgs s_room_of_kinds) (defBody s_room_of_kinds) (defScope s_room_of_kinds) .none kV17 dc17 pm17 an17 cd17 ct17), sl17⟩)
    (c17 : PySem.W.codeIn K cd17 "room_of_kinds" = true)
    (k17 : PySem.W.keepIn K (.ref f17) = true)
    (a18 : PySem.W.nsIn K mainGlobals "turns" = some (some (.ref f18)))
    (l18 : K.lookup f18 = some ⟨oc18, od18, .func (PySem.W.fnOf "turns" "turns" (defArgs s_turns) (defBody s_turns) (defScope s_turns) .none kV18 dc18 pm18 an18 cd18 ct18), sl18⟩)
    (c18 : PySem.W.codeIn K cd18 "turns" = true)
    (k18 : PySem.W.keepIn K (.ref f18) = true)
    (a19 : PySem.W.nsIn K mainGlobals "barred_kinds" = some (some (.ref f19)))
    (l19 : K.lookup f19 = some ⟨oc19, od19, .func (PySem.W.fnOf "barred_kinds" "barred_kinds" (defArgs s_barred_kinds) (defBody s_barred_kinds) (defScope s_barred_kinds) .none kV19 dc19 pm19 an19 cd19 ct19), sl19⟩)
    (c19 : PySem.W.codeIn K cd19 "barred_kinds" = true)
    (k19 : PySem.W.keepIn K (.ref f19) = true)
    (a20 : PySem.W.nsIn K mainGlobals "kinds_can_be" = some (some (.ref f20)))
    (l20 : K.lookup f20 = some ⟨oc20, od20, .func (PySem.W.fnOf "kinds_can_be" "kinds_can_be" (defArgs s_kinds_can_be) (defBody s_kinds_can_be) (defScope s_kinds_can_be) .none kV20 dc20 pm20 an20 cd20 ct20), sl20⟩)
    (c20 : PySem.W.codeIn K cd20 "kinds_can_be" = true)
    (k20 : PySem.W.keepIn K (.ref f20) = true)
    (a21 : PySem.W.nsIn K mainGlobals "counted_kinds" = some (some (.ref f21)))
    (l21 : K.lookup f21 = some ⟨oc21, od21, .func (PySem.W.fnOf "counted_kinds" "counted_kinds" (defArgs s_counted_kinds) (defBody s_counted_kinds) (defScope s_counted_kinds) .none kV21 dc21 pm21 an21 cd21 ct21), sl21⟩)
    (c21 : PySem.W.codeIn K cd21 "counted_kinds" = true)
    (k21 : PySem.W.keepIn K (.ref f21) = true)
    (a22 : PySem.W.nsIn K mainGlobals "moved_kinds" = some (some (.ref f22)))
    (l22 : K.lookup f22 = some ⟨oc22, od22, .func (PySem.W.fnOf "moved_kinds" "moved_kinds" (defArgs s_moved_kinds) (defBody s_moved_kinds) (defScope s_moved_kinds) .none kV22 dc22 pm22 an22 cd22 ct22), sl22⟩)
    (c22 : PySem.W.codeIn K cd22 "moved_kinds" = true)
    (k22 : PySem.W.keepIn K (.ref f22) = true)
    (a23 : PySem.W.nsIn K mainGlobals "_word" = some (some (.ref f23)))
    (l23 : K.lookup f23 = some ⟨oc23, od23, .func (PySem.W.fnOf "_word" "_word" (defArgs s__word) (defBody s__word) (defScope s__word) .none kV23 dc23 pm23 an23 cd23 ct23), sl23⟩)
    (c23 : PySem.W.codeIn K cd23 "_word" = true)
    (k23 : PySem.W.keepIn K (.ref f23) = true)
    (a24 : PySem.W.nsIn K mainGlobals "need_can_be" = some (some (.ref f24)))
    (l24 : K.lookup f24 = some ⟨oc24, od24, .func (PySem.W.fnOf "need_can_be" "need_can_be" (defArgs s_need_can_be) (defBody s_need_can_be) (defScope s_need_can_be) .none kV24 dc24 pm24 an24 cd24 ct24), sl24⟩)
    (c24 : PySem.W.codeIn K cd24 "need_can_be" = true)
    (k24 : PySem.W.keepIn K (.ref f24) = true)
    (a25 : PySem.W.findIn K (.ref C) "count" = some (some (.ref f25)))
    (n25 : PySem.W.isFn K (.ref f25) = true)
    (l25 : K.lookup f25 = some ⟨oc25, od25, .func (PySem.W.fnOf "count" "Row.count" (defArgs s_Row_count) (defBody s_Row_count) (defScope s_Row_count) .none kV25 dc25 pm25 an25 cd25 ct25), sl25⟩)
    (c25 : PySem.W.codeIn K cd25 "Row.count" = true)
    (k25 : PySem.W.keepIn K (.ref f25) = true)
    (a26 : PySem.W.nsIn K mainGlobals "has_places" = some (some (.ref f26)))
    (l26 : K.lookup f26 = some ⟨oc26, od26, .func (PySem.W.fnOf "has_places" "has_places" (defArgs s_has_places) (defBody s_has_places) (defScope s_has_places) .none kV26 dc26 pm26 an26 cd26 ct26), sl26⟩)
    (c26 : PySem.W.codeIn K cd26 "has_places" = true)
    (k26 : PySem.W.keepIn K (.ref f26) = true)
    (a27 : PySem.W.nsIn K mainGlobals "need_places" = some (some (.ref f27)))
    (l27 : K.lookup f27 = some ⟨oc27, od27, .func (PySem.W.fnOf "need_places" "need_places" (defArgs s_need_places) (defBody s_need_places) (defScope s_need_places) .none kV27 dc27 pm27 an27 cd27 ct27), sl27⟩)
    (c27 : PySem.W.codeIn K cd27 "need_places" = true)
    (k27 : PySem.W.keepIn K (.ref f27) = true)
    (a28 : PySem.W.nsIn K mainGlobals "need_row" = some (some (.ref f28)))
    (l28 : K.lookup f28 = some ⟨oc28, od28, .func (PySem.W.fnOf "need_row" "need_row" (defArgs s_need_row) (defBody s_need_row) (defScope s_need_row) .none kV28 dc28 pm28 an28 cd28 ct28), sl28⟩)
    (c28 : PySem.W.codeIn K cd28 "need_row" = true)
    (k28 : PySem.W.keepIn K (.ref f28) = true)
    (a29 : PySem.W.nsIn K mainGlobals "bond" = some (some (.ref f29)))
    (l29 : K.lookup f29 = some ⟨oc29, od29, .func (PySem.W.fnOf "bond" "bond" (defArgs s_bond) (defBody s_bond) (defScope s_bond) .none kV29 dc29 pm29 an29 cd29 ct29), sl29⟩)
    (c29 : PySem.W.codeIn K cd29 "bond" = true)
    (k29 : PySem.W.keepIn K (.ref f29) = true)
    (a30 : PySem.W.nsIn K mainGlobals "bonds" = some (some (.ref f30)))
    (l30 : K.lookup f30 = some ⟨oc30, od30, .func (PySem.W.fnOf "bonds" "bonds" (defArgs s_bonds) (defBody s_bonds) (defScope s_bonds) .none kV30 dc30 pm30 an30 cd30 ct30), sl30⟩)
    (c30 : PySem.W.codeIn K cd30 "bonds" = true)
    (k30 : PySem.W.keepIn K (.ref f30) = true)
    (a31 : PySem.W.nsIn K mainGlobals "_law_right" = some (some (.ref f31)))
    (l31 : K.lookup f31 = some ⟨oc31, od31, .func (PySem.W.fnOf "_law_right" "_law_right" (defArgs s__law_right) (defBody s__law_right) (defScope s__law_right) .none kV31 dc31 pm31 an31 cd31 ct31), sl31⟩)
    (c31 : PySem.W.codeIn K cd31 "_law_right" = true)
    (k31 : PySem.W.keepIn K (.ref f31) = true)
    (a32 : PySem.W.nsIn K mainGlobals "_law_well" = some (some (.ref f32)))
    (l32 : K.lookup f32 = some ⟨oc32, od32, .func (PySem.W.fnOf "_law_well" "_law_well" (defArgs s__law_well) (defBody s__law_well) (defScope s__law_well) .none kV32 dc32 pm32 an32 cd32 ct32), sl32⟩)
    (c32 : PySem.W.codeIn K cd32 "_law_well" = true)
    (k32 : PySem.W.keepIn K (.ref f32) = true)
    (a33 : PySem.W.nsIn K mainGlobals "law" = some (some (.ref f33)))
    (l33 : K.lookup f33 = some ⟨oc33, od33, .func (PySem.W.fnOf "law" "law" (defArgs s_law) (defBody s_law) (defScope s_law) .none kV33 dc33 pm33 an33 cd33 ct33), sl33⟩)
    (c33 : PySem.W.codeIn K cd33 "law" = true)
    (k33 : PySem.W.keepIn K (.ref f33) = true)
    (z_abs : PySem.W.nsIn K mainGlobals "abs" = some none)
    (z_all : PySem.W.nsIn K mainGlobals "all" = some none)
    (z_bool : PySem.W.nsIn K mainGlobals "bool" = some none)
    (z_divmod : PySem.W.nsIn K mainGlobals "divmod" = some none)
    (z_enumerate : PySem.W.nsIn K mainGlobals "enumerate" = some none)
    (z_int : PySem.W.nsIn K mainGlobals "int" = some none)
    (z_isinstance : PySem.W.nsIn K mainGlobals "isinstance" = some none)
    (z_len : PySem.W.nsIn K mainGlobals "len" = some none)
    (z_list : PySem.W.nsIn K mainGlobals "list" = some none)
    (z_max : PySem.W.nsIn K mainGlobals "max" = some none)
    (z_min : PySem.W.nsIn K mainGlobals "min" = some none)
    (z_range : PySem.W.nsIn K mainGlobals "range" = some none)
    (z_repr : PySem.W.nsIn K mainGlobals "repr" = some none)
    (z_set : PySem.W.nsIn K mainGlobals "set" = some none)
    (z_sorted : PySem.W.nsIn K mainGlobals "sorted" = some none)
    (z_sum : PySem.W.nsIn K mainGlobals "sum" = some none)
    (z_tuple : PySem.W.nsIn K mainGlobals "tuple" = some none)
    (q0 : PySem.W.nsIn K mainGlobals "MOST_COUNT" = some (some (.int 1000000000000000000000000000000 tk0)))
    (q1 : PySem.W.nsIn K mainGlobals "MOST_DEGREE" = some (some (.int 10000000000000000000000000000000 tk1)))
    (q2 : PySem.W.nsIn K mainGlobals "MOST_KINDS" = some (some (.int 10 tk2)))
    (pg : PySem.W.plainGet K C Str.empty = true)
    (hd : PySem.W.hasDictIn K C = true)
    (po : PySem.W.plainOver K C = true)
    (sa : PySem.W.findIn K (.ref C) "__setattr__" = some (some (.builtin "object.__setattr__")))
    (nK : PySem.W.findIn K (.ref C) "_kinds" = some none)
    (mk : PySem.W.makesIn K C = true)
    (kc : PySem.W.keepIn K (.ref C) = true)
    (e2 : PySem.W.findIn K (.ref C) "__class__" = some (some (.builtin "object.__class__")))
    (e3 : PySem.W.specialIn K (.builtin "object.__class__") "__get__" = some (some (.builtin "getset_descriptor.__get__")))
    (e4 : PySem.W.takesIn K (.builtin "object.__class__") = some true)
    (e5 : PySem.W.mroIn K C (.type "object") = some true)
    : ∃ fd : FuncData, (∀ (s : Shared) (u : Value), BindsTo s fd ⟨[u], []⟩ [("script", u)]) ∧ ∀ base : Heap, K.In base → base.Ns mainGlobals mg → FnG l.prog w K mg base CX0 18 fa fd ["script"] (sp_law K 0) := by
  have e := hfa.symm.trans (PySem.W.mg_of X G a33)
  cases e
  have T : Txt w K mg { f_is_filled := f0, d_is_filled := PySem.W.fnOf "is_filled" "is_filled" (defArgs s_is_filled) (defBody s_is_filled) (defScope s_is_filled) .none kV0 dc0 pm0 an0 cd0 ct0, f_is_integer := f1, d_is_integer := PySem.W.fnOf "is_integer" "is_integer" (defArgs s_is_integer) (defBody s_is_integer) (defScope s_is_integer) .none kV1 dc1 pm1 an1 cd1 ct1, f_is_between := f2, d_is_between := PySem.W.fnOf "is_between" "is_between" (defArgs s_is_between) (defBody s_is_between) (defScope s_is_between) .none kV2 dc2 pm2 an2 cd2 ct2, f_is_pair := f3, d_is_pair := PySem.W.fnOf "is_pair" "is_pair" (defArgs s_is_pair) (defBody s_is_pair) (defScope s_is_pair) .none kV3 dc3 pm3 an3 cd3 ct3, f_is_kind := f4, d_is_kind := PySem.W.fnOf "is_kind" "is_kind" (defArgs s_is_kind) (defBody s_is_kind) (defScope s_is_kind) .none kV4 dc4 pm4 an4 cd4 ct4, f_wrong_kind := f5, d_wrong_kind := PySem.W.fnOf "wrong_kind" "wrong_kind" (defArgs s_wrong_kind) (defBody s_wrong_kind) (defScope s_wrong_kind) .none kV5 dc5 pm5 an5 cd5 ct5, f_are_kinds := f6, d_are_kinds := PySem.W.fnOf "are_kinds" "are_kinds" (defArgs s_are_kinds) (defBody s_are_kinds) (defScope s_are_kinds) .none kV6 dc6 pm6 an6 cd6 ct6, f_Row___init__ := f7, d_Row___init__ := PySem.W.fnOf "__init__" "Row.__init__" (defArgs s_Row___init__) (defBody s_Row___init__) (defScope s_Row___init__) .none kV7 dc7 pm7 an7 cd7 ct7, f__law_due := f8, d__law_due := PySem.W.fnOf "_law_due" "_law_due" (defArgs s__law_due) (defBody s__law_due) (defScope s__law_due) .none kV8 dc8 pm8 an8 cd8 ct8, f__law_draw := f9, d__law_draw := PySem.W.fnOf "_law_draw" "_law_draw" (defArgs s__law_draw) (defBody s__law_draw) (defScope s__law_draw) .none kV9 dc9 pm9 an9 cd9 ct9, f__law_pick := f10, d__law_pick := PySem.W.fnOf "_law_pick" "_law_pick" (defArgs s__law_pick) (defBody s__law_pick) (defScope s__law_pick) .none kV10 dc10 pm10 an10 cd10 ct10, f__law_listed := f11, d__law_listed := PySem.W.fnOf "_law_listed" "_law_listed" (defArgs s__law_listed) (defBody s__law_listed) (defScope s__law_listed) .none kV11 dc11 pm11 an11 cd11 ct11, f__law_lots := f12, d__law_lots := PySem.W.fnOf "_law_lots" "_law_lots" (defArgs s__law_lots) (defBody s__law_lots) (defScope s__law_lots) .none kV12 dc12 pm12 an12 cd12 ct12, f__law_choices := f13, d__law_choices := PySem.W.fnOf "_law_choices" "_law_choices" (defArgs s__law_choices) (defBody s__law_choices) (defScope s__law_choices) .none kV13 dc13 pm13 an13 cd13 ct13, f__law_webs := f14, d__law_webs := PySem.W.fnOf "_law_webs" "_law_webs" (defArgs s__law_webs) (defBody s__law_webs) (defScope s__law_webs) .none kV14 dc14 pm14 an14 cd14 ct14, f_Row_kinds := f15, d_Row_kinds := PySem.W.fnOf "kinds" "Row.kinds" (defArgs s_Row_kinds) (defBody s_Row_kinds) (defScope s_Row_kinds) .none kV15 dc15 pm15 an15 cd15 ct15, p_Row_kinds := p15, f_ends_of := f16, d_ends_of := PySem.W.fnOf "ends_of" "ends_of" (defArgs s_ends_of) (defBody s_ends_of) (defScope s_ends_of) .none kV16 dc16 pm16 an16 cd16 ct16, f_room_of_kinds := f17, d_room_of_kinds := PySem.W.fnOf "room_of_kinds" "room_of_kinds" (defArgs s_room_of_kinds) (defBody s_room_of_kinds) (defScope s_room_of_kinds) .none kV17 dc17 pm17 an17 cd17 ct17, f_turns := f18, d_turns := PySem.W.fnOf "turns" "turns" (defArgs s_turns) (defBody s_turns) (defScope s_turns) .none kV18 dc18 pm18 an18 cd18 ct18, f_barred_kinds := f19, d_barred_kinds := PySem.W.fnOf "barred_kinds" "barred_kinds" (defArgs s_barred_kinds) (defBody s_barred_kinds) (defScope s_barred_kinds) .none kV19 dc19 pm19 an19 cd19 ct19, f_kinds_can_be := f20, d_kinds_can_be := PySem.W.fnOf "kinds_can_be" "kinds_can_be" (defArgs s_kinds_can_be) (defBody s_kinds_can_be) (defScope s_kinds_can_be) .none kV20 dc20 pm20 an20 cd20 ct20, f_counted_kinds := f21, d_counted_kinds := PySem.W.fnOf "counted_kinds" "counted_kinds" (defArgs s_counted_kinds) (defBody s_counted_kinds) (defScope s_counted_kinds) .none kV21 dc21 pm21 an21 cd21 ct21, f_moved_kinds := f22, d_moved_kinds := PySem.W.fnOf "moved_kinds" "moved_kinds" (defArgs s_moved_kinds) (defBody s_moved_kinds) (defScope s_moved_kinds) .none kV22 dc22 pm22 an22 cd22 ct22, f__word := f23, d__word := PySem.W.fnOf "_word" "_word" (defArgs s__word) (defBody s__word) (defScope s__word) .none kV23 dc23 pm23 an23 cd23 ct23, f_need_can_be := f24, d_need_can_be := PySem.W.fnOf "need_can_be" "need_can_be" (defArgs s_need_can_be) (defBody s_need_can_be) (defScope s_need_can_be) .none kV24 dc24 pm24 an24 cd24 ct24, f_Row_count := f25, d_Row_count := PySem.W.fnOf "count" "Row.count" (defArgs s_Row_count) (defBody s_Row_count) (defScope s_Row_count) .none kV25 dc25 pm25 an25 cd25 ct25, f_has_places := f26, d_has_places := PySem.W.fnOf "has_places" "has_places" (defArgs s_has_places) (defBody s_has_places) (defScope s_has_places) .none kV26 dc26 pm26 an26 cd26 ct26, f_need_places := f27, d_need_places := PySem.W.fnOf "need_places" "need_places" (defArgs s_need_places) (defBody s_need_places) (defScope s_need_places) .none kV27 dc27 pm27 an27 cd27 ct27, f_need_row := f28, d_need_row := PySem.W.fnOf "need_row" "need_row" (defArgs s_need_row) (defBody s_need_row) (defScope s_need_row) .none kV28 dc28 pm28 an28 cd28 ct28, f_bond := f29, d_bond := PySem.W.fnOf "bond" "bond" (defArgs s_bond) (defBody s_bond) (defScope s_bond) .none kV29 dc29 pm29 an29 cd29 ct29, f_bonds := f30, d_bonds := PySem.W.fnOf "bonds" "bonds" (defArgs s_bonds) (defBody s_bonds) (defScope s_bonds) .none kV30 dc30 pm30 an30 cd30 ct30, f__law_right := f31, d__law_right := PySem.W.fnOf "_law_right" "_law_right" (defArgs s__law_right) (defBody s__law_right) (defScope s__law_right) .none kV31 dc31 pm31 an31 cd31 ct31, f__law_well := f32, d__law_well := PySem.W.fnOf "_law_well" "_law_well" (defArgs s__law_well) (defBody s__law_well) (defScope s__law_well) .none kV32 dc32 pm32 an32 cd32 ct32, f_law := fa, d_law := PySem.W.fnOf "law" "law" (defArgs s_law) (defBody s_law) (defScope s_law) .none kV33 dc33 pm33 an33 cd33 ct33, C_Row := C, mc := .type "type" } := {
    u_is_filled := fun_mk (st := s_is_filled) l0 c0 k0,
    m_is_filled := PySem.W.mg_of X G a0,
    u_is_integer := fun_mk (st := s_is_integer) l1 c1 k1,
    m_is_integer := PySem.W.mg_of X G a1,
    u_is_between := fun_mk (st := s_is_between) l2 c2 k2,
    m_is_between := PySem.W.mg_of X G a2,
    u_is_pair := fun_mk (st := s_is_pair) l3 c3 k3,
    m_is_pair := PySem.W.mg_of X G a3,
    u_is_kind := fun_mk (st := s_is_kind) l4 c4 k4,
    m_is_kind := PySem.W.mg_of X G a4,
    u_wrong_kind := fun_mk (st := s_wrong_kind) l5 c5 k5,
    m_wrong_kind := PySem.W.mg_of X G a5,
    u_are_kinds := fun_mk (st := s_are_kinds) l6 c6 k6,
    m_are_kinds := PySem.W.mg_of X G a6,
    u_Row___init__ := fun_mk (st := s_Row___init__) l7 c7 k7,
    u__law_due := fun_mk (st := s__law_due) l8 c8 k8,
    m__law_due := PySem.W.mg_of X G a8,
    u__law_draw := fun_mk (st := s__law_draw) l9 c9 k9,
    m__law_draw := PySem.W.mg_of X G a9,
    u__law_pick := fun_mk (st := s__law_pick) l10 c10 k10,
    m__law_pick := PySem.W.mg_of X G a10,
    u__law_listed := fun_mk (st := s__law_listed) l11 c11 k11,
    m__law_listed := PySem.W.mg_of X G a11,
    u__law_lots := fun_mk (st := s__law_lots) l12 c12 k12,
    m__law_lots := PySem.W.mg_of X G a12,
    u__law_choices := fun_mk (st := s__law_choices) l13 c13 k13,
    m__law_choices := PySem.W.mg_of X G a13,
    u__law_webs := fun_mk (st := s__law_webs) l14 c14 k14,
    m__law_webs := PySem.W.mg_of X G a14,
    u_Row_kinds := fun_mk (st := s_Row_kinds) l15 c15 k15,
    p_kinds := ⟨a15, gq15, t15, ⟨_, r15h⟩⟩,
    u_ends_of := fun_mk (st := s_ends_of) l16 c16 k16,
    m_ends_of := PySem.W.mg_of X G a16,
    u_room_of_kinds := fun_mk (st := s_room_of_kinds) l17 c17 k17,
    m_room_of_kinds := PySem.W.mg_of X G a17,
    u_turns := fun_mk (st := s_turns) l18 c18 k18,
    m_turns := PySem.W.mg_of X G a18,
    u_barred_kinds := fun_mk (st := s_barred_kinds) l19 c19 k19,
    m_barred_kinds := PySem.W.mg_of X G a19,
    u_kinds_can_be := fun_mk (st := s_kinds_can_be) l20 c20 k20,
    m_kinds_can_be := PySem.W.mg_of X G a20,
    u_counted_kinds := fun_mk (st := s_counted_kinds) l21 c21 k21,
    m_counted_kinds := PySem.W.mg_of X G a21,
    u_moved_kinds := fun_mk (st := s_moved_kinds) l22 c22 k22,
    m_moved_kinds := PySem.W.mg_of X G a22,
    u__word := fun_mk (st := s__word) l23 c23 k23,
    m__word := PySem.W.mg_of X G a23,
    u_need_can_be := fun_mk (st := s_need_can_be) l24 c24 k24,
    m_need_can_be := PySem.W.mg_of X G a24,
    u_Row_count := fun_mk (st := s_Row_count) l25 c25 k25,
    me_count := ⟨a25, n25, k25⟩,
    u_has_places := fun_mk (st := s_has_places) l26 c26 k26,
    m_has_places := PySem.W.mg_of X G a26,
    u_need_places := fun_mk (st := s_need_places) l27 c27 k27,
    m_need_places := PySem.W.mg_of X G a27,
    u_need_row := fun_mk (st := s_need_row) l28 c28 k28,
    m_need_row := PySem.W.mg_of X G a28,
    u_bond := fun_mk (st := s_bond) l29 c29 k29,
    m_bond := PySem.W.mg_of X G a29,
    u_bonds := fun_mk (st := s_bonds) l30 c30 k30,
    m_bonds := PySem.W.mg_of X G a30,
    u__law_right := fun_mk (st := s__law_right) l31 c31 k31,
    m__law_right := PySem.W.mg_of X G a31,
    u__law_well := fun_mk (st := s__law_well) l32 c32 k32,
    m__law_well := PySem.W.mg_of X G a32,
    u_law := fun_mk (st := s_law) l33 c33 k33,
    m_law := PySem.W.mg_of X G a33,
    b_abs := PySem.W.mg_none_of X G z_abs,
    b_all := PySem.W.mg_none_of X G z_all,
    b_bool := PySem.W.mg_none_of X G z_bool,
    b_divmod := PySem.W.mg_none_of X G z_divmod,
    b_enumerate := PySem.W.mg_none_of X G z_enumerate,
    b_int := PySem.W.mg_none_of X G z_int,
    b_isinstance := PySem.W.mg_none_of X G z_isinstance,
    b_len := PySem.W.mg_none_of X G z_len,
    b_list := PySem.W.mg_none_of X G z_list,
    b_max := PySem.W.mg_none_of X G z_max,
    b_min := PySem.W.mg_none_of X G z_min,
    b_range := PySem.W.mg_none_of X G z_range,
    b_repr := PySem.W.mg_none_of X G z_repr,
    b_set := PySem.W.mg_none_of X G z_set,
    b_sorted := PySem.W.mg_none_of X G z_sorted,
    b_sum := PySem.W.mg_none_of X G z_sum,
    b_tuple := PySem.W.mg_none_of X G z_tuple,
    c_MOST_COUNT := ⟨_, PySem.W.mg_of X G q0, ⟨_, rfl⟩⟩,
    c_MOST_DEGREE := ⟨_, PySem.W.mg_of X G q1, ⟨_, rfl⟩⟩,
    c_MOST_KINDS := ⟨_, PySem.W.mg_of X G q2, ⟨_, rfl⟩⟩,
    m_Row := PySem.W.mg_of X G aC,
    cl_Row := ⟨pg, hd, po, sa⟩,
    na_kinds := nK,
    mk_Row := ⟨mk, a7, n7, kc⟩,
    i1_Row := e2,
    i2_Row := e3,
    i3_Row := e4,
    i4_Row := e5,
    i5_Row := kit_self }
  exact ⟨_, fun s u => .of_eq rfl, fun base _ _ => ok_law T⟩
end Dg
open PySem PySem.W PyProof.Rows
set_option maxRecDepth 100000 in
set_option maxHeartbeats 0 in
theorem PySem.Challenge.cw_degreerows_k36_whole_bonds_by_all_webs_holds : PySem.Challenge.rw_degreerows_k36_whole_bonds_by_all_webs.Holds := by
  w_on; o_law; k_head; (case hw => w_witness2)
  k_fill
  refine Dg.walk_GK (l := PySem.Challenge.rw_degreerows_k36_whole_bonds_by_all_webs) (n := 63) (k := 18) (x := "script") (sp := fun K => Dg.sp_law K 0) rfl (by decide) rfl ⟨rfl, by decide, by decide⟩ (fun w h Y => PySem.W.kIn_of Y) ?F ?S
  case S =>
    intro K H a ns few bits hS only no
    exact ⟨a, ns, rfl, hS, few, bits, fun _ => rfl⟩
  case F =>
    intro w mg fa h KX G hmg
    refine' Dg.all_mk KX G hmg ?aC ?a0 ?l0 ?c0 ?k0 ?a1 ?l1 ?c1 ?k1 ?a2 ?l2 ?c2 ?k2 ?a3 ?l3 ?c3 ?k3 ?a4 ?l4 ?c4 ?k4 ?a5 ?l5 ?c5 ?k5 ?a6 ?l6 ?c6 ?k6 ?a7 ?n7 ?l7 ?c7 ?k7 ?a8 ?l8 ?c8 ?k8 ?a9 ?l9 ?c9 ?k9 ?a10 ?l10 ?c10 ?k10 ?a11 ?l11 ?c11 ?k11 ?a12 ?l12 ?c12 ?k12 ?a13 ?l13 ?c13 ?k13 ?a14 ?l14 ?c14 ?k14 ?a15 ?gq15 ?t15 ?r15h ?l15 ?c15 ?k15 ?a16 ?l16 ?c16 ?k16 ?a17 ?l17 ?c17 ?k17 ?a18 ?l18 ?c18 ?k18 ?a19 ?l19 ?c19 ?k19 ?a20 ?l20 ?c20 ?k20 ?a21 ?l21 ?c21 ?k21 ?a22 ?l22 ?c22 ?k22 ?a23 ?l23 ?c23 ?k23 ?a24 ?l24 ?c24 ?k24 ?a25 ?n25 ?l25 ?c25 ?k25 ?a26 ?l26 ?c26 ?k26 ?a27 ?l27 ?c27 ?k27 ?a28 ?l28 ?c28 ?k28 ?a29 ?l29 ?c29 ?k29 ?a30 ?l30 ?c30 ?k30 ?a31 ?l31 ?c31 ?k31 ?a32 ?l32 ?c32 ?k32 ?a33 ?l33 ?c33 ?k33 ?z_abs ?z_all ?z_bool ?z_divmod ?z_enumerate ?z_int ?z_isinstance ?z_len ?z_list ?z_max ?z_min ?z_range ?z_repr ?z_set ?z_sorted ?z_sum ?z_tuple ?q0 ?q1 ?q2 ?pg ?hd ?po ?sa ?nK ?mk ?kc ?e2 ?e3 ?e4 ?e5
    (case aC => k_is); (case a0 => k_is); (case l0 => k_is); (case c0 => k_is); (case k0 => k_is); (case a1 => k_is); (case l1 => k_is); (case c1 => k_is)
    (case k1 => k_is); (case a2 => k_is); (case l2 => k_is); (case c2 => k_is); (case k2 => k_is); (case a3 => k_is); (case l3 => k_is); (case c3 => k_is)
    (case k3 => k_is); (case a4 => k_is); (case l4 => k_is); (case c4 => k_is); (case k4 => k_is); (case a5 => k_is); (case l5 => k_is); (case c5 => k_is)
    (case k5 => k_is); (case a6 => k_is); (case l6 => k_is); (case c6 => k_is); (case k6 => k_is); (case a7 => k_is); (case n7 => k_is); (case l7 => k_is)
    (case c7 => k_is); (case k7 => k_is); (case a8 => k_is); (case l8 => k_is); (case c8 => k_is); (case k8 => k_is); (case a9 => k_is); (case l9 => k_is)
    (case c9 => k_is); (case k9 => k_is); (case a10 => k_is); (case l10 => k_is); (case c10 => k_is); (case k10 => k_is); (case a11 => k_is); (case l11 => k_is)
    (case c11 => k_is); (case k11 => k_is); (case a12 => k_is); (case l12 => k_is); (case c12 => k_is); (case k12 => k_is); (case a13 => k_is); (case l13 => k_is)
    (case c13 => k_is); (case k13 => k_is); (case a14 => k_is); (case l14 => k_is); (case c14 => k_is); (case k14 => k_is); (case a15 => k_is); (case gq15 => k_is)
    (case t15 => k_is); (case r15h => k_is); (case l15 => k_is); (case c15 => k_is); (case k15 => k_is); (case a16 => k_is); (case l16 => k_is); (case c16 => k_is)
    (case k16 => k_is); (case a17 => k_is); (case l17 => k_is); (case c17 => k_is); (case k17 => k_is); (case a18 => k_is); (case l18 => k_is); (case c18 => k_is)
    (case k18 => k_is); (case a19 => k_is); (case l19 => k_is); (case c19 => k_is); (case k19 => k_is); (case a20 => k_is); (case l20 => k_is); (case c20 => k_is)
    (case k20 => k_is); (case a21 => k_is); (case l21 => k_is); (case c21 => k_is); (case k21 => k_is); (case a22 => k_is); (case l22 => k_is); (case c22 => k_is)
    (case k22 => k_is); (case a23 => k_is); (case l23 => k_is); (case c23 => k_is); (case k23 => k_is); (case a24 => k_is); (case l24 => k_is); (case c24 => k_is)
    (case k24 => k_is); (case a25 => k_is); (case n25 => k_is); (case l25 => k_is); (case c25 => k_is); (case k25 => k_is); (case a26 => k_is); (case l26 => k_is)
    (case c26 => k_is); (case k26 => k_is); (case a27 => k_is); (case l27 => k_is); (case c27 => k_is); (case k27 => k_is); (case a28 => k_is); (case l28 => k_is)
    (case c28 => k_is); (case k28 => k_is); (case a29 => k_is); (case l29 => k_is); (case c29 => k_is); (case k29 => k_is); (case a30 => k_is); (case l30 => k_is)
    (case c30 => k_is); (case k30 => k_is); (case a31 => k_is); (case l31 => k_is); (case c31 => k_is); (case k31 => k_is); (case a32 => k_is); (case l32 => k_is)
    (case c32 => k_is); (case k32 => k_is); (case a33 => k_is); (case l33 => k_is); (case c33 => k_is); (case k33 => k_is); (case z_abs => k_is); (case z_all => k_is)
    (case z_bool => k_is); (case z_divmod => k_is); (case z_enumerate => k_is); (case z_int => k_is); (case z_isinstance => k_is); (case z_len => k_is); (case z_list => k_is); (case z_max => k_is)
    (case z_min => k_is); (case z_range => k_is); (case z_repr => k_is); (case z_set => k_is); (case z_sorted => k_is); (case z_sum => k_is); (case z_tuple => k_is); (case q0 => k_is)
    (case q1 => k_is); (case q2 => k_is); (case pg => k_is); (case hd => k_is); (case po => k_is); (case sa => k_is); (case nK => k_is); (case mk => k_is)
    (case kc => k_is); (case e2 => k_is); (case e3 => k_is); (case e4 => k_is); (case e5 => k_is)
#print axioms PySem.Challenge.cw_degreerows_k36_whole_bonds_by_all_webs_holds
