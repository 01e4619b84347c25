import PyProof.Rows.All
import Wide.All
import OpenK.AllK
import Wide.FinOn
import PySem.Challenge.RW_waitbolts_k02_stands_and_wishes
import HandS.Evl
import HandS.Ends
import HandS.Words
import HandS.TupSets
import PyProof.ReprRoads
import PyProof.P3In
import KE.GoesEnum
import HandS.Walk
import HandS.Zip
import KE.GoesMore
import PyProof.EnumMake
import HandS.TupLe
import HandS.TupAny
import HandS.Deep
import HandS.DictComp
import HandS.IsInst
import HandS.RevRange
import HandS.Conv
import HandS.Style
import HandS.Wide
import HandS.WideMore
import HandS.Dict
import HandS.Comp
import HandS.Flow
import HandS.WordsList
import HandS.WordsDict
import HandS.Exc
import HandS.ExcOwn
import KE.KRevSl
set_option Elab.async false
set_option linter.all false
set_option maxRecDepth 100000
set_option maxHeartbeats 2000000
namespace Wb
open PySem PySem.Spec PyProof.Rows L2

/-! ### promises that know that no repr runs around them -/
structure FnG (P : Program) (w : World) (K : PySem.W.Frag) (mg : Str → Option Value) (base : Heap) (k : Nat) (f : Addr) (fd : FuncData) (ps : List Str) (sp : Sp) : Prop where
  len : ∀ vs H Q E, sp vs H Q E → vs.length = ps.length
  go : ∀ (A : Around) (outer : List Env) (s : Shared) (H : Hp) (args : Args) (us : List Value) (vs : List V) (Q : VK) (E : XK),
    A.guards = some [] → Room k A → Env0 P w K mg base A outer s H → BindsTo s fd args (ps.zip us) → Vals vs us → sp vs H Q E →
    codeAny (model P w) A (.call (.ref f) args) (CR CX0 outer P w H s Q E) s

section
variable {P : Program} {w : World} {K : PySem.W.Frag} {mg : Str → Option Value} {base : Heap}
theorem fnG_ok {x qual : Str} {st : Stmt} {f : Addr} {fd : FuncData} {N ps : List Str} {k : Nat} {sp : Sp} (F : Fun K x qual st f fd)
    (S : FnScope N ps (defScope st)) (len : ∀ vs H Q E, sp vs H Q E → vs.length = ps.length)
    (hbody : ∀ (cdv : Value) (A : Around) (outer : List Env) (s : Shared) (H : Hp) (vs : List V) (Q : VK) (E : XK), A.guards = some [] →
      Room k (A.deeper (envOfC qual (defScope st) s.heap.objs.size f cdv)) → sp vs H Q E →
      ∃ t, PSs (cxOf CX0 P w K mg base N qual (defScope st) f cdv A outer s H E).nox (defBody st) t ∧
        t { nx := fun _ H' => Q .non H', rt := Q } (start N vs) H) : FnG P w K mg base (k + 1) f fd ps sp := by
  obtain ⟨oc, od, kV, doc, pm, an, cdv, ct, osl, rfl, lk, hcd⟩ := F.ex
  refine ⟨len, ?_⟩
  intro A outer s H args us vs Q E hgd hr e0 hb r hsp
  have e1 : K.In s.heap := e0.mod.kin.keeps (fun b o e => (e0.bs b o e).1)
  have e2 : s.heap.NoLimit := e0.mod.nolimit.keeps (fun b o e => (e0.bs b o e).1)
  have kinds : ∀ y ∈ ps.zip us, (defScope st).names.lookup y.1 = some .local ∨
      ((defScope st).names.lookup y.1 = some .cell ∧ ((cellsFrom (s.heap.objs.size + 1) (defScope st).names []).lookup y.1).isSome = true) := by
    rintro ⟨n, v⟩ hy
    cases S.par n (List.of_mem_zip hy).1 with
    | inl q => exact .inl q
    | inr q => exact .inr ⟨q, PySem.W.cellsFrom_some _ _ _ (.inl q)⟩
  apply codeAny_call_function hr.depth (e1 _ _ lk) rfl S.co S.gen rfl (PySem.W.codeRec_of e1 hcd)
  apply hb
  apply wpAny_newFunctionEnv_cells S.kind kinds
  intro env he s1 x
  subst he
  refine ⟨e2.keeps x.toInCall.keep, codeAny_func ?_⟩
  obtain ⟨t, ht, hq⟩ := hbody cdv A outer s H vs Q E hgd (hr.deeper _) hsp
  have I := inv_start (CX := CX0) (P := P) (w := w) (qual := qual) (E := E) S hr.hd e0 (len _ _ _ _ hsp) r x
  apply wpAny_mono (ht.nox.run [] s1 (start N vs) H _ I hq)
  · intro fl s' hs
    cases fl
    case next =>
      obtain ⟨σ', H', J, q⟩ := hs
      exact ⟨V.non, H', J.os, J.bare, J.base, J.hok, rfl, q⟩
    case brk => obtain ⟨_, _, _, q⟩ := hs; exact q.elim
    case cont => obtain ⟨_, _, _, q⟩ := hs; exact q.elim
    case ret u =>
      obtain ⟨v, σ', H', J, rv, q⟩ := hs
      exact ⟨v, H', J.os, J.bare, J.base, J.hok, rv, q⟩
  · intro e s' hs
    exact hs
end

section
variable {X : Cx}
/-! ### repr of data -/
def rRepr (K : PySem.W.Frag) : List V → Hp → VK → Prop := fun xs H Q => ∃ (a : Addr) (d : PyData), xs = [.ref a] ∧ Dp K H (.ref a) d ∧ d.showable = true ∧ d.hasDict = false ∧ d.depth ≤ 20 ∧ d.shown.length ≤ sizeLine ∧ Q (.str d.shown) H
theorem call_repr_data (hu : X.A.units + 64 < cLine) (hg : X.A.guards = some []) : CallR X (.builtin "repr") (rRepr X.K) := by
  intro pins s σ H xs us Q I r h
  obtain ⟨a, d, rfl, hd, h1, h2, h3, h4, q⟩ := h
  cases r with
  | cons r1 r2 =>
    cases r2
    obtain ⟨as, rd⟩ := Dp.reads I d _ _ hd r1
    cases r1
    refine repr_of_reads' rd h1 (fun z => by rw [h2] at z; cases z) hg (by omega) (fun _ _ e => e) (fun h' u tk hk => ?_) h4
    exact ⟨.str d.shown, H, I.kept (t' := tk) hk, ⟨u, rfl⟩, q⟩
/-! ### x in a tuple of data -/
def rInTD (K : PySem.W.Frag) : R2 := fun x y H Q => ∃ d ds, Dp K H x d ∧ Dp K H y (.tuple ds) ∧ SeqAt.shaped d = true ∧ SeqAt.shaped (.tuple ds) = true ∧ Q (.bl (ds.any fun z => PyData.eqv z d)) H
theorem op_inTD (hu : X.A.units + 65 < cLine) : OpR X (compareOp .In) (rInTD X.K) := by
  intro pins s σ H x y v u Q I rx ry h
  obtain ⟨d, ds, hd, he, sd, se, q⟩ := h
  obtain ⟨as, r1⟩ := Dp.reads I d x v hd rx
  obtain ⟨bs, r2⟩ := Dp.reads I (.tuple ds) y u he ry
  have hdp := SeqAt.depth_of_shaped sd
  have hcl : PyData.canLayAll0 ds = true := by
    have z := SeqAt.canLay_of_shaped se
    simpa [PyData.canLay0] using z
  refine SeqAt.in_tuple_reads r2 r1 hcl (SeqAt.canLay_of_shaped sd) (by show X.A.units + 1 + min _ _ < cLine; omega) ⟨.bl _, H, I, rfl, q⟩
end
end Wb

set_option Elab.async false
set_option linter.all false
set_option maxRecDepth 100000
set_option maxHeartbeats 2000000
namespace Wb
open PySem PySem.Spec PyProof.Rows L2

/-! ### a list or a tuple that is read: l tells which -/
def SqX (K : PySem.W.Frag) (l : Bool) (H : Hp) (a : Addr) (xs : List V) : Prop := if l = true then SqL K H a xs else SqT K H a xs
def ItAt (l : Bool) (h : Heap) (it a : Addr) (i : Nat) : Prop := if l = true then h.IsListIter it a i else h.IsTupleIter it a i
def SqAt (l : Bool) (h : Heap) (a : Addr) (us : Array Value) : Prop := if l = true then h.IsList a us else h.IsTuple a us
def itObj (l : Bool) (a : Addr) : Obj := if l = true then { cls := .type "list_iterator", data := .fields #[.ref a, .int 0 0] } else { cls := .type "tuple_iterator", data := .fields #[.ref a, .int 0 0] }

theorem itObj_at (l : Bool) {h : Heap} {it a : Addr} (e : h.get? it = some (itObj l a)) : ItAt l h it a 0 := by
  cases l
  · exact ⟨_, e, rfl, rfl⟩
  · exact ⟨_, e, rfl, rfl⟩
theorem ItAt.obj {l : Bool} {h : Heap} {it a : Addr} {i : Nat} (x : ItAt l h it a i) : ∃ o, h.get? it = some o ∧ ∀ v, o.data ≠ .cell v := by
  cases l
  · obtain ⟨o, e, _, d⟩ := x
    exact ⟨o, e, fun v q => by rw [d] at q; cases q⟩
  · obtain ⟨o, e, _, d⟩ := x
    exact ⟨o, e, fun v q => by rw [d] at q; cases q⟩
theorem ItAt.keep {l : Bool} {h h' : Heap} {it a : Addr} {i : Nat} (x : ItAt l h it a i) (k : ∀ o, h.get? it = some o → h'.get? it = some o) : ItAt l h' it a i := by
  cases l
  · exact Heap.IsTupleIter.at x k
  · exact Heap.IsListIter.at x k
theorem draws_at {prog : Program} {w : World} {A : Around} (hh : A.handled = none) (l : Bool) (it a : Addr) (hne : a ≠ it) (us : Array Value) :
    Draws prog w A it [it, a] us.size (fun i v => us[i]? = some v) (fun i h => ItAt l h it a i ∧ SqAt l h a us) := by
  cases l
  · exact Draws.tuple hh it a hne us
  · exact Draws.list hh it a hne us
theorem begins_at (l : Bool) (a : Addr) (us : Array Value) : Begins (.ref a) (itObj l a) (fun h => SqAt l h a us) := by
  cases l
  · exact begins_tuple a us
  · exact begins_list a us
section
variable {X : Cx} {pins : List (Addr × Obj)} {σ : L2.St} {H : Hp} {s : Shared}
theorem sqx_vals (I : Inv X pins σ H s) {l : Bool} {a : Addr} {xs : List V} (h : SqX X.K l H a xs) : ∃ us : List Value, Vals xs us ∧ SqAt l s.heap a us.toArray ∧ a < s.heap.objs.size := by
  cases l
  · obtain ⟨us, r, p, _⟩ := I.tuple (a := a) (xs := xs) h
    have p' : s.heap.IsTuple a us.toArray := p
    obtain ⟨o, e, _⟩ := p
    exact ⟨us, r, p', Heap.lt_size e⟩
  · obtain ⟨us, r, p, _⟩ := I.list (a := a) (xs := xs) h
    exact ⟨us, r, p.isList, p.lt⟩
theorem sqx_one (I : Inv X pins σ H s) {l : Bool} {a : Addr} {xs ys : List V} (h : SqX X.K l H a xs) (h' : SqX X.K l H a ys) : xs = ys := by
  cases l
  · exact I.tuple_inj (a := a) h h'
  · exact I.list_inj (a := a) h h'
end

/-! ### zip over any two of them -/
def Itzx (K : PySem.W.Frag) (l m : Bool) (a b : Addr) : It :=
  ⟨fun i H => ∃ (xs ys : List V) (x y : V), SqX K l H a xs ∧ SqX K m H b ys ∧ xs[i]? = some x ∧ ys[i]? = some y,
   fun i H v H' => ∃ T x y, v = .ref T ∧ H T = none ∧ H' = upd H T (.tup [x, y]) ∧ (∀ xs, SqX K l H a xs → xs[i]? = some x) ∧ ∀ ys, SqX K m H b ys → ys[i]? = some y,
   fun i H => ∃ xs ys : List V, SqX K l H a xs ∧ SqX K m H b ys ∧ (i = xs.length ∧ i ≤ ys.length ∨ i = ys.length ∧ i ≤ xs.length)⟩
structure Apart5 (z TI TO i1 i2 a b : Addr) : Prop where
  sep : ZipSep2 z TI TO i1 i2 [i1, a] [i2, b]
  n1 : a ≠ i1
  n2 : b ≠ i2
theorem turn_zx {P : Program} {w : World} {K : PySem.W.Frag} {elts : List Expr} {kk : Nat} {tpos : Pos} {a b z TI TO i1 i2 : Addr} {l m : Bool} (D : Apart5 z TI TO i1 i2 a b) :
    Turn P w K (.Tuple elts kk tpos) (Itzx K l m a b) [z, TI, TO, i1, i2] z
      (fun i h => IsZip h z TI TO .none ∧ IsTupOf2 h TI (.ref i1) (.ref i2) ∧ (∃ x y, IsTupOf2 h TO x y) ∧ ItAt l h i1 a i ∧ ItAt m h i2 b i) where
  mem := by simp
  obj := by
    rintro i h ⟨q1, q2, ⟨x, y, q3⟩, q4, q5⟩ c hc
    simp only [List.mem_cons, List.not_mem_nil, or_false] at hc
    rcases hc with rfl | rfl | rfl | rfl | rfl
    · exact ⟨_, q1, fun v q => nomatch q⟩
    · exact ⟨_, q2, fun v q => nomatch q⟩
    · exact ⟨_, q3, fun v q => nomatch q⟩
    · exact q4.obj
    · exact q5.obj
  keep := by
    rintro i h h' ⟨q1, q2, ⟨x, y, q3⟩, q4, q5⟩ k
    exact ⟨k _ (by simp) _ q1, k _ (by simp) _ q2, ⟨x, y, k _ (by simp) _ q3⟩, q4.keep (k i1 (by simp)), q5.keep (k i2 (by simp))⟩
  item := by
    intro X hP hw hK hc i pins s σ H E I hf st hg
    subst hP hw hK
    obtain ⟨q1, q2, ⟨x0, y0, q3⟩, q4, q5⟩ := st
    obtain ⟨xs, ys, x, y, hx, hy, ex, ey⟩ := hg
    obtain ⟨us, r1, p1, lt1⟩ := sqx_vals I hx
    obtain ⟨vs, r2, p2, lt2⟩ := sqx_vals I hy
    obtain ⟨u, hu, ru⟩ := r1.get ex
    obtain ⟨v, hv, rv⟩ := r2.get ey
    have hh : X.A.in1.handled = none := I.ok.hd hc
    have g1 := draws_at (prog := X.prog) (w := X.w) hh l i1 a D.n1 us.toArray
    have g2 := draws_at (prog := X.prog) (w := X.w) hh m i2 b D.n2 vs.toArray
    have b1 : i < us.toArray.size := by
      have := (List.getElem?_eq_some_iff.mp hu).1
      simpa using this
    have b2 : i < vs.toArray.size := by
      have := (List.getElem?_eq_some_iff.mp hv).1
      simpa using this
    have zl : z < s.heap.objs.size := Heap.lt_size q1
    refine wpAny_pyNext_zipD2_item D.sep g1 g2 q1 q2 q3 ⟨q4, p1⟩ ⟨q5, p2⟩ b1 b2 ?_
    intro u' v' h' tk eu ev z' TO' t1 t2 hT hsz hk
    have eu' : u' = u := by
      have e : us[i]? = some u' := by simpa using eu
      exact Option.some.inj (e.symm.trans hu)
    have ev' : v' = v := by
      have e : vs[i]? = some v' := by simpa using ev
      exact Option.some.inj (e.symm.trans hv)
    subst eu'
    subst ev'
    refine ⟨_, rfl, wpAny_letOwnedTupleGo_zip (s := { s with heap := h', toks := tk }) z' ?_⟩
    intro h2 z2 sb
    have keepT : h2.get? s.heap.objs.size = some { cls := .type "tuple", data := .seq #[u', v'] } := (sb.2 _ (Nat.ne_of_gt zl)).trans hT
    have all : ∀ c o, c ∉ [z, TI, TO, i1, i2] → s.heap.get? c = some o → h2.get? c = some o := by
      intro c o hc e
      simp only [List.mem_cons, List.not_mem_nil, or_false, not_or] at hc
      exact (sb.2 c hc.1).trans (hk c o hc.1 hc.2.2.1 hc.2.2.2.1 hc.2.2.2.2 e)
    have new : ObjOk X.prog X.w (upd H s.heap.objs.size (.tup [x, y])) h2 s.heap.objs.size (.tup [x, y]) :=
      ⟨(by decide : 2 ≤ sizeLine), [u', v'], Paired.cons ru (Paired.cons rv Paired.nil), ⟨_, keepT, rfl, _, rfl⟩⟩
    have J := I.turnedNew (t' := tk) all hf (Nat.le_refl _) new
    refine ⟨.ref s.heap.objs.size, _, J, rfl, ⟨_, x, y, rfl, I.hok.fresh (Nat.le_refl _), rfl, fun xs' h1 => ?_, fun ys' h1 => ?_⟩, ⟨z2, ?_, ⟨u', v', ?_⟩, ?_, ?_⟩, fun c hc => ?_⟩
    · rw [sqx_one I h1 hx]; exact ex
    · rw [sqx_one I h1 hy]; exact ey
    · exact (sb.2 _ D.sep.TIz).trans (hk _ _ D.sep.TIz D.sep.TITO D.sep.TIi1 D.sep.TIi2 q2)
    · exact (sb.2 _ D.sep.TOz).trans TO'
    · exact t1.1.keep fun o e => (sb.2 _ (Ne.symm D.sep.zi1)).trans e
    · exact t2.1.keep fun o e => (sb.2 _ (Ne.symm D.sep.zi2)).trans e
    · have hlt : c < s.heap.objs.size := by
        simp only [List.mem_cons, List.not_mem_nil, or_false] at hc
        rcases hc with rfl | rfl | rfl | rfl | rfl
        · exact zl
        · exact Heap.lt_size q2
        · exact Heap.lt_size q3
        · obtain ⟨o, e, _⟩ := q4.obj; exact Heap.lt_size e
        · obtain ⟨o, e, _⟩ := q5.obj; exact Heap.lt_size e
      rw [upd_ne (Nat.ne_of_lt hlt)]
      exact (hf c hc).1
  done := by
    intro X hP hw hK hc i pins s σ H E I hf st hg
    subst hP hw hK
    obtain ⟨q1, q2, ⟨x0, y0, q3⟩, q4, q5⟩ := st
    obtain ⟨xs, ys, hx, hy, he⟩ := hg
    obtain ⟨us, r1, p1, lt1⟩ := sqx_vals I hx
    obtain ⟨vs, r2, p2, lt2⟩ := sqx_vals I hy
    have hh : X.A.in1.handled = none := I.ok.hd hc
    have g1 := draws_at (prog := X.prog) (w := X.w) hh l i1 a D.n1 us.toArray
    have g2 := draws_at (prog := X.prog) (w := X.w) hh m i2 b D.n2 vs.toArray
    have e1 : us.toArray.size = xs.length := by rw [List.size_toArray, r1.length]
    have e2 : vs.toArray.size = ys.length := by rw [List.size_toArray, r2.length]
    refine wpAny_pyNext_zipD2_end D.sep g1 g2 q1 q2 q3 ⟨q4, p1⟩ ⟨q5, p2⟩ (by omega) (by omega) (by omega) ?_
    intro h' tk hk
    refine ⟨rfl, I.turnedL (t' := tk) (ch := [z, TI, TO, i1, i2]) (fun c o hc e => ?_) hf⟩
    simp only [List.mem_cons, List.not_mem_nil, or_false, not_or] at hc
    exact hk c o hc.1 hc.2.2.1 hc.2.2.2.1 hc.2.2.2.2 e
  self := fun A i s Q E st h => wpAny_pyIter_zip st.1 h

def iZipX (K : PySem.W.Frag) (ta : TA) : TI := fun σ H R => ta σ H fun vs H1 => ∃ l m a b xs ys, vs = [.ref a, .ref b] ∧ SqX K l H1 a xs ∧ SqX K m H1 b ys ∧ R (Itzx K l m a b) H1
theorem pi_zipX {X : Cx} {e e2 : Expr} {ta : TA} {p pos tpos : Pos} {elts : List Expr} {kk : Nat} (hg : Gl X "zip") (hm : X.mg "zip" = none) (ha : PA X [e, e2] ta)
    (hs : starEach [e, e2] X.env = (false, eval e X.env) :: starEach [e2] X.env := by rfl) (hpl : (backTo pos (starEach [e2] X.env)).any (·.1) = false := by rfl) :
    PI X (.Tuple elts kk tpos) (.Call (.Name "zip" p) [e, e2] [] pos) (iZipX X.K ta) := by
  constructor
  intro pins s σ H R I h
  refine Call_ (ld_blt I hg hm PyProof.Rows.boot_zip (PyProof.Rows.callWith_type1 (thn (ha.run pos pins s σ H _ I h) ?_) hs hpl))
  rintro us s1 ⟨vs, H1, I1, r1, l, m, a, b, xs, ys, rfl, hx, hy, q⟩
  obtain ⟨us1, w1, p1, lt1⟩ := sqx_vals I1 hx
  obtain ⟨us2, w2, p2, lt2⟩ := sqx_vals I1 hy
  rcases r1 with _ | ⟨ra, r1⟩
  rcases r1 with _ | ⟨rb, r1⟩
  cases r1
  cases ra
  cases rb
  refine zip_begins2 (begins_at l a us1.toArray) (begins_at m b us2.toArray) p1 p2 ?_
  intro h' hz hTI hTO h1 h2 hsz hk
  refine wpAny_pyIter_zip hz ?_
  have I2 : Inv X pins σ H1 { s1 with heap := h' } := I1.kept (t' := s1.toks) hk
  have D : Apart5 (s1.heap.objs.size + 4) (s1.heap.objs.size + 2) (s1.heap.objs.size + 3) s1.heap.objs.size (s1.heap.objs.size + 1) a b :=
    ⟨zip_sep2 (N := s1.heap.objs.size) (fp1 := [a]) (fp2 := [b]) (by simpa using lt1) (by simpa using lt2), Nat.ne_of_lt lt1, Nat.ne_of_lt (Nat.lt_succ_of_lt lt2)⟩
  refine ⟨s1.heap.objs.size + 4, [s1.heap.objs.size + 4, s1.heap.objs.size + 2, s1.heap.objs.size + 3, s1.heap.objs.size, s1.heap.objs.size + 1], _, _, H1, rfl, I2, turn_zx D, ⟨hz, hTI, ⟨_, _, hTO⟩, itObj_at l h1, itObj_at m h2⟩, ?_, q⟩
  intro c hc
  have hle : s1.heap.objs.size ≤ c := by
    simp only [List.mem_cons, List.not_mem_nil, or_false] at hc
    rcases hc with rfl | rfl | rfl | rfl | rfl
    · exact Nat.le_add_right _ _
    · exact Nat.le_add_right _ _
    · exact Nat.le_add_right _ _
    · exact Nat.le_refl _
    · exact Nat.le_add_right _ _
  exact I1.fpOk hle (I1.hok.fresh hle)
theorem walk_zx {K : PySem.W.Frag} {l m : Bool} {a b : Addr} {xs ys : List V} (hl : xs.length = ys.length) :
    Walk (Itzx K l m a b) xs.length (fun H => SqX K l H a xs ∧ SqX K m H b ys) (YPair (fun i => xs[i]?) (fun i => ys[i]?)) := by
  refine ⟨fun i H hi q => ?_, fun H q => ⟨xs, ys, q.1, q.2, .inl ⟨rfl, by omega⟩⟩, fun i H v H' hi q y => ?_⟩
  · have h2 : i < ys.length := by omega
    exact ⟨xs, ys, xs[i], ys[i], q.1, q.2, by simp [hi], by simp [h2]⟩
  · obtain ⟨T, x, z, h1, h2, h3, h4, h5⟩ := y
    exact ⟨T, x, z, h1, h2, h3, h4 xs q.1, h5 ys q.2⟩

/-! ### enumerate over either -/
def Itex (K : PySem.W.Frag) (l : Bool) (a : Addr) : It :=
  ⟨fun i H => ∃ (xs : List V) (x : V), SqX K l H a xs ∧ xs[i]? = some x,
   fun i H v H' => ∃ T x, v = .ref T ∧ H T = none ∧ H' = upd H T (.tup [.int (i : Nat), x]) ∧ ∀ xs, SqX K l H a xs → xs[i]? = some x,
   fun i H => ∃ xs : List V, SqX K l H a xs ∧ i = xs.length⟩
end Wb

set_option Elab.async false
set_option linter.all false
set_option maxRecDepth 100000
set_option maxHeartbeats 2000000
namespace Wb
open PySem PySem.Spec PyProof.Rows L2
open AutoSeq1 (wpAny_loadPart')

theorem meets_enumT (a : Addr) (us : Array Value) (n : Nat) (dct : Option Addr) (sl : Array (Option Value)) :
    Meets (Builtin.«enumerate.__new__» ⟨[.type "enumerate", .ref a], []⟩) (fun _ R s => s.heap.get? a = some { cls := .type "tuple", dict := dct, data := .seq us n, slots := sl } ∧
      R (.ok (.ret (.ref (s.heap.push (itObj false a)).objs.size)))
        { s with heap := (s.heap.push (itObj false a)).push { cls := .type "enumerate", data := .fields #[.none, .bool false, .ref s.heap.objs.size, rawInt 0, .none, .none] } }) := by
  apply Meets.of_wp
  intro prog w A R s h
  obtain ⟨hp, g, d, tk, os⟩ := s
  obtain ⟨hl, h⟩ := h
  have hsub := sub_enumerate
  have hT : Heap.IsTuple (Shared.heap ⟨hp, g, d, tk, os⟩) a us := ⟨_, hl, rfl, n, rfl⟩
  wp_walk using wpAny_loadPart' hl
  apply wpAny_stack_any
  intro st
  apply wpAny_pure
  split
  · rename_i c _ _ _ _ _
    cases (c == Value.type "enumerate") <;> wp_walk using wpAny_loadPart' hl, wpAny_pyIter_tuple hT
    · exact ⟨_, rfl, h⟩
    · exact ⟨_, rfl, h⟩
  · wp_walk using wpAny_loadPart' hl, wpAny_pyIter_tuple hT
    exact ⟨_, rfl, h⟩
theorem call_enumT {prog : Program} {w : World} {A : Around} {E : Value → Shared → Prop} {s : Shared} {a : Addr} {us : Array Value} {Q : Value → Shared → Prop} (hT : s.heap.IsTuple a us)
    (h : ∀ h', IsEnum h' (s.heap.objs.size + 1) s.heap.objs.size 0 .none → ItAt false h' s.heap.objs.size a 0 → (∀ b o, s.heap.get? b = some o → h'.get? b = some o) → Q (.ref (s.heap.objs.size + 1)) { s with heap := h' }) :
    wpAny (model prog w) A (call (.type "enumerate") [.ref a]) Q E s := by
  obtain ⟨⟨c, dct, dt, sl⟩, hl, hc, n, hd⟩ := hT
  have hc' : c = .type "tuple" := hc
  have hd' : dt = .seq us n := hd
  subst hc' hd'
  refine callType_new F.called_enumerate (by decide) (F.typeCall_enumerate_1 _) (F.newCall_enumerate_1 _) (fun obj => F.args_object_init_2 obj _) F.entry_enumerate_new (meets_enumT a us n dct sl) ⟨hl, ?_⟩
  have sz : (s.heap.push (itObj false a)).objs.size = s.heap.objs.size + 1 := Heap.size_push ..
  have e0 := Heap.get?_push_size (s.heap.push (itObj false a)) (o := { cls := .type "enumerate", data := .fields #[.none, .bool false, .ref s.heap.objs.size, rawInt 0, .none, .none] }) rfl
  rw [sz] at e0
  show _ ∧ _
  rw [sz]
  exact ⟨⟨_, e0, rfl⟩, h _ e0 (itObj_at false (Heap.get?_push_of_some _ (Heap.get?_push_size _ rfl))) fun b o x => Heap.get?_push_of_some _ (Heap.get?_push_of_some _ x)⟩

/-- the tuple at a, item by item, each in a new pair with its number -/
def Itet (K : PySem.W.Frag) (a : Addr) : It :=
  ⟨fun i H => ∃ (xs : List V) (x : V), SqT K H a xs ∧ xs[i]? = some x,
   fun i H v H' => ∃ T x, v = .ref T ∧ H T = none ∧ H' = upd H T (.tup [.int (i : Nat), x]) ∧ ∀ xs, SqT K H a xs → xs[i]? = some x,
   fun i H => ∃ xs : List V, SqT K H a xs ∧ i = xs.length⟩
theorem turn_et {P : Program} {w : World} {K : PySem.W.Frag} {elts : List Expr} {kk : Nat} {tpos : Pos} (a e it : Addr) (hne : e ≠ it) (hea : e ≠ a) (hia : a ≠ it) :
    Turn P w K (.Tuple elts kk tpos) (Itet K a) [e, it] e (fun i h => (∃ old, IsEnum h e it ((i : Nat) : Int) old) ∧ ItAt false h it a i) where
  mem := by simp
  obj := by
    rintro i h ⟨⟨old, q1⟩, q2⟩ b hb
    simp only [List.mem_cons, List.not_mem_nil, or_false] at hb
    rcases hb with rfl | rfl
    · exact ⟨_, q1, fun v q => nomatch q⟩
    · exact q2.obj
  keep := by
    rintro i h h' ⟨⟨old, q1⟩, q2⟩ k
    exact ⟨⟨old, k _ (by simp) _ q1⟩, q2.keep (k it (by simp))⟩
  item := by
    intro X hP hw hK hc i pins s σ H E I hf st hg
    subst hP hw hK
    obtain ⟨⟨old, q1⟩, q2⟩ := st
    obtain ⟨xs, x, hx, ex⟩ := hg
    obtain ⟨us, r1, p1, lt1⟩ := sqx_vals (l := false) I hx
    obtain ⟨u, hu, ru⟩ := r1.get ex
    have hh : X.A.in1.handled = none := I.ok.hd hc
    have g1 := draws_at (prog := X.prog) (w := X.w) hh false it a hia us.toArray
    have b1 : i < us.toArray.size := by
      have := (List.getElem?_eq_some_iff.mp hu).1
      simpa using this
    have el : e < s.heap.objs.size := Heap.lt_size q1
    have il : it < s.heap.objs.size := by obtain ⟨o, z, _⟩ := q2.obj; exact Heap.lt_size z
    refine wpAny_pyNext_enum_itemC g1 q1 ⟨q2, p1⟩ b1 hne (by simp [hne, hea]) ?_
    intro u' h' tk eu ho t1 hT hsz hk
    have eu' : u' = u := by
      have z : us[i]? = some u' := by simpa using eu
      exact Option.some.inj (z.symm.trans hu)
    subst eu'
    refine ⟨_, rfl, wpAny_letOwnedTupleGo_enum (s := { s with heap := h', toks := tk + 1 }) ho ?_⟩
    intro h2 he' sb
    have keepT := (sb.2 _ (Nat.ne_of_gt el)).trans hT
    have all : ∀ c o, c ∉ [e, it] → s.heap.get? c = some o → h2.get? c = some o := by
      intro c o hc z
      simp only [List.mem_cons, List.not_mem_nil, or_false, not_or] at hc
      exact (sb.2 c hc.1).trans (hk c o hc.1 hc.2 z)
    have new : ObjOk X.prog X.w (upd H s.heap.objs.size (.tup [.int (i : Nat), x])) h2 s.heap.objs.size (.tup [.int (i : Nat), x]) :=
      ⟨(by decide : 2 ≤ sizeLine), [.int i tk, u'], Paired.cons ⟨_, rfl⟩ (Paired.cons ru Paired.nil), ⟨_, keepT, rfl, _, rfl⟩⟩
    have J := I.turnedNew (t' := tk + 1) all hf (Nat.le_refl _) new
    refine ⟨.ref s.heap.objs.size, _, J, rfl, ⟨_, x, rfl, I.hok.fresh (Nat.le_refl _), rfl, fun xs' h1 => ?_⟩, ⟨⟨u', ?_⟩, ?_⟩, fun c hc => ?_⟩
    · rw [sqx_one (l := false) I h1 hx]; exact ex
    · have z : ((i + 1 : Nat) : Int) = (i : Int) + 1 := by omega
      rw [z]
      exact he'
    · exact t1.1.keep fun o z => (sb.2 _ (Ne.symm hne)).trans z
    · have hlt : c < s.heap.objs.size := by
        simp only [List.mem_cons, List.not_mem_nil, or_false] at hc
        rcases hc with rfl | rfl
        · exact el
        · exact il
      rw [upd_ne (Nat.ne_of_lt hlt)]
      exact (hf c hc).1
  done := by
    intro X hP hw hK hc i pins s σ H E I hf st hg
    subst hP hw hK
    obtain ⟨⟨old, q1⟩, q2⟩ := st
    obtain ⟨xs, hx, he⟩ := hg
    obtain ⟨us, r1, p1, lt1⟩ := sqx_vals (l := false) I hx
    have hh : X.A.in1.handled = none := I.ok.hd hc
    have g1 := draws_at (prog := X.prog) (w := X.w) hh false it a hia us.toArray
    have e1 : us.toArray.size = i := by rw [List.size_toArray, ← r1.length, he]
    refine wpAny_pyNext_enum_endD g1 q1 (by rw [e1]; exact ⟨q2, p1⟩) ?_
    intro h' eb
    obtain ⟨f0, f1, f2, f3, f4, f5⟩ := hf it (by simp)
    exact ⟨rfl, I.turned (t' := s.toks) (fun b o hb q => eb b o hb q) f0 f1 f3 f4 f5⟩
  self := by
    rintro A i s Q E ⟨⟨old, q1⟩, _⟩ h
    exact wpAny_pyIter_enum q1 h
def iEnumT (K : PySem.W.Frag) (ta : TA) : TI := fun σ H R => ta σ H fun vs H1 => ∃ a xs, vs = [.ref a] ∧ SqT K H1 a xs ∧ R (Itet K a) H1
theorem pi_enumT {X : Cx} {e : Expr} {ta : TA} {p pos tpos : Pos} {elts : List Expr} {kk : Nat} (hg : Gl X "enumerate") (hm : X.mg "enumerate" = none) (ha : PA X [e] ta)
    (hs : starEach [e] X.env = [(false, eval e X.env)] := by rfl) : PI X (.Tuple elts kk tpos) (.Call (.Name "enumerate" p) [e] [] pos) (iEnumT X.K ta) := by
  constructor
  intro pins s σ H R I h
  refine Call_ (ld_blt I hg hm boot_enumerate (PyProof.Rows.callWith_type1 (thn (ha.run pos pins s σ H _ I h) ?_) hs rfl))
  rintro us s1 ⟨vs, H1, I1, r1, a, xs, rfl, hx, q⟩
  obtain ⟨us1, w1, p1, lt1⟩ := sqx_vals (l := false) I1 hx
  rcases r1 with _ | ⟨ra, r1⟩
  cases r1
  cases ra
  refine call_enumT p1 ?_
  intro h' he hit hk
  refine wpAny_pyIter_enum he ?_
  have I2 : Inv X pins σ H1 { s1 with heap := h' } := I1.kept (t' := s1.toks) hk
  refine ⟨s1.heap.objs.size + 1, [s1.heap.objs.size + 1, s1.heap.objs.size], _, _, H1, rfl, I2, turn_et a _ _ (Nat.succ_ne_self _) (Nat.ne_of_gt (Nat.lt_succ_of_lt lt1)) (Nat.ne_of_lt lt1), ⟨⟨.none, he⟩, hit⟩, ?_, q⟩
  intro c hc
  have hle : s1.heap.objs.size ≤ c := by
    simp only [List.mem_cons, List.not_mem_nil, or_false] at hc
    rcases hc with rfl | rfl
    · exact Nat.le_add_right _ _
    · exact Nat.le_refl _
  exact I1.fpOk hle (I1.hok.fresh hle)
theorem walk_et {K : PySem.W.Frag} {a : Addr} {xs : List V} : Walk (Itet K a) xs.length (fun H => SqT K H a xs) (YPair (fun i => some (.int (i : Nat))) (fun i => xs[i]?)) := by
  refine ⟨fun i H hi q => ⟨xs, xs[i], q, by simp [hi]⟩, fun H q => ⟨xs, q, rfl⟩, fun i H v H' hi q y => ?_⟩
  obtain ⟨T, x, h1, h2, h3, h4⟩ := y
  exact ⟨T, .int (i : Nat), x, h1, h2, h3, rfl, h4 xs q⟩
end Wb

set_option Elab.async false
set_option linter.all false
set_option maxRecDepth 100000
set_option maxHeartbeats 2000000
namespace L2
open PySem PySem.Spec PyProof.Rows
section
variable {P : Program} {w : World} {A : Around} {E : Value → Shared → Prop} {s : Shared}
/-- sorted of a set of one tuple, whatever its length -/
theorem sorted_lone {a : Addr} {q : Addr × List Int} {es : Array (Int × Value)} {ep : Nat} {t : SetTable} {Q : Value → Shared → Prop} (R : SetTR P w s.heap a [q] es ep t) (hh : A.handled = none)
    (hQ : ∀ (s' : Shared) (p : Addr) (c : Nat), (∀ b o, s.heap.get? b = some o → s'.heap.get? b = some o) → s'.gens = s.gens → s'.os = s.os → s.heap.objs.size ≤ p →
      s'.heap.get? p = some (seqObj "list" #[.ref q.1] c) → Q (.ref p) s') : wpAny (model P w) A (call (.builtin "sorted") [.ref a]) Q E s := by
  obtain ⟨o, ho, hex, hd⟩ := R.ob
  have sz1 := R.size
  apply Calls.call_function_entry kind_sorted plain_sorted entry_sorted (args_sorted1 _)
  unfold Builtin.«sorted»
  apply wpAny_bind (m := checkCount "sorted" 1 1 _)
  apply wpAny_pure
  apply wpAny_bind
  apply collect_set (A := A.in1) hh ⟨o, ho, hex.1, hd⟩ R.fits (by unfold scanBound; simp at sz1; omega) R.tab.ris R.led
  intro s1 vs k1 hz g1 o1 pm
  have rows1 : es.toList.map (·.2) = [Value.ref q.1] := by
    rw [R.rows]
    rfl
  rw [rows1] at pm
  have evs : vs = [Value.ref q.1] := List.perm_singleton.mp pm
  subst evs
  apply wpAny_bind
  refine wpAny_newList ?_ (show 1 ≤ sizeLine by decide)
  have hoL : (s1.heap.push (seqObj "list" #[Value.ref q.1] 0)).get? s1.heap.objs.size = some (seqObj "list" [Value.ref q.1].toArray 0) := Heap.get?_push_size _ rfl
  apply wpAny_bind
  apply wpAny_holding
  refine wpAny_call_entry (s := { s1 with heap := s1.heap.push (seqObj "list" #[Value.ref q.1] 0) }) slot_list_sort (self := .ref s1.heap.objs.size) ⟨_, hoL, rfl⟩ entry_list_sort ?_ (args_list_sort _)
  refine SK.plain_sort (r := fun _ => 0) hoL (show 1 < 64 by decide) (fun h2 => absurd (show 2 ≤ 1 from h2) (by decide)) ?_
  intro ps out h1 h2 h3
  have eout : out.toList = [Value.ref q.1] := by
    rw [h1]
    have z := h2.map Prod.snd
    exact List.perm_singleton.mp z
  obtain ⟨c, hc⟩ := sortedHeap_at (vs := [Value.ref q.1]) (out := out) hoL
  have eo2 : out = #[Value.ref q.1] := by
    have z := congrArg List.toArray eout
    simpa using z
  subst eo2
  refine ⟨_, rfl, wpAny_pure ⟨_, rfl, hQ _ s1.heap.objs.size c (fun b u e => ?_) g1 o1 hz hc⟩⟩
  have e1 := k1 b u e
  have lt1 := Heap.lt_size e1
  show (sortedHeap (s1.heap.push (seqObj "list" #[Value.ref q.1] 0)) s1.heap.objs.size [Value.ref q.1] #[Value.ref q.1]).get? b = some u
  rw [sortedHeap_old (Nat.ne_of_lt lt1) (by rw [size_push']; exact Nat.lt_succ_of_lt lt1)]
  exact Heap.get?_push_of_some _ e1
end
section
variable {X : Cx}
/-- sorted(set) of tuples of as many ints each -/
def rSortedW (K : PySem.W.Frag) (P : Program) (w : World) : List V → Hp → VK → Prop := fun vs H Q => ∃ (a : Addr) (L : List (Addr × List Int)) (d : Nat) (B : Int), vs = [V.ref a] ∧ H a = some (SetTO P w a L) ∧
  (∀ p ∈ L, SqT K H p.1 (p.2.map V.int)) ∧ (∀ p ∈ L, p.2.length = d ∧ TS.Bd B p.2) ∧ L ≠ [] ∧
  ∀ (L' : List (Addr × List Int)) (p : Addr), L'.Perm L → (L'.map (·.2)).Nodup → L'.length < 64 → L'.Pairwise (fun q r => TS.code B q.2 ≤ TS.code B r.2) → H p = none → Q (.ref p) (upd H p (.lst (L'.map fun q => V.ref q.1)))
theorem cr_sortedW (hc : X.calm = true) : CallR X (.builtin "sorted") (rSortedW X.K X.prog X.w) := by
  intro pins s σ H vs us Q I r h
  obtain ⟨a, L, d, B, e1, ha, hk, hB, hne, q⟩ := h
  by_cases hd : 1 ≤ d
  · exact cr_sortedT hc pins s σ H vs us Q I r ⟨a, L, d, B, e1, ha, hk, hd, hB, q⟩
  · subst e1
    have R0 : SetT0 X.prog X.w s.heap a L := (I.hok a _ ha).1
    obtain ⟨es, ep, t, R⟩ := R0.full fun p hp => I.isT (hk p hp)
    have emp : ∀ p ∈ L, p.2 = [] := fun p hp => List.eq_nil_of_length_eq_zero (by have := (hB p hp).1; omega)
    obtain ⟨p0, rfl⟩ : ∃ p0, L = [p0] := by
      cases L with
      | nil => exact absurd rfl hne
      | cons p0 L1 =>
        cases L1 with
        | nil => exact ⟨p0, rfl⟩
        | cons p1 L2 =>
          exfalso
          have nd := R.nd
          have z0 := emp p0 (by simp)
          have z1 := emp p1 (by simp)
          simp [z0, z1] at nd
    rw [Vals.ref1 r]
    refine sorted_lone R (I.ok.hd hc) ?_
    intro s' p c k g o hp hg
    have hn : H p = none := I.hok.fresh hp
    have J : Inv X pins σ (upd H p (.lst [V.ref p0.1])) { s with heap := s'.heap, gens := s'.gens, drawn := s'.drawn, toks := s'.toks } :=
      I.call (ch := []) (Un.laid k hp hn) (I.hok.laid k hp ⟨(by show 1 ≤ sizeLine; decide), [Value.ref p0.1], c, Paired.cons rfl Paired.nil, hg⟩) (by rw [g]; exact I.bare) (fun _ z => nomatch z)
    have e : s' = { s with heap := s'.heap, gens := s'.gens, drawn := s'.drawn, toks := s'.toks } := by
      cases s'; cases s; cases o; rfl
    rw [e]
    exact ⟨.ref p, _, J, rfl, q [p0] p (List.Perm.refl _) (by simp) (show 1 < 64 by decide) (by simp) hn⟩
end
end L2

set_option Elab.async false
set_option linter.all false
set_option maxRecDepth 100000
set_option maxHeartbeats 2000000
namespace Wb
open PySem PySem.Spec PyProof.Rows L2

/-! ### data -/
abbrev Word := List Int
structure Gap where
  frm : Int
  to_ : Int
  price : Int
  ways : List Word
structure Bolt where
  many : Int
  gaps : List Gap
abbrev Lock := List Bolt

/-- tuples that are read stay -/
def TX (K : PySem.W.Frag) (H H' : Hp) : Prop := (∀ a xs, SqT K H a xs → SqT K H' a xs) ∧ ∀ a xs, H a = some (.tup xs) → H' a = some (.tup xs)
theorem TX.refl (K : PySem.W.Frag) (H : Hp) : TX K H H := ⟨fun _ _ h => h, fun _ _ h => h⟩
theorem TX.trans {K : PySem.W.Frag} {H H1 H2 : Hp} (a : TX K H H1) (b : TX K H1 H2) : TX K H H2 := ⟨fun x o h => b.1 x o (a.1 x o h), fun x o h => b.2 x o (a.2 x o h)⟩
theorem TX.ex {K : PySem.W.Frag} {H H' : Hp} (e : Evl.Ex H H') : TX K H H' := ⟨fun _ _ h => Evl.ex_t e h, fun _ _ h => e _ _ h⟩
/-- all but what stands at p is kept -/
def Exx (p : Addr) (H H' : Hp) : Prop := ∀ a o, a ≠ p → H a = some o → H' a = some o
theorem Exx.refl (p : Addr) (H : Hp) : Exx p H H := fun _ _ _ h => h
theorem Exx.trans {p : Addr} {H H1 H2 : Hp} (a : Exx p H H1) (b : Exx p H1 H2) : Exx p H H2 := fun x o n h => b x o n (a x o n h)
theorem Exx.ex {p : Addr} {H H' : Hp} (e : Evl.Ex H H') : Exx p H H' := fun a o _ h => e a o h
theorem Exx.put {p : Addr} {H : Hp} {o : HO} : Exx p H (upd H p o) := fun a u n h => by rw [upd_ne n]; exact h
theorem Exx.new {p q : Addr} {H : Hp} {o : HO} (h : H q = none) : Exx p H (upd H q o) := Exx.ex (Evl.Ex.new h)
/-- .. where p is no tuple -/
theorem Exx.tx {K : PySem.W.Frag} {p : Addr} {H H' : Hp} (e : Exx p H H') (np : ∀ xs, ¬ Rd H p (.tup xs)) : TX K H H' := by
  refine ⟨fun a xs h => ?_, fun a xs h => e a _ (fun z => np xs (.inl (z ▸ h))) h⟩
  rcases h with h | h
  · have na : a ≠ p := fun z => np xs (z ▸ h)
    rcases h with h | ⟨o, h⟩
    · exact .inl (.inl (e a _ na h))
    · exact .inl (.inr ⟨o, e a _ na h⟩)
  · exact .inr h
theorem Exx.l {K : PySem.W.Frag} {p a : Addr} {H H' : Hp} {xs : List V} (e : Exx p H H') (na : a ≠ p) (h : SqL K H a xs) : SqL K H' a xs := by
  rcases h with (h | ⟨o, h⟩) | h
  · exact .inl (.inl (e a _ na h))
  · exact .inl (.inr ⟨o, e a _ na h⟩)
  · exact .inr h

def Wd (K : PySem.W.Frag) (H : Hp) (v : V) (ns : Word) : Prop := ∃ a, v = .ref a ∧ H a = some (.tup (ns.map V.int))
def GapAt (K : PySem.W.Frag) (H : Hp) (v : V) (g : Gap) : Prop :=
  ∃ a b ws, v = .ref a ∧ SqT K H a [.int g.frm, .int g.to_, .int g.price, .ref b] ∧ SqT K H b ws ∧ Paired (Wd K H) ws g.ways
def BoltAt (K : PySem.W.Frag) (H : Hp) (v : V) (b : Bolt) : Prop := ∃ a c gs, v = .ref a ∧ SqT K H a [.int b.many, .ref c] ∧ SqT K H c gs ∧ Paired (GapAt K H) gs b.gaps
def LockAt (K : PySem.W.Frag) (H : Hp) (v : V) (l : Lock) : Prop := ∃ a bs, v = .ref a ∧ SqT K H a bs ∧ Paired (BoltAt K H) bs l

theorem Paired.imp {α β : Type} {F G : α → β → Prop} (f : ∀ a b, F a b → G a b) : ∀ {l₁ : List α} {l₂ : List β}, Paired F l₁ l₂ → Paired G l₁ l₂
  | _, _, .nil => .nil
  | _, _, .cons r t => .cons (f _ _ r) (Paired.imp f t)
section
variable {K : PySem.W.Frag} {H H' : Hp} {v : V}
theorem Wd.mono (e : TX K H H') {ns : Word} (h : Wd K H v ns) : Wd K H' v ns := by
  obtain ⟨a, r, q⟩ := h
  exact ⟨a, r, e.2 _ _ q⟩
theorem GapAt.mono (e : TX K H H') {g : Gap} (h : GapAt K H v g) : GapAt K H' v g := by
  obtain ⟨a, b, ws, r, q1, q2, q3⟩ := h
  exact ⟨a, b, ws, r, e.1 _ _ q1, e.1 _ _ q2, Paired.imp (fun _ _ => Wd.mono e) q3⟩
theorem BoltAt.mono (e : TX K H H') {b : Bolt} (h : BoltAt K H v b) : BoltAt K H' v b := by
  obtain ⟨a, c, gs, r, q1, q2, q3⟩ := h
  exact ⟨a, c, gs, r, e.1 _ _ q1, e.1 _ _ q2, Paired.imp (fun _ _ => GapAt.mono e) q3⟩
theorem LockAt.mono (e : TX K H H') {l : Lock} (h : LockAt K H v l) : LockAt K H' v l := by
  obtain ⟨a, bs, r, q1, q2⟩ := h
  exact ⟨a, bs, r, e.1 _ _ q1, Paired.imp (fun _ _ => BoltAt.mono e) q2⟩
end
section
variable {α β : Type} {R : α → β → Prop}
theorem Paired.get1 : ∀ {xs : List α} {ys : List β} {i : Nat} {x : α}, Paired R xs ys → xs[i]? = some x → ∃ y, ys[i]? = some y ∧ R x y
  | _, _, _, _, .nil, e => by simp at e
  | _, _, 0, _, .cons r _, e => by simp at e; subst e; exact ⟨_, rfl, r⟩
  | _, _, i + 1, x, .cons _ t, e => by
    obtain ⟨u, h1, h2⟩ := Paired.get1 (i := i) (x := x) t (by simpa using e)
    exact ⟨u, by simpa using h1, h2⟩
theorem Paired.get2 : ∀ {xs : List α} {ys : List β} {i : Nat} {y : β}, Paired R xs ys → ys[i]? = some y → ∃ x, xs[i]? = some x ∧ R x y
  | _, _, _, _, .nil, e => by simp at e
  | _, _, 0, _, .cons r _, e => by simp at e; subst e; exact ⟨_, rfl, r⟩
  | _, _, i + 1, y, .cons _ t, e => by
    obtain ⟨u, h1, h2⟩ := Paired.get2 (i := i) (y := y) t (by simpa using e)
    exact ⟨u, by simpa using h1, h2⟩
theorem Paired.len {xs : List α} {ys : List β} (h : Paired R xs ys) : xs.length = ys.length := Paired.length h
theorem Paired.app : ∀ {xs : List α} {ys : List β} {xs' : List α} {ys' : List β}, Paired R xs ys → Paired R xs' ys' → Paired R (xs ++ xs') (ys ++ ys')
  | _, _, _, _, .nil, s => s
  | _, _, _, _, .cons r t, s => .cons r (Paired.app t s)
theorem Paired.takeN : ∀ {xs : List α} {ys : List β} (n : Nat), Paired R xs ys → Paired R (xs.take n) (ys.take n)
  | _, _, 0, _ => .nil
  | _, _, _ + 1, .nil => .nil
  | _, _, n + 1, .cons r t => .cons r (Paired.takeN n t)
end
theorem take_succ_get {α : Type} {xs : List α} {i : Nat} {x : α} (h : xs[i]? = some x) : xs.take (i + 1) = xs.take i ++ [x] := by
  rw [List.take_add_one, h]
  rfl
theorem get_map_int {ns : List Int} {i : Nat} {x : V} (h : (ns.map V.int)[i]? = some x) : ∃ n, ns[i]? = some n ∧ x = .int n := by
  rw [List.getElem?_map] at h
  cases e : ns[i]? with
  | none => rw [e] at h; cases h
  | some n => rw [e] at h; exact ⟨n, rfl, (Option.some.inj h).symm⟩
theorem map_int_get {ns : List Int} {i : Nat} {n : Int} (h : ns[i]? = some n) : (ns.map V.int)[i]? = some (.int n) := by
  rw [List.getElem?_map, h]
  rfl

/-! ### what a lock must be -/
def lexLt2 (a b c d : Int) : Prop := a < c ∨ (a = c ∧ b < d)
structure GapOk (manys : List Int) (many : Int) (g : Gap) : Prop where
  f0 : 0 ≤ g.frm
  f1 : g.frm < many
  t0 : 0 ≤ g.to_
  t1 : g.to_ < many
  ne : g.frm ≠ g.to_
  p0 : 1 ≤ g.price
  p1 : g.price ≤ 1000000
  few : g.ways.length ≤ 8
  words : ∀ w ∈ g.ways, w.length = manys.length ∧ ∀ (i : Nat) (x m : Int), w[i]? = some x → manys[i]? = some m → 0 ≤ x ∧ x < m
  rise : g.ways.Pairwise (fun u w => HT.lexLt u w = true)
structure BoltOk (manys : List Int) (b : Bolt) : Prop where
  m0 : 2 ≤ b.many
  m1 : b.many ≤ 4
  gaps : ∀ g ∈ b.gaps, GapOk manys b.many g
  rise : b.gaps.Pairwise (fun g h => lexLt2 g.frm g.to_ h.frm h.to_)
  few : (b.gaps.map (fun g => g.ways.length)).sum ≤ 8
def manysOf (l : Lock) : List Int := l.map (·.many)
/-- the ways of the bolts numbered k and more, cut to k places -/
def cutsFrom (l : Lock) (k : Nat) (w : Word) : Prop := ∃ (j : Nat) (b : Bolt) (g : Gap) (u : Word), k ≤ j ∧ l[j]? = some b ∧ g ∈ b.gaps ∧ u ∈ g.ways ∧ w = u.take k
structure LockOk (l : Lock) : Prop where
  n0 : 1 ≤ l.length
  n1 : l.length ≤ 60
  bolts : ∀ (k : Nat) (b : Bolt), l[k]? = some b → BoltOk (manysOf (l.take k)) b
  words : ∀ (k : Nat) (ws : List Word), k < l.length → ws.Nodup → (∀ w ∈ ws, cutsFrom l k w) → ws.length ≤ 8
end Wb

set_option Elab.async false
set_option linter.all false
set_option maxRecDepth 100000
set_option maxHeartbeats 4000000
set_option pp.maxSteps 600
set_option pp.deepTerms false
namespace Wb
open PySem PySem.Spec PyProof.Rows L2
def topS (i : Nat) : Stmt := PySem.Challenge.pw_waitbolts_k02_stands_and_wishes.main.body.getD i (.Pass ⟨0, 0, 0, 0⟩)
abbrev sWhole : Stmt := topS 1
abbrev sWholeIn : Stmt := topS 2
abbrev sTupOf : Stmt := topS 3
abbrev sPlaces : Stmt := topS 4
theorem scWhole : FnScope ["thing"] ["thing"] (defScope sWhole) := ⟨rfl, rfl, rfl, by decide +kernel, rfl, by decide +kernel, by decide +kernel⟩
theorem scWholeIn : FnScope ["thing", "low", "high"] ["thing", "low", "high"] (defScope sWholeIn) := ⟨rfl, rfl, rfl, by decide +kernel, rfl, by decide +kernel, by decide +kernel⟩
theorem scTupOf : FnScope ["thing", "low", "high"] ["thing", "low", "high"] (defScope sTupOf) := ⟨rfl, rfl, rfl, by decide +kernel, rfl, by decide +kernel, by decide +kernel⟩
theorem scPlaces : FnScope ["thing", "manys", "place", "many"] ["thing", "manys"] (defScope sPlaces) := ⟨rfl, rfl, rfl, by decide +kernel, rfl, by decide +kernel, by decide +kernel⟩

/-- the built-in names are the built-in ones -/
structure Bi (mg : Str → Option Value) : Prop where
  isi : mg "isinstance" = none
  int : mg "int" = none
  bool : mg "bool" = none
  tuple : mg "tuple" = none
  list : mg "list" = none
  len : mg "len" = none
  zip : mg "zip" = none
  all : mg "all" = none
  range : mg "range" = none
  rev : mg "reversed" = none
  enum : mg "enumerate" = none
  sorted : mg "sorted" = none
  set : mg "set" = none
  abs : mg "abs" = none
  repr : mg "repr" = none

theorem tyx_tup {K : PySem.W.Frag} {H : Hp} {a : Addr} {xs : List V} (h : SqT K H a xs) : TyX K H (.ref a) (.type "tuple") := by
  rcases h with (h | ⟨o, h⟩) | ⟨o, its, n, h, c, _⟩
  · exact .base (.tup h)
  · exact .fTuple h
  · exact .kTuple h c
theorem tyx_int {K : PySem.W.Frag} {H : Hp} (i : Int) : TyX K H (.int i) (.type "int") := .base (.int i)

/-! ### promises -/
def spWhole : Sp := fun vs H Q _ => ∃ i : Int, vs = [.int i] ∧ Q (.bl true) H
def spWholeIn : Sp := fun vs H Q _ => ∃ i l h : Int, vs = [.int i, .int l, .int h] ∧ Q (.bl (decide (l ≤ i) && decide (i ≤ h))) H
def spTupOf (K : PySem.W.Frag) : Sp := fun vs H Q _ => ∃ (a : Addr) (xs : List V) (l h : Int), vs = [.ref a, .int l, .int h] ∧ SqT K H a xs ∧ Q (.bl (decide (l ≤ (xs.length : Int)) && decide ((xs.length : Int) ≤ h))) H
/-- as many places as bolts, each of them one of its bolt's -/
def InAll (ns ms : List Int) : Prop := ns.length = ms.length ∧ ∀ (i : Nat) (n m : Int), ns[i]? = some n → ms[i]? = some m → 0 ≤ n ∧ n < m
def spPlaces (K : PySem.W.Frag) : Sp := fun vs H Q _ => ∃ (a b : Addr) (m : Bool) (ns ms : List Int), vs = [.ref a, .ref b] ∧ SqT K H a (ns.map V.int) ∧ SqX K m H b (ms.map V.int) ∧ InAll ns ms ∧ ∀ H', Evl.Ex H H' → Q (.bl true) H'

section
variable {P : Program} {w : World} {K : PySem.W.Frag} {mg : Str → Option Value} {base : Heap}
theorem ok_whole {f : Addr} {fd : FuncData} (F : Fun K "is_whole" "is_whole" sWhole f fd) (B : Bi mg) : FnOk P w K mg base CX0 1 f fd ["thing"] spWhole := by
  refine F.ok scWhole (fun vs H Q E h => ?_) (fun cdv A outer s H vs Q E hr h => ?_)
  · obtain ⟨i, rfl, _⟩ := h; rfl
  · obtain ⟨i, rfl, q⟩ := h
    refine ⟨_, pss_one (ps_ret (pe_and (pe_callB call_isi (by rfl) B.isi boot_isinstance (pa_cons (pv 0) (pa_cons (pe_bltn (v := .ty "int") (by rfl) B.int (by decide +kernel) rfl) pa_nil)))
      (pe_one (pe_not (pe_callB call_isi (by rfl) B.isi boot_isinstance (pa_cons (pv 0) (pa_cons (pe_bltn (v := .ty "bool") (by rfl) B.bool (by decide +kernel) rfl) pa_nil))))))), ?_⟩
    refine ⟨.int i, rfl, .int i, .ty "int", .type "int", .type "int", true, rfl, .ty _, tyx_int i, kit_ty (by decide +kernel), true, rfl, ?_⟩
    rw [if_pos rfl]
    refine ⟨.int i, rfl, .int i, .ty "bool", .type "int", .type "bool", false, rfl, .ty _, tyx_int i, kit_ty (by decide +kernel), false, rfl, q⟩
theorem ok_wholeIn {f f1 : Addr} {fd fd1 : FuncData} (F : Fun K "is_whole_in" "is_whole_in" sWholeIn f fd) (F1 : Fun K "is_whole" "is_whole" sWhole f1 fd1) (b1 : Binds K fd1 ["thing"] []) (g1 : mg "is_whole" = some (.ref f1)) (B : Bi mg) :
    FnOk P w K mg base CX0 2 f fd ["thing", "low", "high"] spWholeIn := by
  have G1 : FnOk P w K mg base CX0 1 f1 fd1 ["thing"] spWhole := ok_whole F1 B
  refine F.ok scWholeIn (fun vs H Q E h => ?_) (fun cdv A outer s H vs Q E hr h => ?_)
  · obtain ⟨i, l, m, rfl, _⟩ := h; rfl
  · obtain ⟨i, l, m, rfl, q⟩ := h
    refine ⟨_, pss_one (ps_ret (pe_and (pe_call G1 hr (by rfl) g1 F1.kp b1 .nil pass0 (pa_cons (pv 0) pa_nil)) (pe_one (pe_chain op_le op_le (pv 1) (pv 0) (pv 2))))), ?_⟩
    refine ⟨.int i, rfl, i, rfl, true, rfl, ?_⟩
    rw [if_pos rfl]
    refine ⟨.int l, rfl, .int i, rfl, l, i, rfl, rfl, decide (l ≤ i), rfl, ?_⟩
    by_cases h1 : l ≤ i
    · rw [if_pos (decide_eq_true h1)]
      refine ⟨.int m, rfl, i, m, rfl, rfl, ?_⟩
      rw [decide_eq_true h1] at q
      exact q
    · rw [if_neg (by rw [decide_eq_false h1]; exact Bool.false_ne_true)]
      rw [decide_eq_false h1] at q
      exact q
theorem ok_tupOf {f : Addr} {fd : FuncData} (F : Fun K "is_tuple_of" "is_tuple_of" sTupOf f fd) (B : Bi mg) : FnOk P w K mg base CX0 1 f fd ["thing", "low", "high"] (spTupOf K) := by
  refine F.ok scTupOf (fun vs H Q E h => ?_) (fun cdv A outer s H vs Q E hr h => ?_)
  · obtain ⟨a, xs, l, m, rfl, _⟩ := h; rfl
  · obtain ⟨a, xs, l, m, rfl, hx, q⟩ := h
    refine ⟨_, pss_one (ps_ret (pe_and (pe_callB call_isi (by rfl) B.isi boot_isinstance (pa_cons (pv 0) (pa_cons (pe_bltn (v := .ty "tuple") (by rfl) B.tuple (by decide +kernel) rfl) pa_nil)))
      (pe_one (pe_chain op_le op_le (pv 1) (pe_callB call_len_seq (by rfl) B.len PySem.boot_len (pa_cons (pv 0) pa_nil)) (pv 2))))), ?_⟩
    refine ⟨.ref a, rfl, .ref a, .ty "tuple", .type "tuple", .type "tuple", true, rfl, .ty _, tyx_tup hx, kit_ty (by decide +kernel), true, rfl, ?_⟩
    rw [if_pos rfl]
    refine ⟨.int l, rfl, .ref a, rfl, a, xs, rfl, .inr hx, l, xs.length, rfl, rfl, decide (l ≤ (xs.length : Int)), rfl, ?_⟩
    by_cases h1 : l ≤ (xs.length : Int)
    · rw [if_pos (decide_eq_true h1)]
      refine ⟨.int m, rfl, xs.length, m, rfl, rfl, ?_⟩
      rw [decide_eq_true h1] at q
      exact q
    · rw [if_neg (by rw [decide_eq_false h1]; exact Bool.false_ne_true)]
      rw [decide_eq_false h1] at q
      exact q
theorem sqx_ex {l : Bool} {H H' : Hp} {a : Addr} {xs : List V} (e : Evl.Ex H H') (h : SqX K l H a xs) : SqX K l H' a xs := by
  cases l
  · exact Evl.ex_t e h
  · exact Evl.ex_l e h
theorem sqx_seq {l : Bool} {H : Hp} {a : Addr} {xs : List V} (h : SqX K l H a xs) : SqL K H a xs ∨ SqT K H a xs := by
  cases l
  · exact .inr h
  · exact .inl h
theorem ok_places {f f1 : Addr} {fd fd1 : FuncData} (F : Fun K "are_places" "are_places" sPlaces f fd) (F1 : Fun K "is_tuple_of" "is_tuple_of" sTupOf f1 fd1) (b1 : Binds K fd1 ["thing", "low", "high"] []) (g1 : mg "is_tuple_of" = some (.ref f1)) (B : Bi mg) :
    FnOk P w K mg base CX0 2 f fd ["thing", "manys"] (spPlaces K) := by
  have G1 : FnOk P w K mg base CX0 1 f1 fd1 ["thing", "low", "high"] (spTupOf K) := ok_tupOf F1 B
  refine F.ok scPlaces (fun vs H Q E h => ?_) (fun cdv A outer s H vs Q E hr h => ?_)
  · obtain ⟨a, b, m, ns, ms, rfl, _⟩ := h; rfl
  · obtain ⟨a, b, m, ns, ms, rfl, hx, hy, ⟨hl, hin⟩, q⟩ := h
    have isI : ∀ (X : Cx) (T : String) (hT : X.mg T = none) (i : Nat), True := fun _ _ _ _ => trivial
    refine ⟨_, pss_cons (ps_if (pt_not (pt_val (pe_call G1 hr (by rfl) g1 F1.kp b1 .nil pass0 (pa_cons (pv 0) (pa_cons (pe_callB call_len_seq (by rfl) B.len PySem.boot_len (pa_cons (pv 1) pa_nil)) (pa_cons (pe_callB call_len_seq (by rfl) B.len PySem.boot_len (pa_cons (pv 1) pa_nil)) pa_nil))))))
        (pss_one (ps_ret pe_bl)) pss_nil)
      (pss_cons (ps_for PassesOwn.never rfl (pi_zipX (by rfl) B.zip (pa_cons (pv 0) (pa_cons (pv 1) pa_nil))) (pg_tup rfl (pgs_cons (pg_name (i := 2) scPlaces.nd rfl (.inl rfl)) (pgs_cons (pg_name (i := 3) scPlaces.nd rfl (.inl rfl)) pgs_nil)))
        (pss_one (ps_if (PW.pt (pw_or (pt_val (pe_callB call_isi (by rfl) B.isi boot_isinstance (pa_cons (pv 2) (pa_cons (pe_bltn (v := .ty "bool") (by rfl) B.bool (by decide +kernel) rfl) pa_nil))))
            (pw_or (pt_not (pt_val (pe_callB call_isi (by rfl) B.isi boot_isinstance (pa_cons (pv 2) (pa_cons (pe_bltn (v := .ty "int") (by rfl) B.int (by decide +kernel) rfl) pa_nil)))))
              (pw_or1 (pt_not (pt_chain op_le op_lt pe_int (pv 2) (pv 3)))))))
          (pss_one (ps_ret pe_bl)) pss_nil)))
      (pss_one (ps_ret pe_bl))), ?_⟩
    refine ⟨.ref a, rfl, .ref b, rfl, b, _, rfl, sqx_seq hy, .ref b, rfl, b, _, rfl, sqx_seq hy, a, _, _, _, rfl, hx, _, rfl, ?_⟩
    have e1 : (decide (((ms.map V.int).length : Int) ≤ ((ns.map V.int).length : Int)) && decide (((ns.map V.int).length : Int) ≤ ((ms.map V.int).length : Int))) = true := by
      rw [List.length_map, List.length_map, hl]
      simp
    rw [e1]
    refine iteF ?_
    refine ⟨.ref a, rfl, .ref b, rfl, false, m, a, b, ns.map V.int, ms.map V.int, rfl, hx, hy, ?_⟩
    refine for_it (walk_zx (l := false) (m := m) (xs := ns.map V.int) (ys := ms.map V.int) (by rw [List.length_map, List.length_map, hl])) (fun i σ H' => ∃ y2 y3, σ = [some (.ref a), some (.ref b), y2, y3] ∧ Evl.Ex H H') ⟨none, none, rfl, Evl.Ex.refl H⟩ ?_ ?_ ?_
    · rintro i σ H' _ ⟨_, _, _, e⟩
      exact ⟨Evl.ex_t e hx, sqx_ex e hy⟩
    · rintro i v σ H1 H2 hi ⟨y2, y3, rfl, e⟩ ⟨T, x, y, rfl, nT, rfl, ex, ey⟩
      obtain ⟨n, hn, rfl⟩ := get_map_int ex
      obtain ⟨k, hk, rfl⟩ := get_map_int ey
      obtain ⟨h0, h1⟩ := hin i n k hn hk
      refine ⟨T, [.int n, .int k], rfl, .inl (.inl upd_same), rfl, .int n, [.int k], rfl, .int k, [], rfl, rfl, ?_⟩
      refine ⟨.int n, rfl, .int n, .ty "bool", .type "int", .type "bool", false, rfl, .ty _, tyx_int n, kit_ty (by decide +kernel), false, rfl, ?_⟩
      refine iteF ?_
      refine ⟨.int n, rfl, .int n, .ty "int", .type "int", .type "int", true, rfl, .ty _, tyx_int n, kit_ty (by decide +kernel), true, rfl, ?_⟩
      refine iteF ?_
      refine ⟨.int n, rfl, 0, n, rfl, rfl, decide ((0:Int) ≤ n), rfl, ?_⟩
      rw [if_pos (decide_eq_true h0)]
      refine ⟨.int k, rfl, n, k, rfl, rfl, decide (n < k), rfl, ?_⟩
      rw [decide_eq_true h1]
      refine iteF ?_
      exact ⟨_, _, rfl, e.trans (Evl.Ex.new nT)⟩
    · rintro σ H' ⟨y2, y3, rfl, e⟩
      exact q H' e
end
end Wb

set_option Elab.async false
set_option linter.all false
set_option maxRecDepth 100000
set_option maxHeartbeats 4000000
set_option pp.maxSteps 600
set_option pp.deepTerms false
namespace Wb
open PySem PySem.Spec PyProof.Rows L2
abbrev sWays : Stmt := topS 21
abbrev sGap : Stmt := topS 20
abbrev sBolt : Stmt := topS 19
theorem scWays : FnScope ["thing", "below", "way", "n"] ["thing", "below"] (defScope sWays) := ⟨rfl, rfl, rfl, by decide +kernel, rfl, by decide +kernel, by decide +kernel⟩
theorem scGap : FnScope ["thing", "many", "below", "here", "there", "price", "ways"] ["thing", "many", "below"] (defScope sGap) := ⟨rfl, rfl, rfl, by decide +kernel, rfl, by decide +kernel, by decide +kernel⟩
theorem scBolt : FnScope ["thing", "below", "many", "gaps", "count", "last", "gap"] ["thing", "below"] (defScope sBolt) := ⟨rfl, rfl, rfl, by decide +kernel, rfl, by decide +kernel, by decide +kernel⟩

/-- the module's numbers -/
structure Nu (mg : Str → Option Value) : Prop where
  bolts : ∃ t, mg "MOST_BOLTS" = some (.int 60 t)
  fewest : ∃ t, mg "FEWEST_PLACES" = some (.int 2 t)
  places : ∃ t, mg "MOST_PLACES" = some (.int 4 t)
  ways : ∃ t, mg "MOST_WAYS" = some (.int 8 t)
  words : ∃ t, mg "MOST_WORDS" = some (.int 8 t)
  price : ∃ t, mg "MOST_PRICE" = some (.int 1000000 t)

/-- ways of a gap: words below, rising -/
structure WaysOk (ms : List Int) (ws : List Word) : Prop where
  few : ws.length ≤ 8
  words : ∀ w ∈ ws, InAll w ms
  rise : ws.Pairwise (fun u w => HT.lexLt u w = true)
def spWays (K : PySem.W.Frag) : Sp := fun vs H Q _ => ∃ (a b : Addr) (us : List V) (ws : List Word) (ms : List Int), vs = [.ref a, .ref b] ∧ SqT K H a us ∧ Paired (Wd K H) us ws ∧ SqL K H b (ms.map V.int) ∧ WaysOk ms ws ∧ ∀ H', Evl.Ex H H' → Q (.bl true) H'

theorem wd_ex {K : PySem.W.Frag} {H H' : Hp} (e : Evl.Ex H H') {v : V} {ns : Word} (h : Wd K H v ns) : Wd K H' v ns := h.mono (TX.ex e)
theorem all_true (n : Nat) : ((List.replicate n true).all id) = true := by simp

section
variable {P : Program} {w : World} {K : PySem.W.Frag} {mg : Str → Option Value} {base : Heap}
theorem ok_ways {f f1 f2 : Addr} {fd fd1 fd2 : FuncData} (F : Fun K "are_ways" "are_ways" sWays f fd) (F1 : Fun K "is_tuple_of" "is_tuple_of" sTupOf f1 fd1) (b1 : Binds K fd1 ["thing", "low", "high"] []) (g1 : mg "is_tuple_of" = some (.ref f1))
    (F2 : Fun K "are_places" "are_places" sPlaces f2 fd2) (b2 : Binds K fd2 ["thing", "manys"] []) (g2 : mg "are_places" = some (.ref f2)) (B : Bi mg) (N : Nu mg) :
    FnOk P w K mg base CX0 3 f fd ["thing", "below"] (spWays K) := by
  have G1 : FnOk P w K mg base CX0 1 f1 fd1 ["thing", "low", "high"] (spTupOf K) := ok_tupOf F1 B
  have G2 : FnOk P w K mg base CX0 2 f2 fd2 ["thing", "manys"] (spPlaces K) := ok_places F2 F1 b1 g1 B
  obtain ⟨tw, ew⟩ := N.ways
  refine F.ok scWays (fun vs H Q E h => ?_) (fun cdv A outer s H vs Q E hr h => ?_)
  · obtain ⟨a, b, us, ws, ms, rfl, _⟩ := h; rfl
  · obtain ⟨a, b, us, ws, ms, rfl, hx, hp, hy, ok, q⟩ := h
    have hr1 : Room 1 _ := hr.mono (by decide)
    refine ⟨_, pss_cons (ps_if (pt_not (pt_val (pe_call G1 hr1 (by rfl) g1 F1.kp b1 .nil pass0 (pa_cons (pv 0) (pa_cons pe_int (pa_cons (pe_glob (v := .int 8) (by rfl) ew ⟨_, rfl⟩) pa_nil)))))) (pss_one (ps_ret pe_bl)) pss_nil)
      (pss_cons (ps_if (pt_not (pt_val (pe_callB (cr_all rfl) (by rfl) B.all boot_all (pa_cons
          (pe_lc (own := [("way", 2)]) (g := gName 2) rfl scWays.nd (pi_tup (pv 0)) (blkOk_by (own := [("way", 2)]) (N := ["thing", "below", "way", "n"]) (sc := defScope sWays) (by decide +kernel))
            (fun _ _ _ _ _ => pg_name (i := 2) scWays.nd rfl (Or.inl rfl)) (fun _ _ _ _ _ => pts_nil)
            (fun _ _ _ _ _ => pe_call G2 hr (by rfl) g2 F2.kp b2 .nil pass0 (pa_cons (pv 2) (pa_cons (pv 1) pa_nil)))) pa_nil)))) (pss_one (ps_ret pe_bl)) pss_nil)
      (pss_one (ps_ret (pe_callB (cr_all rfl) (by rfl) B.all boot_all (pa_cons
          (pe_lc (own := [("n", 3)]) (g := gName 3) rfl scWays.nd (pi_range1 rfl B.range (pa_cons (pe_op op_sub (pe_callB call_len_seq (by rfl) B.len PySem.boot_len (pa_cons (pv 0) pa_nil)) pe_int) pa_nil)) (blkOk_by (own := [("n", 3)]) (N := ["thing", "below", "way", "n"]) (sc := defScope sWays) (by decide +kernel))
            (fun _ _ _ _ _ => pg_name (i := 3) scWays.nd rfl (Or.inl rfl)) (fun _ _ _ _ _ => pts_nil)
            (fun _ _ _ _ _ => pe_cmpR (r := rLtT K) (op_ltT hr.units0) (pe_ix (r := rIxT K) ix_tup (pv 0) (pv 3) (fun _ _ => rfl)) (pe_ix (r := rIxT K) ix_tup (pv 0) (pe_op op_add (pv 3) pe_int) (fun _ _ => rfl)) (nomark _))) pa_nil))))), ?_⟩
    have ul : us.length = ws.length := Paired.len hp
    have few := ok.few
    refine ⟨.ref a, rfl, a, us, 0, 8, rfl, hx, _, rfl, ?_⟩
    have e1 : (decide ((0 : Int) ≤ (us.length : Int)) && decide ((us.length : Int) ≤ 8)) = true := by
      rw [ul]
      simp
      omega
    rw [e1]
    refine iteF ?_
    refine ⟨.ref a, rfl, a, rfl, ⟨_, hx⟩, fun D hD => lc_tup (K := K) (a := a) (xs := us) (fun i H' => Evl.Ex H H' ∧ H' D = some (.lst ((List.replicate i true).map V.bl))) ⟨Evl.Ex.new hD, upd_same⟩ ?_ ?_ ?_⟩
    · rintro i H' _ ⟨e, _⟩
      exact Evl.ex_t e hx
    · rintro i x H' hi ⟨e, eD⟩
      obtain ⟨wd, hw, ⟨ax, rfl, hax⟩⟩ := Paired.get1 hp hi
      have hin := ok.words wd (List.mem_of_getElem? hw)
      refine ⟨rfl, .ref ax, rfl, .ref b, rfl, ax, b, true, wd, ms, rfl, Evl.ex_t e (SqT.of hax), Evl.ex_l e hy, hin, ?_⟩
      intro H2 e2
      have l9 : i < 9 := by
        have := (List.getElem?_eq_some_iff.mp hi).1
        omega
      refine ⟨_, e2 _ _ eD, ?_, (e.trans e2).mut hD, ?_⟩
      · rw [List.length_map, List.length_replicate]
        exact Nat.lt_of_lt_of_le l9 (by decide)
      · rw [upd_same, List.replicate_succ', List.map_append]
        rfl
    · rintro H1 ⟨e, eD⟩
      refine ⟨D, _, rfl, .inl (.inl eD), true, ?_, ?_⟩
      · rw [all_true]
      · refine iteF ?_
        refine ⟨.ref a, rfl, a, us, rfl, .inr (Evl.ex_t e hx), _, _, rfl, rfl, (us.length : Int) - 1, rfl, by omega, by omega, fun D2 hD2 =>
          lc_range (lo := 0) (n := ((us.length : Int) - 1).toNat) (fun i H' => Evl.Ex H1 H' ∧ H' D2 = some (.lst ((List.replicate i true).map V.bl))) ⟨Evl.Ex.new hD2, upd_same⟩ ?_ ?_⟩
        · rintro i H' hi ⟨e2, eD2⟩
          have h1 : i < us.length := by omega
          have h2 : i + 1 < us.length := by omega
          obtain ⟨u1, hu1, ⟨a1, ea1, ha1⟩⟩ := Paired.get1 hp (List.getElem?_eq_getElem h1)
          obtain ⟨u2, hu2, ⟨a2, ea2, ha2⟩⟩ := Paired.get1 hp (List.getElem?_eq_getElem h2)
          have rise : HT.lexLt u1 u2 = true := by
            obtain ⟨l1, q1⟩ := List.getElem?_eq_some_iff.mp hu1
            obtain ⟨l2, q2⟩ := List.getElem?_eq_some_iff.mp hu2
            have := List.pairwise_iff_getElem.mp ok.rise i (i + 1) l1 l2 (Nat.lt_succ_self i)
            rw [q1, q2] at this
            exact this
          refine ⟨rfl, ?_⟩
          have e3 := e.trans e2
          refine ⟨.ref a, rfl, .int ((0 : Int) + (i : Nat)), rfl, a, us, (0 : Int) + (i : Nat), .ref a1, rfl, rfl, Evl.ex_t e3 hx, ?_, .ref a, rfl, .int ((0 : Int) + (i : Nat)), rfl, _, _, rfl, rfl, a, us, (0 : Int) + (i : Nat) + 1, .ref a2, rfl, rfl, Evl.ex_t e3 hx, ?_, a1, a2, u1, u2, rfl, rfl, Evl.ex_t e3 (SqT.of ha1), Evl.ex_t e3 (SqT.of ha2), ?_⟩
          · have z : (0 : Int) + (i : Nat) = ((i : Nat) : Int) := by omega
            rw [z, ← ea1]
            exact atI_nat (List.getElem?_eq_getElem h1)
          · have z : (0 : Int) + (i : Nat) + 1 = ((i + 1 : Nat) : Int) := by omega
            rw [z, ← ea2]
            exact atI_nat (List.getElem?_eq_getElem h2)
          · refine ⟨_, eD2, ?_, e2.mut hD2, ?_⟩
            · rw [List.length_map, List.length_replicate]
              exact Nat.lt_of_lt_of_le (show i < 9 by omega) (by decide)
            · rw [upd_same, List.replicate_succ', List.map_append, rise]
              rfl
        · rintro H2 ⟨e2, eD2⟩
          refine ⟨D2, _, rfl, .inl (.inl eD2), ?_⟩
          rw [all_true]
          exact q H2 (e.trans e2)
end
end Wb

set_option Elab.async false
set_option linter.all false
set_option maxRecDepth 100000
set_option maxHeartbeats 4000000
set_option pp.maxSteps 600
set_option pp.deepTerms false
namespace Wb
open PySem PySem.Spec PyProof.Rows L2
def spGap (K : PySem.W.Frag) : Sp := fun vs H Q _ => ∃ (v : V) (b : Addr) (g : Gap) (many : Int) (ms : List Int), vs = [v, .int many, .ref b] ∧ GapAt K H v g ∧ SqL K H b (ms.map V.int) ∧ GapOk ms many g ∧ ∀ H', Evl.Ex H H' → Q (.bl true) H'
def spBolt (K : PySem.W.Frag) : Sp := fun vs H Q _ => ∃ (v : V) (b : Addr) (bo : Bolt) (ms : List Int), vs = [v, .ref b] ∧ BoltAt K H v bo ∧ SqL K H b (ms.map V.int) ∧ BoltOk ms bo ∧ ∀ H', Evl.Ex H H' → Q (.bl true) H'

theorem inAll_two {a b m : Int} (h1 : 0 ≤ a) (h2 : a < m) (h3 : 0 ≤ b) (h4 : b < m) : InAll [a, b] [m, m] := by
  refine ⟨rfl, fun i n k hn hk => ?_⟩
  match i, hn, hk with
  | 0, hn, hk =>
    cases hn; cases hk; exact ⟨h1, h2⟩
  | 1, hn, hk =>
    cases hn; cases hk; exact ⟨h3, h4⟩
  | i + 2, hn, hk => simp at hn
theorem GapOk.ways_ok {ms : List Int} {many : Int} {g : Gap} (h : GapOk ms many g) : WaysOk ms g.ways :=
  ⟨h.few, fun w hw => ⟨(h.words w hw).1, (h.words w hw).2⟩, h.rise⟩
theorem lex2 {a b c d : Int} (h : lexLt2 c d a b) : Ob.lexAt (fun j => decide (([a, b] : List Int).getD j 0 = ([c, d] : List Int).getD j 0)) (fun j => decide (([a, b] : List Int).getD j 0 ≤ ([c, d] : List Int).getD j 0)) (decide (([a, b] : List Int).length ≤ ([c, d] : List Int).length)) 0 (min ([a, b] : List Int).length ([c, d] : List Int).length) = false := by
  show (if decide (a = c) = true then (if decide (b = d) = true then (decide (2 ≤ 2)) else decide (b ≤ d)) else decide (a ≤ c)) = false
  rcases h with h | ⟨h, h'⟩
  · rw [if_neg (by simp; omega)]
    simp; omega
  · rw [if_pos (by simp; omega), if_neg (by simp; omega)]
    simp; omega
theorem cut2 {a b c d : V} : cutV [a, b, c, d] none (some 2) = [a, b] := by
  unfold cutV
  rw [HT.sIx_none]
  rw [show HT.sIx [a, b, c, d].length [a, b, c, d].length (some 2) = 2 from HT.sIx_nat 4 4 2]
  rfl

section
variable {P : Program} {w : World} {K : PySem.W.Frag} {mg : Str → Option Value} {base : Heap}
theorem ok_gap {f f1 f2 f3 f4 f5 : Addr} {fd fd1 fd2 fd3 fd4 fd5 : FuncData} (F : Fun K "is_gap" "is_gap" sGap f fd) (F1 : Fun K "is_tuple_of" "is_tuple_of" sTupOf f1 fd1) (b1 : Binds K fd1 ["thing", "low", "high"] []) (g1 : mg "is_tuple_of" = some (.ref f1))
    (F2 : Fun K "are_places" "are_places" sPlaces f2 fd2) (b2 : Binds K fd2 ["thing", "manys"] []) (g2 : mg "are_places" = some (.ref f2))
    (F3 : Fun K "is_whole_in" "is_whole_in" sWholeIn f3 fd3) (b3 : Binds K fd3 ["thing", "low", "high"] []) (g3 : mg "is_whole_in" = some (.ref f3))
    (F4 : Fun K "are_ways" "are_ways" sWays f4 fd4) (b4 : Binds K fd4 ["thing", "below"] []) (g4 : mg "are_ways" = some (.ref f4))
    (F5 : Fun K "is_whole" "is_whole" sWhole f5 fd5) (b5 : Binds K fd5 ["thing"] []) (g5 : mg "is_whole" = some (.ref f5)) (B : Bi mg) (N : Nu mg) :
    FnOk P w K mg base CX0 4 f fd ["thing", "many", "below"] (spGap K) := by
  have G1 : FnOk P w K mg base CX0 1 f1 fd1 ["thing", "low", "high"] (spTupOf K) := ok_tupOf F1 B
  have G2 : FnOk P w K mg base CX0 2 f2 fd2 ["thing", "manys"] (spPlaces K) := ok_places F2 F1 b1 g1 B
  have G3 : FnOk P w K mg base CX0 2 f3 fd3 ["thing", "low", "high"] spWholeIn := ok_wholeIn F3 F5 b5 g5 B
  have G4 : FnOk P w K mg base CX0 3 f4 fd4 ["thing", "below"] (spWays K) := ok_ways F4 F1 b1 g1 F2 b2 g2 B N
  obtain ⟨tp, ep⟩ := N.price
  refine F.ok scGap (fun vs H Q E h => ?_) (fun cdv A outer s H vs Q E hr h => ?_)
  · obtain ⟨v, b, g, m, ms, rfl, _⟩ := h; rfl
  · obtain ⟨v, b, g, m, ms, rfl, ⟨a, c, ws, rfl, hx, hw, hp⟩, hy, ok, q⟩ := h
    have hr1 : Room 1 _ := hr.mono (by decide)
    have hr2 : Room 2 _ := hr.mono (by decide)
    refine ⟨_, pss_cons (ps_if (pt_not (pt_val (pe_call G1 hr1 (by rfl) g1 F1.kp b1 .nil pass0 (pa_cons (pv 0) (pa_cons pe_int (pa_cons pe_int pa_nil)))))) (pss_one (ps_ret pe_bl)) pss_nil)
      (pss_cons (ps_asg (pv 0) (pg_tup rfl (pgs_cons (pg_name (i := 3) scGap.nd rfl (.inl rfl)) (pgs_cons (pg_name (i := 4) scGap.nd rfl (.inl rfl)) (pgs_cons (pg_name (i := 5) scGap.nd rfl (.inl rfl)) (pgs_cons (pg_name (i := 6) scGap.nd rfl (.inl rfl)) pgs_nil))))))
      (pss_cons (ps_if (PW.pt (pw_or (pt_not (pt_val (pe_call G2 hr2 (by rfl) g2 F2.kp b2 .nil pass0 (pa_cons (pe_tup (pa_cons (pv 3) (pa_cons (pv 4) pa_nil))) (pa_cons (pe_tup (pa_cons (pv 1) (pa_cons (pv 1) pa_nil))) pa_nil)))))
          (pw_or1 (pt_cmpR op_eq (pv 3) (pv 4) (nomark _))))) (pss_one (ps_ret pe_bl)) pss_nil)
      (pss_one (ps_ret (pe_and (pe_call G3 hr2 (by rfl) g3 F3.kp b3 .nil pass0 (pa_cons (pv 5) (pa_cons pe_int (pa_cons (pe_glob (v := .int 1000000) (by rfl) ep ⟨_, rfl⟩) pa_nil))))
        (pe_one (pe_call G4 hr (by rfl) g4 F4.kp b4 .nil pass0 (pa_cons (pv 6) (pa_cons (pv 2) pa_nil))))))))), ?_⟩
    refine ⟨.ref a, rfl, a, _, 4, 4, rfl, hx, true, rfl, ?_⟩
    refine iteF ?_
    refine ⟨.ref a, rfl, a, _, rfl, hx, rfl, _, _, rfl, _, _, rfl, _, _, rfl, _, _, rfl, rfl, ?_⟩
    refine ⟨.int g.frm, rfl, .int g.to_, rfl, (by show 2 ≤ sizeLine; decide), fun p1 n1 => ?_⟩
    refine ⟨.int m, rfl, .int m, rfl, (by show 2 ≤ sizeLine; decide), fun p2 n2 => ?_⟩
    have x1 : Evl.Ex H (upd H p1 (.tup [.int g.frm, .int g.to_])) := Evl.Ex.new n1
    have x2 := Evl.Ex.new (o := .tup [.int m, .int m]) n2
    refine ⟨p1, p2, false, [g.frm, g.to_], [m, m], rfl, .inl (.inl (x2 _ _ upd_same)), (Or.inl (Or.inl upd_same)), inAll_two ok.f0 ok.f1 ok.t0 ok.t1, fun H' x3 => ?_⟩
    refine ⟨true, rfl, ?_⟩
    refine iteF ?_
    refine ⟨.int g.frm, rfl, .int g.to_, rfl, rfl, decide (V.int g.frm = V.int g.to_), rfl, ?_⟩
    have ne : decide (V.int g.frm = V.int g.to_) = false := decide_eq_false fun z => ok.ne (V.int.inj z)
    rw [ne]
    refine iteF ?_
    refine ⟨.int g.price, rfl, g.price, 1, 1000000, rfl, true, ?_, ?_⟩
    · have z1 := ok.p0
      have z2 := ok.p1
      rw [decide_eq_true z1, decide_eq_true z2]
      rfl
    · refine iteT ?_
      have x : Evl.Ex H H' := (x1.trans x2).trans x3
      refine ⟨.ref c, rfl, .ref b, rfl, c, b, ws, g.ways, ms, rfl, Evl.ex_t x hw, Paired.imp (fun _ _ => wd_ex x) hp, Evl.ex_l x hy, ok.ways_ok, fun H2 y => q H2 (x.trans y)⟩
theorem ok_bolt {f f1 f2 f3 f4 f5 f6 : Addr} {fd fd1 fd2 fd3 fd4 fd5 fd6 : FuncData} (F : Fun K "is_bolt" "is_bolt" sBolt f fd) (F1 : Fun K "is_tuple_of" "is_tuple_of" sTupOf f1 fd1) (b1 : Binds K fd1 ["thing", "low", "high"] []) (g1 : mg "is_tuple_of" = some (.ref f1))
    (F2 : Fun K "are_places" "are_places" sPlaces f2 fd2) (b2 : Binds K fd2 ["thing", "manys"] []) (g2 : mg "are_places" = some (.ref f2))
    (F3 : Fun K "is_whole_in" "is_whole_in" sWholeIn f3 fd3) (b3 : Binds K fd3 ["thing", "low", "high"] []) (g3 : mg "is_whole_in" = some (.ref f3))
    (F4 : Fun K "are_ways" "are_ways" sWays f4 fd4) (b4 : Binds K fd4 ["thing", "below"] []) (g4 : mg "are_ways" = some (.ref f4))
    (F5 : Fun K "is_whole" "is_whole" sWhole f5 fd5) (b5 : Binds K fd5 ["thing"] []) (g5 : mg "is_whole" = some (.ref f5))
    (F6 : Fun K "is_gap" "is_gap" sGap f6 fd6) (b6 : Binds K fd6 ["thing", "many", "below"] []) (g6 : mg "is_gap" = some (.ref f6)) (B : Bi mg) (N : Nu mg) :
    FnOk P w K mg base CX0 5 f fd ["thing", "below"] (spBolt K) := by
  have G1 : FnOk P w K mg base CX0 1 f1 fd1 ["thing", "low", "high"] (spTupOf K) := ok_tupOf F1 B
  have G3 : FnOk P w K mg base CX0 2 f3 fd3 ["thing", "low", "high"] spWholeIn := ok_wholeIn F3 F5 b5 g5 B
  have G6 : FnOk P w K mg base CX0 4 f6 fd6 ["thing", "many", "below"] (spGap K) := ok_gap F6 F1 b1 g1 F2 b2 g2 F3 b3 g3 F4 b4 g4 F5 b5 g5 B N
  obtain ⟨tf, ef⟩ := N.fewest
  obtain ⟨tl, el⟩ := N.places
  obtain ⟨tw, ew⟩ := N.ways
  refine F.ok scBolt (fun vs H Q E h => ?_) (fun cdv A outer s H vs Q E hr h => ?_)
  · obtain ⟨v, b, bo, ms, rfl, _⟩ := h; rfl
  · obtain ⟨v, b, bo, ms, rfl, ⟨a, c, gs, rfl, hx, hg, hp⟩, hy, ok, q⟩ := h
    have hr1 : Room 1 _ := hr.mono (by decide)
    have hr2 : Room 2 _ := hr.mono (by decide)
    refine ⟨_, pss_cons (ps_if (pt_not (pt_val (pe_call G1 hr1 (by rfl) g1 F1.kp b1 .nil pass0 (pa_cons (pv 0) (pa_cons pe_int (pa_cons pe_int pa_nil)))))) (pss_one (ps_ret pe_bl)) pss_nil)
      (pss_cons (ps_asg (pv 0) (pg_tup rfl (pgs_cons (pg_name (i := 2) scBolt.nd rfl (.inl rfl)) (pgs_cons (pg_name (i := 3) scBolt.nd rfl (.inl rfl)) pgs_nil))))
      (pss_cons (ps_if (PW.pt (pw_or (pt_not (pt_val (pe_call G3 hr2 (by rfl) g3 F3.kp b3 .nil pass0 (pa_cons (pv 2) (pa_cons (pe_glob (v := .int 2) (by rfl) ef ⟨_, rfl⟩) (pa_cons (pe_glob (v := .int 4) (by rfl) el ⟨_, rfl⟩) pa_nil))))))
          (pw_or1 (pt_not (pt_val (pe_callB call_isi (by rfl) B.isi boot_isinstance (pa_cons (pv 3) (pa_cons (pe_bltn (v := .ty "tuple") (by rfl) B.tuple (by decide +kernel) rfl) pa_nil)))))))) (pss_one (ps_ret pe_bl)) pss_nil)
      (pss_cons (ps_set (i := 4) scBolt.nd rfl (.inl rfl) pe_int)
      (pss_cons (ps_set (i := 5) scBolt.nd rfl (.inl rfl) (pe_tup (pa_cons (pe_un un_neg pe_int) (pa_cons (pe_un un_neg pe_int) pa_nil))))
      (pss_cons (ps_for PassesOwn.never rfl (pi_tup (pv 3)) (pg_name (i := 6) scBolt.nd rfl (.inl rfl))
        (pss_cons (ps_if (PW.pt (pw_or (pt_not (pt_val (pe_call G6 hr (by rfl) g6 F6.kp b6 .nil pass0 (pa_cons (pv 6) (pa_cons (pv 2) (pa_cons (pv 1) pa_nil))))))
            (pw_or1 (pt_cmpR (op_leT hr.units0) (pe_slice sl_tupA (pv 6) po_none (po_some pe_int)) (pv 5) (nomark _))))) (pss_one (ps_ret pe_bl)) pss_nil)
        (pss_cons (ps_set (i := 5) scBolt.nd rfl (.inl rfl) (pe_slice sl_tupA (pv 6) po_none (po_some pe_int)))
        (pss_one (ps_aug (i := 4) scBolt.nd rfl (.inl rfl) (pe_callB call_len_seq (by rfl) B.len PySem.boot_len (pa_cons (pe_ix ix_tup (pv 6) pe_int (fun _ _ => rfl)) pa_nil)) ip_add)))))
      (pss_one (ps_ret (pe_cmpR op_le (pv 4) (pe_glob (v := .int 8) (by rfl) ew ⟨_, rfl⟩) (nomark _))))))))), ?_⟩
    refine ⟨.ref a, rfl, a, _, 2, 2, rfl, hx, true, rfl, ?_⟩
    refine iteF ?_
    refine ⟨.ref a, rfl, a, _, rfl, hx, rfl, _, _, rfl, _, _, rfl, rfl, ?_⟩
    refine ⟨.int bo.many, rfl, bo.many, 2, 4, rfl, true, ?_, ?_⟩
    · rw [decide_eq_true ok.m0, decide_eq_true ok.m1]
      rfl
    refine iteF ?_
    refine ⟨.ref c, rfl, .ref c, .ty "tuple", .type "tuple", .type "tuple", true, rfl, .ty _, tyx_tup hg, kit_ty (by decide +kernel), true, rfl, ?_⟩
    refine iteF ?_
    refine ⟨1, rfl, 1, rfl, (by show 2 ≤ sizeLine; decide), fun p0 n0 => ?_⟩
    have gl : gs.length = bo.gaps.length := Paired.len hp
    refine ⟨.ref c, rfl, c, rfl, ⟨_, (Evl.ex_t (Evl.Ex.new n0) hg)⟩, for_tup (K := K) (a := c) (xs := gs)
      (fun i σ H' => ∃ (pl : Addr) (lf lt : Int) (y6 : Option V), σ = [some (.ref a), some (.ref b), some (.int bo.many), some (.ref c), some (.int (((bo.gaps.take i).map (fun g => ((g.ways.length : Nat) : Int))).sum)), some (.ref pl), y6] ∧
        Evl.Ex H H' ∧ SqT K H' pl ([lf, lt].map V.int) ∧ (∀ g, bo.gaps[i]? = some g → lexLt2 lf lt g.frm g.to_)) ⟨p0, -1, -1, none, rfl, Evl.Ex.new n0, .inl (.inl upd_same), ?_⟩ ?_ ?_ ?_⟩
    · intro g hgi
      have := (ok.gaps g (List.mem_of_getElem? hgi)).f0
      exact .inl (by omega)
    · rintro i σ H' _ ⟨_, _, _, _, _, e, _⟩
      exact Evl.ex_t e hg
    · rintro i x σ H' hi ⟨pl, lf, lt, y6, rfl, e, hpl, hlex⟩
      obtain ⟨g, hgi, hga⟩ := Paired.get1 hp hi
      have hga' : GapAt K H' x g := hga.mono (TX.ex e)
      obtain ⟨ag, bg, ws, rfl, h1, h2, h3⟩ := hga'
      have gok := ok.gaps g (List.mem_of_getElem? hgi)
      refine ⟨.ref ag, rfl, .int bo.many, rfl, .ref b, rfl, .ref ag, b, g, bo.many, ms, rfl, ⟨ag, bg, ws, rfl, h1, h2, h3⟩, Evl.ex_l e hy, gok, fun H2 e2 => ?_⟩
      refine ⟨true, rfl, iteF ?_⟩
      have ex2 := e.trans e2
      refine ⟨.ref ag, rfl, 2, rfl, ag, _, rfl, Evl.ex_t e2 h1, fun z => absurd (show HT.sIx 4 4 (some 2) = 4 from z.2) (by decide), fun _ p np => ?_⟩
      rw [cut2]
      have e3 := Evl.Ex.new (o := .tup [V.int g.frm, V.int g.to_]) np
      refine ⟨.ref pl, rfl, p, pl, [g.frm, g.to_], [lf, lt], rfl, rfl, .inl (.inl upd_same), Evl.ex_t (e2.trans e3) hpl, _, rfl, ?_⟩
      rw [lex2 (hlex g hgi)]
      refine iteF ?_
      refine ⟨.ref ag, rfl, 2, rfl, ag, _, rfl, Evl.ex_t (e2.trans e3) h1, fun z => absurd (show HT.sIx 4 4 (some 2) = 4 from z.2) (by decide), fun _ p' np' => ?_⟩
      rw [cut2]
      have e4 := Evl.Ex.new (o := .tup [V.int g.frm, V.int g.to_]) np'
      refine ⟨_, rfl, .ref ag, rfl, ag, _, 3, .ref bg, rfl, rfl, Evl.ex_t ((e2.trans e3).trans e4) h1, atI_nat (j := 3) rfl, bg, ws, rfl, .inr (Evl.ex_t ((e2.trans e3).trans e4) h2), _, _, rfl, rfl, ?_⟩
      refine ⟨p', g.frm, g.to_, some (.ref ag), ?_, (ex2.trans e3).trans e4, .inl (.inl upd_same), fun g' hg' => ?_⟩
      · have wl : ws.length = g.ways.length := Paired.len h3
        rw [take_succ_get hgi, List.map_append, List.sum_append, wl]
        simp
      · obtain ⟨l1, q1⟩ := List.getElem?_eq_some_iff.mp hgi
        obtain ⟨l2, q2⟩ := List.getElem?_eq_some_iff.mp hg'
        have := List.pairwise_iff_getElem.mp ok.rise i (i + 1) l1 l2 (Nat.lt_succ_self i)
        rw [q1, q2] at this
        exact this
    · rintro σ H' ⟨pl, lf, lt, y6, rfl, e, hpl, hlex⟩
      refine ⟨_, rfl, _, 8, rfl, rfl, ?_⟩
      have s8 : decide ((((bo.gaps.take gs.length).map (fun g => ((g.ways.length : Nat) : Int))).sum) ≤ 8) = true := by
        have h := ok.few
        rw [gl, List.take_length]
        have z : ∀ l : List Gap, (l.map (fun g => ((g.ways.length : Nat) : Int))).sum = (((l.map (fun g => g.ways.length)).sum : Nat) : Int) := by
          intro l
          induction l with
          | nil => rfl
          | cons g l ih => simp [ih]
        rw [z]
        simp
        omega
      show Q (.bl (decide (_ ≤ 8))) H'
      rw [s8]
      exact q H' e
end
end Wb

set_option Elab.async false
set_option linter.all false
set_option maxRecDepth 100000
set_option maxHeartbeats 4000000
set_option pp.maxSteps 600
set_option pp.deepTerms false
namespace Wb
open PySem PySem.Spec PyProof.Rows L2
abbrev sWords : Stmt := topS 10
theorem scWords : FnScope ["lock", "rows", "above", "k", "found", "word", "gap", "way"] ["lock"] (defScope sWords) := ⟨rfl, rfl, rfl, by decide +kernel, rfl, by decide +kernel, by decide +kernel⟩

/-! ### words as keys -/
def keyW (w : Word) : List Key := w.map Sum.inl
theorem keyW_kV (w : Word) : (keyW w).map kV = w.map V.int := by
  unfold keyW
  rw [List.map_map]
  rfl
theorem keyW_inj {u w : Word} (h : keyW u = keyW w) : u = w := by
  unfold keyW at h
  exact (List.map_inj_right (fun _ _ e => Sum.inl.inj e)).mp h
def kws (ws : List Word) (v : Word → V) : List (List Key × V) := ws.map fun w => (keyW w, v w)
def addW (ws : List Word) (w : Word) : List Word := if w ∈ ws then ws else ws ++ [w]
theorem kws_any (ws : List Word) (v : Word → V) (w : Word) : ((kws ws v).any fun kv => decide (kv.1 = keyW w)) = decide (w ∈ ws) := by
  unfold kws
  rw [List.any_map]
  rw [Bool.eq_iff_iff]
  simp only [List.any_eq_true, Function.comp, decide_eq_true_eq]
  constructor
  · rintro ⟨u, hu, e⟩
    rw [← keyW_inj e]
    exact hu
  · intro h
    exact ⟨w, h, rfl⟩
theorem put_kws (ws : List Word) (w : Word) : putK (kws ws fun _ => .bl true) (keyW w) (.bl true) = kws (addW ws w) fun _ => .bl true := by
  unfold putK addW
  rw [kws_any]
  by_cases h : w ∈ ws
  · rw [if_pos (decide_eq_true h), if_pos h]
    unfold kws
    rw [List.map_map]
    apply List.map_congr_left
    intro u _
    show (if keyW u = keyW w then (keyW u, V.bl true) else (keyW u, V.bl true)) = (keyW u, V.bl true)
    split <;> rfl
  · rw [if_neg (by rw [decide_eq_false h]; exact Bool.false_ne_true), if_neg h]
    unfold kws
    rw [List.map_append]
    rfl
theorem mem_addW {ws : List Word} {w u : Word} : u ∈ addW ws w ↔ u ∈ ws ∨ u = w := by
  unfold addW
  split
  · rename_i h
    exact ⟨.inl, fun z => z.elim id fun e => e ▸ h⟩
  · simp
theorem nodup_addW {ws : List Word} {w : Word} (h : ws.Nodup) : (addW ws w).Nodup := by
  unfold addW
  split
  · exact h
  · rename_i hn
    rw [List.nodup_append]
    refine ⟨h, by simp, ?_⟩
    intro a ha b hb
    simp at hb
    subst hb
    intro e
    exact hn (e ▸ ha)
theorem valV_kws (ws : List Word) (v : Word → V) (w : Word) : valV (kws ws v) (keyW w) = if w ∈ ws then some (v w) else none := by
  induction ws with
  | nil => rfl
  | cons u ws ih =>
    by_cases e : u = w
    · subst e
      rw [if_pos (by simp)]
      exact valV_pos rfl
    · have z : valV (kws (u :: ws) v) (keyW w) = valV (kws ws v) (keyW w) := valV_neg (fun q => e (keyW_inj q))
      rw [z, ih]
      have m : w ∈ u :: ws ↔ w ∈ ws := by
        simp only [List.mem_cons]
        exact ⟨fun q => q.elim (fun q => absurd q.symm e) id, .inr⟩
      by_cases h : w ∈ ws
      · rw [if_pos h, if_pos (m.mpr h)]
      · rw [if_neg h, if_neg (fun q => h (m.mp q))]

/-! ### the words at a bolt -/
def WordsAt (l : Lock) (k : Nat) (ws : List Word) : Prop := ws.Nodup ∧ ∀ w, w ∈ ws ↔ cutsFrom l k w
/-- a list of words at r -/
def RowAt (K : PySem.W.Frag) (H : Hp) (r : Addr) (ws : List Word) : Prop := ∃ us, H r = some (.lst us) ∧ Paired (Wd K H) us ws
theorem RowAt.ex {K : PySem.W.Frag} {H H' : Hp} (e : Evl.Ex H H') {r : Addr} {ws : List Word} (h : RowAt K H r ws) : RowAt K H' r ws := by
  obtain ⟨us, a, b⟩ := h
  exact ⟨us, e _ _ a, Paired.imp (fun _ _ => wd_ex e) b⟩
theorem cutsFrom_len {l : Lock} (ok : LockOk l) {k : Nat} {w : Word} (hk : k ≤ l.length) (h : cutsFrom l k w) : w.length = k := by
  obtain ⟨j, b, g, u, hj, hb, hg, hu, rfl⟩ := h
  have lu := (((ok.bolts j b hb).gaps g hg).words u hu).1
  have lj : j < l.length := (List.getElem?_eq_some_iff.mp hb).1
  unfold manysOf at lu
  rw [List.length_map, List.length_take] at lu
  rw [List.length_take]
  omega
/-- the words at k: those at k + 1 cut, and the bolt's own -/
theorem cuts_step {l : Lock} (ok : LockOk l) {k : Nat} {b : Bolt} (hb : l[k]? = some b) (w : Word) :
    cutsFrom l k w ↔ (∃ u, cutsFrom l (k + 1) u ∧ w = u.take k) ∨ ∃ g ∈ b.gaps, w ∈ g.ways := by
  constructor
  · rintro ⟨j, b', g, u, hj, hb', hg, hu, rfl⟩
    by_cases e : j = k
    · subst e
      rw [hb] at hb'
      cases hb'
      have lu := (((ok.bolts j b hb).gaps g hg).words u hu).1
      have lj : j < l.length := (List.getElem?_eq_some_iff.mp hb).1
      unfold manysOf at lu
      rw [List.length_map, List.length_take] at lu
      refine .inr ⟨g, hg, ?_⟩
      rw [List.take_of_length_le (by omega)]
      exact hu
    · refine .inl ⟨u.take (k + 1), ⟨j, b', g, u, by omega, hb', hg, hu, rfl⟩, ?_⟩
      rw [List.take_take, Nat.min_eq_left (Nat.le_succ k)]
  · rintro (⟨u, ⟨j, b', g, u', hj, hb', hg, hu, rfl⟩, rfl⟩ | ⟨g, hg, hw⟩)
    · refine ⟨j, b', g, u', by omega, hb', hg, hu, ?_⟩
      rw [List.take_take, Nat.min_eq_left (Nat.le_succ k)]
    · have lu := (((ok.bolts k b hb).gaps g hg).words w hw).1
      have lj : k < l.length := (List.getElem?_eq_some_iff.mp hb).1
      unfold manysOf at lu
      rw [List.length_map, List.length_take] at lu
      refine ⟨k, b, g, w, Nat.le_refl _, hb, hg, hw, ?_⟩
      rw [List.take_of_length_le (by omega)]
theorem isKeys_rows {K : PySem.W.Frag} {H : Hp} : ∀ {ws : List Word} {bs : List Addr}, IsKeys H (kws ws fun _ => V.bl true) bs → Paired (Wd K H) (bs.map V.ref) ws
  | [], _, h => by
    cases h
    exact .nil
  | w :: ws, _, h => by
    cases h with
    | cons r t =>
      refine .cons ⟨_, rfl, ?_⟩ (isKeys_rows t)
      have r' : _ = some (HO.tup ((keyW w).map kV)) := r
      rw [keyW_kV] at r'
      exact r'
def spWords (K : PySem.W.Frag) : Sp := fun vs H Q _ => ∃ (v : V) (l : Lock), vs = [v] ∧ LockAt K H v l ∧ LockOk l ∧
  ∀ H' p (rs : List Addr), Evl.Ex H H' → H p = none → H' p = some (.lst (rs.map V.ref)) → rs.length = l.length →
    (∀ k r, rs[k]? = some r → H r = none ∧ ∃ ws, RowAt K H' r ws ∧ WordsAt l k ws) → Q (.ref p) H'

/-- a word of a tuple of words, cut -/
theorem cut_take (xs : List V) (k : Nat) : cutV xs none (some (k : Int)) = xs.take k := by
  unfold cutV
  rw [HT.sIx_none, HT.sIx_nat]
  rw [List.drop_zero, Nat.sub_zero]
  by_cases h : k ≤ xs.length
  · rw [Nat.min_eq_left h]
  · rw [Nat.min_eq_right (by omega), List.take_length, List.take_of_length_le (by omega)]
theorem slice_whole {n k : Nat} (h : HT.sIx n n (some (k : Int)) = n) : n ≤ k := by
  rw [HT.sIx_nat] at h
  omega
end Wb

set_option Elab.async false
set_option linter.all false
set_option maxRecDepth 100000
set_option maxHeartbeats 4000000
set_option pp.maxSteps 600
set_option pp.deepTerms false
namespace Wb
open PySem PySem.Spec PyProof.Rows L2
section
variable {P : Program} {w : World} {K : PySem.W.Frag} {mg : Str → Option Value} {base : Heap}
theorem few_cuts {l : Lock} (ok : LockOk l) {k : Nat} (hk : k < l.length) {cur : List Word} (h1 : cur.Nodup) (h2 : ∀ u ∈ cur, cutsFrom l k u) : cur.length < sizeLine :=
  Nat.lt_of_le_of_lt (ok.words k cur hk h1 h2) (by decide)
theorem kws_len (ws : List Word) (v : Word → V) : (kws ws v).length = ws.length := List.length_map ..
theorem ok_words {f : Addr} {fd : FuncData} (F : Fun K "words_of" "words_of" sWords f fd) (B : Bi mg) : FnOk P w K mg base CX0 1 f fd ["lock"] (spWords K) := by
  refine F.ok scWords (fun vs H Q E h => ?_) (fun cdv A outer s H vs Q E hr h => ?_)
  · obtain ⟨v, l, rfl, _⟩ := h; rfl
  · obtain ⟨v, l, rfl, ⟨a, bs, rfl, hx, hp⟩, ok, q⟩ := h
    have hu := hu_of hr
    refine ⟨_, pss_cons (ps_set (i := 1) scWords.nd rfl (.inl rfl) (pe_lst pa_nil))
      (pss_cons (ps_set (i := 2) scWords.nd rfl (.inl rfl) (pe_lst pa_nil))
      (pss_cons (ps_for PassesOwn.never rfl (pi_revR (by rfl) B.rev (prg_1 (by rfl) B.range (pe_callB call_len_seq (by rfl) B.len PySem.boot_len (pa_cons (pv 0) pa_nil)))) (pg_name (i := 3) scWords.nd rfl (.inl rfl))
        (pss_cons (ps_set (i := 4) scWords.nd rfl (.inl rfl) pe_dnewT)
        (pss_cons (ps_for PassesOwn.never rfl (pi_list (pv 2)) (pg_name (i := 5) scWords.nd rfl (.inl rfl))
          (pss_one (ps_dput hu (pv 4) (pe_slice sl_tupA (pv 5) po_none (po_some (pv 3))) pe_bl rfl)))
        (pss_cons (ps_for PassesOwn.never rfl (pi_tup (pe_ix ix_tup (pe_ix ix_tup (pv 0) (pv 3) (fun _ _ => rfl)) pe_int (fun _ _ => rfl))) (pg_name (i := 6) scWords.nd rfl (.inl rfl))
          (pss_one (ps_for PassesOwn.never rfl (pi_tup (pe_ix ix_tup (pv 6) pe_int (fun _ _ => rfl))) (pg_name (i := 7) scWords.nd rfl (.inl rfl))
            (pss_one (ps_dput hu (pv 4) (pv 7) pe_bl rfl)))))
        (pss_cons (ps_set (i := 2) scWords.nd rfl (.inl rfl) (pe_callTy (call_list_dT rfl) (by rfl) B.list (PyProof.Rows.boot_list) (pa_cons (pv 4) pa_nil)))
        (pss_one (ps_expr (pe_bm PySem.F.plainAttrs_list PySem.F.slot_list_append PySem.F.type_list_append mt_append (pv 1) (pa_cons (pv 2) pa_nil)))))))))
      (pss_one (ps_ret (pe_revL (pv 1)))))), ?_⟩
    have bl : bs.length = l.length := Paired.len hp
    have n60 := ok.n1
    refine ⟨Nat.zero_le _, fun r0 nr0 => ?_⟩
    refine ⟨Nat.zero_le _, fun a0 na0 => ?_⟩
    have x1 : Evl.Ex H (upd H r0 (.lst [])) := Evl.Ex.new nr0
    have na0' : H a0 = none := Evl.fresh_back x1 na0
    have nar : r0 ≠ a0 := fun z => by rw [← z, upd_same] at na0; cases na0
    refine ⟨.ref a, rfl, a, bs, rfl, .inr (Evl.ex_t (x1.trans (Evl.Ex.new na0)) hx), _, rfl, by omega, by omega, by omega, by omega, ?_⟩
    refine for_rangeC (lo := _) (c := -1) (n := _) (fun i σ H' => ∃ (aA : Addr) (rs : List Addr) (ws : List Word) (y3 y4 y5 y6 y7 : Option V), σ = [some (.ref a), some (.ref r0), some (.ref aA), y3, y4, y5, y6, y7] ∧
        Evl.Ex H H' ∧ RowAt K H' aA ws ∧ WordsAt l (l.length - i) ws ∧ H' r0 = some (.lst (rs.map V.ref)) ∧ rs.length = i ∧
        ∀ j r, rs[j]? = some r → r ≠ r0 ∧ H r = none ∧ ∃ ws', RowAt K H' r ws' ∧ WordsAt l (l.length - 1 - j) ws')
      ⟨a0, [], [], none, none, none, none, none, rfl, x1.trans (Evl.Ex.new na0), ⟨[], upd_same, .nil⟩, ⟨List.nodup_nil, fun w => ?_⟩, by rw [upd_ne nar, upd_same]; rfl, rfl, fun j r e => by simp at e⟩ ?_ ?_
    · constructor
      · intro z; cases z
      · rintro ⟨j, b, g, u, hj, hb, _⟩
        have := (List.getElem?_eq_some_iff.mp hb).1
        omega
    · rintro i σ H1 hi ⟨aA, rs, ws, y3, y4, y5, y6, y7, rfl, e1, hA, hW, hR, hl, hrs⟩
      have hi' : i < l.length := by omega
      -- the bolt's number
      have ek : (0 : Int) + (((((bs.length : Nat) : Int) - 0).toNat : Nat) : Int) - 1 + (i : Nat) * (-1) = ((l.length - 1 - i : Nat) : Int) := by rw [bl]; omega
      rw [ek]
      generalize hk : l.length - 1 - i = k at *
      have hkl : k < l.length := by omega
      have hk1 : l.length - i = k + 1 := by omega
      rw [hk1] at hW
      obtain ⟨b, hb⟩ : ∃ b, l[k]? = some b := ⟨l[k], List.getElem?_eq_getElem hkl⟩
      obtain ⟨vb, hvb, hba⟩ := Paired.get2 hp hb
      obtain ⟨us, hAu, hAp⟩ := hA
      have ul : us.length = ws.length := Paired.len hAp
      intro d nd
      have nd0 : H d = none := Evl.fresh_back e1 nd
      have ndr : d ≠ r0 := fun z => by rw [z, hR] at nd; cases nd
      have e2 : Evl.Ex H1 (upd H1 d (.dT [])) := Evl.Ex.new nd
      -- the words above, cut
      refine ⟨.ref aA, rfl, aA, rfl, ⟨us, .inl (.inl (e2 _ _ hAu))⟩, for_list (K := K) (a := aA) (xs := us) (fun j σ H' => ∃ (cur : List Word) (y5 : Option V), σ = [some (.ref a), some (.ref r0), some (.ref aA), some (.int (k : Nat)), some (.ref d), y5, y6, y7] ∧
          Evl.Ex H1 H' ∧ H' d = some (.dT (kws cur fun _ => .bl true)) ∧ cur.Nodup ∧ ∀ u, u ∈ cur ↔ ∃ t ∈ ws.take j, u = t.take k) ⟨[], y5, rfl, e2, upd_same, List.nodup_nil, fun u => by simp⟩ ?_ ?_ ?_⟩
      · rintro j σ H' _ ⟨cur, z5, _, e, _⟩
        exact .inl (.inl (e _ _ hAu))
      · rintro j x σ H' hj ⟨cur, z5, rfl, e3, hd, nc, hc⟩
        obtain ⟨t, ht, ⟨ax, rfl, hax⟩⟩ := Paired.get1 hAp hj
        have htw : t ∈ ws := List.mem_of_getElem? ht
        have hcut : cutsFrom l (k + 1) t := (hW.2 t).mp htw
        have lt1 : t.length = k + 1 := cutsFrom_len ok (by omega) hcut
        have hcur : ∀ u ∈ cur, cutsFrom l k u := by
          intro u hu
          obtain ⟨t', ht', rfl⟩ := (hc u).mp hu
          exact (cuts_step ok hb _).mpr (.inl ⟨t', (hW.2 t').mp (List.mem_of_mem_take ht'), rfl⟩)
        have lc := few_cuts ok hkl nc hcur
        refine ⟨.ref d, rfl, .ref ax, rfl, .int (k : Nat), rfl, (k : Nat), rfl, ax, _, rfl, .inl (.inl (e3 _ _ hax)), fun z => absurd (slice_whole z.2) (by rw [List.length_map]; omega), fun _ p np => ?_⟩
        rw [cut_take, ← List.map_take]
        have npd : p ≠ d := fun z => by rw [z, hd] at np; cases np
        have e4 := Evl.Ex.new (o := .tup ((t.take k).map V.int)) np
        refine ⟨d, _, rfl, DPut.t (k := keyW (t.take k)) (e4 _ _ hd) (by rw [keyW_kV]; exact upd_same) (by rw [kws_len]; exact lc), ?_⟩
        refine ⟨addW cur (t.take k), _, rfl, (e3.trans e4).mut nd, by rw [upd_same, put_kws], nodup_addW nc, fun u => ?_⟩
        rw [mem_addW, hc u, take_succ_get ht]
        constructor
        · rintro (⟨t', h1, h2⟩ | rfl)
          · exact ⟨t', List.mem_append_left _ h1, h2⟩
          · exact ⟨t, by simp, rfl⟩
        · rintro ⟨t', h1, h2⟩
          rcases List.mem_append.mp h1 with h1 | h1
          · exact .inl ⟨t', h1, h2⟩
          · have : t' = t := by simpa using h1
            subst this
            exact .inr h2
      · rintro σ H2 ⟨cur0, z5, rfl, e3, hd, nc0, hc0⟩
        rw [ul, List.take_length] at hc0
        obtain ⟨ab, cg, gs, rfl, hb1, hb2, hb3⟩ := hba
        have e13 := e1.trans e3
        have gl : gs.length = b.gaps.length := Paired.len hb3
        -- the bolt's own ways
        refine ⟨.ref a, rfl, .int (k : Nat), rfl, a, bs, (k : Nat), .ref ab, rfl, rfl, Evl.ex_t e13 hx, atI_nat hvb, ab, _, 1, .ref cg, rfl, rfl, Evl.ex_t e13 hb1, atI_nat (j := 1) rfl, cg, rfl, ⟨gs, Evl.ex_t e13 hb2⟩,
          for_tup (K := K) (a := cg) (xs := gs) (fun j σ H' => ∃ (cur : List Word) (y6 y7 : Option V), σ = [some (.ref a), some (.ref r0), some (.ref aA), some (.int (k : Nat)), some (.ref d), z5, y6, y7] ∧
            Evl.Ex H1 H' ∧ H' d = some (.dT (kws cur fun _ => .bl true)) ∧ cur.Nodup ∧ ∀ u, u ∈ cur ↔ (∃ t ∈ ws, u = t.take k) ∨ ∃ g ∈ b.gaps.take j, u ∈ g.ways) ⟨cur0, y6, y7, rfl, e3, hd, nc0, fun u => by rw [hc0]; simp⟩ ?_ ?_ ?_⟩
        · rintro j σ H' _ ⟨cur, _, _, _, e, _⟩
          exact Evl.ex_t (e1.trans e) hb2
        · rintro j x σ H' hj ⟨cur, z6, z7, rfl, e4, hd4, nc, hc⟩
          obtain ⟨g, hgj, ⟨ag, bg, wv, rfl, hg1, hg2, hg3⟩⟩ := Paired.get1 hb3 hj
          have hgm : g ∈ b.gaps := List.mem_of_getElem? hgj
          have e14 := e1.trans e4
          have wl : wv.length = g.ways.length := Paired.len hg3
          refine ⟨.ref ag, rfl, ag, _, 3, .ref bg, rfl, rfl, Evl.ex_t e14 hg1, atI_nat (j := 3) rfl, bg, rfl, ⟨wv, Evl.ex_t e14 hg2⟩,
            for_tup (K := K) (a := bg) (xs := wv) (fun m σ H' => ∃ (cur : List Word) (y7 : Option V), σ = [some (.ref a), some (.ref r0), some (.ref aA), some (.int (k : Nat)), some (.ref d), z5, some (.ref ag), y7] ∧
              Evl.Ex H1 H' ∧ H' d = some (.dT (kws cur fun _ => .bl true)) ∧ cur.Nodup ∧ ∀ u, u ∈ cur ↔ ((∃ t ∈ ws, u = t.take k) ∨ ∃ g ∈ b.gaps.take j, u ∈ g.ways) ∨ u ∈ g.ways.take m) ⟨cur, z7, rfl, e4, hd4, nc, fun u => by rw [hc]; simp⟩ ?_ ?_ ?_⟩
          · rintro m σ H' _ ⟨_, _, _, e, _⟩
            exact Evl.ex_t (e1.trans e) hg2
          · rintro m x σ H3 hm ⟨cur, z7, rfl, e5, hd5, nc, hc⟩
            obtain ⟨t, ht, ⟨ax, rfl, hax⟩⟩ := Paired.get1 hg3 hm
            have hcur : ∀ u ∈ cur, cutsFrom l k u := by
              intro u hu
              rcases (hc u).mp hu with (⟨t', ht', rfl⟩ | ⟨g', hg', hu'⟩) | hu'
              · exact (cuts_step ok hb _).mpr (.inl ⟨t', (hW.2 t').mp ht', rfl⟩)
              · exact (cuts_step ok hb _).mpr (.inr ⟨g', List.mem_of_mem_take hg', hu'⟩)
              · exact (cuts_step ok hb _).mpr (.inr ⟨g, hgm, List.mem_of_mem_take hu'⟩)
            have lc := few_cuts ok hkl nc hcur
            refine ⟨.ref d, rfl, .ref ax, rfl, d, _, rfl, DPut.t (k := keyW t) hd5 (by rw [keyW_kV]; exact (e1.trans e5) _ _ hax) (by rw [kws_len]; exact lc), ?_⟩
            refine ⟨addW cur t, _, rfl, e5.mut nd, by rw [upd_same, put_kws], nodup_addW nc, fun u => ?_⟩
            rw [mem_addW, hc u, take_succ_get ht, List.mem_append, or_assoc]
            simp
          · rintro σ H3 ⟨cur, z7, rfl, e5, hd5, nc, hc⟩
            refine ⟨cur, _, _, rfl, e5, hd5, nc, fun u => ?_⟩
            rw [hc u, wl, List.take_length, take_succ_get hgj, or_assoc]
            simp only [List.mem_append, List.mem_singleton]
            constructor
            · rintro (h | ⟨g', h1, h2⟩ | h)
              · exact .inl h
              · exact .inr ⟨g', .inl h1, h2⟩
              · exact .inr ⟨g, .inr rfl, h⟩
            · rintro (h | ⟨g', h1 | h1, h2⟩)
              · exact .inl h
              · exact .inr (.inl ⟨g', h1, h2⟩)
              · exact .inr (.inr (h1 ▸ h2))
        · rintro σ H2 ⟨cur, z6, z7, rfl, e4, hd4, nc, hc⟩
          rw [gl, List.take_length] at hc
          have hcur : ∀ u, u ∈ cur ↔ cutsFrom l k u := by
            intro u
            rw [hc u, cuts_step ok hb u]
            constructor
            · rintro (⟨t, h1, h2⟩ | h)
              · exact .inl ⟨t, (hW.2 t).mp h1, h2⟩
              · exact .inr h
            · rintro (⟨t, h1, h2⟩ | h)
              · exact .inl ⟨t, (hW.2 t).mpr h1, h2⟩
              · exact .inr h
          refine ⟨.ref d, rfl, d, _, rfl, .inl hd4, fun p qs np hk' => ?_⟩
          have hrows := isKeys_rows (K := K) hk'
          have e5 := Evl.Ex.new (o := .lst (qs.map V.ref)) np
          have npr : p ≠ r0 := fun z => by rw [z, e4 _ _ hR] at np; cases np
          have hR5 : (upd H2 p (.lst (qs.map V.ref))) r0 = some (.lst (rs.map V.ref)) := e5 _ _ (e4 _ _ hR)
          refine ⟨.ref r0, rfl, .inl ⟨rfl, _, SqL.of hR5⟩, .ref p, rfl, r0, _, _, rfl, rfl, hR5, ?_, ?_⟩
          · rw [List.length_map, hl]
            exact Nat.lt_of_lt_of_le (show i < 61 by omega) (by decide)
          · have e15 : Evl.Ex H1 (upd H2 p (.lst (qs.map V.ref))) := e4.trans e5
            have keep : ∀ {r : Addr} {ws' : List Word} {Hx : Hp}, r ≠ r0 → RowAt K Hx r ws' → Hx r0 ≠ none → (∀ xs, Hx r0 ≠ some (.tup xs)) → ∀ o, RowAt K (upd Hx r0 o) r ws' := by
              rintro r ws' Hx hne ⟨us', h1, h2⟩ _ ht o
              refine ⟨us', by rw [upd_ne hne]; exact h1, Paired.imp (fun v w' h => ?_) h2⟩
              obtain ⟨ax, rfl, hax⟩ := h
              exact ⟨ax, rfl, by rw [upd_ne (fun z => ht _ (z ▸ hax))]; exact hax⟩
            have nn : (upd H2 p (.lst (qs.map V.ref))) r0 ≠ none := by rw [hR5]; exact fun z => nomatch z
            have nt : ∀ xs, (upd H2 p (.lst (qs.map V.ref))) r0 ≠ some (.tup xs) := fun xs z => by rw [hR5] at z; cases z
            have hP : RowAt K (upd H2 p (.lst (qs.map V.ref))) p cur := ⟨qs.map V.ref, upd_same, Paired.imp (fun _ _ => wd_ex e5) hrows⟩
            have hWk : WordsAt l k cur := ⟨nc, hcur⟩
            refine ⟨p, rs ++ [p], cur, _, _, _, _, _, rfl, (e1.trans e15).mut nr0, keep npr hP nn nt _, ?_, by rw [upd_same, List.map_append]; rfl, by simp [hl], ?_⟩
            · rw [show l.length - (i + 1) = k by omega]
              exact hWk
            · intro j r hj
              by_cases hjl : j < rs.length
              · rw [List.getElem?_append_left hjl] at hj
                obtain ⟨h1, h0, ws', h2, h3⟩ := hrs j r hj
                exact ⟨h1, h0, ws', keep h1 (h2.ex e15) nn nt _, h3⟩
              · rw [List.getElem?_append_right (by omega)] at hj
                have : j = rs.length := by
                  by_cases e : j - rs.length = 0
                  · omega
                  · rw [List.getElem?_eq_none (by simp; omega)] at hj; cases hj
                subst this
                rw [Nat.sub_self] at hj
                have er : r = p := (Option.some.inj hj).symm
                subst er
                exact ⟨npr, Evl.fresh_back (e1.trans e4) np, cur, keep npr hP nn nt _, by rw [hl, hk]; exact hWk⟩
    · rintro σ H1 ⟨aA, rs, ws, y3, y4, y5, y6, y7, rfl, e1, hA, hW, hR, hl, hrs⟩
      have hl' : rs.length = l.length := by rw [hl, bl]; omega
      refine ⟨.ref r0, rfl, r0, _, rfl, .inl (.inl hR), fun p np => ?_⟩
      rw [← List.map_reverse]
      have e2 := Evl.Ex.new (o := .lst (rs.reverse.map V.ref)) np
      refine q _ p rs.reverse (e1.trans e2) (Evl.fresh_back e1 np) upd_same (by rw [List.length_reverse, hl']) ?_
      intro k r hk
      have hk2 : k < rs.reverse.length := (List.getElem?_eq_some_iff.mp hk).1
      rw [List.length_reverse] at hk2
      rw [List.getElem?_reverse hk2] at hk
      obtain ⟨_, h0, ws', h2, h3⟩ := hrs _ r hk
      refine ⟨h0, ws', h2.ex e2, ?_⟩
      rw [show l.length - 1 - (rs.length - 1 - k) = k by omega] at h3
      exact h3
end
end Wb

set_option Elab.async false
set_option linter.all false
set_option maxRecDepth 100000
set_option maxHeartbeats 4000000
set_option pp.maxSteps 600
set_option pp.deepTerms false
namespace Wb
open PySem PySem.Spec PyProof.Rows L2
abbrev sFault : Stmt := topS 18
abbrev sManys : Stmt := topS 24
abbrev sNeedL : Stmt := topS 25
theorem scFault : FnScope ["thing", "manys", "k", "bolt", "words"] ["thing"] (defScope sFault) := ⟨rfl, rfl, rfl, by decide +kernel, rfl, by decide +kernel, by decide +kernel⟩
theorem scManys : FnScope ["lock", "bolt"] ["lock"] (defScope sManys) := ⟨rfl, rfl, rfl, by decide +kernel, rfl, by decide +kernel, by decide +kernel⟩
theorem scNeedL : FnScope ["lock", "fault"] ["lock"] (defScope sNeedL) := ⟨rfl, rfl, rfl, by decide +kernel, rfl, by decide +kernel, by decide +kernel⟩

/-- all defs of the checks, as they stand -/
structure Pr (K : PySem.W.Frag) (mg : Str → Option Value) where
  f1 : Addr
  d1 : FuncData
  F1 : Fun K "is_whole" "is_whole" sWhole f1 d1
  b1 : Binds K d1 ["thing"] []
  g1 : mg "is_whole" = some (.ref f1)
  f2 : Addr
  d2 : FuncData
  F2 : Fun K "is_whole_in" "is_whole_in" sWholeIn f2 d2
  b2 : Binds K d2 ["thing", "low", "high"] []
  g2 : mg "is_whole_in" = some (.ref f2)
  f3 : Addr
  d3 : FuncData
  F3 : Fun K "is_tuple_of" "is_tuple_of" sTupOf f3 d3
  b3 : Binds K d3 ["thing", "low", "high"] []
  g3 : mg "is_tuple_of" = some (.ref f3)
  f4 : Addr
  d4 : FuncData
  F4 : Fun K "are_places" "are_places" sPlaces f4 d4
  b4 : Binds K d4 ["thing", "manys"] []
  g4 : mg "are_places" = some (.ref f4)
  f10 : Addr
  d10 : FuncData
  F10 : Fun K "words_of" "words_of" sWords f10 d10
  b10 : Binds K d10 ["lock"] []
  g10 : mg "words_of" = some (.ref f10)
  f19 : Addr
  d19 : FuncData
  F19 : Fun K "fault_of" "fault_of" sFault f19 d19
  b19 : Binds K d19 ["thing"] []
  g19 : mg "fault_of" = some (.ref f19)
  f20 : Addr
  d20 : FuncData
  F20 : Fun K "is_bolt" "is_bolt" sBolt f20 d20
  b20 : Binds K d20 ["thing", "below"] []
  g20 : mg "is_bolt" = some (.ref f20)
  f21 : Addr
  d21 : FuncData
  F21 : Fun K "is_gap" "is_gap" sGap f21 d21
  b21 : Binds K d21 ["thing", "many", "below"] []
  g21 : mg "is_gap" = some (.ref f21)
  f22 : Addr
  d22 : FuncData
  F22 : Fun K "are_ways" "are_ways" sWays f22 d22
  b22 : Binds K d22 ["thing", "below"] []
  g22 : mg "are_ways" = some (.ref f22)
  f23 : Addr
  d23 : FuncData
  F23 : Fun K "manys_of" "manys_of" sManys f23 d23
  b23 : Binds K d23 ["lock"] []
  g23 : mg "manys_of" = some (.ref f23)
  f24 : Addr
  d24 : FuncData
  F24 : Fun K "need_lock" "need_lock" sNeedL f24 d24
  b24 : Binds K d24 ["lock"] []
  g24 : mg "need_lock" = some (.ref f24)
  B : Bi mg
  N : Nu mg

def spFault (K : PySem.W.Frag) : Sp := fun vs H Q _ => ∃ (v : V) (l : Lock), vs = [v] ∧ LockAt K H v l ∧ LockOk l ∧ ∀ H', Evl.Ex H H' → Q .non H'
def spManys (K : PySem.W.Frag) : Sp := fun vs H Q _ => ∃ (v : V) (l : Lock), vs = [v] ∧ LockAt K H v l ∧ l.length ≤ 60 ∧ ∀ H' p, Evl.Ex H H' → H p = none → H' p = some (.lst ((manysOf l).map V.int)) → Q (.ref p) H'
section
variable {P : Program} {w : World} {K : PySem.W.Frag} {mg : Str → Option Value} {base : Heap}
theorem manysOf_take (l : Lock) (i : Nat) : manysOf (l.take i) = (manysOf l).take i := by
  unfold manysOf
  rw [List.map_take]
theorem ok_fault (D : Pr K mg) : FnOk P w K mg base CX0 6 D.f19 D.d19 ["thing"] (spFault K) := by
  have G3 : FnOk P w K mg base CX0 1 D.f3 D.d3 ["thing", "low", "high"] (spTupOf K) := ok_tupOf D.F3 D.B
  have G20 : FnOk P w K mg base CX0 5 D.f20 D.d20 ["thing", "below"] (spBolt K) := ok_bolt D.F20 D.F3 D.b3 D.g3 D.F4 D.b4 D.g4 D.F2 D.b2 D.g2 D.F22 D.b22 D.g22 D.F1 D.b1 D.g1 D.F21 D.b21 D.g21 D.B D.N
  have G10 : FnOk P w K mg base CX0 1 D.f10 D.d10 ["lock"] (spWords K) := ok_words D.F10 D.B
  obtain ⟨tb, eb⟩ := D.N.bolts
  obtain ⟨tw, ew⟩ := D.N.words
  refine D.F19.ok scFault (fun vs H Q E h => ?_) (fun cdv A outer s H vs Q E hr h => ?_)
  · obtain ⟨v, l, rfl, _⟩ := h; rfl
  · obtain ⟨v, l, rfl, ⟨a, bs, rfl, hx, hp⟩, ok, q⟩ := h
    have hr1 : Room 1 _ := hr.mono (by decide)
    refine ⟨_, pss_cons (ps_if (pt_not (pt_val (pe_call G3 hr1 (by rfl) D.g3 D.F3.kp D.b3 .nil pass0 (pa_cons (pv 0) (pa_cons pe_int (pa_cons (pe_glob (v := .int 60) (by rfl) eb ⟨_, rfl⟩) pa_nil)))))) pss_never pss_nil)
      (pss_cons (ps_set (i := 1) scFault.nd rfl (.inl rfl) (pe_lst pa_nil))
      (pss_cons (ps_for PassesOwn.never rfl (pi_enumT (by rfl) D.B.enum (pa_cons (pv 0) pa_nil)) (pg_tup rfl (pgs_cons (pg_name (i := 2) scFault.nd rfl (.inl rfl)) (pgs_cons (pg_name (i := 3) scFault.nd rfl (.inl rfl)) pgs_nil)))
        (pss_cons (ps_if (pt_not (pt_val (pe_call G20 hr (by rfl) D.g20 D.F20.kp D.b20 .nil pass0 (pa_cons (pv 3) (pa_cons (pv 1) pa_nil))))) pss_never pss_nil)
        (pss_one (ps_expr (pe_bm PySem.F.plainAttrs_list PySem.F.slot_list_append PySem.F.type_list_append mt_append (pv 1) (pa_cons (pe_ix ix_tup (pv 3) pe_int (fun _ _ => rfl)) pa_nil))))))
      (pss_cons (ps_for PassesOwn.never rfl (pi_enum (by rfl) D.B.enum (pa_cons (pe_call G10 hr1 (by rfl) D.g10 D.F10.kp D.b10 .nil pass0 (pa_cons (pv 0) pa_nil)) pa_nil)) (pg_tup rfl (pgs_cons (pg_name (i := 2) scFault.nd rfl (.inl rfl)) (pgs_cons (pg_name (i := 4) scFault.nd rfl (.inl rfl)) pgs_nil)))
        (pss_one (ps_if (pt_cmpR op_gt (pe_callB call_len_seq (by rfl) D.B.len PySem.boot_len (pa_cons (pv 4) pa_nil)) (pe_glob (v := .int 8) (by rfl) ew ⟨_, rfl⟩) (nomark _)) pss_never pss_nil)))
      (pss_one (ps_ret pe_non))))), ?_⟩
    have bl : bs.length = l.length := Paired.len hp
    have n0 := ok.n0
    have n60 := ok.n1
    refine ⟨.ref a, rfl, a, bs, 1, 60, rfl, hx, true, ?_, ?_⟩
    · have z1 : decide ((1 : Int) ≤ (bs.length : Int)) = true := decide_eq_true (by omega)
      have z2 : decide ((bs.length : Int) ≤ 60) = true := decide_eq_true (by omega)
      rw [z1, z2]
      rfl
    refine iteF ?_
    refine ⟨Nat.zero_le _, fun r0 nr0 => ?_⟩
    have x1 : Evl.Ex H (upd H r0 (.lst [])) := Evl.Ex.new nr0
    refine ⟨.ref a, rfl, a, bs, rfl, Evl.ex_t x1 hx, ?_⟩
    refine for_it (walk_et (xs := bs)) (fun i σ H' => ∃ (y2 y3 y4 : Option V), σ = [some (.ref a), some (.ref r0), y2, y3, y4] ∧ Evl.Ex H H' ∧ H' r0 = some (.lst (((manysOf l).take i).map V.int))) ⟨none, none, none, rfl, x1, upd_same⟩ ?_ ?_ ?_
    · rintro i σ H' _ ⟨_, _, _, _, e, _⟩
      exact Evl.ex_t e hx
    · rintro i v σ H1 H2 hi ⟨y2, y3, y4, rfl, e1, hR⟩ ⟨T, x, y, rfl, nT, rfl, ex, ey⟩
      cases ex
      have ey' : bs[i]? = some y := ey
      obtain ⟨b, hb, hba⟩ := Paired.get1 hp ey'
      have e2 := Evl.Ex.new (o := .tup [.int (i : Nat), y]) nT
      generalize hH2 : upd H1 T (.tup [.int (i : Nat), y]) = H2 at e2
      have hT2 : H2 T = some (.tup [.int (i : Nat), y]) := by rw [← hH2]; exact upd_same
      have e12 := e1.trans e2
      have hR2 := e2 _ _ hR
      have bok := ok.bolts i b hb
      refine ⟨T, _, rfl, .inl (.inl hT2), rfl, _, _, rfl, _, _, rfl, rfl, ?_⟩
      refine ⟨y, rfl, .ref r0, rfl, y, r0, b, manysOf (l.take i), rfl, hba.mono (TX.ex e12), ?_, bok, fun H3 e3 => ?_⟩
      · rw [manysOf_take]
        exact .inl (.inl hR2)
      refine ⟨true, rfl, iteF ?_⟩
      obtain ⟨ab, cg, gs, rfl, hb1, hb2, hb3⟩ := hba
      have hR3 := e3 _ _ hR2
      refine ⟨.ref r0, rfl, .inl ⟨rfl, _, SqL.of hR3⟩, .ref ab, rfl, ab, _, 0, .int b.many, rfl, rfl, Evl.ex_t (e12.trans e3) hb1, atI_nat (j := 0) rfl, r0, _, _, rfl, rfl, hR3, ?_, ?_⟩
      · rw [List.length_map, List.length_take]
        have : i < 61 := by rw [bl] at hi; omega
        exact Nat.lt_of_le_of_lt (Nat.min_le_left _ _) (Nat.lt_of_lt_of_le this (by decide))
      · have mm : (manysOf l)[i]? = some b.many := by
          unfold manysOf
          rw [List.getElem?_map, hb]
          rfl
        refine ⟨_, _, _, rfl, (e12.trans e3).mut nr0, ?_⟩
        rw [upd_same, take_succ_get mm, List.map_append]
        rfl
    · rintro σ H1 ⟨y2, y3, y4, rfl, e1, hR⟩
      refine ⟨.ref a, rfl, .ref a, l, rfl, ⟨a, bs, rfl, Evl.ex_t e1 hx, Paired.imp (fun _ _ => BoltAt.mono (TX.ex e1)) hp⟩, ok, fun H2 pw rs e2 npw hpw rl hrs => ?_⟩
      refine ⟨pw, rs.map V.ref, rfl, .inl (.inl hpw), ?_⟩
      refine for_it (walk_enum (xs := rs.map V.ref)) (fun i σ H' => ∃ (y2 y3 y4 : Option V), σ = [some (.ref a), some (.ref r0), y2, y3, y4] ∧ Evl.Ex H2 H') ⟨_, _, _, rfl, Evl.Ex.refl _⟩ ?_ ?_ ?_
      · rintro i σ H' _ ⟨_, _, _, _, e⟩
        exact .inl (.inl (e _ _ hpw))
      · rintro i v σ H3 H4 hi ⟨z2, z3, z4, rfl, e3⟩ ⟨T, x, y, rfl, nT, rfl, ex, ey⟩
        cases ex
        rw [List.length_map, rl] at hi
        obtain ⟨r, hr1', rfl⟩ : ∃ r, rs[i]? = some r ∧ y = .ref r := by
          have ey' : (rs.map V.ref)[i]? = some y := ey
          rw [List.getElem?_map] at ey'
          cases e : rs[i]? with
          | none => rw [e] at ey'; cases ey'
          | some r => rw [e] at ey'; exact ⟨r, rfl, (Option.some.inj ey').symm⟩
        obtain ⟨_, ws, ⟨us, hus, hup⟩, hW⟩ := hrs i r hr1'
        have w8 : ws.length ≤ 8 := ok.words i ws hi hW.1 (fun u hu' => (hW.2 u).mp hu')
        have ul : us.length = ws.length := Paired.len hup
        have e4 := Evl.Ex.new (o := .tup [.int (i : Nat), .ref r]) nT
        refine ⟨T, _, rfl, .inl (.inl upd_same), rfl, _, _, rfl, _, _, rfl, rfl, ?_⟩
        refine ⟨.ref r, rfl, r, us, rfl, .inl (.inl (.inl ((e3.trans e4) _ _ hus))), _, 8, rfl, rfl, false, ?_, ?_⟩
        · have z : decide ((8 : Int) < (us.length : Int)) = false := decide_eq_false (by omega)
          show V.bl (decide ((8 : Int) < (us.length : Int))) = V.bl false
          rw [z]
        · exact iteF ⟨_, _, _, rfl, e3.trans e4⟩
      · rintro σ H3 ⟨z2, z3, z4, rfl, e3⟩
        exact q H3 ((e1.trans e2).trans e3)
theorem ok_needL (D : Pr K mg) : FnOk P w K mg base CX0 7 D.f24 D.d24 ["lock"] (spFault K) := by
  have G19 : FnOk P w K mg base CX0 6 D.f19 D.d19 ["thing"] (spFault K) := ok_fault D
  refine D.F24.ok scNeedL (fun vs H Q E h => ?_) (fun cdv A outer s H vs Q E hr h => ?_)
  · obtain ⟨v, l, rfl, _⟩ := h; rfl
  · obtain ⟨v, l, rfl, hv, ok, q⟩ := h
    refine ⟨_, pss_cons (ps_set (i := 1) scNeedL.nd rfl (.inl rfl) (pe_call G19 hr (by rfl) D.g19 D.F19.kp D.b19 .nil pass0 (pa_cons (pv 0) pa_nil)))
      (pss_one (ps_if (pt_cmpR op_notN (pv 1) pe_non (nomark _)) pss_never pss_nil)), ?_⟩
    refine ⟨v, rfl, v, l, rfl, hv, ok, fun H' e => ?_⟩
    refine ⟨.non, rfl, rfl, false, rfl, iteF ?_⟩
    exact q H' e
theorem ok_manys (D : Pr K mg) : FnOk P w K mg base CX0 1 D.f23 D.d23 ["lock"] (spManys K) := by
  refine D.F23.ok scManys (fun vs H Q E h => ?_) (fun cdv A outer s H vs Q E hr h => ?_)
  · obtain ⟨v, l, rfl, _⟩ := h; rfl
  · obtain ⟨v, l, rfl, ⟨a, bs, rfl, hx, hp⟩, n60, q⟩ := h
    refine ⟨_, pss_one (ps_ret (pe_lc (own := [("bolt", 1)]) (g := gName 1) rfl scManys.nd (pi_tup (pv 0)) (blkOk_by (own := [("bolt", 1)]) (N := ["lock", "bolt"]) (sc := defScope sManys) (by decide +kernel))
      (fun _ _ _ _ _ => pg_name (i := 1) scManys.nd rfl (Or.inl rfl)) (fun _ _ _ _ _ => pts_nil) (fun _ _ _ _ _ => pe_ix (r := rIxT K) ix_tup (pv 1) pe_int (fun _ _ => rfl)))), ?_⟩
    have bl : bs.length = l.length := Paired.len hp
    refine ⟨.ref a, rfl, a, rfl, ⟨_, hx⟩, fun D hD => lc_tup (K := K) (a := a) (xs := bs) (fun i H' => Evl.Ex H H' ∧ H' D = some (.lst (((manysOf l).take i).map V.int))) ⟨Evl.Ex.new hD, upd_same⟩ ?_ ?_ ?_⟩
    · rintro i H' _ ⟨e, _⟩
      exact Evl.ex_t e hx
    · rintro i x H' hi ⟨e, hd⟩
      obtain ⟨b, hb, ⟨ab, cg, gs, rfl, hb1, _⟩⟩ := Paired.get1 hp hi
      have li : i < 61 := by
        have := (List.getElem?_eq_some_iff.mp hi).1
        omega
      have mm : (manysOf l)[i]? = some b.many := by
        unfold manysOf
        rw [List.getElem?_map, hb]
        rfl
      refine ⟨rfl, .ref ab, rfl, ab, _, 0, .int b.many, rfl, rfl, Evl.ex_t e hb1, atI_nat (j := 0) rfl, _, hd, ?_, e.mut hD, ?_⟩
      · rw [List.length_map, List.length_take]
        exact Nat.lt_of_le_of_lt (Nat.min_le_left _ _) (Nat.lt_of_lt_of_le li (by decide))
      · rw [upd_same, take_succ_get mm, List.map_append]
        rfl
    · rintro H1 ⟨e, hd⟩
      refine q H1 D e hD ?_
      rw [hd, List.take_of_length_le]
      unfold manysOf
      rw [List.length_map, bl]
      exact Nat.le_refl _
end
end Wb

set_option Elab.async false
set_option linter.all false
set_option maxRecDepth 100000
set_option maxHeartbeats 4000000
set_option pp.maxSteps 600
set_option pp.deepTerms false
namespace Wb
open PySem PySem.Spec PyProof.Rows L2
theorem paired_app1 {α β : Type} {R : α → β → Prop} {xs : List α} {ys : List β} {x : α} {y : β} (h : Paired R xs ys) (r : R x y) : Paired R (xs ++ [x]) (ys ++ [y]) := Paired.app h (.cons r .nil)
abbrev sPen : Stmt := topS 28
abbrev sDraw : Stmt := topS 29
abbrev sPick : Stmt := topS 30
theorem scPen : FnScope ["_law_script"] ["_law_script"] (defScope sPen) := ⟨rfl, rfl, rfl, by decide +kernel, rfl, by decide +kernel, by decide +kernel⟩
theorem scDraw : FnScope ["_law_pen_here", "_law_many_here", "_law_found", "_law_taken", "_law_cell", "_law_mixed"] ["_law_pen_here", "_law_many_here"] (defScope sDraw) := ⟨rfl, rfl, rfl, by decide +kernel, rfl, by decide +kernel, by decide +kernel⟩
theorem scPick : FnScope ["_law_pen_here", "_law_some"] ["_law_pen_here", "_law_some"] (defScope sPick) := ⟨rfl, rfl, rfl, by decide +kernel, rfl, by decide +kernel, by decide +kernel⟩

/-! ### the pen -/
def kC : Key := .inr "cells"
def kT : Key := .inr "taken"
def kD : Key := .inr "digits"
def penD (c : Addr) (t d : Int) : List (Key × V) := [(kC, .ref c), (kT, .int t), (kD, .int d)]
theorem kTC : ¬ kC = kT := by decide +kernel
theorem kDC : ¬ kC = kD := by decide +kernel
theorem kDT : ¬ kT = kD := by decide +kernel
theorem pen_c (c : Addr) (t d : Int) : valV (penD c t d) kC = some (.ref c) := valV_pos rfl
theorem pen_t (c : Addr) (t d : Int) : valV (penD c t d) kT = some (.int t) := by
  have e : valV (penD c t d) kT = valV [(kT, V.int t), (kD, V.int d)] kT := valV_neg kTC
  rw [e]
  exact valV_pos rfl
theorem pen_d (c : Addr) (t d : Int) : valV (penD c t d) kD = some (.int d) := by
  have e : valV (penD c t d) kD = valV [(kT, V.int t), (kD, V.int d)] kD := valV_neg kDC
  have e2 : valV [(kT, V.int t), (kD, V.int d)] kD = valV [(kD, V.int d)] kD := valV_neg kDT
  rw [e, e2]
  exact valV_pos rfl
theorem put_pt (c : Addr) (t d x : Int) : putK (penD c t d) kT (.int x) = penD c x d := by
  have h1 : decide (kC = kT) = false := decide_eq_false kTC
  have h2 : decide (kD = kT) = false := decide_eq_false (fun e => kDT e.symm)
  unfold putK penD
  simp [List.any_cons, h1, h2, kTC, show ¬ kD = kT from fun e => kDT e.symm]
theorem put_pd (c : Addr) (t d x : Int) : putK (penD c t d) kD (.int x) = penD c t x := by
  unfold putK penD
  simp [List.any_cons, kDC, kDT]
def PenAt (H : Hp) (p c : Addr) (T : Int) : Prop :=
  ∃ (cells : List Int) (t d : Int), H p = some (.dK (penD c t d)) ∧ H c = some (.lst (cells.map V.int)) ∧ cells.length ≤ 63 ∧ 0 ≤ t ∧ t ≤ T ∧ 0 ≤ d
section
variable {H H' : Hp} {p c q : Addr} {T T' : Int}
theorem PenAt.ex (e : Evl.Ex H H') (h : PenAt H p c T) : PenAt H' p c T := by
  obtain ⟨cells, t, d, h1, h2, r⟩ := h
  exact ⟨cells, t, d, e _ _ h1, e _ _ h2, r⟩
/-- an object of ours that is neither the pen nor its cells has changed -/
theorem PenAt.put {o : HO} (h : PenAt H p c T) (h1 : q ≠ p) (h2 : q ≠ c) : PenAt (upd H q o) p c T := by
  obtain ⟨cells, t, d, a, b, r⟩ := h
  exact ⟨cells, t, d, by rw [upd_ne h1.symm]; exact a, by rw [upd_ne h2.symm]; exact b, r⟩
theorem PenAt.mono (h : PenAt H p c T) (l : T ≤ T') : PenAt H p c T' := by
  obtain ⟨cells, t, d, a, b, b2, t0, t1, d0⟩ := h
  exact ⟨cells, t, d, a, b, b2, t0, Int.le_trans t1 l, d0⟩
theorem PenAt.no (h : PenAt H p c T) : ∀ xs, ¬ Rd H p (.tup xs) := by
  obtain ⟨cells, t, d, a, _⟩ := h
  rintro xs (z | ⟨o, z⟩)
  · rw [a] at z; cases z
  · rw [a] at z; cases z
theorem PenAt.here (h : PenAt H p c T) : H p ≠ none := by
  obtain ⟨cells, t, d, a, _⟩ := h
  rw [a]
  exact fun z => nomatch z
theorem PenAt.new1 (h : PenAt H p c T) (n : H q = none) : q ≠ p := fun z => h.here (z ▸ n)
theorem PenAt.new2 (h : PenAt H p c T) (n : H q = none) : q ≠ c := fun z => by
  obtain ⟨cells, t, d, _, b, _⟩ := h
  rw [← z, n] at b
  cases b
theorem PenAt.tx {K : PySem.W.Frag} (h : PenAt H p c T) (e : Exx p H H') : TX K H H' := e.tx h.no
/-- a list of ours has changed -/
theorem TX.put {K : PySem.W.Frag} {l : Addr} {xs : List V} {o : HO} (h : H l = some (.lst xs)) : TX K H (upd H l o) := by
  refine ⟨fun a ys z => ?_, fun a ys z => ?_⟩
  · rcases z with (z | ⟨o', z⟩) | z
    · exact .inl (.inl (by rw [upd_ne (ne_of z h (fun q => nomatch q))]; exact z))
    · exact .inl (.inr ⟨o', by rw [upd_ne (ne_of z h (fun q => nomatch q))]; exact z⟩)
    · exact .inr z
  · rw [upd_ne (ne_of z h (fun q => nomatch q))]
    exact z
theorem Exx.mut {l : Addr} {o : HO} (e : Exx p H H') (n : H l = none) : Exx p H (upd H' l o) := fun a u na ha => by
  rw [upd_ne (ne_of_none ha n)]
  exact e a u na ha
end
theorem fresh_exx {p q : Addr} {H H' : Hp} (e : Exx p H H') (hp : H' p ≠ none) (h : H' q = none) : H q = none := by
  cases z : H q with
  | none => rfl
  | some o =>
    by_cases n : q = p
    · subst n; exact absurd h hp
    · rw [e q o n z] at h; cases h

def spPen (K : PySem.W.Frag) : Sp := fun vs H Q _ => ∃ (a : Addr) (ns : List Int), vs = [.ref a] ∧ SqL K H a (ns.map V.int) ∧ ∀ H' p, Evl.Ex H H' → H p = none → (∃ c, PenAt H' p c 0) → Q (.ref p) H'
def spDraw : Sp := fun vs H Q _ => ∃ (p c : Addr) (n T : Int), vs = [.ref p, .int n] ∧ PenAt H p c T ∧ 1 ≤ n ∧ n ≤ 1000000 ∧ T ≤ 10000000 ∧ ∀ i H', 0 ≤ i → i < n → Exx p H H' → PenAt H' p c (T + 1) → Q (.int i) H'
def spPick (K : PySem.W.Frag) : Sp := fun vs H Q _ => ∃ (p c a : Addr) (T : Int) (xs : List V), vs = [.ref p, .ref a] ∧ PenAt H p c T ∧ T ≤ 10000000 ∧ SqL K H a xs ∧ a ≠ p ∧ xs ≠ [] ∧ xs.length ≤ 1000000 ∧
  ∀ x H', x ∈ xs → Exx p H H' → PenAt H' p c (T + 1) → Q x H'

theorem ints_shaped (ns : List Int) : SeqAt.shaped (.list (ns.map PyData.int)) = true := by
  have h1 : ∀ ns : List Int, PyData.canLayAll0 (ns.map PyData.int) = true := by
    intro ns
    induction ns with
    | nil => rfl
    | cons n ns ih => simp [PyData.canLayAll0, PyData.canLay0, ih]
  have h2 : ∀ ns : List Int, PyData.depthAll (ns.map PyData.int) ≤ 1 := by
    intro ns
    induction ns with
    | nil => simp [PyData.depthAll]
    | cons n ns ih => simp [PyData.depthAll, PyData.depth]; omega
  unfold SeqAt.shaped
  simp only [PyData.canLay0, PyData.depth, h1, Bool.true_and]
  have := h2 ns
  exact decide_eq_true (by omega)
theorem dp_ints {K : PySem.W.Frag} {H : Hp} : ∀ ns : List Int, DpAll K H (ns.map V.int) (ns.map PyData.int)
  | [] => .nil
  | n :: ns => .cons (.int n) (dp_ints ns)
section
variable {P : Program} {w : World} {K : PySem.W.Frag} {mg : Str → Option Value} {base : Heap}
theorem cut63 (ns : List Int) : cutV (ns.map V.int) none (some 63) = (ns.take 63).map V.int := by
  rw [List.map_take]
  exact cut_take _ 63
theorem ok_pen {f : Addr} {fd : FuncData} (F : Fun K "_law_pen" "_law_pen" sPen f fd) (B : Bi mg) : FnOk P w K mg base CX0 1 f fd ["_law_script"] (spPen K) := by
  refine F.ok scPen (fun vs H Q E h => ?_) (fun cdv A outer s H vs Q E hr h => ?_)
  · obtain ⟨a, ns, rfl, _⟩ := h; rfl
  · obtain ⟨a, ns, rfl, hS, q⟩ := h
    refine ⟨_, pss_one (ps_ret (pe_disp (pps_cons pe_str (pe_callTy call_list_of (by rfl) B.list PyProof.Rows.boot_list (pa_cons (pe_slice sl_list (pv 0) po_none (po_some pe_int)) pa_nil)) (pps_cons pe_str pe_int (pps_cons pe_str pe_int pps_nil)))
      (by rfl) (by rfl) (fun z => by cases z) (by decide))), ?_⟩
    intro p np
    have x1 : Evl.Ex H (upd H p (.dK [])) := Evl.Ex.new np
    refine ⟨.ref a, rfl, 63, rfl, a, _, rfl, Evl.ex_l x1 hS, fun c1 n1 => ?_⟩
    rw [cut63]
    have x2 := Evl.Ex.new (o := .lst ((ns.take 63).map V.int)) n1
    refine ⟨c1, _, rfl, .inl (.inl (.inl upd_same)), fun c n2 => ?_⟩
    have x3 := Evl.Ex.new (o := .lst ((ns.take 63).map V.int)) n2
    have hp3 := x3 _ _ (x2 _ _ (upd_same (H := H) (a := p) (o := .dK [])))
    refine ⟨hp3, penD c 0 0, ?_, (by show 3 ≤ 15; decide), ?_⟩
    · rfl
    · have e : mergeK [] (penD c 0 0) = penD c 0 0 := by rfl
      rw [e]
      refine q _ p (((x1.trans x2).trans x3).mut np) np ⟨c, ns.take 63, 0, 0, upd_same, ?_, ?_, Int.le_refl _, Int.le_refl _, Int.le_refl _⟩
      · rw [upd_ne (fun z => by rw [z] at n2; rw [x2 _ _ (upd_same (H := H) (a := p) (o := .dK []))] at n2; cases n2), upd_same]
      · rw [List.length_take]
        exact Nat.min_le_left _ _
end
end Wb

set_option Elab.async false
set_option linter.all false
set_option maxRecDepth 100000
set_option maxHeartbeats 4000000
set_option pp.maxSteps 600
set_option pp.deepTerms false
namespace Wb
open PySem PySem.Spec PyProof.Rows L2
theorem bnd61 (x : Int) : -(2 ^ 64) < x % 2305843009213693951 ∧ x % 2305843009213693951 < 2 ^ 64 := by
  have a1 := Int.emod_nonneg x (show (2305843009213693951 : Int) ≠ 0 by decide)
  have a2 := Int.emod_lt_of_pos x (show (0 : Int) < 2305843009213693951 by decide)
  omega
section
variable {P : Program} {w : World} {K : PySem.W.Frag} {mg : Str → Option Value} {base : Heap}
theorem ok_draw {f : Addr} {fd : FuncData} (F : Fun K "_law_draw" "_law_draw" sDraw f fd) (B : Bi mg) : FnOk P w K mg base CX0 1 f fd ["_law_pen_here", "_law_many_here"] spDraw := by
  refine F.ok scDraw (fun vs H Q E h => ?_) (fun cdv A outer s H vs Q E hr h => ?_)
  · obtain ⟨p, c, n, T, rfl, _⟩ := h; rfl
  · obtain ⟨p, c, n, T, rfl, ⟨cells, t, d, hp, hc, c63, t0, t1, d0⟩, n1, n2, T7, q⟩ := h
    have hu := hu_of hr
    have ncp : c ≠ p := ne_of hc hp (fun z => nomatch z)
    refine ⟨_, pss_cons (ps_if (pt_cmpR op_gt (pe_dget hu (pv 0) pe_str (fun _ _ => rfl)) pe_int (nomark _))
        (pss_cons (ps_set (i := 2) scDraw.nd rfl (.inl rfl) (pe_op op_mod (pe_dget hu (pv 0) pe_str (fun _ _ => rfl)) (pv 1)))
        (pss_cons (ps_dput hu (pv 0) pe_str (pe_op op_fdiv (pe_dget hu (pv 0) pe_str (fun _ _ => rfl)) (pv 1)) rfl)
        (pss_one (ps_ret (pv 2))))) pss_nil)
      (pss_cons (ps_set (i := 3) scDraw.nd rfl (.inl rfl) (pe_dget hu (pv 0) pe_str (fun _ _ => rfl)))
      (pss_cons (ps_dput hu (pv 0) pe_str (pe_op op_add (pv 3) pe_int) rfl)
      (pss_cons (ps_set (i := 4) scDraw.nd rfl (.inl rfl) pe_int)
      (Evl.pss_cut (ps_if (pt_cmpR (op_neD hr.units) (pe_dget hu (pv 0) pe_str (fun _ _ => rfl)) (pe_lst pa_nil) (nomark _))
        (pss_one (ps_set (i := 4) scDraw.nd rfl (.inl rfl) (pe_callB call_abs (by rfl) B.abs boot_abs (pa_cons (pe_ix ix_list (pe_dget hu (pv 0) pe_str (fun _ _ => rfl)) (pe_op op_mod (pv 3) (pe_callB call_len_seq (by rfl) B.len PySem.boot_len (pa_cons (pe_dget hu (pv 0) pe_str (fun _ _ => rfl)) pa_nil))) (fun _ _ => rfl)) pa_nil)))) pss_nil)
      (Evl.pss_cut (ps_if (PW.pt (pw_and (pt_cmpR op_ge (pv 4) (pe_op op_pow pe_int pe_int) (nomark _)) (pw_and1 (pt_cmpR op_lt (pv 3) (pe_callB call_len_seq (by rfl) B.len PySem.boot_len (pa_cons (pe_dget hu (pv 0) pe_str (fun _ _ => rfl)) pa_nil)) (nomark _)))))
        (pss_cons (ps_dput hu (pv 0) pe_str (pe_op op_fdiv (pe_op op_sub (pv 4) (pe_op op_pow pe_int pe_int)) (pv 1)) rfl)
        (pss_one (ps_ret (pe_op op_mod (pe_op op_sub (pv 4) (pe_op op_pow pe_int pe_int)) (pv 1))))) pss_nil)
      (pss_cons (ps_set (i := 5) scDraw.nd rfl (.inl rfl) (pe_op op_mod (pe_op op_add (pe_op op_add (pe_op op_add (pe_op op_mul (pv 4) pe_int) (pe_op op_mul (pe_op op_mul pe_int (pv 3)) (pv 3))) (pe_op op_mul pe_int (pv 3))) pe_int) pe_int))
      (pss_cons (ps_set (i := 5) scDraw.nd rfl (.inl rfl) (pe_op op_mod (pe_op op_mul (pv 5) (pe_op op_add (pe_op op_mod (pv 5) pe_int) pe_int)) pe_int))
      (pss_cons (ps_set (i := 5) scDraw.nd rfl (.inl rfl) (pe_op op_mod (pe_op op_mul (pe_op op_add (pv 5) (pe_op op_mul pe_int (pv 3))) (pv 5)) pe_int))
      (pss_one (ps_ret (pe_op op_mod (pe_op op_fdiv (pv 5) pe_int) (pv 1)))))))))))), ?_⟩
    have gD : ∀ {H' : Hp} {t' d' : Int}, H' p = some (.dK (penD c t' d')) → DGet H' p (.str "digits") (some (.int d')) := fun {H' t' d'} e => by
      have := DGet.k (k := kD) e
      rw [pen_d] at this
      exact this
    have gT : ∀ {H' : Hp} {t' d' : Int}, H' p = some (.dK (penD c t' d')) → DGet H' p (.str "taken") (some (.int t')) := fun {H' t' d'} e => by
      have := DGet.k (k := kT) e
      rw [pen_t] at this
      exact this
    have gC : ∀ {H' : Hp} {t' d' : Int}, H' p = some (.dK (penD c t' d')) → DGet H' p (.str "cells") (some (.ref c)) := fun {H' t' d'} e => by
      have := DGet.k (k := kC) e
      rw [pen_c] at this
      exact this
    have len3 : ∀ t' d', (penD c t' d').length < sizeLine := fun _ _ => (by show 3 < sizeLine; decide)
    have pD : ∀ {H' : Hp} {t' d' x : Int}, H' p = some (.dK (penD c t' d')) → DPut H' p (.str "digits") (.int x) (upd H' p (.dK (penD c t' x))) := fun {H' t' d' x} e => by
      have := DPut.k (k := kD) (v := .int x) e (len3 _ _)
      rw [put_pd] at this
      exact this
    have pT : ∀ {H' : Hp} {t' d' x : Int}, H' p = some (.dK (penD c t' d')) → DPut H' p (.str "taken") (.int x) (upd H' p (.dK (penD c x d'))) := fun {H' t' d' x} e => by
      have := DPut.k (k := kT) (v := .int x) e (len3 _ _)
      rw [put_pt] at this
      exact this
    have n0 : 0 < n := by omega
    have nb : 0 < n ∧ n < 1073741824 := ⟨n0, by omega⟩
    -- the digits of a great cell
    refine ⟨.ref p, rfl, p, .int d, rfl, gD hp, d, 0, rfl, rfl, _, rfl, ?_⟩
    refine ite2 (fun _ => ?_) (fun _ => ?_)
    · refine ⟨.ref p, rfl, p, .int d, rfl, gD hp, .int n, rfl, d, n, rfl, rfl, n0, ?_⟩
      refine ⟨.ref p, rfl, p, .int d, rfl, gD hp, .int n, rfl, d, n, rfl, rfl, nb, .ref p, rfl, p, _, rfl, pD hp, .int (d % n), rfl, ?_⟩
      refine q _ _ (Int.emod_nonneg _ (by omega)) (Int.emod_lt_of_pos _ n0) Exx.put ⟨cells, t, d / n, upd_same, by rw [upd_ne ncp]; exact hc, c63, t0, by omega, Int.ediv_nonneg d0 (by omega)⟩
    · refine ⟨.ref p, rfl, p, .int t, rfl, gT hp, ?_⟩
      refine ⟨.int t, rfl, t, 1, rfl, rfl, .ref p, rfl, p, _, rfl, pT hp, ?_⟩
      generalize hH1 : upd H p (.dK (penD c (t + 1) d)) = H1
      have hp1 : H1 p = some (.dK (penD c (t + 1) d)) := by rw [← hH1]; exact upd_same
      have hc1 : H1 c = some (.lst (cells.map V.int)) := by rw [← hH1, upd_ne ncp]; exact hc
      have x1 : Exx p H H1 := by rw [← hH1]; exact Exx.put
      -- the cell
      refine ⟨fun σ H' => ∃ cell : Int, σ = [some (.ref p), some (.int n), none, some (.int t), some (.int cell), none] ∧ Evl.Ex H1 H', ?_, ?_⟩
      · refine ⟨.ref p, rfl, p, .ref c, rfl, gC hp1, Nat.zero_le _, fun e ne => ?_⟩
        have e1 := Evl.Ex.new (o := .lst []) ne
        have hp2 := e1 _ _ hp1
        have hc2 := e1 _ _ hc1
        refine ⟨.list (cells.map PyData.int), .list [], .lst (.inl (.inl hc2)) (dp_ints cells), .lst (.inl (.inl upd_same)) .nil, ints_shaped cells, (by decide), _, rfl, ?_⟩
        cases hcells : cells with
        | nil =>
          refine iteF ?_
          exact ⟨0, rfl, e1⟩
        | cons c0 cs =>
          refine iteT ?_
          have lp : 0 < cells.length := by rw [hcells]; exact Nat.succ_pos _
          have hlt : (t % (cells.length : Int)).toNat < cells.length := by
            have h1 := Int.emod_nonneg t (show (cells.length : Int) ≠ 0 by omega)
            have h2 := Int.emod_lt_of_pos t (show (0 : Int) < cells.length by omega)
            omega
          have hix : ((t % (cells.length : Int)).toNat : Int) = t % ((cells.map V.int).length : Nat) := by
            have h1 := Int.emod_nonneg t (show (cells.length : Int) ≠ 0 by omega)
            rw [List.length_map]
            omega
          refine ⟨.ref p, rfl, p, .ref c, rfl, gC hp2, .int t, rfl, .ref p, rfl, p, .ref c, rfl, gC hp2, c, _, rfl, .inl (.inl (.inl hc2)), t, _, rfl, rfl, (by rw [List.length_map]; omega), c, _, _, .int (cells[(t % (cells.length : Int)).toNat]), rfl, rfl, .inl (.inl hc2), ?_, _, rfl, ?_⟩
          · rw [← hix]
            exact atI_nat (map_int_get (List.getElem?_eq_getElem hlt))
          · exact ⟨_, rfl, e1⟩
      · rintro σ H2 ⟨cell, rfl, e2⟩
        have hp2 := e2 _ _ hp1
        have hc2 := e2 _ _ hc1
        have x2 := x1.trans (Exx.ex e2)
        have fin : ∀ i : Int, 0 ≤ i → i < n → Q (.int i) H2 := fun i h1 h2 => q i H2 h1 h2 x2 ⟨cells, t + 1, d, hp2, hc2, c63, by omega, by omega, d0⟩
        have p18 : (0 : Int) ≤ 18 ∧ (18 : Int) ≤ 1000000 ∧ (10 : Int).natAbs < 2 ^ 64 := by decide
        have hlen : ((cells.map V.int).length : Int) = (cells.length : Int) := by rw [List.length_map]
        refine ⟨fun σ H' => σ = [some (.ref p), some (.int n), none, some (.int t), some (.int cell), none] ∧ H' = H2, ?_, ?_⟩
        · refine ⟨.int cell, rfl, 10, 18, rfl, rfl, p18, cell, _, rfl, rfl, _, rfl, ?_⟩
          refine ite2 (fun hge => ?_) (fun _ => ?_)
          · refine ⟨.int t, rfl, .ref p, rfl, p, .ref c, rfl, gC hp2, c, _, rfl, .inl (.inl (.inl hc2)), t, _, rfl, rfl, _, rfl, ?_⟩
            refine ite2 (fun _ => ?_) (fun _ => ?_)
            · have hge' : (10 : Int) ^ (18 : Int).toNat ≤ cell := of_decide_eq_true hge
              refine ⟨.int cell, rfl, 10, 18, rfl, rfl, p18, cell, _, rfl, rfl, .int n, rfl, _, n, rfl, rfl, nb, .ref p, rfl, p, _, rfl, pD hp2, ?_⟩
              refine ⟨.int cell, rfl, 10, 18, rfl, rfl, p18, cell, _, rfl, rfl, .int n, rfl, _, n, rfl, rfl, n0, ?_⟩
              refine q _ _ (Int.emod_nonneg _ (by omega)) (Int.emod_lt_of_pos _ n0) (x2.trans Exx.put) ⟨cells, t + 1, _, upd_same, by rw [upd_ne ncp]; exact hc2, c63, by omega, by omega, Int.ediv_nonneg (by omega) (by omega)⟩
            · exact ⟨rfl, rfl⟩
          · exact ⟨rfl, rfl⟩
        · rintro σ H' ⟨rfl, rfl⟩
          have m0 : (0 : Int) < 2305843009213693951 := by decide
          have cm : ∀ x : Int, CMul x 48271 := fun x => .inr (by decide)
          have tb : -(2 ^ 64) < t ∧ t < 2 ^ 64 := ⟨by omega, by omega⟩
          refine ⟨.int cell, rfl, cell, 48271, rfl, rfl, cm _, .int t, rfl, 69621, t, rfl, rfl, .inl (by decide), .int t, rfl, _, t, rfl, rfl, .inr tb, _, _, rfl, rfl, .int t, rfl, 7919, t, rfl, rfl, .inl (by decide), _, _, rfl, rfl, _, 11, rfl, rfl, _, _, rfl, rfl, m0, ?_⟩
          have mm1 : (0 : Int) < 1000003 := by decide
          refine ⟨_, rfl, _, rfl, _, 1000003, rfl, rfl, mm1, _, 40692, rfl, rfl, _, _, rfl, rfl, .inl (bnd61 _), _, _, rfl, rfl, m0, ?_⟩
          refine ⟨_, rfl, .int t, rfl, 16807, t, rfl, rfl, .inl (by decide), _, _, rfl, rfl, _, rfl, _, _, rfl, rfl, .inr (bnd61 _), _, _, rfl, rfl, m0, ?_⟩
          refine ⟨_, rfl, _, 1024, rfl, rfl, (show (0 : Int) < 1024 ∧ (1024 : Int) < 1073741824 by decide), .int n, rfl, _, n, rfl, rfl, n0, ?_⟩
          exact fin _ (Int.emod_nonneg _ (by omega)) (Int.emod_lt_of_pos _ n0)
theorem ok_pick {f f1 : Addr} {fd fd1 : FuncData} (F : Fun K "_law_pick" "_law_pick" sPick f fd) (F1 : Fun K "_law_draw" "_law_draw" sDraw f1 fd1) (b1 : Binds K fd1 ["_law_pen_here", "_law_many_here"] []) (g1 : mg "_law_draw" = some (.ref f1)) (B : Bi mg) :
    FnOk P w K mg base CX0 2 f fd ["_law_pen_here", "_law_some"] (spPick K) := by
  have G1 : FnOk P w K mg base CX0 1 f1 fd1 ["_law_pen_here", "_law_many_here"] spDraw := ok_draw F1 B
  refine F.ok scPick (fun vs H Q E h => ?_) (fun cdv A outer s H vs Q E hr h => ?_)
  · obtain ⟨p, c, a, T, xs, rfl, _⟩ := h; rfl
  · obtain ⟨p, c, a, T, xs, rfl, hp, T7, hx, nap, ne, xl, q⟩ := h
    refine ⟨_, pss_one (ps_ret (pe_ix ix_list (pv 1) (pe_call G1 hr (by rfl) g1 F1.kp b1 .nil pass0 (pa_cons (pv 0) (pa_cons (pe_callB call_len_seq (by rfl) B.len PySem.boot_len (pa_cons (pv 1) pa_nil)) pa_nil))) (fun _ _ => rfl))), ?_⟩
    have lp : 0 < xs.length := List.length_pos_iff.mpr ne
    refine ⟨.ref a, rfl, .ref p, rfl, .ref a, rfl, a, xs, rfl, .inl hx, p, c, _, T, rfl, hp, by omega, by omega, T7, fun i H' h0 h1 e hp' => ?_⟩
    have hlt : i.toNat < xs.length := by omega
    obtain ⟨y, hy⟩ : ∃ y, xs[i.toNat]? = some y := ⟨_, List.getElem?_eq_getElem hlt⟩
    refine ⟨a, xs, i, y, rfl, rfl, e.l nap hx, ?_, ?_⟩
    · have z : ((i.toNat : Nat) : Int) = i := by omega
      rw [← z]
      exact atI_nat hy
    · exact q _ H' (List.mem_of_getElem? hy) e hp'
end
end Wb

set_option Elab.async false
set_option linter.all false
set_option maxRecDepth 100000
set_option maxHeartbeats 4000000
set_option pp.maxSteps 600
set_option pp.deepTerms false
namespace Wb
open PySem PySem.Spec PyProof.Rows L2
abbrev sGaps : Stmt := topS 31
abbrev nGaps : List Str := ["_law_pen_here", "_law_wide", "_law_words", "_law_found", "_law_left", "_law_here", "_law_there", "_law_ways_here", "_law_cost", "_law_word"]
theorem scGaps : FnScope nGaps ["_law_pen_here", "_law_wide", "_law_words"] (defScope sGaps) := ⟨rfl, rfl, rfl, by decide +kernel, rfl, by decide +kernel, by decide +kernel⟩
/-- gaps as they are drawn: left so many ways of eight -/
structure Drawn (wide : Int) (ws : List Word) (gs : List Gap) (left : Int) : Prop where
  each : ∀ g ∈ gs, (0 ≤ g.frm ∧ g.frm < wide) ∧ (0 ≤ g.to_ ∧ g.to_ < wide) ∧ g.frm ≠ g.to_ ∧ (1 ≤ g.price ∧ g.price ≤ 1000000) ∧ g.ways.Sublist ws
  rise : gs.Pairwise (fun g h => lexLt2 g.frm g.to_ h.frm h.to_)
  sum : (((gs.map (fun g => g.ways.length)).sum : Nat) : Int) + left = 8
  left0 : 0 ≤ left
def spGaps (K : PySem.W.Frag) : Sp := fun vs H Q _ => ∃ (p c wl : Addr) (wide T : Int) (us : List V) (ws : List Word), vs = [.ref p, .int wide, .ref wl] ∧ PenAt H p c T ∧ T ≤ 9000000 ∧ 2 ≤ wide ∧ wide ≤ 4 ∧ wl ≠ p ∧
  H wl = some (.lst us) ∧ Paired (Wd K H) us ws ∧ ws.length ≤ 8 ∧
  ∀ H' a gvs gs left, Exx p H H' → PenAt H' p c (T + 400) → SqT K H' a gvs → Paired (GapAt K H') gvs gs → Drawn wide ws gs left → Q (.ref a) H'
theorem drawn0 {wide : Int} {ws : List Word} : Drawn wide ws [] 8 := ⟨fun g hg => (by cases hg), List.Pairwise.nil, by decide, by decide⟩
section
variable {P : Program} {w : World} {K : PySem.W.Frag} {mg : Str → Option Value} {base : Heap}
theorem ok_gaps {f f1 f2 : Addr} {fd fd1 fd2 : FuncData} (F : Fun K "_law_gaps" "_law_gaps" sGaps f fd) (F1 : Fun K "_law_draw" "_law_draw" sDraw f1 fd1) (b1 : Binds K fd1 ["_law_pen_here", "_law_many_here"] []) (g1 : mg "_law_draw" = some (.ref f1))
    (F2 : Fun K "_law_pick" "_law_pick" sPick f2 fd2) (b2 : Binds K fd2 ["_law_pen_here", "_law_some"] []) (g2 : mg "_law_pick" = some (.ref f2)) (B : Bi mg) :
    FnOk P w K mg base CX0 3 f fd ["_law_pen_here", "_law_wide", "_law_words"] (spGaps K) := by
  have G1 : FnOk P w K mg base CX0 1 f1 fd1 ["_law_pen_here", "_law_many_here"] spDraw := ok_draw F1 B
  have G2 : FnOk P w K mg base CX0 2 f2 fd2 ["_law_pen_here", "_law_some"] (spPick K) := ok_pick F2 F1 b1 g1 B
  refine F.ok scGaps (fun vs H Q E h => ?_) (fun cdv A outer s H vs Q E hr h => ?_)
  · obtain ⟨p, c, wl, wide, T, us, ws, rfl, _⟩ := h; rfl
  · obtain ⟨p, c, wl, wide, T, us, ws, rfl, hp, T9, w2, w4, nwp, hwl, hws, w8, q⟩ := h
    have hr1 : Room 1 _ := hr.mono (by decide)
    refine ⟨_, pss_cons (ps_par (by rfl) scGaps.nd (i := 3) (j := 4) rfl rfl (by decide) rfl rfl (pa_cons (pe_lst pa_nil) (pa_cons pe_int pa_nil)) (by rfl))
      (pss_cons (ps_for PassesOwn.never rfl (pi_range1 (by rfl) B.range (pa_cons (pv 1) pa_nil)) (pg_name (i := 5) scGaps.nd rfl (.inl rfl))
        (pss_one (ps_for PassesOwn.never rfl (pi_range1 (by rfl) B.range (pa_cons (pv 1) pa_nil)) (pg_name (i := 6) scGaps.nd rfl (.inl rfl))
          (pss_one (ps_if (PW.pt (pw_and (pt_cmpR op_ne (pv 5) (pv 6) (nomark _)) (pw_and1 (pt_cmpR op_gt (pe_call G1 hr1 (by rfl) g1 F1.kp b1 .nil pass0 (pa_cons (pv 0) (pa_cons pe_int pa_nil))) pe_int (nomark _)))))
            (pss_cons (ps_set (i := 7) scGaps.nd rfl (.inl rfl) (pe_slice sl_list
                (pe_lc (own := [("_law_word", 9)]) (g := gName 9) rfl scGaps.nd (pi_list (pv 2)) (blkOk_by (own := [("_law_word", 9)]) (N := nGaps) (sc := defScope sGaps) (by decide +kernel))
                  (fun _ _ _ _ _ => pg_name (i := 9) scGaps.nd rfl (Or.inl rfl))
                  (fun _ _ _ _ _ => pts_one (pt_cmpR op_gt (pe_call G1 hr1 (by rfl) g1 F1.kp b1 .nil pass0 (pa_cons (pv 0) (pa_cons pe_int pa_nil))) pe_int (nomark _)))
                  (fun _ _ _ _ _ => pv 9)) po_none (po_some (pv 4))))
            (pss_cons (ps_set (i := 8) scGaps.nd rfl (.inl rfl) (pe_call G2 hr (by rfl) g2 F2.kp b2 .nil pass0 (pa_cons (pv 0) (pa_cons (pe_lst (pa_cons pe_int
                (pa_cons (pe_op op_add pe_int (pe_call G1 hr1 (by rfl) g1 F1.kp b1 .nil pass0 (pa_cons (pv 0) (pa_cons pe_int pa_nil))))
                (pa_cons (pe_op op_add pe_int (pe_call G1 hr1 (by rfl) g1 F1.kp b1 .nil pass0 (pa_cons (pv 0) (pa_cons pe_int pa_nil))))
                (pa_cons (pe_op op_add pe_int (pe_call G1 hr1 (by rfl) g1 F1.kp b1 .nil pass0 (pa_cons (pv 0) (pa_cons (pe_op op_pow pe_int pe_int) pa_nil)))) pa_nil))))) pa_nil))))
            (pss_cons (ps_expr (pe_bm PySem.F.plainAttrs_list PySem.F.slot_list_append PySem.F.type_list_append mt_append (pv 3) (pa_cons (pe_tup (pa_cons (pv 5) (pa_cons (pv 6) (pa_cons (pv 8) (pa_cons
                (pe_callTy call_tuple_of (by rfl) B.tuple PyProof.Rows.boot_tuple (pa_cons (pv 7) pa_nil)) pa_nil))))) pa_nil)))
            (pss_one (ps_set (i := 4) scGaps.nd rfl (.inl rfl) (pe_op op_sub (pv 4) (pe_callB call_len_seq (by rfl) B.len PySem.boot_len (pa_cons (pv 7) pa_nil)))))))) pss_nil)))))
      (pss_one (ps_ret (pe_callTy call_tuple_of (by rfl) B.tuple PyProof.Rows.boot_tuple (pa_cons (pv 3) pa_nil))))), ?_⟩
    have ul : us.length = ws.length := Paired.len hws
    refine ⟨Nat.zero_le _, fun l nl => ?_⟩
    have nlp : l ≠ p := hp.new1 nl
    have nlc : l ≠ c := hp.new2 nl
    have nlw : l ≠ wl := fun z => by rw [z, hwl] at nl; cases nl
    refine ⟨.ref l, .int 8, rfl, ?_⟩
    refine ⟨.int wide, rfl, wide, rfl, by omega, by omega, for_range (lo := 0) (n := wide.toNat) (fun i σ H' => ∃ (gvs : List V) (gs : List Gap) (left : Int) (y5 y6 y7 y8 y9 : Option V), σ = [some (.ref p), some (.int wide), some (.ref wl), some (.ref l), some (.int left), y5, y6, y7, y8, y9] ∧
        Exx p H H' ∧ PenAt H' p c (T + 80 * i) ∧ H' l = some (.lst gvs) ∧ Paired (GapAt K H') gvs gs ∧ Drawn wide ws gs left ∧ gvs.length ≤ 4 * i ∧ ∀ g ∈ gs, g.frm < (i : Int)) ⟨[], [], 8, none, none, none, none, none, rfl, Exx.ex (Evl.Ex.new nl), ?_, upd_same, .nil, drawn0, Nat.zero_le _, fun g hg => nomatch hg⟩ ?_ ?_⟩
    · have := hp.put (o := .lst []) nlp nlc
      simpa using this
    · rintro i σ H1 hi ⟨gvs, gs, left, y5, y6, y7, y8, y9, rfl, x1, hp1, hl1, hg1, hd1, gl1, hlt1⟩
      have i4 : i < 4 := by omega
      have ei : (0 : Int) + (i : Nat) = (i : Int) := by omega
      rw [ei]
      refine ⟨.int wide, rfl, wide, rfl, by omega, by omega, for_range (lo := 0) (n := wide.toNat) (fun j σ H' => ∃ (gvs : List V) (gs : List Gap) (left : Int) (y6 y7 y8 y9 : Option V), σ = [some (.ref p), some (.int wide), some (.ref wl), some (.ref l), some (.int left), some (.int (i : Nat)), y6, y7, y8, y9] ∧
          Exx p H H' ∧ PenAt H' p c (T + 80 * i + 20 * j) ∧ H' l = some (.lst gvs) ∧ Paired (GapAt K H') gvs gs ∧ Drawn wide ws gs left ∧ gvs.length ≤ 4 * i + j ∧ ∀ g ∈ gs, lexLt2 g.frm g.to_ i j) ⟨gvs, gs, left, _, _, _, _, rfl, x1, by simpa using hp1, hl1, hg1, hd1, by omega, fun g hg => .inl (hlt1 g hg)⟩ ?_ ?_⟩
      · rintro j σ H2 hj ⟨gvs, gs, left, y6, y7, y8, y9, rfl, x2, hp2, hl2, hg2, hd2, gl2, hlt2⟩
        have j4 : j < 4 := by omega
        have ej : (0 : Int) + (j : Nat) = (j : Int) := by omega
        rw [ej]
        have hi' : (i : Int) < wide := by omega
        have hj' : (j : Int) < wide := by omega
        -- nothing is put in
        have stay : ∀ {Hx : Hp} {y7 y8 y9 : Option V} {k : Int}, Exx p H2 Hx → PenAt Hx p c (T + 80 * i + 20 * j + k) → k ≤ 20 → ∃ (gvs : List V) (gs : List Gap) (left' : Int) (y6 y7' y8' y9' : Option V), ([some (.ref p), some (.int wide), some (.ref wl), some (.ref l), some (.int left), some (.int (i : Nat)), some (.int (j : Nat)), y7, y8, y9] : L2.St) = [some (.ref p), some (.int wide), some (.ref wl), some (.ref l), some (.int left'), some (.int (i : Nat)), y6, y7', y8', y9'] ∧
            Exx p H Hx ∧ PenAt Hx p c (T + 80 * i + 20 * ((j + 1 : Nat) : Int)) ∧ Hx l = some (.lst gvs) ∧ Paired (GapAt K Hx) gvs gs ∧ Drawn wide ws gs left' ∧ gvs.length ≤ 4 * i + (j + 1) ∧ ∀ g ∈ gs, lexLt2 g.frm g.to_ i ((j + 1 : Nat) : Int) := by
          intro Hx y7 y8 y9 k ex hpx hk
          refine ⟨gvs, gs, left, _, _, _, _, rfl, x2.trans ex, hpx.mono (by omega), ex _ _ nlp hl2, Paired.imp (fun _ _ => GapAt.mono (hp2.tx ex)) hg2, hd2, by omega, fun g hg => ?_⟩
          rcases hlt2 g hg with h | ⟨h, h'⟩
          · exact .inl h
          · exact .inr ⟨h, by omega⟩
        refine ⟨.int (i : Nat), rfl, .int (j : Nat), rfl, rfl, _, rfl, ?_⟩
        by_cases eij : i = j
        · subst eij
          have z : (!decide (V.int (i : Nat) = V.int (i : Nat))) = false := by simp
          rw [z]
          refine iteF ?_
          exact stay (k := 0) (Exx.refl p H2) (by simpa using hp2) (by decide)
        · have z : (!decide (V.int (i : Nat) = V.int (j : Nat))) = true := by
            have : ¬ V.int (i : Nat) = V.int (j : Nat) := fun e => eij (by have := V.int.inj e; omega)
            rw [decide_eq_false this]
            rfl
          rw [z]
          refine iteT ?_
          refine ⟨.ref p, rfl, p, c, 3, _, rfl, hp2, by decide, by decide, by omega, fun r H3 r0 r1 x3 hp3 => ?_⟩
          refine ⟨r, 0, rfl, rfl, _, rfl, ?_⟩
          refine ite2 (fun _ => ?_) (fun _ => ?_)
          · have x23 := x2.trans x3
            have hwl3 : H3 wl = some (.lst us) := x23 _ _ nwp hwl
            have tx3 : TX K H H3 := hp.tx x23
            -- the words drawn
            refine ⟨.ref wl, rfl, wl, rfl, ⟨us, .inl (.inl hwl3)⟩, fun D hD => ?_⟩
            have nDp : D ≠ p := hp3.new1 hD
            have nDc : D ≠ c := hp3.new2 hD
            have nDw : D ≠ wl := fun z => by rw [z, hwl3] at hD; cases hD
            refine lc_list (K := K) (a := wl) (xs := us) (fun m H' => ∃ (vs : List V) (ss : List Word), Exx p H3 H' ∧ PenAt H' p c (T + 80 * i + 20 * j + 1 + m) ∧ H' D = some (.lst vs) ∧ Paired (Wd K H') vs ss ∧ ss.Sublist (ws.take m)) ⟨[], [], Exx.ex (Evl.Ex.new hD), ?_, upd_same, .nil, List.nil_sublist _⟩ ?_ ?_ ?_
            · have := hp3.put (o := .lst []) nDp nDc
              simpa using this
            · rintro m H' _ ⟨_, _, x, _⟩
              exact .inl (.inl (x _ _ nwp hwl3))
            · rintro m x H4 hm ⟨vs, ss, x4, hp4, hD4, hv4, hs4⟩
              obtain ⟨t, ht, hax⟩ := Paired.get1 hws hm
              have m8 : m < 8 := by
                have := (List.getElem?_eq_some_iff.mp ht).1
                omega
              refine ⟨rfl, .ref p, rfl, p, c, 3, _, rfl, hp4, by decide, by decide, by omega, fun r' H5 _ _ x5 hp5 => ?_⟩
              refine ⟨r', 0, rfl, rfl, _, rfl, ?_⟩
              have vlen : vs.length ≤ m := by
                have h1 := hs4.length_le
                rw [List.length_take] at h1
                have h2 : vs.length = ss.length := Paired.len hv4
                omega
              have hD5 := x5 _ _ nDp hD4
              have hv5 : Paired (Wd K H5) vs ss := Paired.imp (fun _ _ => Wd.mono (hp4.tx x5)) hv4
              refine ite2 (fun _ => ?_) (fun _ => ?_)
              · refine ⟨x, rfl, vs, hD5, Nat.lt_of_le_of_lt (by omega : vs.length ≤ 8) (by decide), vs ++ [x], ss ++ [t], (x4.trans x5).mut hD, ?_, upd_same, ?_, ?_⟩
                · have := (hp5.put (o := .lst (vs ++ [x])) nDp nDc).mono (T' := T + 80 * i + 20 * j + 1 + ((m + 1 : Nat) : Int)) (by omega)
                  exact this
                · have tx5 : TX K H H5 := tx3.trans ((hp3.tx x4).trans (hp4.tx x5))
                  exact Paired.imp (fun _ _ => Wd.mono (TX.put hD5)) (paired_app1 hv5 (hax.mono tx5))
                · rw [take_succ_get ht]
                  exact List.Sublist.append hs4 (List.Sublist.refl _)
              · refine ⟨vs, ss, x4.trans x5, hp5.mono (by omega), hD5, hv5, ?_⟩
                rw [take_succ_get ht]
                exact hs4.trans (List.sublist_append_left _ _)
            · rintro H4 ⟨vs, ss, x4, hp4, hD4, hv4, hs4⟩
              rw [ul, List.take_length] at hs4
              refine ⟨.int left, rfl, left, rfl, D, vs, rfl, .inl (.inl hD4), fun D2 hD2 => ?_⟩
              have left0 := hd2.left0
              obtain ⟨ln, hln⟩ : ∃ ln : Nat, left = (ln : Int) := ⟨left.toNat, by omega⟩
              subst hln
              rw [cut_take]
              have nD2p : D2 ≠ p := hp4.new1 hD2
              have nD2c : D2 ≠ c := hp4.new2 hD2
              have e5 := Evl.Ex.new (o := .lst (vs.take ln)) hD2
              generalize hH5 : upd H4 D2 (.lst (vs.take ln)) = H5 at e5
              have hD25 : H5 D2 = some (.lst (vs.take ln)) := by rw [← hH5]; exact upd_same
              have hp5 := hp4.ex e5
              have x35 := x4.trans (Exx.ex e5)
              -- the price
              refine ⟨.ref p, rfl, .ref p, rfl, p, c, 5, _, rfl, hp5, by decide, by decide, by omega, fun q1 H6 a1 a2 x6 hp6 => ⟨1, q1, rfl, rfl, ?_⟩⟩
              refine ⟨.ref p, rfl, p, c, 40, _, rfl, hp6, by decide, by decide, by omega, fun q2 H7 a3 a4 x7 hp7 => ⟨1, q2, rfl, rfl, ?_⟩⟩
              refine ⟨.ref p, rfl, 10, 6, rfl, rfl, (show (0 : Int) ≤ 6 ∧ (6 : Int) ≤ 1000000 ∧ (10 : Int).natAbs < 2 ^ 64 by decide), p, c, 1000000, _, rfl, hp7, by decide, by decide, by omega, fun q3 H8 a5 a6 x8 hp8 => ⟨1, q3, rfl, rfl, ?_⟩⟩
              refine ⟨(by show 4 ≤ sizeLine; decide), fun L hL => ?_⟩
              have nLp : L ≠ p := hp8.new1 hL
              have e9 := Evl.Ex.new (o := .lst [.int 1, .int (1 + q1), .int (1 + q2), .int (1 + q3)]) hL
              generalize hH9 : upd H8 L (.lst [.int 1, .int (1 + q1), .int (1 + q2), .int (1 + q3)]) = H9 at e9
              have hL9 : H9 L = some (.lst [.int 1, .int (1 + q1), .int (1 + q2), .int (1 + q3)]) := by rw [← hH9]; exact upd_same
              have hp9 := hp8.ex e9
              refine ⟨p, c, L, _, _, rfl, hp9, by omega, .inl (.inl hL9), nLp, (by simp), (by show 4 ≤ 1000000; decide), fun pr H10 hpr x10 hp10 => ?_⟩
              obtain ⟨pi, rfl, pi1, pi2⟩ : ∃ pi, pr = .int pi ∧ 1 ≤ pi ∧ pi ≤ 1000000 := by
                simp only [List.mem_cons, List.not_mem_nil, or_false] at hpr
                rcases hpr with rfl | rfl | rfl | rfl
                · exact ⟨_, rfl, by decide, by decide⟩
                · exact ⟨_, rfl, by omega, by omega⟩
                · exact ⟨_, rfl, by omega, by omega⟩
                · exact ⟨_, rfl, by omega, by omega⟩
              have x310 : Exx p H5 H10 := (((x6.trans x7).trans x8).trans (Exx.ex e9)).trans x10
              have hD210 : H10 D2 = some (.lst (vs.take ln)) := x310 _ _ nD2p hD25
              have xA : Exx p H3 H10 := x35.trans x310
              have xB : Exx p H H10 := x23.trans xA
              have hl10 : H10 l = some (.lst gvs) := xA _ _ nlp (x3 _ _ nlp hl2)
              have hv10 : Paired (Wd K H10) (vs.take ln) (ss.take ln) := Paired.imp (fun _ _ => Wd.mono ((TX.ex e5).trans (hp5.tx x310))) (Paired.takeN ln hv4)
              have hg10 : Paired (GapAt K H10) gvs gs := Paired.imp (fun _ _ => GapAt.mono ((hp2.tx x3).trans (hp3.tx xA))) hg2
              refine ⟨.ref l, rfl, .inl ⟨rfl, _, SqL.of hl10⟩, .int (i : Nat), rfl, .int (j : Nat), rfl, .int pi, rfl, .ref D2, rfl, D2, _, rfl, .inl ⟨.inl (.inl hD210), fun W hW => ?_⟩⟩
              have e11 := Evl.Ex.new (o := .tup (vs.take ln)) hW
              generalize hH11 : upd H10 W (.tup (vs.take ln)) = H11 at e11
              have hW11 : H11 W = some (.tup (vs.take ln)) := by rw [← hH11]; exact upd_same
              refine ⟨(by show 4 ≤ sizeLine; decide), fun G hG => ?_⟩
              have e12 := Evl.Ex.new (o := .tup [.int (i : Nat), .int (j : Nat), .int pi, .ref W]) hG
              generalize hH12 : upd H11 G (.tup [.int (i : Nat), .int (j : Nat), .int pi, .ref W]) = H12 at e12
              have hG12 : H12 G = some (.tup [.int (i : Nat), .int (j : Nat), .int pi, .ref W]) := by rw [← hH12]; exact upd_same
              have e1012 := e11.trans e12
              have hl12 := e1012 _ _ hl10
              have nlG : l ≠ G := fun z => by rw [← z, e11 _ _ hl10] at hG; cases hG
              refine ⟨l, gvs, _, rfl, rfl, hl12, Nat.lt_of_le_of_lt (by omega : gvs.length ≤ 20) (by decide), ?_⟩
              have nlD2 : D2 ≠ l := fun z => by rw [z, xA.trans (Exx.refl p _) l _ nlp (x3 _ _ nlp hl2)] at hD210; cases hD210; rw [z] at hD2; rw [x4 _ _ nlp (x3 _ _ nlp hl2)] at hD2; cases hD2
              have hD213 : (upd H12 l (.lst (gvs ++ [.ref G]))) D2 = some (.lst (vs.take ln)) := by rw [upd_ne nlD2]; exact e1012 _ _ hD210
              refine ⟨.int (ln : Int), rfl, .ref D2, rfl, D2, _, rfl, .inl (.inl (.inl hD213)), (ln : Int), _, rfl, rfl, ?_⟩
              have hus8 : us.length ≤ 8 := by omega
              let g : Gap := ⟨i, j, pi, ss.take ln⟩
              have hpF : PenAt (upd H12 l (.lst (gvs ++ [.ref G]))) p c (T + 80 * i + 20 * ((j + 1 : Nat) : Int)) := ((hp10.ex e1012).put (o := .lst (gvs ++ [.ref G])) nlp nlc).mono (by omega)
              have gAt : GapAt K H12 (.ref G) g := ⟨G, W, vs.take ln, rfl, .inl (.inl hG12), .inl (.inl (e12 _ _ hW11)), Paired.imp (fun _ _ => wd_ex e1012) hv10⟩
              have vsl : (vs.take ln).length = (ss.take ln).length := Paired.len hv10
              refine ⟨gvs ++ [.ref G], gs ++ [g], (ln : Int) - ((vs.take ln).length : Int), _, _, _, _, rfl, (xB.trans (Exx.ex e1012)).mut nl, hpF, upd_same, ?_, ?_, ?_, ?_⟩
              · exact Paired.imp (fun _ _ => GapAt.mono (TX.put hl12)) (paired_app1 (Paired.imp (fun _ _ => GapAt.mono (TX.ex e1012)) hg10) gAt)
              · refine ⟨?_, ?_, ?_, ?_⟩
                · intro g' hg'
                  rcases List.mem_append.mp hg' with h | h
                  · exact hd2.each g' h
                  · have : g' = g := by simpa using h
                    subst this
                    exact ⟨⟨by show (0 : Int) ≤ i; omega, hi'⟩, ⟨by show (0 : Int) ≤ j; omega, hj'⟩, (by show (i : Int) ≠ j; omega), ⟨pi1, pi2⟩, (List.take_sublist ln ss).trans hs4⟩
                · rw [List.pairwise_append]
                  refine ⟨hd2.rise, by simp, ?_⟩
                  intro g' hg' g'' hg''
                  have : g'' = g := by simpa using hg''
                  subst this
                  exact hlt2 g' hg'
                · have h := hd2.sum
                  rw [List.map_append, List.sum_append, vsl]
                  simp only [List.map_cons, List.map_nil, List.sum_cons, List.sum_nil]
                  show ((((gs.map (fun g => g.ways.length)).sum + ((ss.take ln).length + 0) : Nat)) : Int) + ((ln : Int) - ((ss.take ln).length : Int)) = 8
                  omega
                · have : (vs.take ln).length ≤ ln := by rw [List.length_take]; exact Nat.min_le_left _ _
                  omega
              · rw [List.length_append]
                simp
                omega
              · intro g' hg'
                rcases List.mem_append.mp hg' with h | h
                · rcases hlt2 g' h with h | ⟨h, h'⟩
                  · exact .inl h
                  · exact .inr ⟨h, by omega⟩
                · have : g' = g := by simpa using h
                  subst this
                  exact .inr ⟨rfl, by show (j : Int) < ((j + 1 : Nat) : Int); omega⟩
          · exact stay (k := 1) x3 hp3 (by decide)
      · rintro σ H2 ⟨gvs, gs, left, y6, y7, y8, y9, rfl, x2, hp2, hl2, hg2, hd2, gl2, hlt2⟩
        refine ⟨gvs, gs, left, _, _, _, _, _, rfl, x2, hp2.mono (by omega), hl2, hg2, hd2, by omega, fun g hg => ?_⟩
        have hj := ((hd2.each g hg).2.1).2
        rcases hlt2 g hg with h | ⟨h, h'⟩
        · omega
        · omega
    · rintro σ H1 ⟨gvs, gs, left, y5, y6, y7, y8, y9, rfl, x1, hp1, hl1, hg1, hd1, gl1, hlt1⟩
      refine ⟨.ref l, rfl, l, gvs, rfl, .inl ⟨.inl (.inl hl1), fun a na => ?_⟩⟩
      have e2 := Evl.Ex.new (o := .tup gvs) na
      exact q _ a gvs gs left (x1.trans (Exx.ex e2)) ((hp1.ex e2).mono (by omega)) (.inl (.inl upd_same)) (Paired.imp (fun _ _ => GapAt.mono (TX.ex e2)) hg1) hd1
end
end Wb

set_option Elab.async false
set_option linter.all false
set_option maxRecDepth 100000
set_option maxHeartbeats 4000000
set_option pp.maxSteps 600
set_option pp.deepTerms false
namespace Wb
open PySem PySem.Spec PyProof.Rows L2
abbrev sLock : Stmt := topS 32
abbrev nLock : List Str := ["_law_pen_here", "_law_many_here", "_law_wide", "_law_more", "_law_k", "_law_widths", "_law_bolts", "_law_bases", "_law_words", "_law_turn", "_law_one", "_law_base"]
theorem scLock : FnScope nLock ["_law_pen_here", "_law_many_here", "_law_wide", "_law_more"] (defScope sLock) := ⟨rfl, rfl, rfl, by decide +kernel, rfl, by decide +kernel, by decide +kernel⟩

theorem inAll_nil : InAll [] [] := ⟨rfl, fun i n m h => by simp at h⟩
theorem inAll_snoc {xs ms : List Int} {x m : Int} (h : InAll xs ms) (h0 : 0 ≤ x) (h1 : x < m) : InAll (xs ++ [x]) (ms ++ [m]) := by
  refine ⟨by rw [List.length_append, List.length_append, h.1]; rfl, fun i a b ha hb => ?_⟩
  by_cases hi : i < xs.length
  · rw [List.getElem?_append_left hi] at ha
    rw [List.getElem?_append_left (by rw [← h.1]; exact hi)] at hb
    exact h.2 i a b ha hb
  · rw [List.getElem?_append_right (by omega)] at ha
    rw [List.getElem?_append_right (by rw [← h.1]; omega)] at hb
    by_cases e : i - xs.length = 0
    · rw [e] at ha
      rw [← h.1, e] at hb
      cases ha
      cases hb
      exact ⟨h0, h1⟩
    · rw [List.getElem?_eq_none (by simp; omega)] at ha
      cases ha
theorem inAll_take {xs ms : List Int} (h : InAll xs ms) (k : Nat) : InAll (xs.take k) (ms.take k) := by
  refine ⟨by rw [List.length_take, List.length_take, h.1], fun i a b ha hb => ?_⟩
  rw [List.getElem?_take] at ha hb
  split at ha
  · rename_i hk
    rw [if_pos hk] at hb
    exact h.2 i a b ha hb
  · cases ha
/-- [draw(pen, one) for one in a list of ints] -/
theorem lc_draws {K : PySem.W.Frag} {vs : List Nat} {i : Nat} {σ : L2.St} {H : Hp} {Q : VK} {tl : TE} {wds : List Int} {p c : Addr} {T : Int} (hp : PenAt H p c T)
    (ha : ∀ Q' : VK, (∀ a H1, Exx p H H1 → PenAt H1 p c T → SqL K H1 a (wds.map V.int) → a ≠ p → Q' (.ref a) H1) → tl σ H Q')
    (hT : T ≤ 9000000) (hw : ∀ x ∈ wds, 1 ≤ x ∧ x ≤ 1000000) (hl : wds.length ≤ 100)
    (h0 : ∀ x, ((wipe σ vs).set i (some x))[0]? = some (some (.ref p))) (hi : ∀ x, ((wipe σ vs).set i (some x))[i]? = some (some x)) (hwp : ∀ x, wipe ((wipe σ vs).set i (some x)) vs = wipe σ vs)
    (q : ∀ H' D xs, Exx p H H' → PenAt H' p c (T + (wds.length : Nat)) → H D = none → H' D = some (.lst (xs.map V.int)) → InAll xs wds → Q (.ref D) H') :
    tLc (iList K tl) (gName i) tYes (tCall spDraw [] E0 (tCons (tVar 0) (tCons (tVar i) tNil))) vs σ H Q := by
  refine ha _ fun a H1 x1 hp1 ha1 nap => ⟨a, rfl, ⟨_, ha1⟩, fun D hD => ?_⟩
  have nDp : D ≠ p := hp1.new1 hD
  have nDc : D ≠ c := hp1.new2 hD
  refine lc_list (K := K) (a := a) (xs := wds.map V.int) (fun m H' => ∃ xs : List Int, Exx p H1 H' ∧ PenAt H' p c (T + (m : Nat)) ∧ H' D = some (.lst (xs.map V.int)) ∧ InAll xs (wds.take m)) ⟨[], Exx.ex (Evl.Ex.new hD), ?_, upd_same, inAll_nil⟩ ?_ ?_ ?_
  · have := hp1.put (o := .lst []) nDp nDc
    simpa using this
  · rintro m H' _ ⟨_, x, _⟩
    exact x.l nap ha1
  · rintro m x H2 hm ⟨xs, x2, hp2, hD2, hin⟩
    obtain ⟨wd, hwd, rfl⟩ := get_map_int hm
    have ml : m < wds.length := (List.getElem?_eq_some_iff.mp hwd).1
    obtain ⟨w1, w2⟩ := hw wd (List.mem_of_getElem? hwd)
    refine ⟨hwp _, ?_⟩
    refine ⟨.ref p, h0 _, .int wd, hi _, p, c, wd, _, rfl, hp2, w1, w2, by omega, fun r H3 r0 r1 x3 hp3 => ?_⟩
    have hD3 := x3 _ _ nDp hD2
    have xl : xs.length = m := by
      have := hin.1
      rw [List.length_take] at this
      omega
    refine ⟨_, hD3, Nat.lt_of_le_of_lt (by rw [List.length_map, xl]; omega : (xs.map V.int).length ≤ 100) (by decide), xs ++ [r], (x2.trans x3).mut hD, (hp3.put nDp nDc).mono (by omega), ?_, ?_⟩
    · rw [upd_same, List.map_append]
      rfl
    · rw [take_succ_get hwd]
      exact inAll_snoc hin r0 r1
  · rintro H2 ⟨xs, x2, hp2, hD2, hin⟩
    rw [List.length_map] at hp2 hin
    rw [List.take_length] at hin
    exact q H2 D xs (x1.trans x2) hp2 (fresh_exx x1 hp1.here hD) hD2 hin
def rTupK (K : PySem.W.Frag) : List V → Hp → VK → Prop := fun xs H Q => ∃ p ys, xs = [.ref p] ∧ ((SqL K H p ys ∧ ∀ l, H l = none → Q (.ref l) (upd H l (.tup ys))) ∨ (SqT K H p ys ∧ Q (.ref p) H))
theorem call_tupK {X : Cx} : CallR X (.type "tuple") (rTupK X.K) := call_tuple_of
def spLock (K : PySem.W.Frag) : Sp := fun vs H Q _ => ∃ (p c : Addr) (many T : Int), vs = [.ref p, .int many, .int 4, .int 5] ∧ PenAt H p c T ∧ T ≤ 8000000 ∧ 1 ≤ many ∧ many ≤ 60 ∧
  ∀ H' v l, Exx p H H' → PenAt H' p c (T + 40000) → LockAt K H' v l → LockOk l → (l.length : Int) = many → Q v H'

/-! ### codes and the tuples' order -/
theorem lex_of_code {B : Int} : ∀ {u w : List Int}, u.length = w.length → TS.Bd B u → TS.Bd B w → TS.code B u ≤ TS.code B w → u ≠ w → HT.lexLt u w = true
  | [], [], _, _, _, _, ne => absurd rfl ne
  | x :: u, y :: w, hl, hu, hw, hc, ne => by
    have hl' : u.length = w.length := by simpa using hl
    have hu' : TS.Bd B u := fun m hm => hu m (List.mem_cons_of_mem _ hm)
    have hw' : TS.Bd B w := fun m hm => hw m (List.mem_cons_of_mem _ hm)
    rw [HT.lexLt_cons]
    by_cases e : x = y
    · subst e
      rw [if_pos rfl]
      refine lex_of_code hl' hu' hw' ?_ (fun z => ne (by rw [z]))
      apply Int.not_lt.mp
      intro z
      have := (TS.code_same (d := x) hl'.symm).mpr z
      omega
    · rw [if_neg e]
      apply decide_eq_true
      apply Int.not_le.mp
      intro z
      have := TS.code_lt hl'.symm hw' hu' (show y < x by omega)
      omega
  | [], _ :: _, hl, _, _, _, _ => by simp at hl
  | _ :: _, [], hl, _, _, _, _ => by simp at hl
theorem nodup_le {α : Type} [DecidableEq α] : ∀ {xs ys : List α}, xs.Nodup → (∀ x ∈ xs, x ∈ ys) → xs.length ≤ ys.length
  | [], _, _, _ => Nat.zero_le _
  | x :: xs, ys, hn, h => by
    rw [List.nodup_cons] at hn
    have hx : x ∈ ys := h x List.mem_cons_self
    have ih := nodup_le (xs := xs) (ys := ys.erase x) hn.2 (fun y hy => (List.mem_erase_of_ne (fun (e : y = x) => hn.1 (by rw [← e]; exact hy))).mpr (h y (List.mem_cons_of_mem _ hy)))
    rw [List.length_erase_of_mem hx] at ih
    have := List.length_pos_of_mem hx
    rw [List.length_cons]
    omega
theorem le_sum : ∀ {xs : List Nat} {x : Nat}, x ∈ xs → x ≤ xs.sum
  | y :: xs, x, h => by
    rw [List.sum_cons]
    rcases List.mem_cons.mp h with rfl | h
    · exact Nat.le_add_right _ _
    · have := le_sum h
      omega
/-! ### locks as they are drawn -/
structure BGood (wds : List Int) (srcs : List Word) (k : Nat) (b : Bolt) : Prop where
  many : wds[k]? = some b.many
  ex : ∃ ws left, Drawn b.many ws b.gaps left ∧ ws.Pairwise (fun u w => HT.lexLt u w = true) ∧ ∀ w ∈ ws, InAll w (wds.take k) ∧ ∃ s ∈ srcs, w = s.take k
theorem BGood.mono {wds : List Int} {srcs srcs' : List Word} {k : Nat} {b : Bolt} (h : BGood wds srcs k b) (hs : ∀ s ∈ srcs, s ∈ srcs') : BGood wds srcs' k b := by
  obtain ⟨m, ws, left, a, b, d⟩ := h
  refine ⟨m, ws, left, a, b, fun w hw => ?_⟩
  obtain ⟨h1, s, h2, h3⟩ := d w hw
  exact ⟨h1, s, hs s h2, h3⟩
theorem lockOk_drawn {wds : List Int} {srcs : List Word} {l : Lock} (hl : l.length = wds.length) (h0 : 1 ≤ l.length) (h60 : l.length ≤ 60) (hw : ∀ x ∈ wds, 2 ≤ x ∧ x ≤ 4) (hs : srcs.length ≤ 8)
    (hb : ∀ k b, l[k]? = some b → BGood wds srcs k b) : LockOk l := by
  have mk : ∀ k, k ≤ l.length → manysOf (l.take k) = wds.take k := by
    intro k hk
    apply List.ext_getElem?
    intro i
    unfold manysOf
    rw [List.getElem?_map, List.getElem?_take, List.getElem?_take]
    by_cases hi : i < k
    · rw [if_pos hi, if_pos hi]
      have hil : i < l.length := by omega
      rw [List.getElem?_eq_getElem hil]
      rw [(hb i l[i] (List.getElem?_eq_getElem hil)).many]
      rfl
    · rw [if_neg hi, if_neg hi]
      rfl
  refine ⟨h0, h60, fun k b hk => ?_, fun k ws hk hn hc => ?_⟩
  · have kl : k < l.length := (List.getElem?_eq_some_iff.mp hk).1
    obtain ⟨hm, ws, left, hd, hr, hws⟩ := hb k b hk
    rw [mk k (Nat.le_of_lt kl)]
    have hm2 := hw _ (List.mem_of_getElem? hm)
    have sum8 : (b.gaps.map (fun g => g.ways.length)).sum ≤ 8 := by
      have h1 := hd.sum
      have h2 := hd.left0
      omega
    refine ⟨hm2.1, hm2.2, fun g hg => ?_, hd.rise, sum8⟩
    obtain ⟨⟨a1, a2⟩, ⟨a3, a4⟩, a5, ⟨a6, a7⟩, a8⟩ := hd.each g hg
    have g8 : g.ways.length ≤ 8 := by
      have : g.ways.length ≤ (b.gaps.map (fun g => g.ways.length)).sum := le_sum (List.mem_map.mpr ⟨g, hg, rfl⟩)
      omega
    refine ⟨a1, a2, a3, a4, a5, a6, a7, g8, fun w' hw' => ?_, hr.sublist a8⟩
    have := (hws w' (a8.subset hw')).1
    exact ⟨this.1, this.2⟩
  · have : ws.length ≤ (srcs.map (fun s => s.take k)).length := by
      refine nodup_le hn fun w' hw' => ?_
      obtain ⟨j, b, g, u, hj, hbj, hg, hu, rfl⟩ := hc w' hw'
      obtain ⟨_, ws', left, hd, _, hws⟩ := hb j b hbj
      obtain ⟨_, s, hs', rfl⟩ := hws u (((hd.each g hg).2.2.2.2).subset hu)
      refine List.mem_map.mpr ⟨s, hs', ?_⟩
      rw [List.take_take, Nat.min_eq_left hj]
    rw [List.length_map] at this
    omega
end Wb

set_option Elab.async false
set_option linter.all false
set_option maxRecDepth 100000
set_option maxHeartbeats 4000000
set_option pp.maxSteps 600
set_option pp.deepTerms false
namespace Wb
open PySem PySem.Spec PyProof.Rows L2
def scTurn : Scope := { kind := .function, names := [(".0", .local), ("_law_turn", .local), ("tuple", .globalImplicit), ("_law_pen_here", .free), ("_law_widths", .free)], isGenerator := false, isCoroutine := false }
theorem keys_of {K : PySem.W.Frag} {H : Hp} : ∀ {vs : List V} {ws : List Word}, Paired (Wd K H) vs ws → ∃ ks : List (Addr × List Int), vs = ks.map (fun p => V.ref p.1) ∧ ks.map (·.2) = ws ∧ ∀ p ∈ ks, H p.1 = some (.tup (p.2.map V.int))
  | [], [], _ => ⟨[], rfl, rfl, fun p hp => (by cases hp)⟩
  | v :: vs, w :: ws, h => by
    cases h with
    | cons r t =>
      obtain ⟨ks, h1, h2, h3⟩ := keys_of t
      obtain ⟨a, rfl, ha⟩ := r
      refine ⟨(a, w) :: ks, by rw [h1]; rfl, by rw [← h2]; rfl, fun p hp => ?_⟩
      rcases List.mem_cons.mp hp with rfl | hp
      · exact ha
      · exact h3 p hp
theorem rows_of_keys {K : PySem.W.Frag} {H : Hp} : ∀ {ks : List (Addr × List Int)}, (∀ p ∈ ks, H p.1 = some (.tup (p.2.map V.int))) → Paired (Wd K H) (ks.map (fun p => V.ref p.1)) (ks.map (·.2))
  | [], _ => .nil
  | k :: ks, h => .cons ⟨k.1, rfl, h k List.mem_cons_self⟩ (rows_of_keys fun p hp => h p (List.mem_cons_of_mem _ hp))
theorem take_map_succ {bases : List Word} {m : Nat} {b : Word} (k : Nat) (h : bases[m]? = some b) : (bases.take (m + 1)).map (fun u => u.take k) = (bases.take m).map (fun u => u.take k) ++ [b.take k] := by
  rw [take_succ_get h, List.map_append]
  rfl
theorem tcb1 {r : List V → Hp → VK → Prop} {X : TE} {σ : L2.St} {H : Hp} {Q : VK} (h : X σ H (fun x H1 => r [x] H1 Q)) : tCB r (tCons X tNil) σ H Q := h
theorem tcons1 {X : TE} {σ : L2.St} {H : Hp} {Q : List V → Hp → Prop} (h : X σ H (fun x H1 => Q [x] H1)) : tCons X tNil σ H Q := h
theorem tyes1 {σ : L2.St} {H : Hp} {E F : Hp → Prop} (h : E H) : tYes σ H (fun b H3 => if b = true then E H3 else F H3) := h
section
variable {P : Program} {w : World} {K : PySem.W.Frag} {mg : Str → Option Value} {base : Heap}
theorem ok_lock {f f1 f2 f3 : Addr} {fd fd1 fd2 fd3 : FuncData} (F : Fun K "_law_lock" "_law_lock" sLock f fd) (F1 : Fun K "_law_draw" "_law_draw" sDraw f1 fd1) (b1 : Binds K fd1 ["_law_pen_here", "_law_many_here"] []) (g1 : mg "_law_draw" = some (.ref f1))
    (F2 : Fun K "_law_pick" "_law_pick" sPick f2 fd2) (b2 : Binds K fd2 ["_law_pen_here", "_law_some"] []) (g2 : mg "_law_pick" = some (.ref f2))
    (F3 : Fun K "_law_gaps" "_law_gaps" sGaps f3 fd3) (b3 : Binds K fd3 ["_law_pen_here", "_law_wide", "_law_words"] []) (g3 : mg "_law_gaps" = some (.ref f3)) (B : Bi mg) :
    FnOk P w K mg base CX0 4 f fd ["_law_pen_here", "_law_many_here", "_law_wide", "_law_more"] (spLock K) := by
  have G1 : FnOk P w K mg base CX0 1 f1 fd1 ["_law_pen_here", "_law_many_here"] spDraw := ok_draw F1 B
  have G3 : FnOk P w K mg base CX0 3 f3 fd3 ["_law_pen_here", "_law_wide", "_law_words"] (spGaps K) := ok_gaps F3 F1 b1 g1 F2 b2 g2 B
  refine F.ok scLock (fun vs H Q E h => ?_) (fun cdv A outer s H vs Q E hr h => ?_)
  · obtain ⟨p, c, many, T, rfl, _⟩ := h; rfl
  · obtain ⟨p, c, many, T, rfl, hp, T8, m1, m60, q⟩ := h
    have hr1 : Room 1 _ := hr.mono (by decide)
    refine ⟨_, pss_cons (ps_asg (pe_tup (pa_cons (pe_lc (own := [("_law_k", 4)]) (g := gName 4) rfl scLock.nd (pi_range1 (by rfl) B.range (pa_cons (pv 1) pa_nil)) (blkOk_by (own := [("_law_k", 4)]) (N := nLock) (sc := defScope sLock) (by decide +kernel))
            (fun _ _ _ _ _ => pg_name (i := 4) scLock.nd rfl (Or.inl rfl)) (fun _ _ _ _ _ => pts_nil)
            (fun _ _ _ _ _ => pe_op op_add pe_int (pe_call G1 hr1 (by rfl) g1 F1.kp b1 .nil pass0 (pa_cons (pv 0) (pa_cons (pe_op op_sub (pv 2) pe_int) pa_nil))))) (pa_cons (pe_lst pa_nil) pa_nil)))
          (pg_tup rfl (pgs_cons (pg_name (i := 5) scLock.nd rfl (.inr rfl)) (pgs_cons (pg_name (i := 6) scLock.nd rfl (.inl rfl)) pgs_nil))))
      (pss_cons (ps_setLc (i := 7) (own := [("_law_turn", 9)]) (g := gName 9) rfl scLock.nd rfl rfl (sw_true rfl rfl rfl (by decide +kernel)) (pi_range1 (by rfl) B.range (pa_cons (pe_op op_add pe_int (pe_call G1 hr1 (by rfl) g1 F1.kp b1 .nil pass0 (pa_cons (pv 0) (pa_cons pe_int pa_nil)))) pa_nil)) (blkOk_by (own := [("_law_turn", 9)]) (N := nLock) (sc := defScope sLock) (by decide +kernel))
            (fun _ _ _ _ _ => pg_name (i := 9) scLock.nd rfl (Or.inl rfl)) (fun _ _ _ _ _ => pts_nil)
            (fun _ _ _ _ _ => pe_callTy (r := rTupK K) call_tupK (by rfl) B.tuple PyProof.Rows.boot_tuple (pa_cons
              (pe_lc (own := [("_law_one", 10)]) (wi := iList K (tVar 5)) (g := gName 10) rfl scLock.nd (pi_list (pv 5)) (blkOk_by (own := [("_law_one", 10)]) (N := nLock) (sc := relS scTurn (defScope sLock)) (by decide +kernel))
                (fun _ _ _ _ _ => pg_name (i := 10) scLock.nd rfl (Or.inl rfl)) (fun _ _ _ _ _ => pts_nil)
                (fun _ _ _ _ _ => pe_call G1 hr1 (by rfl) g1 F1.kp b1 .nil pass0 (pa_cons (pv 0) (pa_cons (pv 10) pa_nil)))) pa_nil)))
      (pss_cons (ps_for PassesOwn.never rfl (pi_range1 (by rfl) B.range (pa_cons (pv 1) pa_nil)) (pg_name (i := 4) scLock.nd rfl (.inr rfl))
        (pss_cons (ps_setLc (i := 8) (own := [("_law_base", 11)]) (g := gName 11) rfl scLock.nd rfl rfl (sw_true rfl rfl rfl (by decide +kernel)) (pi_list (pv 7)) (blkOk_by (own := [("_law_base", 11)]) (N := nLock) (sc := defScope sLock) (by decide +kernel))
            (fun _ _ _ _ _ => pg_name (i := 11) scLock.nd rfl (Or.inl rfl)) (fun _ _ _ _ _ => pts_nil)
            (fun _ _ _ _ _ => pe_slice (r := rSlA K) sl_tupA (pv 11) po_none (po_some (pv 4))))
        (Evl.pss_cut (ps_if (PW.pt (pw_and (pt_cmpR op_gt (pv 3) pe_int (nomark _)) (pw_and1 (pt_cmpR op_eq (pe_call G1 hr1 (by rfl) g1 F1.kp b1 .nil pass0 (pa_cons (pv 0) (pa_cons pe_int pa_nil))) pe_int (nomark _)))))
            (pss_cons (ps_expr (pe_bm PySem.F.plainAttrs_list PySem.F.slot_list_append PySem.F.type_list_append mt_append (pv 8) (pa_cons
              (pe_callTy (r := rTupK K) call_tupK (by rfl) B.tuple PyProof.Rows.boot_tuple (pa_cons
                (pe_lc (own := [("_law_one", 10)]) (g := gName 10) rfl scLock.nd (pi_list (pe_slice sl_list (pv 5) po_none (po_some (pv 4)))) (blkOk_by (own := [("_law_one", 10)]) (N := nLock) (sc := defScope sLock) (by decide +kernel))
                  (fun _ _ _ _ _ => pg_name (i := 10) scLock.nd rfl (Or.inl rfl)) (fun _ _ _ _ _ => pts_nil)
                  (fun _ _ _ _ _ => pe_call G1 hr1 (by rfl) g1 F1.kp b1 .nil pass0 (pa_cons (pv 0) (pa_cons (pv 10) pa_nil)))) pa_nil)) pa_nil)))
            (pss_one (ps_set (i := 3) scLock.nd rfl (.inl rfl) (pe_op op_sub (pv 3) pe_int)))) pss_nil)
        (pss_one (ps_expr (pe_bm PySem.F.plainAttrs_list PySem.F.slot_list_append PySem.F.type_list_append mt_append (pv 6) (pa_cons
          (pe_tup (pa_cons (pe_ix ix_list (pv 5) (pv 4) (fun _ _ => rfl)) (pa_cons (pe_call G3 hr (by rfl) g3 F3.kp b3 .nil pass0 (pa_cons (pv 0) (pa_cons (pe_ix ix_list (pv 5) (pv 4) (fun _ _ => rfl)) (pa_cons
              (pe_callB (cr_sortedW rfl) (by rfl) B.sorted boot_sorted (pa_cons (pe_callTy (cr_setOfT rfl hr.units) (by rfl) B.set PyProof.Rows.boot_set (pa_cons (pv 8) pa_nil)) pa_nil)) pa_nil)))) pa_nil))) pa_nil)))))))
      (pss_one (ps_ret (pe_callTy (r := rTupK K) call_tupK (by rfl) B.tuple PyProof.Rows.boot_tuple (pa_cons (pv 6) pa_nil)))))), ?_⟩
    refine ⟨.int many, rfl, many, rfl, by omega, by omega, fun W nW => ?_⟩
    have nWp : W ≠ p := hp.new1 nW
    have nWc : W ≠ c := hp.new2 nW
    refine lc_range (lo := 0) (n := many.toNat) (fun i H' => ∃ wds : List Int, Exx p H H' ∧ PenAt H' p c (T + (i : Nat)) ∧ H' W = some (.lst (wds.map V.int)) ∧ wds.length = i ∧ ∀ x ∈ wds, 2 ≤ x ∧ x ≤ 4) ⟨[], Exx.ex (Evl.Ex.new nW), ?_, upd_same, rfl, fun x hx => (by cases hx)⟩ ?_ ?_
    · have := hp.put (o := .lst []) nWp nWc
      simpa using this
    · rintro i H1 hi ⟨wds, x1, hp1, hW1, wl, hw⟩
      refine ⟨rfl, ?_⟩
      refine ⟨.ref p, rfl, .int 4, rfl, 4, 1, rfl, rfl, p, c, _, _, rfl, hp1, (by decide : (1 : Int) ≤ 4 - 1), (by decide : (4 : Int) - 1 ≤ 1000000), by omega, fun r H2 r0 r1 x2 hp2 => ?_⟩
      refine ⟨2, r, rfl, rfl, _, x2 _ _ nWp hW1, Nat.lt_of_le_of_lt (by rw [List.length_map, wl]; omega : (wds.map V.int).length ≤ 60) (by decide), wds ++ [2 + r], (x1.trans x2).mut nW, (hp2.put nWp nWc).mono (by omega), by rw [upd_same, List.map_append]; rfl, by rw [List.length_append, wl]; rfl, ?_⟩
      intro x hx
      rcases List.mem_append.mp hx with h | h
      · exact hw x h
      · have : x = 2 + r := by simpa using h
        omega
    · rintro H1 ⟨wds, x1, hp1, hW1, wl, hw⟩
      refine ⟨Nat.zero_le _, fun bl nbl => ⟨(by show 2 ≤ sizeLine; decide), fun tp ntp => ?_⟩⟩
      have nblp : bl ≠ p := hp1.new1 nbl
      have nblc : bl ≠ c := hp1.new2 nbl
      have nblW : bl ≠ W := fun z => by rw [z, hW1] at nbl; cases nbl
      have e2 := Evl.Ex.new (o := .lst []) nbl
      have e3 := Evl.Ex.new (o := .tup [.ref W, .ref bl]) ntp
      generalize hH3 : upd (upd H1 bl (.lst [])) tp (.tup [.ref W, .ref bl]) = H3 at e3
      have htp : H3 tp = some (.tup [.ref W, .ref bl]) := by rw [← hH3]; exact upd_same
      have hbl3 : H3 bl = some (.lst []) := e3 _ _ upd_same
      have hW3 : H3 W = some (.lst (wds.map V.int)) := e3 _ _ (e2 _ _ hW1)
      have hp3 := hp1.ex (e2.trans e3)
      have x3 : Exx p H H3 := x1.trans (Exx.ex (e2.trans e3))
      have nbl0 : H bl = none := fresh_exx x1 hp1.here nbl
      refine ⟨tp, _, rfl, .inl (.inl htp), rfl, _, _, rfl, _, _, rfl, rfl, ?_⟩
      have wlen : (wds.length : Int) = many := by omega
      have wds60 : wds.length ≤ 60 := by omega
      have hw1 : ∀ x ∈ wds, 1 ≤ x ∧ x ≤ 1000000 := fun x hx => by have := hw x hx; omega
      -- the bases
      refine ⟨.ref p, rfl, p, c, 3, _, rfl, hp3, by decide, by decide, by omega, fun r H4 r0 r1 x4 hp4 => ⟨1, r, rfl, rfl, _, rfl, by omega, by omega, fun bs nbs => ?_⟩⟩
      have nbsp : bs ≠ p := hp4.new1 nbs
      have nbsc : bs ≠ c := hp4.new2 nbs
      have hW4 := x4 _ _ nWp hW3
      have hbl4 := x4 _ _ nblp hbl3
      have nbsW : bs ≠ W := fun z => by rw [z, hW4] at nbs; cases nbs
      have nbsbl : bs ≠ bl := fun z => by rw [z, hbl4] at nbs; cases nbs
      refine lc_range (lo := 0) (n := (1 + r).toNat) (fun i H' => ∃ (bvs : List V) (bases : List Word), Exx p H4 H' ∧ PenAt H' p c (T + 62 + 60 * (i : Nat)) ∧ H' bs = some (.lst bvs) ∧ Paired (Wd K H') bvs bases ∧ bases.length = i ∧ ∀ u ∈ bases, InAll u wds) ⟨[], [], Exx.ex (Evl.Ex.new nbs), ?_, upd_same, .nil, rfl, fun u hu => (by cases hu)⟩ ?_ ?_
      · have := hp4.put (o := .lst []) nbsp nbsc
        exact this.mono (by omega)
      · rintro i H5 hi ⟨bvs, bases, x5, hp5, hbs5, hbv5, bl5, hb5⟩
        refine ⟨rfl, ?_⟩
        refine tyes1 ?_
        refine tcb1 ?_
        refine lc_draws (K := K) (vs := [10]) (i := 10) (wds := wds) (p := p) (c := c) hp5 ?_ (by omega) hw1 (by omega) ?_ ?_ ?_ ?_
        · exact fun Q' h => ⟨.ref W, rfl, h W H5 (Exx.refl p H5) hp5 (.inl (.inl (x5 _ _ nWp hW4))) nWp⟩
        · exact fun _ => rfl
        · exact fun _ => rfl
        · exact fun _ => rfl
        intro H6 D xs x6 hp6 nD hD hin
        refine ⟨D, _, rfl, .inl ⟨.inl (.inl hD), fun t nt => ?_⟩⟩
        have e7 := Evl.Ex.new (o := .tup (xs.map V.int)) nt
        have hbs7 := e7 _ _ (x6 _ _ nbsp hbs5)
        have bvl : bvs.length = bases.length := Paired.len hbv5
        have tx6 := hp5.tx (K := K) x6
        refine ⟨bvs, hbs7, Nat.lt_of_le_of_lt (by omega : bvs.length ≤ 3) (by decide), bvs ++ [.ref t], bases ++ [xs], (x5.trans (x6.trans (Exx.ex e7))).mut nbs, ((hp6.ex e7).put nbsp nbsc).mono (by omega), upd_same, ?_, by rw [List.length_append, bl5]; rfl, ?_⟩
        · refine Paired.imp (fun _ _ => Wd.mono (TX.put hbs7)) (paired_app1 (Paired.imp (fun _ _ => Wd.mono (tx6.trans (TX.ex e7))) hbv5) ⟨t, rfl, upd_same⟩)
        · intro u hu
          rcases List.mem_append.mp hu with h | h
          · exact hb5 u h
          · have : u = xs := by simpa using h
            subst this
            exact hin
      · rintro H5 ⟨bvs, bases, x5, hp5, hbs5, hbv5, bl5, hb5⟩
        have bl3 : bases.length ≤ 3 := by omega
        have bl1 : 1 ≤ bases.length := by omega
        have nbs0 : H bs = none := fresh_exx (x3.trans x4) hp4.here nbs
        have x35 : Exx p H H5 := x3.trans (x4.trans x5)
        -- the bolts
        refine ⟨.int many, rfl, many, rfl, by omega, by omega, ?_⟩
        refine for_range (lo := 0) (n := many.toNat) (fun k σ H' => ∃ (more : Int) (lvs : List V) (l : Lock) (srcs : List Word) (y4 y8 y9 y10 y11 : Option V), σ = [some (.ref p), some (.int many), some (.int 4), some (.int more), y4, some (.ref W), some (.ref bl), some (.ref bs), y8, y9, y10, y11] ∧
            Exx p H H' ∧ PenAt H' p c (T + 300 + 600 * (k : Nat)) ∧ H' W = some (.lst (wds.map V.int)) ∧ H' bs = some (.lst bvs) ∧ Paired (Wd K H') bvs bases ∧ H' bl = some (.lst lvs) ∧ Paired (BoltAt K H') lvs l ∧ l.length = k ∧
            (∀ s ∈ bases, s ∈ srcs) ∧ (srcs.length : Int) + more ≤ 8 ∧ 0 ≤ more ∧ ∀ j b, l[j]? = some b → BGood wds srcs j b)
          ⟨5, [], [], bases, _, _, _, _, _, rfl, x35, hp5.mono (by omega), x5 _ _ nWp hW4, hbs5, hbv5, x5 _ _ nblp hbl4, .nil, rfl, fun s h => h, by omega, by decide, fun j b h => by simp at h⟩ ?_ ?_
        · rintro k σ H6 hk ⟨more, lvs, l, srcs, y4, y8, y9, y10, y11, rfl, x6, hp6, hW6, hbs6, hbv6, hbl6, hlv6, ll, hsub, hmore, more0, hgood⟩
          have ek : (0 : Int) + (k : Nat) = ((k : Nat) : Int) := by omega
          rw [ek]
          have kl : k < wds.length := by omega
          have bvl : bvs.length = bases.length := Paired.len hbv6
          -- the words
          refine ⟨.ref bs, rfl, bs, rfl, ⟨bvs, .inl (.inl hbs6)⟩, fun wlA nwl => ?_⟩
          have nwlp : wlA ≠ p := hp6.new1 nwl
          have nwlc : wlA ≠ c := hp6.new2 nwl
          refine lc_list (K := K) (a := bs) (xs := bvs) (fun m H' => ∃ vs : List V, Evl.Ex H6 H' ∧ H' wlA = some (.lst vs) ∧ Paired (Wd K H') vs ((bases.take m).map (fun u => u.take k))) ⟨[], Evl.Ex.new nwl, upd_same, .nil⟩ ?_ ?_ ?_
          · rintro m H' _ ⟨_, e, _⟩
            exact .inl (.inl (e _ _ hbs6))
          · rintro m x H7 hm ⟨vs, e7, hwl7, hv7⟩
            obtain ⟨u, hu, ⟨ax, rfl, hax⟩⟩ := Paired.get1 hbv6 hm
            have ul : u.length = wds.length := (hb5 u (List.mem_of_getElem? hu)).1
            have ml : m < bases.length := (List.getElem?_eq_some_iff.mp hu).1
            refine ⟨rfl, .ref ax, rfl, .int (k : Nat), rfl, (k : Nat), rfl, ax, _, rfl, .inl (.inl (e7 _ _ hax)), fun z => absurd (slice_whole z.2) (by rw [List.length_map]; omega), fun _ t nt => ?_⟩
            rw [cut_take, ← List.map_take]
            have e8 := Evl.Ex.new (o := .tup ((u.take k).map V.int)) nt
            have vl : vs.length ≤ 3 := by
              have := Paired.len hv7
              rw [List.length_map, List.length_take] at this
              omega
            refine ⟨vs, e8 _ _ hwl7, Nat.lt_of_le_of_lt vl (by decide), vs ++ [.ref t], (e7.trans e8).mut nwl, upd_same, ?_⟩
            rw [take_map_succ k hu]
            exact Paired.imp (fun _ _ => Wd.mono (TX.put (e8 _ _ hwl7))) (paired_app1 (Paired.imp (fun _ _ => wd_ex e8) hv7) ⟨t, rfl, upd_same⟩)
          · rintro H7 ⟨vs, e7, hwl7, hv7⟩
            rw [bvl, List.take_length] at hv7
            have hp7 := hp6.ex e7
            have vl7 : vs.length = bases.length := by
              have := Paired.len hv7
              rwa [List.length_map] at this
            have w0 : ∀ u ∈ bases.map (fun u => u.take k), InAll u (wds.take k) ∧ ∃ s ∈ srcs, u = s.take k := by
              intro u hu
              obtain ⟨b0, hb0, rfl⟩ := List.mem_map.mp hu
              exact ⟨inAll_take (hb5 b0 hb0) k, b0, hsub b0 hb0, rfl⟩
            refine ⟨fun σ' H' => ∃ (more' : Int) (vs' : List V) (words : List Word) (srcs' : List Word) (y9 y10 y11 : Option V), σ' = [some (.ref p), some (.int many), some (.int 4), some (.int more'), some (.int (k : Nat)), some (.ref W), some (.ref bl), some (.ref bs), some (.ref wlA), y9, y10, y11] ∧
                Exx p H6 H' ∧ PenAt H' p c (T + 300 + 600 * (k : Nat) + 61) ∧ H' wlA = some (.lst vs') ∧ Paired (Wd K H') vs' words ∧ 1 ≤ words.length ∧ words.length ≤ 4 ∧ (∀ u ∈ words, InAll u (wds.take k) ∧ ∃ s ∈ srcs', u = s.take k) ∧ (∀ s ∈ srcs, s ∈ srcs') ∧ (srcs'.length : Int) + more' ≤ 8 ∧ 0 ≤ more', ?_, ?_⟩
            · have same : ∀ {Hx : Hp} {z9 z10 z11 : Option V}, Exx p H7 Hx → PenAt Hx p c (T + 300 + 600 * (k : Nat) + 61) → ∃ (more' : Int) (vs' : List V) (words : List Word) (srcs' : List Word) (y9 y10 y11 : Option V), ([some (.ref p), some (.int many), some (.int 4), some (.int more), some (.int (k : Nat)), some (.ref W), some (.ref bl), some (.ref bs), some (.ref wlA), z9, z10, z11] : L2.St) = [some (.ref p), some (.int many), some (.int 4), some (.int more'), some (.int (k : Nat)), some (.ref W), some (.ref bl), some (.ref bs), some (.ref wlA), y9, y10, y11] ∧
                  Exx p H6 Hx ∧ PenAt Hx p c (T + 300 + 600 * (k : Nat) + 61) ∧ Hx wlA = some (.lst vs') ∧ Paired (Wd K Hx) vs' words ∧ 1 ≤ words.length ∧ words.length ≤ 4 ∧ (∀ u ∈ words, InAll u (wds.take k) ∧ ∃ s ∈ srcs', u = s.take k) ∧ (∀ s ∈ srcs, s ∈ srcs') ∧ (srcs'.length : Int) + more' ≤ 8 ∧ 0 ≤ more' := by
                intro Hx z9 z10 z11 ex hpx
                exact ⟨more, vs, bases.map (fun u => u.take k), srcs, _, _, _, rfl, (Exx.ex e7).trans ex, hpx, ex _ _ nwlp hwl7, Paired.imp (fun _ _ => Wd.mono (hp7.tx ex)) hv7, by rw [List.length_map]; exact bl1, by rw [List.length_map]; omega, w0, fun s h => h, hmore, more0⟩
              refine ⟨.int more, rfl, more, 0, rfl, rfl, _, rfl, ?_⟩
              refine ite2 (fun hgt => ?_) (fun _ => same (Exx.refl p H7) (hp7.mono (by omega)))
              have hgt' : 0 < more := of_decide_eq_true hgt
              refine ⟨.ref p, rfl, p, c, 3, _, rfl, hp7, by decide, by decide, by omega, fun r' H8 _ _ x8 hp8 => ?_⟩
              refine ⟨rfl, _, rfl, ?_⟩
              refine ite2 (fun _ => ?_) (fun _ => same x8 (hp8.mono (by omega)))
              -- one word more
              have hwl8 := x8 _ _ nwlp hwl7
              have hW8 : H8 W = some (.lst (wds.map V.int)) := x8 _ _ nWp (e7 _ _ hW6)
              refine ⟨.ref wlA, rfl, .inl ⟨rfl, _, SqL.of hwl8⟩, ?_⟩
              refine tcons1 ?_
              refine tcb1 ?_
              refine lc_draws (K := K) (vs := [10]) (i := 10) (wds := wds.take k) (p := p) (c := c) (T := T + 300 + 600 * (k : Nat) + 1) (hp8.mono (by omega)) ?_ (by omega) (fun x hx => hw1 x (List.mem_of_mem_take hx)) (by rw [List.length_take]; omega) ?_ ?_ ?_ ?_
              rotate_left
              · exact fun _ => rfl
              · exact fun _ => rfl
              · exact fun _ => rfl
              rotate_left
              · intro Q' h
                refine ⟨.ref W, rfl, .int (k : Nat), rfl, (k : Nat), rfl, W, _, rfl, .inl (.inl hW8), fun S nS => ?_⟩
                rw [cut_take, ← List.map_take]
                have e9 := Evl.Ex.new (o := .lst ((wds.take k).map V.int)) nS
                exact h S _ (Exx.ex e9) ((hp8.ex e9).mono (by omega)) (.inl (.inl upd_same)) (hp8.new1 nS)
              · intro H9 D xs x9 hp9 nD hD hin
                refine ⟨D, _, rfl, .inl ⟨.inl (.inl hD), fun t nt => ?_⟩⟩
                have e10 := Evl.Ex.new (o := .tup (xs.map V.int)) nt
                have hwl10 := e10 _ _ (x9 _ _ nwlp hwl8)
                refine ⟨wlA, vs, _, rfl, rfl, hwl10, Nat.lt_of_le_of_lt (by omega : vs.length ≤ 3) (by decide), ?_⟩
                refine ⟨.int more, rfl, more, 1, rfl, rfl, ?_⟩
                have xl : xs.length = k := by
                  have := hin.1
                  rw [List.length_take] at this
                  omega
                have hpt : (((wds.take k).length : Nat) : Int) ≤ 60 := by rw [List.length_take]; omega
                refine ⟨more - 1, vs ++ [.ref t], bases.map (fun u => u.take k) ++ [xs], srcs ++ [xs], _, _, _, rfl, ((Exx.ex e7).trans (x8.trans (x9.trans (Exx.ex e10)))).mut nwl, ((hp9.ex e10).put nwlp nwlc).mono (by omega), upd_same, ?_, by rw [List.length_append, List.length_map]; omega, by rw [List.length_append, List.length_map]; simp; omega, ?_, fun s h => List.mem_append_left _ h, by rw [List.length_append]; simp; omega, by omega⟩
                · refine Paired.imp (fun _ _ => Wd.mono (TX.put hwl10)) (paired_app1 (Paired.imp (fun _ _ => Wd.mono ((hp7.tx x8).trans ((hp8.tx x9).trans (TX.ex e10)))) hv7) ⟨t, rfl, upd_same⟩)
                · intro u hu
                  rcases List.mem_append.mp hu with h | h
                  · obtain ⟨h1, s', h2, h3⟩ := w0 u h
                    exact ⟨h1, s', List.mem_append_left _ h2, h3⟩
                  · have : u = xs := by simpa using h
                    subst this
                    exact ⟨hin, u, List.mem_append_right _ (by simp), by rw [List.take_of_length_le (by omega)]⟩
            · rintro σ' H8 ⟨more', vs', words, srcs', z9, z10, z11, rfl, x8, hp8, hwl8, hv8, wd1, wd4, hwords, hsrcs, hmore', more0'⟩
              have hW8 : H8 W = some (.lst (wds.map V.int)) := x8 _ _ nWp hW6
              have hbl8 : H8 bl = some (.lst lvs) := x8 _ _ nblp hbl6
              obtain ⟨wd, hwd⟩ : ∃ wd, wds[k]? = some wd := ⟨wds[k], List.getElem?_eq_getElem kl⟩
              have hwd2 := hw wd (List.mem_of_getElem? hwd)
              obtain ⟨ks, rfl, hks, hkt⟩ := keys_of hv8
              have bd : ∀ q ∈ ks, q.2.length = k ∧ TS.Bd 4 q.2 := by
                intro q hq
                have hq2 : q.2 ∈ words := by rw [← hks]; exact List.mem_map.mpr ⟨q, hq, rfl⟩
                obtain ⟨⟨h1, h2⟩, _⟩ := hwords q.2 hq2
                rw [List.length_take] at h1
                refine ⟨by omega, fun m hm => ?_⟩
                obtain ⟨j, hj, rfl⟩ := List.getElem_of_mem hm
                have hjk : j < (wds.take k).length := by rw [List.length_take]; omega
                have := h2 j _ _ (List.getElem?_eq_getElem hj) (List.getElem?_eq_getElem hjk)
                have h4 := hw ((wds.take k)[j]) (List.mem_of_mem_take (List.getElem_mem hjk))
                omega
              have ksl : ks.length = words.length := by rw [← hks, List.length_map]
              refine ⟨.ref bl, rfl, .inl ⟨rfl, _, SqL.of hbl8⟩, ?_⟩
              refine ⟨.ref W, rfl, .int (k : Nat), rfl, W, _, (k : Nat), .int wd, rfl, rfl, .inl (.inl hW8), atI_nat (map_int_get hwd), ?_⟩
              refine ⟨.ref p, rfl, .ref W, rfl, .int (k : Nat), rfl, W, _, (k : Nat), .int wd, rfl, rfl, .inl (.inl hW8), atI_nat (map_int_get hwd), ?_⟩
              refine ⟨.ref wlA, rfl, wlA, ks, rfl, .inl (.inl hwl8), fun q hq => .inl (.inl (hkt q hq)), by omega, fun sa L nsa hL1 hL2 => ?_⟩
              have e9 := Evl.Ex.new (o := SetTO P w sa L) nsa
              have Lne : L ≠ [] := by
                intro z
                cases hk0 : ks with
                | nil => rw [hk0] at ksl; simp at ksl; omega
                | cons q0 qs =>
                  have := hL2 q0 (by rw [hk0]; exact List.mem_cons_self)
                  rw [z] at this
                  cases this
              refine ⟨sa, L, k, 4, rfl, upd_same, fun q hq => .inl (.inl (e9 _ _ (hkt q (hL1 q hq)))), fun q hq => bd q (hL1 q hq), Lne, fun L' sl perm nodup l64 pw nsl => ?_⟩
              have e10 : Evl.Ex (upd H8 sa (SetTO P w sa L)) (upd (upd H8 sa (SetTO P w sa L)) sl (.lst (L'.map fun q => V.ref q.1))) := Evl.Ex.new nsl
              have e810 := e9.trans e10
              have hp10 := hp8.ex e810
              have hL' : ∀ q ∈ L', q ∈ ks := fun q hq => hL1 q (perm.mem_iff.mp hq)
              have rows10 : Paired (Wd K (upd (upd H8 sa (SetTO P w sa L)) sl (.lst (L'.map fun q => V.ref q.1)))) (L'.map fun q => V.ref q.1) (L'.map (·.2)) := rows_of_keys fun q hq => e810 _ _ (hkt q (hL' q hq))
              have rise : (L'.map (·.2)).Pairwise (fun u w => HT.lexLt u w = true) := by
                rw [List.pairwise_iff_getElem]
                intro i j hi hj hij
                have hi' : i < L'.length := by rwa [List.length_map] at hi
                have hj' : j < L'.length := by rwa [List.length_map] at hj
                have ne := List.pairwise_iff_getElem.mp nodup i j hi hj hij
                have cd := List.pairwise_iff_getElem.mp pw i j hi' hj' hij
                rw [List.getElem_map, List.getElem_map] at ne ⊢
                obtain ⟨a1, a2⟩ := bd L'[i] (hL' _ (List.getElem_mem hi'))
                obtain ⟨a3, a4⟩ := bd L'[j] (hL' _ (List.getElem_mem hj'))
                exact lex_of_code (by omega) a2 a4 cd ne
              have sub : ∀ u ∈ L'.map (·.2), u ∈ words := by
                intro u hu
                obtain ⟨q, hq, rfl⟩ := List.mem_map.mp hu
                rw [← hks]
                exact List.mem_map.mpr ⟨q, hL' q hq, rfl⟩
              have l8 : (L'.map (·.2)).length ≤ 8 := by
                have := nodup_le nodup sub
                omega
              refine ⟨p, c, sl, wd, _, _, L'.map (fun q : Addr × List Int => q.2), rfl, hp10, by omega, hwd2.1, hwd2.2, (hp8.ex e9).new1 nsl, upd_same, rows10, l8, fun H11 ga gvs gs left x11 hp11 hga hgv hdr => ?_⟩
              refine ⟨(by show 2 ≤ sizeLine; decide), fun bt nbt => ?_⟩
              have e12 := Evl.Ex.new (o := .tup [.int wd, .ref ga]) nbt
              generalize hH12 : upd H11 bt (.tup [.int wd, .ref ga]) = H12 at e12
              have hbt : H12 bt = some (.tup [.int wd, .ref ga]) := by rw [← hH12]; exact upd_same
              have x812 : Exx p H8 H12 := (Exx.ex e810).trans (x11.trans (Exx.ex e12))
              have hbl12 : H12 bl = some (.lst lvs) := x812 _ _ nblp hbl8
              have tx612 : TX K H6 H12 := hp6.tx (x8.trans x812)
              have lvl : lvs.length = l.length := Paired.len hlv6
              have hW12 := x812 _ _ nWp hW8
              have hbs12 := x812 _ _ nbsp (x8 _ _ nbsp hbs6)
              have nWbl : W ≠ bl := fun z => nblW z.symm
              have bAt : BoltAt K H12 (.ref bt) ⟨wd, gs⟩ := ⟨bt, ga, gvs, rfl, .inl (.inl hbt), Evl.ex_t e12 hga, Paired.imp (fun _ _ => GapAt.mono (TX.ex e12)) hgv⟩
              refine ⟨bl, lvs, _, rfl, rfl, hbl12, Nat.lt_of_le_of_lt (by omega : lvs.length ≤ 60) (by decide), ?_⟩
              refine ⟨more', lvs ++ [.ref bt], l ++ [⟨wd, gs⟩], srcs', _, _, _, _, _, rfl, (x6.trans (x8.trans x812)).mut nbl0, ((hp11.ex e12).put nblp nblc).mono (by omega), by rw [upd_ne nWbl]; exact hW12, by rw [upd_ne nbsbl]; exact hbs12, ?_, upd_same, ?_, by rw [List.length_append, ll]; rfl, fun s hs => hsrcs s (hsub s hs), hmore', more0', ?_⟩
              · exact Paired.imp (fun _ _ => Wd.mono (tx612.trans (TX.put hbl12))) hbv6
              · exact Paired.imp (fun _ _ => BoltAt.mono (TX.put hbl12)) (paired_app1 (Paired.imp (fun _ _ => BoltAt.mono tx612) hlv6) bAt)
              · intro j b hj
                by_cases hjl : j < l.length
                · rw [List.getElem?_append_left hjl] at hj
                  exact (hgood j b hj).mono hsrcs
                · rw [List.getElem?_append_right (by omega)] at hj
                  have : j = l.length := by
                    by_cases e : j - l.length = 0
                    · omega
                    · rw [List.getElem?_eq_none (by simp; omega)] at hj; cases hj
                  subst this
                  rw [Nat.sub_self] at hj
                  have eb : b = ⟨wd, gs⟩ := (Option.some.inj hj).symm
                  subst eb
                  rw [ll]
                  exact ⟨hwd, L'.map (·.2), left, hdr, rise, fun u hu => hwords u (sub u hu)⟩
        · rintro σ H6 ⟨more, lvs, l, srcs, y4, y8, y9, y10, y11, rfl, x6, hp6, hW6, hbs6, hbv6, hbl6, hlv6, ll, hsub, hmore, more0, hgood⟩
          refine ⟨.ref bl, rfl, bl, lvs, rfl, .inl ⟨.inl (.inl hbl6), fun lt nlt => ?_⟩⟩
          have e7 := Evl.Ex.new (o := .tup lvs) nlt
          have lw : l.length = wds.length := by omega
          refine q _ (.ref lt) l (x6.trans (Exx.ex e7)) ((hp6.ex e7).mono (by omega)) ⟨lt, lvs, rfl, .inl (.inl upd_same), Paired.imp (fun _ _ => BoltAt.mono (TX.ex e7)) hlv6⟩ (lockOk_drawn lw (by omega) (by omega) hw (by omega) hgood) (by omega)
end
end Wb

set_option Elab.async false
set_option linter.all false
set_option maxRecDepth 100000
set_option maxHeartbeats 4000000
set_option pp.maxSteps 600
set_option pp.deepTerms false
namespace Wb
open PySem PySem.Spec PyProof.Rows L2
abbrev sAllWays : Stmt := topS 33
abbrev nAllWays : List Str := ["_law_lock_here", "_law_found", "_law_bolt", "_law_gap"]
theorem scAllWays : FnScope nAllWays ["_law_lock_here"] (defScope sAllWays) := ⟨rfl, rfl, rfl, by decide +kernel, rfl, by decide +kernel, by decide +kernel⟩
def gapWays (gs : List Gap) : List Word := gs.flatMap (·.ways)
def lockWays (l : Lock) : List Word := l.flatMap fun b => gapWays b.gaps
theorem gapWays_snoc (gs : List Gap) (g : Gap) : gapWays (gs ++ [g]) = gapWays gs ++ g.ways := by
  unfold gapWays
  rw [List.flatMap_append]
  simp
theorem lockWays_snoc (l : Lock) (b : Bolt) : lockWays (l ++ [b]) = lockWays l ++ gapWays b.gaps := by
  unfold lockWays
  rw [List.flatMap_append]
  simp
theorem gapWays_len : ∀ gs : List Gap, (gapWays gs).length = (gs.map (fun g => g.ways.length)).sum
  | [] => rfl
  | g :: gs => by
    have := gapWays_len gs
    unfold gapWays at this ⊢
    rw [List.flatMap_cons, List.length_append, this]
    rfl
theorem gapWays_take {gs : List Gap} (m : Nat) : (gapWays (gs.take m)).length ≤ (gapWays gs).length := by
  have h : gapWays gs = gapWays (gs.take m) ++ gapWays (gs.drop m) := by
    unfold gapWays
    rw [← List.flatMap_append, List.take_append_drop]
  rw [h, List.length_append]
  omega
theorem gapWays_ok {l : Lock} (ok : LockOk l) {b : Bolt} (hb : b ∈ l) : (gapWays b.gaps).length ≤ 8 := by
  obtain ⟨k, hk, rfl⟩ := List.getElem_of_mem hb
  rw [gapWays_len]
  exact (ok.bolts k _ (List.getElem?_eq_getElem hk)).few
theorem lockWays_len : ∀ {l : Lock}, (∀ b ∈ l, (gapWays b.gaps).length ≤ 8) → (lockWays l).length ≤ 8 * l.length
  | [], _ => Nat.zero_le _
  | b :: l, h => by
    have h1 := lockWays_len (l := l) fun b' hb' => h b' (List.mem_cons_of_mem _ hb')
    have h2 := h b List.mem_cons_self
    unfold lockWays at h1 ⊢
    rw [List.flatMap_cons, List.length_append, List.length_cons]
    omega
theorem mem_lockWays {l : Lock} {u : Word} (h : u ∈ lockWays l) : ∃ (k : Nat) (b : Bolt) (g : Gap), l[k]? = some b ∧ g ∈ b.gaps ∧ u ∈ g.ways := by
  obtain ⟨b, hb, h1⟩ := List.mem_flatMap.mp h
  obtain ⟨g, hg, h2⟩ := List.mem_flatMap.mp h1
  obtain ⟨k, hk⟩ := List.mem_iff_getElem?.mp hb
  exact ⟨k, b, g, hk, hg, h2⟩
def spAllWays (K : PySem.W.Frag) : Sp := fun vs H Q _ => ∃ (v : V) (l : Lock), vs = [v] ∧ LockAt K H v l ∧ LockOk l ∧
  ∀ H' a us, Evl.Ex H H' → H a = none → H' a = some (.lst us) → Paired (Wd K H') us (lockWays l) → Q (.ref a) H'
section
variable {P : Program} {w : World} {K : PySem.W.Frag} {mg : Str → Option Value} {base : Heap}
theorem ok_allways {f : Addr} {fd : FuncData} (F : Fun K "_law_ways" "_law_ways" sAllWays f fd) (B : Bi mg) : FnOk P w K mg base CX0 1 f fd ["_law_lock_here"] (spAllWays K) := by
  refine F.ok scAllWays (fun vs H Q E h => ?_) (fun cdv A outer s H vs Q E hr h => ?_)
  · obtain ⟨v, l, rfl, _⟩ := h; rfl
  · obtain ⟨v, l, rfl, ⟨a, bs, rfl, ha, hbs⟩, ok, q⟩ := h
    refine ⟨_, pss_cons (ps_set (i := 1) scAllWays.nd rfl (.inl rfl) (pe_lst pa_nil))
      (pss_cons (ps_for PassesOwn.never rfl (pi_tup (pv 0)) (pg_name (i := 2) scAllWays.nd rfl (.inl rfl))
        (pss_one (ps_for PassesOwn.never rfl (pi_tup (pe_ix ix_tup (pv 2) pe_int (fun _ _ => rfl))) (pg_name (i := 3) scAllWays.nd rfl (.inl rfl))
          (pss_one (ps_set (i := 1) scAllWays.nd rfl (.inl rfl) (pe_op op_cat (pv 1) (pe_callTy call_list_of (by rfl) B.list PyProof.Rows.boot_list (pa_cons (pe_ix ix_tup (pv 3) pe_int (fun _ _ => rfl)) pa_nil))))))))
      (pss_one (ps_ret (pv 1)))), ?_⟩
    refine ⟨Nat.zero_le _, fun l0 n0 => ?_⟩
    have bl : bs.length = l.length := Paired.len hbs
    have few : ∀ b ∈ l, (gapWays b.gaps).length ≤ 8 := fun b hb => gapWays_ok ok hb
    refine ⟨.ref a, rfl, a, rfl, ⟨_, Evl.ex_t (Evl.Ex.new n0) ha⟩, ?_⟩
    refine for_tup (K := K) (a := a) (xs := bs) (fun i σ H' => ∃ (r : Addr) (us : List V) (y2 y3 : Option V), σ = [some (.ref a), some (.ref r), y2, y3] ∧ Evl.Ex H H' ∧ H r = none ∧ H' r = some (.lst us) ∧ Paired (Wd K H') us (lockWays (l.take i)))
      ⟨l0, [], none, none, rfl, Evl.Ex.new n0, n0, upd_same, .nil⟩ ?_ ?_ ?_
    · rintro i σ H1 _ ⟨r, us, y2, y3, _, e1, _⟩
      exact Evl.ex_t e1 ha
    · rintro i x σ H1 hx ⟨r, us, y2, y3, rfl, e1, nr, hr1, hus⟩
      obtain ⟨b, hb, ⟨a1, c1, gs, rfl, h1, h2, h3⟩⟩ := Paired.get1 hbs hx
      have il : i < l.length := (List.getElem?_eq_some_iff.mp hb).1
      have l60 := ok.n1
      refine ⟨.ref a1, rfl, a1, _, 1, .ref c1, rfl, rfl, Evl.ex_t e1 h1, rfl, c1, rfl, ⟨_, Evl.ex_t e1 h2⟩, ?_⟩
      refine for_tup (K := K) (a := c1) (xs := gs) (fun j σ H' => ∃ (r : Addr) (us : List V) (y3 : Option V), σ = [some (.ref a), some (.ref r), some (.ref a1), y3] ∧ Evl.Ex H H' ∧ H r = none ∧ H' r = some (.lst us) ∧ Paired (Wd K H') us (lockWays (l.take i) ++ gapWays (b.gaps.take j)))
        ⟨r, us, _, rfl, e1, nr, hr1, by simpa [gapWays] using hus⟩ ?_ ?_ ?_
      · rintro j σ H2 _ ⟨r, us, y3, _, e2, _⟩
        exact Evl.ex_t e2 h2
      · rintro j x σ H2 hx2 ⟨r, us, y3, rfl, e2, nr, hr2, hus⟩
        obtain ⟨g, hg, ⟨a2, b2, ws, rfl, k1, k2, k3⟩⟩ := Paired.get1 h3 hx2
        refine ⟨.ref r, rfl, .ref a2, rfl, a2, _, 3, .ref b2, rfl, rfl, Evl.ex_t e2 k1, rfl, b2, ws, rfl, .inr (Evl.ex_t e2 k2), fun q1 nq1 => ?_⟩
        have e3 := Evl.Ex.new (o := .lst ws) nq1
        have lus : us.length ≤ 500 := by
          have z1 := Paired.len hus
          rw [List.length_append] at z1
          have z2 := lockWays_len (l := l.take i) fun b hb => few b (List.mem_of_mem_take hb)
          have z3 := gapWays_take (gs := b.gaps) j
          have z4 := few b (List.mem_of_getElem? hb)
          rw [List.length_take] at z2
          omega
        have lws : ws.length ≤ 8 := by
          have z1 := Paired.len k3
          have z4 := ((ok.bolts i b hb).gaps g (List.mem_of_getElem? hg)).few
          omega
        refine ⟨r, q1, us, ws, rfl, rfl, e3 _ _ hr2, upd_same, Nat.le_trans (by omega : us.length + ws.length ≤ 508) (by decide), fun q2 nq2 => ?_⟩
        have e4 := Evl.Ex.new (o := .lst (us ++ ws)) nq2
        have nq20 : H q2 = none := Evl.fresh_back (e2.trans e3) nq2
        refine ⟨q2, us ++ ws, _, rfl, e2.trans (e3.trans e4), nq20, upd_same, ?_⟩
        rw [take_succ_get hg, gapWays_snoc, ← List.append_assoc]
        exact Paired.app (Paired.imp (fun _ _ => wd_ex (e3.trans e4)) hus) (Paired.imp (fun _ _ => wd_ex (e2.trans (e3.trans e4))) k3)
      · rintro σ H2 ⟨r, us, y3, rfl, e2, nr, hr2, hus⟩
        refine ⟨r, us, _, _, rfl, e2, nr, hr2, ?_⟩
        rw [Paired.len h3, List.take_length] at hus
        rw [take_succ_get hb, lockWays_snoc]
        exact hus
    · rintro σ H1 ⟨r, us, y2, y3, rfl, e1, nr, hr1, hus⟩
      rw [bl, List.take_length] at hus
      exact ⟨.ref r, rfl, q H1 r us e1 nr hr1 hus⟩
end
end Wb

set_option Elab.async false
set_option linter.all false
set_option maxRecDepth 100000
set_option maxHeartbeats 4000000
set_option pp.maxSteps 600
set_option pp.deepTerms false
namespace Wb
open PySem PySem.Spec PyProof.Rows L2
/-! ### data that is small: it can be compared and written -/
structure Fine (d : PyData) (n L : Nat) : Prop where
  lay : d.canLay0 = true
  sho : d.showable = true
  dep : d.depth ≤ n
  len : d.shown.length ≤ L
structure FineAll (ds : List PyData) (n S : Nat) : Prop where
  lay : PyData.canLayAll0 ds = true
  sho : PyData.showableAll ds = true
  dep : PyData.depthAll ds ≤ n
  len : piled (PyData.shownAll ds) ≤ S
theorem FineAll.nil {n : Nat} : FineAll [] n 0 := ⟨rfl, rfl, Nat.zero_le _, Nat.le_refl _⟩
theorem FineAll.cons {d : PyData} {ds : List PyData} {n L S : Nat} (h : Fine d n L) (t : FineAll ds n S) : FineAll (d :: ds) n (L + 2 + S) := by
  obtain ⟨a1, a2, a3, a4⟩ := h
  obtain ⟨b1, b2, b3, b4⟩ := t
  refine ⟨by simp [PyData.canLayAll0, a1, b1], by simp [PyData.showableAll, a2, b2], by simp only [PyData.depthAll]; omega, ?_⟩
  simp only [PyData.shownAll, piled_cons]
  omega
theorem FineAll.rep {n B : Nat} : ∀ {ds : List PyData}, (∀ d ∈ ds, Fine d n B) → FineAll ds n (ds.length * (B + 2))
  | [], _ => by simpa using FineAll.nil
  | d :: ds, h => by
    have := FineAll.cons (h d List.mem_cons_self) (FineAll.rep fun d' hd => h d' (List.mem_cons_of_mem _ hd))
    rw [List.length_cons, Nat.succ_mul, Nat.add_comm]
    exact this
theorem FineAll.mono {ds : List PyData} {n S S' : Nat} (h : FineAll ds n S) (l : S ≤ S') : FineAll ds n S' := ⟨h.1, h.2, h.3, Nat.le_trans h.4 l⟩
theorem Fine.mono {d : PyData} {n n' L L' : Nat} (h : Fine d n L) (a : n ≤ n') (b : L ≤ L') : Fine d n' L' := ⟨h.1, h.2, Nat.le_trans h.3 a, Nat.le_trans h.4 b⟩
theorem join_le (ts : List Str) : (Str.join ", " ts).length ≤ piled ts := by
  cases ts with
  | nil => exact Nat.zero_le _
  | cons t ts =>
    have := join_length_add (t :: ts) (by simp)
    omega
theorem textFrom_le : ∀ (ts : List Str) (k : Nat) (acc : Str), (textFrom k acc ts).length ≤ acc.length + piled ts
  | [], k, acc => by show acc.length ≤ _; omega
  | t :: ts, k, acc => by
    have h := textFrom_le ts (k + 1) (acc ++ (if k > 0 then ", " else "" : String) ++ t)
    have e : (acc ++ (if k > 0 then ", " else "" : String) ++ t).length = acc.length + (if k > 0 then 2 else 0) + t.length := by
      rw [strLen_append, strLen_append]
      split <;> rfl
    have e2 : (if k > 0 then 2 else 0 : Nat) ≤ 2 := by split <;> omega
    rw [piled_cons]
    show (textFrom (k + 1) _ ts).length ≤ _
    omega
theorem fine_tup {ds : List PyData} {n S : Nat} (h : FineAll ds n S) : Fine (.tuple ds) (n + 1) (S + 3) := by
  obtain ⟨b1, b2, b3, b4⟩ := h
  refine ⟨by simpa only [PyData.canLay0] using b1, by simpa only [PyData.showable] using b2, by simp only [PyData.depth]; omega, ?_⟩
  simp only [PyData.shown]
  unfold tupleText
  rw [strLen_append, strLen_append]
  have e1 : ((("(" : String) : Str)).length = 1 := rfl
  have e3 : (((if (PyData.shownAll ds).length == 1 then ",)" else ")" : String) : Str)).length ≤ 2 := by split <;> decide
  have := join_le (PyData.shownAll ds)
  omega
theorem fine_lst {ds : List PyData} {n S : Nat} (h : FineAll ds n S) : Fine (.list ds) (n + 1) (S + 3) := by
  obtain ⟨b1, b2, b3, b4⟩ := h
  refine ⟨by simpa only [PyData.canLay0] using b1, by simpa only [PyData.showable] using b2, by simp only [PyData.depth]; omega, ?_⟩
  simp only [PyData.shown]
  unfold listText
  rw [strLen_append]
  have e1 : ((("]" : String) : Str)).length = 1 := rfl
  have e2 : ((("[" : String) : Str)).length = 1 := rfl
  have := textFrom_le (PyData.shownAll ds) 0 "["
  omega
theorem fine_int {i : Int} (h : i.natAbs < 10 ^ 7) : Fine (.int i) 0 8 := by
  refine ⟨by simp only [PyData.canLay0], ?_, by simp only [PyData.depth]; omega, ?_⟩
  · simp only [PyData.showable]
    refine decide_eq_true ?_
    by_cases z : i.natAbs = 0
    · rw [z]; decide
    · refine (Nat.log2_lt z).mpr (Nat.lt_of_lt_of_le h ?_)
      exact Nat.le_trans (show 10 ^ 7 ≤ 2 ^ 24 by decide) (Nat.pow_le_pow_right (by decide) (by decide))
  · simp only [PyData.shown]
    rw [PySem.ofString_length]
    exact int_text_length_le10 (k := 7) (by decide) h
theorem Fine.shaped {d : PyData} {n L : Nat} (h : Fine d n L) (hn : n ≤ 64) : SeqAt.shaped d = true := by
  unfold SeqAt.shaped
  rw [h.lay, Bool.true_and]
  exact decide_eq_true (Nat.le_trans h.dep hn)
/-! ### words, gaps, bolts, locks, steps as data -/
def dW (w : Word) : PyData := .tuple (w.map .int)
def dWs (ws : List Word) : PyData := .tuple (ws.map dW)
def dG (g : Gap) : PyData := .tuple [.int g.frm, .int g.to_, .int g.price, dWs g.ways]
def dGs (gs : List Gap) : PyData := .tuple (gs.map dG)
def dB (b : Bolt) : PyData := .tuple [.int b.many, dGs b.gaps]
def dL (l : Lock) : PyData := .tuple (l.map dB)
section
variable {K : PySem.W.Frag} {H : Hp}
theorem dp_all {α : Type} {F : V → α → Prop} {f : α → PyData} (h : ∀ v x, F v x → Dp K H v (f x)) : ∀ {vs : List V} {xs : List α}, Paired F vs xs → DpAll K H vs (xs.map f)
  | _, _, .nil => .nil
  | _, _, .cons r t => .cons (h _ _ r) (dp_all h t)
theorem dp_W {v : V} {u : Word} (h : Wd K H v u) : Dp K H v (dW u) := by
  obtain ⟨a, rfl, ha⟩ := h
  exact .tup (.inl (.inl ha)) (dp_ints u)
theorem dp_G {v : V} {g : Gap} (h : GapAt K H v g) : Dp K H v (dG g) := by
  obtain ⟨a, b, ws, rfl, h1, h2, h3⟩ := h
  exact .tup h1 (.cons (.int _) (.cons (.int _) (.cons (.int _) (.cons (.tup h2 (dp_all (F := Wd K H) (f := dW) (fun _ _ => dp_W) h3)) .nil))))
theorem dp_B {v : V} {b : Bolt} (h : BoltAt K H v b) : Dp K H v (dB b) := by
  obtain ⟨a, c, gs, rfl, h1, h2, h3⟩ := h
  exact .tup h1 (.cons (.int _) (.cons (.tup h2 (dp_all (F := GapAt K H) (f := dG) (fun _ _ => dp_G) h3)) .nil))
theorem dp_L {v : V} {l : Lock} (h : LockAt K H v l) : Dp K H v (dL l) := by
  obtain ⟨a, bs, rfl, h1, h2⟩ := h
  exact .tup h1 (dp_all (F := BoltAt K H) (f := dB) (fun _ _ => dp_B) h2)
end
theorem fine_W {u : Word} {B : Int} {n : Nat} (hb : ∀ x ∈ u, 0 ≤ x ∧ x < B) (hB : B ≤ 10) (hn : u.length ≤ n) : Fine (dW u) 1 (10 * n + 3) := by
  have h : FineAll (u.map PyData.int) 0 ((u.map PyData.int).length * (8 + 2)) := FineAll.rep fun d hd => by
    obtain ⟨x, hx, rfl⟩ := List.mem_map.mp hd
    have := hb x hx
    have h10 : x.natAbs < 10 := by omega
    exact fine_int (Nat.lt_trans h10 (by decide))
  refine (fine_tup h).mono (Nat.le_refl _) ?_
  rw [List.length_map]
  omega
theorem fine_small {x : Int} (h0 : 0 ≤ x) (h1 : x ≤ 1000000) : Fine (.int x) 0 8 := fine_int (by
  have h : x.natAbs ≤ 1000000 := by omega
  exact Nat.lt_of_le_of_lt h (by decide))
theorem manys_le {l : Lock} (ok : LockOk l) {k : Nat} {b : Bolt} (h : l[k]? = some b) : b.many ≤ 4 := (ok.bolts k b h).m1
theorem fine_way {l : Lock} (ok : LockOk l) {k : Nat} {b : Bolt} {g : Gap} {u : Word} (hb : l[k]? = some b) (hg : g ∈ b.gaps) (hu : u ∈ g.ways) : Fine (dW u) 1 603 := by
  have G := (ok.bolts k b hb).gaps g hg
  obtain ⟨h1, h2⟩ := G.words u hu
  have kl : k < l.length := (List.getElem?_eq_some_iff.mp hb).1
  have l60 := ok.n1
  have ml : (manysOf (l.take k)).length = k := by
    unfold manysOf
    rw [List.length_map, List.length_take]
    omega
  refine (fine_W (B := 4) (n := 60) (fun x hx => ?_) (by decide) (by omega)).mono (Nat.le_refl _) (Nat.le_refl _)
  obtain ⟨i, hi⟩ := List.mem_iff_getElem?.mp hx
  have il : i < u.length := (List.getElem?_eq_some_iff.mp hi).1
  have il2 : i < l.length := by omega
  have hm : (manysOf (l.take k))[i]? = some l[i].many := by
    unfold manysOf
    rw [List.getElem?_map, List.getElem?_take, if_pos (by omega), List.getElem?_eq_getElem il2]
    rfl
  have := h2 i x _ hi hm
  have := manys_le ok (List.getElem?_eq_getElem il2)
  omega
theorem fine_G {l : Lock} (ok : LockOk l) {k : Nat} {b : Bolt} {g : Gap} (hb : l[k]? = some b) (hg : g ∈ b.gaps) : Fine (dG g) 3 5000 := by
  have BO := ok.bolts k b hb
  have G := BO.gaps g hg
  have m1 := BO.m1
  have h1 : FineAll (g.ways.map dW) 1 ((g.ways.map dW).length * (603 + 2)) := FineAll.rep fun d hd => by
    obtain ⟨u, hu, rfl⟩ := List.mem_map.mp hd
    exact fine_way ok hb hg hu
  have h2 := fine_tup h1
  have f8 := G.few
  rw [List.length_map] at h2
  have a1 := fine_small G.f0 (show g.frm ≤ 1000000 by have := G.f1; omega)
  have a2 := fine_small G.t0 (show g.to_ ≤ 1000000 by have := G.t1; omega)
  have a3 := fine_small (show 0 ≤ g.price by have := G.p0; omega) G.p1
  have w2 := a1.mono (Nat.zero_le 2) (Nat.le_refl 8)
  refine (fine_tup (FineAll.cons (a1.mono (Nat.zero_le 2) (Nat.le_refl 8)) (FineAll.cons (a2.mono (Nat.zero_le 2) (Nat.le_refl 8)) (FineAll.cons (a3.mono (Nat.zero_le 2) (Nat.le_refl 8)) (FineAll.cons (h2 : Fine (dWs g.ways) 2 _) FineAll.nil))))).mono (Nat.le_refl _) ?_
  omega
theorem codes_len {gs : List Gap} {m : Int} (hm : m ≤ 4) (h : ∀ g ∈ gs, 0 ≤ g.frm ∧ g.frm < m ∧ 0 ≤ g.to_ ∧ g.to_ < m) (r : gs.Pairwise (fun g h => lexLt2 g.frm g.to_ h.frm h.to_)) : gs.length ≤ 16 := by
  have n1 : (gs.map fun g => (4 * g.frm + g.to_).toNat).Nodup := by
    rw [List.Nodup, List.pairwise_map]
    refine List.Pairwise.imp_of_mem ?_ r
    intro g g' hg hg' hl
    have b1 := h g hg
    have b2 := h g' hg'
    rcases hl with hl | ⟨hl, hl'⟩ <;> omega
  have := nodup_le (ys := List.range 16) n1 fun x hx => by
    obtain ⟨g, hg, rfl⟩ := List.mem_map.mp hx
    have b1 := h g hg
    rw [List.mem_range]
    omega
  rw [List.length_map, List.length_range] at this
  exact this
theorem gaps_16 {l : Lock} (ok : LockOk l) {k : Nat} {b : Bolt} (hb : l[k]? = some b) : b.gaps.length ≤ 16 := by
  have BO := ok.bolts k b hb
  exact codes_len BO.m1 (fun g hg => by
    have G := BO.gaps g hg
    exact ⟨G.f0, G.f1, G.t0, G.t1⟩) BO.rise
theorem fine_B {l : Lock} (ok : LockOk l) {k : Nat} {b : Bolt} (hb : l[k]? = some b) : Fine (dB b) 5 81000 := by
  have BO := ok.bolts k b hb
  have h1 : FineAll (b.gaps.map dG) 3 ((b.gaps.map dG).length * (5000 + 2)) := FineAll.rep fun d hd => by
    obtain ⟨g, hg, rfl⟩ := List.mem_map.mp hd
    exact fine_G ok hb hg
  have h2 := fine_tup h1
  have g16 := gaps_16 ok hb
  rw [List.length_map] at h2
  have a1 := fine_small (show 0 ≤ b.many by have := BO.m0; omega) (show b.many ≤ 1000000 by have := BO.m1; omega)
  refine (fine_tup (FineAll.cons (a1.mono (Nat.zero_le 4) (Nat.le_refl 8)) (FineAll.cons (h2 : Fine (dGs b.gaps) 4 _) FineAll.nil))).mono (Nat.le_refl _) ?_
  omega
theorem fine_L {l : Lock} (ok : LockOk l) : Fine (dL l) 6 5000000 := by
  have h1 : FineAll (l.map dB) 5 ((l.map dB).length * (81000 + 2)) := FineAll.rep fun d hd => by
    obtain ⟨b, hb, rfl⟩ := List.mem_map.mp hd
    obtain ⟨k, hk⟩ := List.mem_iff_getElem?.mp hb
    exact fine_B ok hk
  have h2 := fine_tup h1
  have l60 := ok.n1
  rw [List.length_map] at h2
  refine h2.mono (Nat.le_refl _) ?_
  omega
theorem fine_ways {l : Lock} (ok : LockOk l) : Fine (.list ((lockWays l).map dW)) 2 400000 := by
  have h1 : FineAll ((lockWays l).map dW) 1 (((lockWays l).map dW).length * (603 + 2)) := FineAll.rep fun d hd => by
    obtain ⟨u, hu, rfl⟩ := List.mem_map.mp hd
    obtain ⟨k, b, g, hb, hg, hw⟩ := mem_lockWays hu
    exact fine_way ok hb hg hw
  have h2 := fine_lst h1
  have n := lockWays_len (l := l) fun b hb => gapWays_ok ok hb
  have l60 := ok.n1
  rw [List.length_map] at h2
  refine h2.mono (Nat.le_refl _) ?_
  omega
end Wb

set_option Elab.async false
set_option linter.all false
set_option maxRecDepth 100000
set_option maxHeartbeats 4000000
set_option pp.maxSteps 600
set_option pp.deepTerms false
namespace Wb
open PySem PySem.Spec PyProof.Rows L2
abbrev sStand : Stmt := topS 34
abbrev nStand : List Str := ["_law_pen_here", "_law_lock_here", "_law_found", "_law_ways_here", "_law_way", "_law_bolt"]
theorem scStand : FnScope nStand ["_law_pen_here", "_law_lock_here"] (defScope sStand) := ⟨rfl, rfl, rfl, by decide +kernel, rfl, by decide +kernel, by decide +kernel⟩
def spStand (K : PySem.W.Frag) : Sp := fun vs H Q _ => ∃ (p c : Addr) (v : V) (l : Lock) (T : Int), vs = [.ref p, v] ∧ PenAt H p c T ∧ T ≤ 9000000 ∧ LockAt K H v l ∧ LockOk l ∧
  ∀ H' u st, Exx p H H' → PenAt H' p c (T + 100) → Wd K H' u st → InAll st (manysOf l) → Q u H'
theorem inAll_mix {xs ys ms : List Int} {j : Nat} (h : InAll xs ms) (h' : InAll ys (ms.take j)) (hj : j ≤ ms.length) : InAll (ys ++ xs.drop j) ms := by
  have yl : ys.length = j := by
    have := h'.1
    rw [List.length_take] at this
    omega
  have xl := h.1
  refine ⟨by rw [List.length_append, List.length_drop]; omega, fun i a b ha hb => ?_⟩
  by_cases hi : i < ys.length
  · rw [List.getElem?_append_left hi] at ha
    exact h'.2 i a b ha (by rw [List.getElem?_take, if_pos (by omega)]; exact hb)
  · rw [List.getElem?_append_right (by omega), List.getElem?_drop] at ha
    exact h.2 i a b (by rw [show j + (i - ys.length) = i by omega] at ha; exact ha) hb
theorem manys_take (l : Lock) (k : Nat) : manysOf (l.take k) = (manysOf l).take k := by
  unfold manysOf
  rw [List.map_take]
theorem way_in {l : Lock} (ok : LockOk l) {u : Word} (h : u ∈ lockWays l) : u.length < l.length ∧ InAll u ((manysOf l).take u.length) := by
  obtain ⟨k, b, g, hb, hg, hu⟩ := mem_lockWays h
  have kl : k < l.length := (List.getElem?_eq_some_iff.mp hb).1
  obtain ⟨h1, h2⟩ := ((ok.bolts k b hb).gaps g hg).words u hu
  rw [manys_take] at h1 h2
  have ml : (manysOf l).length = l.length := by unfold manysOf; rw [List.length_map]
  rw [List.length_take, ml] at h1
  have e : u.length = k := by omega
  rw [e]
  exact ⟨kl, by rw [List.length_take, ml]; omega, h2⟩
theorem cut_drop (xs : List V) {k : Nat} (h : k ≤ xs.length) : cutV xs (some (k : Int)) none = xs.drop k := by
  unfold cutV
  rw [HT.sIx_none, HT.sIx_nat]
  rw [List.take_of_length_le]
  · congr 1
    omega
  · rw [List.length_drop]
    omega
section
variable {P : Program} {w : World} {K : PySem.W.Frag} {mg : Str → Option Value} {base : Heap}
theorem ok_stand {f f1 f2 f3 : Addr} {fd fd1 fd2 fd3 : FuncData} (F : Fun K "_law_stand" "_law_stand" sStand f fd) (F1 : Fun K "_law_draw" "_law_draw" sDraw f1 fd1) (b1 : Binds K fd1 ["_law_pen_here", "_law_many_here"] []) (g1 : mg "_law_draw" = some (.ref f1))
    (F2 : Fun K "_law_pick" "_law_pick" sPick f2 fd2) (b2 : Binds K fd2 ["_law_pen_here", "_law_some"] []) (g2 : mg "_law_pick" = some (.ref f2))
    (F3 : Fun K "_law_ways" "_law_ways" sAllWays f3 fd3) (b3 : Binds K fd3 ["_law_lock_here"] []) (g3 : mg "_law_ways" = some (.ref f3)) (B : Bi mg) :
    FnOk P w K mg base CX0 3 f fd ["_law_pen_here", "_law_lock_here"] (spStand K) := by
  have G1 : FnOk P w K mg base CX0 1 f1 fd1 ["_law_pen_here", "_law_many_here"] spDraw := ok_draw F1 B
  have G2 : FnOk P w K mg base CX0 2 f2 fd2 ["_law_pen_here", "_law_some"] (spPick K) := ok_pick F2 F1 b1 g1 B
  have G3 : FnOk P w K mg base CX0 1 f3 fd3 ["_law_lock_here"] (spAllWays K) := ok_allways F3 B
  refine F.ok scStand (fun vs H Q E h => ?_) (fun cdv A outer s H vs Q E hr h => ?_)
  · obtain ⟨p, c, v, l, T, rfl, _⟩ := h; rfl
  · obtain ⟨p, c, v, l, T, rfl, hp, T9, ⟨a, bs, rfl, ha, hbs⟩, ok, q⟩ := h
    have hr1 : Room 1 _ := hr.mono (by decide)
    have hu := hu_of hr
    refine ⟨_, pss_cons (ps_par (by rfl) scStand.nd (i := 2) (j := 3) rfl rfl (by decide) rfl rfl (pa_cons (pe_callTy (r := rTupK K) call_tupK (by rfl) B.tuple PyProof.Rows.boot_tuple (pa_cons
          (pe_lc (own := [("_law_bolt", 5)]) (wi := iTup K (tVar 1)) (g := gName 5) rfl scStand.nd (pi_tup (pv 1)) (blkOk_by (own := [("_law_bolt", 5)]) (N := nStand) (sc := defScope sStand) (by decide +kernel))
            (fun _ _ _ _ _ => pg_name (i := 5) scStand.nd rfl (Or.inl rfl)) (fun _ _ _ _ _ => pts_nil)
            (fun _ _ _ _ _ => pe_call G1 hr1 (by rfl) g1 F1.kp b1 .nil pass0 (pa_cons (pv 0) (pa_cons (pe_ix (r := rIxT K) ix_tup (pv 5) pe_int (fun _ _ => rfl)) pa_nil)))) pa_nil))
        (pa_cons (pe_call G3 hr1 (by rfl) g3 F3.kp b3 .nil pass0 (pa_cons (pv 1) pa_nil)) pa_nil)) (by rfl))
      (Evl.pss_cut (ps_if (PW.pt (pw_and (pt_cmpR (op_neD hr.units) (pv 3) (pe_lst pa_nil) (nomark _)) (pw_and1 (pt_cmpR op_eq (pe_call G1 hr1 (by rfl) g1 F1.kp b1 .nil pass0 (pa_cons (pv 0) (pa_cons pe_int pa_nil))) pe_int (nomark _)))))
          (pss_cons (ps_set (i := 4) scStand.nd rfl (.inl rfl) (pe_call G2 hr (by rfl) g2 F2.kp b2 .nil pass0 (pa_cons (pv 0) (pa_cons (pv 3) pa_nil))))
          (pss_one (ps_set (i := 2) scStand.nd rfl (.inl rfl) (pe_op op_catA (pv 4) (pe_slice (r := rSlA K) sl_tupA (pv 2) (po_some (pe_callB call_len_seq (by rfl) B.len PySem.boot_len (pa_cons (pv 4) pa_nil))) po_none))))) pss_nil)
      (pss_one (ps_ret (pv 2)))), ?_⟩
    have bl : bs.length = l.length := Paired.len hbs
    have l60 := ok.n1
    have ml : (manysOf l).length = l.length := by unfold manysOf; rw [List.length_map]
    refine ⟨.ref a, rfl, a, rfl, ⟨_, ha⟩, fun D hD => ?_⟩
    have nDp : D ≠ p := hp.new1 hD
    have nDc : D ≠ c := hp.new2 hD
    have txx : ∀ {Hx : Hp}, Exx p H Hx → TX K H Hx := fun x => hp.tx x
    refine lc_tup (K := K) (a := a) (xs := bs) (fun i H' => ∃ xs : List Int, Exx p H H' ∧ PenAt H' p c (T + (i : Nat)) ∧ H' D = some (.lst (xs.map V.int)) ∧ InAll xs ((manysOf l).take i)) ⟨[], Exx.ex (Evl.Ex.new hD), ?_, upd_same, inAll_nil⟩ ?_ ?_ ?_
    · have := hp.put (o := .lst []) nDp nDc
      simpa using this
    · rintro i H' _ ⟨_, x, _⟩
      exact (txx x).1 _ _ ha
    · rintro i x H1 hx ⟨xs, x1, hp1, hD1, hin⟩
      obtain ⟨b, hb, ⟨a1, c1, gs, rfl, h1, h2, h3⟩⟩ := Paired.get1 hbs hx
      have il : i < l.length := (List.getElem?_eq_some_iff.mp hb).1
      have BO := ok.bolts i b hb
      have m0 := BO.m0
      have m1 := BO.m1
      have xl : xs.length = i := by
        have := hin.1
        rw [List.length_take] at this
        omega
      have mm : (manysOf l)[i]? = some b.many := by
        unfold manysOf
        rw [List.getElem?_map, hb]
        rfl
      refine ⟨rfl, ?_⟩
      refine ⟨.ref p, rfl, .ref a1, rfl, a1, _, 0, .int b.many, rfl, rfl, (txx x1).1 _ _ h1, atI_nat (j := 0) rfl, p, c, b.many, _, rfl, hp1, by omega, by omega, by omega, fun r H2 r0 r1 x2 hp2 => ?_⟩
      refine ⟨_, x2 _ _ nDp hD1, Nat.lt_of_le_of_lt (by rw [List.length_map]; omega : (xs.map V.int).length ≤ 60) (by decide), xs ++ [r], (x1.trans x2).mut hD, (hp2.put nDp nDc).mono (by omega), by rw [upd_same, List.map_append]; rfl, ?_⟩
      rw [take_succ_get mm]
      exact inAll_snoc hin r0 r1
    · rintro H1 ⟨xs, x1, hp1, hD1, hin⟩
      rw [bl, ← ml, List.take_length] at hin
      refine ⟨D, _, rfl, .inl ⟨.inl (.inl hD1), fun tp ntp => ?_⟩⟩
      have e2 := Evl.Ex.new (o := .tup (xs.map V.int)) ntp
      have x2 : Exx p H (upd H1 tp (.tup (xs.map V.int))) := x1.trans (Exx.ex e2)
      have hp2 := hp1.ex e2
      have htp : (upd H1 tp (.tup (xs.map V.int))) tp = some (.tup (xs.map V.int)) := upd_same
      generalize upd H1 tp (.tup (xs.map V.int)) = H2 at x2 hp2 htp
      have hL2 : LockAt K H2 (.ref a) l := LockAt.mono (txx x2) ⟨a, bs, rfl, ha, hbs⟩
      refine ⟨.ref a, rfl, .ref a, l, rfl, hL2, ok, fun H3 wa us e3 nwa hwa hus => ?_⟩
      refine ⟨.ref tp, .ref wa, rfl, ?_⟩
      have hp3 := hp2.ex e3
      have x3 : Exx p H H3 := x2.trans (Exx.ex e3)
      have htp3 := e3 _ _ htp
      have xl : xs.length = l.length := by rw [hin.1, ml]
      refine ⟨fun σ H' => ∃ (u : V) (st : Word) (y4 : Option V), σ = [some (.ref p), some (.ref a), some u, some (.ref wa), y4, none] ∧ Exx p H H' ∧ PenAt H' p c (T + 100) ∧ Wd K H' u st ∧ InAll st (manysOf l), ?_, ?_⟩
      · have same : ∀ {Hx : Hp} {y4 : Option V}, Exx p H3 Hx → PenAt Hx p c (T + 100) → ∃ (u : V) (st : Word) (y4' : Option V), ([some (.ref p), some (.ref a), some (.ref tp), some (.ref wa), y4, none] : L2.St) = [some (.ref p), some (.ref a), some u, some (.ref wa), y4', none] ∧ Exx p H Hx ∧ PenAt Hx p c (T + 100) ∧ Wd K Hx u st ∧ InAll st (manysOf l) := by
          intro Hx y4 ex hpx
          exact ⟨_, xs, _, rfl, x3.trans ex, hpx, Wd.mono (hp3.tx ex) ⟨tp, rfl, htp3⟩, hin⟩
        refine ⟨.ref wa, rfl, Nat.zero_le _, fun e ne => ?_⟩
        have e4 := Evl.Ex.new (o := .lst []) ne
        have hwa4 := e4 _ _ hwa
        refine ⟨.list ((lockWays l).map dW), .list [], .lst (.inl (.inl hwa4)) (dp_all (F := Wd K _) (f := dW) (fun _ _ => dp_W) (Paired.imp (fun _ _ => wd_ex e4) hus)), .lst (.inl (.inl upd_same)) .nil, (fine_ways ok).shaped (by decide), (by decide), _, rfl, ?_⟩
        cases hw0 : lockWays l with
        | nil =>
          refine iteF ?_
          exact same (Exx.ex e4) ((hp3.ex e4).mono (by omega))
        | cons w0 ws =>
          refine iteT ?_
          generalize upd H3 e (.lst []) = H4 at e4 hwa4
          have hp4 := hp3.ex e4
          refine ⟨.ref p, rfl, p, c, 2, _, rfl, hp4, by decide, by decide, by omega, fun r H5 r0 r1 x5 hp5 => ?_⟩
          have x35 : Exx p H3 H5 := (Exx.ex e4).trans x5
          refine ⟨rfl, _, rfl, ?_⟩
          refine ite2 (fun _ => ?_) (fun _ => same x35 (hp5.mono (by omega)))
          have nwap : wa ≠ p := fun z => by
            have := hp2.here
            rw [z] at nwa
            exact this nwa
          have hwa5 := x5 _ _ nwap hwa4
          have ulen : us.length = (lockWays l).length := Paired.len hus
          have une : us ≠ [] := fun z => by rw [z, hw0] at ulen; simp at ulen
          have u480 := lockWays_len (l := l) fun b hb => gapWays_ok ok hb
          refine ⟨.ref p, rfl, .ref wa, rfl, p, c, wa, _, us, rfl, hp5, by omega, .inl (.inl hwa5), nwap, une, by omega, fun x H6 hx x6 hp6 => ?_⟩
          obtain ⟨j, hj⟩ := List.mem_iff_getElem?.mp hx
          obtain ⟨u, hu, ⟨ua, rfl, hua⟩⟩ := Paired.get1 hus hj
          obtain ⟨ul, uin⟩ := way_in ok (List.mem_of_getElem? hu)
          have x36 : Exx p H3 H6 := x35.trans x6
          have tx36 : TX K H3 H6 := hp3.tx x36
          have hua6 : H6 ua = some (.tup (u.map V.int)) := tx36.2 _ _ hua
          have htp6 : H6 tp = some (.tup (xs.map V.int)) := tx36.2 _ _ htp3
          have fin : ∀ {Hx : Hp} {z : Addr}, Evl.Ex H6 Hx → Hx z = some (.tup ((u ++ xs.drop u.length).map V.int)) → ∃ (u' : V) (st : Word) (y4' : Option V), ([some (.ref p), some (.ref a), some (.ref z), some (.ref wa), some (.ref ua), none] : L2.St) = [some (.ref p), some (.ref a), some u', some (.ref wa), y4', none] ∧ Exx p H Hx ∧ PenAt Hx p c (T + 100) ∧ Wd K Hx u' st ∧ InAll st (manysOf l) := by
            intro Hx z ex hz
            exact ⟨_, _, _, rfl, x3.trans (x36.trans (Exx.ex ex)), (hp6.ex ex).mono (by omega), ⟨z, rfl, hz⟩, inAll_mix hin uin (by omega)⟩
          refine ⟨.ref ua, rfl, .ref tp, rfl, .ref ua, rfl, ua, _, rfl, .inr (.inl (.inl hua6)), ?_⟩
          have lz : ((xs.map V.int).length) = xs.length := List.length_map ..
          have ln : ((u.map V.int).length) = u.length := List.length_map ..
          have cutd : cutV (xs.map V.int) (some (((u.map V.int).length : Nat) : Int)) none = (xs.drop u.length).map V.int := by
            rw [ln, cut_drop (xs.map V.int) (k := u.length) (by rw [lz]; omega), List.map_drop]
          have size : (u.map V.int).length + (xs.map V.int).length ≤ sizeLine := Nat.le_trans (by rw [ln, lz]; omega : (u.map V.int).length + (xs.map V.int).length ≤ 120) (by decide)
          refine ⟨_, rfl, ⟨tp, _, rfl, .inl (.inl htp6), fun z => ?_, fun _ t nt => ?_⟩⟩
          · have z1 : u.length = 0 := by
              have z2 := z.1
              rw [ln, lz, HT.sIx_nat] at z2
              omega
            have u0 : u = [] := List.length_eq_zero_iff.mp z1
            have hf := fin (Hx := H6) (z := tp) (Evl.Ex.refl _) (by rw [u0]; exact htp6)
            exact ⟨ua, tp, _, _, rfl, rfl, .inl (.inl hua6), .inl (.inl htp6), size, fun _ => hf, fun z _ => absurd (by rw [u0]; rfl) z, fun z _ => absurd (by rw [u0]; rfl) z⟩
          · rw [cutd]
            have e7 := Evl.Ex.new (o := .tup ((xs.drop u.length).map V.int)) nt
            have nd : ((xs.drop u.length).map V.int) ≠ [] := fun z => by
              have := congrArg List.length z
              rw [List.length_map, List.length_drop] at this
              simp at this
              omega
            refine ⟨ua, t, _, _, rfl, rfl, .inl (.inl (e7 _ _ hua6)), .inl (.inl upd_same), ?_, fun z => ?_, fun _ z => absurd z nd, fun _ _ t2 nt2 => ?_⟩
            · refine Nat.le_trans ?_ size
              simp only [List.length_map, List.length_drop]
              omega
            · have u0 : u = [] := List.map_eq_nil_iff.mp z
              exact fin e7 (by rw [upd_same, u0]; rfl)
            · have e8 := Evl.Ex.new (o := .tup (u.map V.int ++ (xs.drop u.length).map V.int)) nt2
              exact fin (e7.trans e8) (by rw [upd_same, List.map_append])
      · rintro σ H4 ⟨u, st, y4, rfl, x4, hp4, hu4, hin4⟩
        exact ⟨u, rfl, q H4 u st x4 hp4 hu4 hin4⟩
end
end Wb

set_option Elab.async false
set_option linter.all false
set_option maxRecDepth 100000
set_option maxHeartbeats 4000000
set_option pp.maxSteps 600
set_option pp.deepTerms false
namespace Wb
open PySem PySem.Spec PyProof.Rows L2
/-! ### things of whatever kind, as they are drawn: data, {} and {0: 1}, tuples of scalars with one such dict -/
def one0 : List (Key × V) := [(.inl 0, .int 1)]
/-- a scalar or such a dict -/
inductive Mx (H : Hp) : V → PyData → Prop where
  | non : Mx H .non .none
  | bl (b : Bool) : Mx H (.bl b) (.bool b)
  | int (i : Int) : Mx H (.int i) (.int i)
  | str (x : Str) : Mx H (.str x) (.str x)
  | d0 {a : Addr} : H a = some (.dK []) → Mx H (.ref a) (.dict [])
  | d1 {a : Addr} : H a = some (.dK one0) → Mx H (.ref a) (.dict [(.int 0, .int 1)])
inductive Th (K : PySem.W.Frag) (H : Hp) : V → PyData → Prop where
  | dp {v : V} {d : PyData} : Dp K H v d → Th K H v d
  | mx {v : V} {d : PyData} : Mx H v d → Th K H v d
  | tup {a : Addr} {xs : List V} {ds : List PyData} : SqT K H a xs → Paired (Mx H) xs ds → Th K H (.ref a) (.tuple ds)
/-- what such things lean on stays -/
structure TK (K : PySem.W.Frag) (H H' : Hp) : Prop where
  t : ∀ a xs, SqT K H a xs → SqT K H' a xs
  l : ∀ a xs, SqL K H a xs → SqL K H' a xs
  d0 : ∀ a, H a = some (.dK []) → H' a = some (.dK [])
  d1 : ∀ a, H a = some (.dK one0) → H' a = some (.dK one0)
section
variable {K : PySem.W.Frag} {H H' : Hp} {p c : Addr} {T : Int}
theorem TK.ex (e : Evl.Ex H H') : TK K H H' := ⟨fun _ _ h => Evl.ex_t e h, fun _ _ h => Evl.ex_l e h, fun _ h => e _ _ h, fun _ h => e _ _ h⟩
theorem TK.refl (K : PySem.W.Frag) (H : Hp) : TK K H H := TK.ex (Evl.Ex.refl H)
theorem TK.trans {H1 : Hp} (a : TK K H H1) (b : TK K H1 H') : TK K H H' := ⟨fun x o h => b.t x o (a.t x o h), fun x o h => b.l x o (a.l x o h), fun x h => b.d0 x (a.d0 x h), fun x h => b.d1 x (a.d1 x h)⟩
theorem PenAt.tk (h : PenAt H p c T) (e : Exx p H H') : TK K H H' := by
  obtain ⟨cells, t, d, hp, hc, _⟩ := h
  have tx : TX K H H' := e.tx (fun xs z => by
    rcases z with z | ⟨o, z⟩
    · rw [hp] at z; cases z
    · rw [hp] at z; cases z)
  refine ⟨tx.1, fun a xs z => ?_, fun a z => e a _ (fun y => ?_) z, fun a z => e a _ (fun y => ?_) z⟩
  · rcases z with (z | ⟨o, z⟩) | z
    · exact .inl (.inl (e a _ (fun y => by rw [y, hp] at z; cases z) z))
    · exact .inl (.inr ⟨o, e a _ (fun y => by rw [y, hp] at z; cases z) z⟩)
    · exact .inr z
  · rw [y, hp] at z
    cases z
  · rw [y, hp] at z
    cases z
mutual
theorem Dp.keep (e : TK K H H') : ∀ {v : V} {d : PyData}, Dp K H v d → Dp K H' v d
  | _, _, .non => .non
  | _, _, .bl b => .bl b
  | _, _, .int i => .int i
  | _, _, .str x => .str x
  | _, _, .lst h a => .lst (e.l _ _ h) (DpAll.keep e a)
  | _, _, .tup h a => .tup (e.t _ _ h) (DpAll.keep e a)
theorem DpAll.keep (e : TK K H H') : ∀ {vs : List V} {ds : List PyData}, DpAll K H vs ds → DpAll K H' vs ds
  | _, _, .nil => .nil
  | _, _, .cons h a => .cons (Dp.keep e h) (DpAll.keep e a)
end
theorem Mx.keep (e : TK K H H') {v : V} {d : PyData} (h : Mx H v d) : Mx H' v d := by
  cases h with
  | non => exact .non
  | bl b => exact .bl b
  | int i => exact .int i
  | str x => exact .str x
  | d0 h => exact .d0 (e.d0 _ h)
  | d1 h => exact .d1 (e.d1 _ h)
theorem Th.keep (e : TK K H H') {v : V} {d : PyData} (h : Th K H v d) : Th K H' v d := by
  cases h with
  | dp h => exact .dp (Dp.keep e h)
  | mx h => exact .mx (h.keep e)
  | tup h a => exact .tup (e.t _ _ h) (Paired.imp (fun _ _ => Mx.keep e) a)
mutual
theorem Dp.noDict : ∀ {v : V} {d : PyData}, Dp K H v d → d.hasDict = false
  | _, _, .non => by simp only [PyData.hasDict]
  | _, _, .bl b => by simp only [PyData.hasDict]
  | _, _, .int i => by simp only [PyData.hasDict]
  | _, _, .str x => by simp only [PyData.hasDict]
  | _, _, .lst _ a => by
    simp only [PyData.hasDict]
    exact DpAll.noDict a
  | _, _, .tup _ a => by
    simp only [PyData.hasDict]
    exact DpAll.noDict a
theorem DpAll.noDict : ∀ {vs : List V} {ds : List PyData}, DpAll K H vs ds → PyData.hasDictAll ds = false
  | _, _, .nil => by simp only [PyData.hasDictAll]
  | _, _, .cons h a => by simp only [PyData.hasDictAll, Dp.noDict h, DpAll.noDict a, Bool.or_self]
end
def tyS : PyData → String
  | .none => "NoneType"
  | .bool _ => "bool"
  | .int _ => "int"
  | .str _ => "str"
  | .list _ => "list"
  | .tuple _ => "tuple"
  | .dict _ => "dict"
theorem tyx_lst {a : Addr} {xs : List V} (h : SqL K H a xs) : TyX K H (.ref a) (.type "list") := by
  rcases h with (h | ⟨o, h⟩) | ⟨o, its, n, h, c, _⟩
  · exact .base (.lst h)
  · exact .base (.frz h)
  · exact .kList h c
theorem Th.ty {v : V} {d : PyData} (h : Th K H v d) : TyX K H v (.type (tyS d)) := by
  cases h with
  | dp h =>
    cases h with
    | non => exact .base .non
    | bl b => exact .base (.bl b)
    | int i => exact .base (.int i)
    | str x => exact .base (.str x)
    | lst h _ => exact tyx_lst h
    | tup h _ => exact tyx_tup h
  | mx h =>
    cases h with
    | non => exact .base .non
    | bl b => exact .base (.bl b)
    | int i => exact .base (.int i)
    | str x => exact .base (.str x)
    | d0 h => exact .base (.dK h)
    | d1 h => exact .base (.dK h)
  | tup h _ => exact tyx_tup h
def isInt : PyData → Bool
  | .int _ => true
  | .bool _ => true
  | _ => false
def isBool : PyData → Bool
  | .bool _ => true
  | _ => false
def isTup : PyData → Bool
  | .tuple _ => true
  | _ => false
def isLst : PyData → Bool
  | .list _ => true
  | _ => false
def isStr : PyData → Bool
  | .str _ => true
  | _ => false
theorem kit_int (d : PyData) : kitB (tyS d) "int" = some (isInt d) := by cases d <;> (simp only [tyS, isInt]; decide +kernel)
theorem kit_bool (d : PyData) : kitB (tyS d) "bool" = some (isBool d) := by cases d <;> (simp only [tyS, isBool]; decide +kernel)
theorem kit_tup (d : PyData) : kitB (tyS d) "tuple" = some (isTup d) := by cases d <;> (simp only [tyS, isTup]; decide +kernel)
theorem kit_lst (d : PyData) : kitB (tyS d) "list" = some (isLst d) := by cases d <;> (simp only [tyS, isLst]; decide +kernel)
theorem kit_str (d : PyData) : kitB (tyS d) "str" = some (isStr d) := by cases d <;> (simp only [tyS, isStr]; decide +kernel)
end
section
variable {X : Cx} {pins : List (Addr × Obj)} {σ : L2.St} {H : Hp} {s : Shared}
theorem Mx.reads (I : Inv X pins σ H s) {v : V} {d : PyData} {u : Value} (h : Mx H v d) (r : RelV v u) : ∃ as, Reads s.heap u d as ∧ sysModules ∉ as := by
  cases h with
  | non => cases r; exact ⟨_, .none, List.not_mem_nil⟩
  | bl b => cases r; exact ⟨_, .bool b, List.not_mem_nil⟩
  | int i => obtain ⟨t, rfl⟩ := r; exact ⟨_, .int i t, List.not_mem_nil⟩
  | str x => obtain ⟨t, rfl⟩ := r; exact ⟨_, .str x t, List.not_mem_nil⟩
  | @d0 a h =>
    cases r
    obtain ⟨_, hs, vs, kv, o, es, ep, ho, ex, hd, _, pr, _⟩ := dk_of I.hok h
    cases kv
    generalize hes : es.toList = L at pr
    cases pr
    refine ⟨_, .dict (as := []) (bs := []) (kvs := []) ho ex.1 hd (by rw [hes]; exact .nil) (by rw [hes]; exact .nil), ?_⟩
    simp
    intro z
    rw [z] at hs
    simp at hs
  | @d1 a h =>
    cases r
    obtain ⟨_, hs, vs, kv, o, es, ep, ho, ex, hd, _, pr, _⟩ := dk_of I.hok h
    cases kv with
    | @cons _ q _ _ k1 k2 =>
      cases k2
      obtain ⟨qk, qv⟩ := q
      obtain ⟨e1, t1, e2⟩ := k1
      have e1' : qk = .inl 0 := e1.symm
      have e2' : qv = .int 1 t1 := e2
      subst e1' e2'
      generalize hes : es.toList = L at pr
      cases pr with
      | @cons e _ es' _ hk hv hr =>
        cases hr
        obtain ⟨t0, ek⟩ := Value.isInt_shape (k := 0) (v := e.key) hk
        have ev : e.val = .int 1 t1 := hv
        refine ⟨_, .dict (as := []) (bs := []) (kvs := [(.int 0, .int 1)]) ho ex.1 hd (by rw [hes]; show ReadsAll _ [e.key] [.int 0] _; rw [ek]; exact .cons (.int 0 t0) .nil) (by rw [hes]; show ReadsAll _ [e.val] [.int 1] _; rw [ev]; exact .cons (.int 1 t1) .nil), ?_⟩
        simp
        intro z
        rw [z] at hs
        simp at hs
theorem Mx.readsAll (I : Inv X pins σ H s) : ∀ {vs : List V} {ds : List PyData} {us : List Value}, Paired (Mx H) vs ds → Vals vs us → ∃ as, ReadsAll s.heap us ds as ∧ sysModules ∉ as
  | _, _, _, .nil, r => by
    cases r
    exact ⟨_, .nil, List.not_mem_nil⟩
  | _, _, _, .cons h t, r => by
    cases r with
    | cons r1 r2 =>
      obtain ⟨as, h1, n1⟩ := Mx.reads I h r1
      obtain ⟨bs, h2, n2⟩ := Mx.readsAll I t r2
      exact ⟨_, .cons h1 h2, fun z => (List.mem_append.mp z).elim n1 n2⟩
theorem Th.reads (I : Inv X pins σ H s) {v : V} {d : PyData} {u : Value} (h : Th X.K H v d) (r : RelV v u) : ∃ as, Reads s.heap u d as ∧ (d.hasDict = true → sysModules ∉ as) := by
  cases h with
  | dp h =>
    obtain ⟨as, q⟩ := Dp.reads I d v u h r
    exact ⟨as, q, fun z => by rw [Dp.noDict h] at z; cases z⟩
  | mx h =>
    obtain ⟨as, q, n⟩ := Mx.reads I h r
    exact ⟨as, q, fun _ => n⟩
  | @tup a xs ds h hm =>
    cases r
    obtain ⟨its, rv, ⟨o, e, c, n, hd⟩, hz⟩ := I.tuple h
    obtain ⟨as, q, nn⟩ := Mx.readsAll I hm rv
    exact ⟨as, .tuple e c hd (by simpa using q), fun _ => nn⟩
/-- repr of such a thing -/
def rReprT (K : PySem.W.Frag) : List V → Hp → VK → Prop := fun xs H Q => ∃ (v : V) (d : PyData), xs = [v] ∧ Th K H v d ∧ d.showable = true ∧ d.depth ≤ 20 ∧ d.shown.length ≤ sizeLine ∧ Q (.str d.shown) H
theorem call_repr_thing (hu : X.A.units + 64 < cLine) (hg : X.A.guards = some []) : CallR X (.builtin "repr") (rReprT X.K) := by
  intro pins s σ H xs us Q I r h
  obtain ⟨v, d, rfl, hd, h1, h3, h4, q⟩ := h
  cases r with
  | cons r1 r2 =>
    cases r2
    obtain ⟨as, rd, hs⟩ := Th.reads I hd r1
    have fin : ∀ (tk : Nat) (u : Tok), EP X pins σ Q (.str d.shown u) { s with toks := tk } := fun tk u => ⟨.str d.shown, H, I.kept (t' := tk) (fun _ _ e => e), ⟨u, rfl⟩, q⟩
    cases rd with
    | none => exact P.repr_of_none (fin _ _)
    | bool b => exact P.repr_of_bool (by have := fin (s.toks + 1) s.toks; cases b <;> simpa [PyData.shown] using this)
    | int i t => exact P.repr_of_int (by simpa [PyData.showable] using h1) (fin _ _)
    | str x t => exact P.repr_of_str (fin _ _) (by simpa [PyData.shown] using h4)
    | list e1 e2 e3 e4 =>
      refine repr_of_reads' (.list e1 e2 e3 e4) h1 hs hg (by omega) (fun _ _ e => e) (fun h' u tk hk => ?_) h4
      exact ⟨.str _, H, I.kept (t' := tk) hk, ⟨u, rfl⟩, q⟩
    | tuple e1 e2 e3 e4 =>
      refine repr_of_reads' (.tuple e1 e2 e3 e4) h1 hs hg (by omega) (fun _ _ e => e) (fun h' u tk hk => ?_) h4
      exact ⟨.str _, H, I.kept (t' := tk) hk, ⟨u, rfl⟩, q⟩
    | dict e1 e2 e3 e4 e5 =>
      refine repr_of_reads' (.dict e1 e2 e3 e4 e5) h1 hs hg (by omega) (fun _ _ e => e) (fun h' u tk hk => ?_) h4
      exact ⟨.str _, H, I.kept (t' := tk) hk, ⟨u, rfl⟩, q⟩
end
end Wb

set_option Elab.async false
set_option linter.all false
set_option maxRecDepth 100000
set_option maxHeartbeats 4000000
set_option pp.maxSteps 600
set_option pp.deepTerms false
namespace Wb
open PySem PySem.Spec PyProof.Rows L2
abbrev sWished : Stmt := topS 5
abbrev sIsStand : Stmt := topS 22
abbrev sIsWish : Stmt := topS 23
abbrev sStandsOf : Stmt := topS 26
theorem scWished : FnScope ["thing", "manys", "place"] ["thing", "manys"] (defScope sWished) := ⟨rfl, rfl, rfl, by decide +kernel, rfl, by decide +kernel, by decide +kernel⟩
theorem scIsStand : FnScope ["lock", "thing"] ["lock", "thing"] (defScope sIsStand) := ⟨rfl, rfl, rfl, by decide +kernel, rfl, by decide +kernel, by decide +kernel⟩
theorem scIsWish : FnScope ["lock", "thing"] ["lock", "thing"] (defScope sIsWish) := ⟨rfl, rfl, rfl, by decide +kernel, rfl, by decide +kernel, by decide +kernel⟩
theorem scStandsOf : FnScope ["lock", "count", "many"] ["lock"] (defScope sStandsOf) := ⟨rfl, rfl, rfl, by decide +kernel, rfl, by decide +kernel, by decide +kernel⟩
/-! ### what the checks tell of things -/
def itemsD : PyData → List PyData
  | .tuple ds => ds
  | _ => []
def placeB : PyData → Int → Bool
  | .int i, m => decide (0 ≤ i) && decide (i < m)
  | _, _ => false
def allP : List PyData → List Int → Bool
  | d :: ds, m :: ms => placeB d m && allP ds ms
  | _, _ => true
def placesB (d : PyData) (ms : List Int) : Bool := isTup d && (decide ((itemsD d).length = ms.length) && allP (itemsD d) ms)
def orZero : PyData → PyData
  | .none => .int 0
  | d => d
def wishedB (d : PyData) (ms : List Int) : Bool := isTup d && (decide ((itemsD d).length = ms.length) && allP ((itemsD d).map orZero) ms)
theorem allP_bad : ∀ {ds : List PyData} {ms : List Int} {i : Nat} {d : PyData} {m : Int}, ds[i]? = some d → ms[i]? = some m → placeB d m = false → allP ds ms = false
  | _ :: _, _ :: _, 0, d, m, h1, h2, h => by
    simp at h1 h2
    subst h1 h2
    simp [allP, h]
  | _ :: _, _ :: _, i + 1, d, m, h1, h2, h => by
    have := allP_bad (i := i) (by simpa using h1) (by simpa using h2) h
    simp [allP, this]
  | [], _, _, _, _, h1, _, _ => by simp at h1
  | _ :: _, [], _, _, _, _, h2, _ => by simp at h2
theorem allP_all : ∀ {ds : List PyData} {ms : List Int}, (∀ (i : Nat) (d : PyData) (m : Int), ds[i]? = some d → ms[i]? = some m → placeB d m = true) → allP ds ms = true
  | d :: ds, m :: ms, h => by
    have h0 := h 0 d m rfl rfl
    have := allP_all (ds := ds) (ms := ms) fun i d' m' a b => h (i + 1) d' m' (by simpa using a) (by simpa using b)
    simp [allP, h0, this]
  | [], _, _ => by simp [allP]
  | _ :: _, [], _ => by simp [allP]
section
variable {K : PySem.W.Frag} {H : Hp}
theorem paired_dp : ∀ {vs : List V} {ds : List PyData}, DpAll K H vs ds → Paired (Dp K H) vs ds
  | _, _, .nil => .nil
  | _, _, .cons h t => .cons h (paired_dp t)
theorem dp_paired : ∀ {vs : List V} {ds : List PyData}, Paired (Dp K H) vs ds → DpAll K H vs ds
  | _, _, .nil => .nil
  | _, _, .cons h t => .cons h (dp_paired t)
/-- a tuple's items: all data, or all scalars and such dicts -/
def ItemsAt (K : PySem.W.Frag) (H : Hp) (xs : List V) (ds : List PyData) : Prop := Paired (Dp K H) xs ds ∨ Paired (Mx H) xs ds
theorem ItemsAt.len {xs : List V} {ds : List PyData} (h : ItemsAt K H xs ds) : xs.length = ds.length := h.elim Paired.len Paired.len
theorem ItemsAt.get {xs : List V} {ds : List PyData} (h : ItemsAt K H xs ds) {i : Nat} {x : V} (e : xs[i]? = some x) : ∃ d, ds[i]? = some d ∧ Th K H x d := by
  rcases h with h | h
  · obtain ⟨d, h1, h2⟩ := Paired.get1 h e
    exact ⟨d, h1, .dp h2⟩
  · obtain ⟨d, h1, h2⟩ := Paired.get1 h e
    exact ⟨d, h1, .mx h2⟩
theorem Th.items {v : V} {ds : List PyData} (h : Th K H v (.tuple ds)) : ∃ a xs, v = .ref a ∧ SqT K H a xs ∧ ItemsAt K H xs ds := by
  cases h with
  | dp h =>
    cases h with
    | tup h a => exact ⟨_, _, rfl, h, .inl (paired_dp a)⟩
  | mx h => cases h
  | tup h a => exact ⟨_, _, rfl, h, .inr a⟩
theorem Th.tupI {a : Addr} {xs : List V} {ds : List PyData} (h : SqT K H a xs) (hi : ItemsAt K H xs ds) : Th K H (.ref a) (.tuple ds) := by
  rcases hi with hi | hi
  · exact .dp (.tup h (dp_paired hi))
  · exact .tup h hi
theorem tup_of {d : PyData} (h : isTup d = true) : ∃ ds, d = .tuple ds := by
  cases d <;> first
    | exact ⟨_, rfl⟩
    | cases h
/-- the value of a thing is no int or bool that its data isn't -/
theorem Th.int_of {v : V} {d : PyData} (h : Th K H v d) (hi : isInt d = true) (hb : isBool d = false) : ∃ i, d = .int i ∧ v = .int i := by
  cases d <;> first
    | (cases hi; done)
    | (cases hb; done)
    | skip
  rename_i i
  refine ⟨i, rfl, ?_⟩
  cases h with
  | dp h => cases h; rfl
  | mx h => cases h; rfl
theorem Th.non_iff {v : V} {d : PyData} (h : Th K H v d) : decide (v = .non) = (match d with | .none => true | _ => false) := by
  cases h with
  | dp h => cases h <;> simp
  | mx h => cases h <;> simp
  | tup h _ => simp
end
def spTupG (K : PySem.W.Frag) : Sp := fun vs H Q _ => ∃ (v : V) (d : PyData) (l h : Int), vs = [v, .int l, .int h] ∧ Th K H v d ∧ Q (.bl (isTup d && (decide (l ≤ ((itemsD d).length : Int)) && decide (((itemsD d).length : Int) ≤ h)))) H
def spPlacesG (K : PySem.W.Frag) : Sp := fun vs H Q _ => ∃ (v : V) (d : PyData) (b : Addr) (ms : List Int), vs = [v, .ref b] ∧ Th K H v d ∧ SqL K H b (ms.map V.int) ∧ ∀ H', Evl.Ex H H' → Q (.bl (placesB d ms)) H'
def spWishedG (K : PySem.W.Frag) : Sp := fun vs H Q _ => ∃ (v : V) (d : PyData) (b : Addr) (ms : List Int), vs = [v, .ref b] ∧ Th K H v d ∧ SqL K H b (ms.map V.int) ∧ ms.length ≤ 60 ∧ ∀ H', Evl.Ex H H' → Q (.bl (wishedB d ms)) H'
section
variable {P : Program} {w : World} {K : PySem.W.Frag} {mg : Str → Option Value} {base : Heap}
theorem ok_tupG {f : Addr} {fd : FuncData} (F : Fun K "is_tuple_of" "is_tuple_of" sTupOf f fd) (B : Bi mg) : FnOk P w K mg base CX0 1 f fd ["thing", "low", "high"] (spTupG K) := by
  refine F.ok scTupOf (fun vs H Q E h => ?_) (fun cdv A outer s H vs Q E hr h => ?_)
  · obtain ⟨v, d, l, m, rfl, _⟩ := h; rfl
  · obtain ⟨v, d, l, m, rfl, hv, q⟩ := h
    refine ⟨_, pss_one (ps_ret (pe_and (pe_callB call_isi (by rfl) B.isi boot_isinstance (pa_cons (pv 0) (pa_cons (pe_bltn (v := .ty "tuple") (by rfl) B.tuple (by decide +kernel) rfl) pa_nil)))
      (pe_one (pe_chain op_le op_le (pv 1) (pe_callB call_len_seq (by rfl) B.len PySem.boot_len (pa_cons (pv 0) pa_nil)) (pv 2))))), ?_⟩
    refine ⟨v, rfl, v, .ty "tuple", .type (tyS d), .type "tuple", isTup d, rfl, .ty _, hv.ty, kit_ty (kit_tup d), isTup d, rfl, ?_⟩
    cases ht : isTup d with
    | false =>
      rw [ht] at q
      rw [if_neg Bool.false_ne_true]
      exact q
    | true =>
      rw [ht] at q
      rw [if_pos rfl]
      obtain ⟨ds, rfl⟩ := tup_of ht
      obtain ⟨a, xs, rfl, hx, hi⟩ := hv.items
      have e : ((itemsD (.tuple ds)).length : Int) = xs.length := by rw [hi.len]; rfl
      rw [e] at q
      refine ⟨.int l, rfl, .ref a, rfl, a, xs, rfl, .inr hx, l, xs.length, rfl, rfl, decide (l ≤ (xs.length : Int)), rfl, ?_⟩
      by_cases h1 : l ≤ (xs.length : Int)
      · rw [if_pos (decide_eq_true h1)]
        refine ⟨.int m, rfl, xs.length, m, rfl, rfl, ?_⟩
        rw [decide_eq_true h1] at q
        exact q
      · rw [if_neg (by rw [decide_eq_false h1]; exact Bool.false_ne_true)]
        rw [decide_eq_false h1] at q
        exact q
theorem ok_placesG {f f1 : Addr} {fd fd1 : FuncData} (F : Fun K "are_places" "are_places" sPlaces f fd) (F1 : Fun K "is_tuple_of" "is_tuple_of" sTupOf f1 fd1) (b1 : Binds K fd1 ["thing", "low", "high"] []) (g1 : mg "is_tuple_of" = some (.ref f1)) (B : Bi mg) :
    FnOk P w K mg base CX0 2 f fd ["thing", "manys"] (spPlacesG K) := by
  have G1 : FnOk P w K mg base CX0 1 f1 fd1 ["thing", "low", "high"] (spTupG K) := ok_tupG F1 B
  refine F.ok scPlaces (fun vs H Q E h => ?_) (fun cdv A outer s H vs Q E hr h => ?_)
  · obtain ⟨v, d, b, ms, rfl, _⟩ := h; rfl
  · obtain ⟨v, d, b, ms, rfl, hv, hy, q⟩ := h
    refine ⟨_, pss_cons (ps_if (pt_not (pt_val (pe_call G1 hr (by rfl) g1 F1.kp b1 .nil pass0 (pa_cons (pv 0) (pa_cons (pe_callB call_len_seq (by rfl) B.len PySem.boot_len (pa_cons (pv 1) pa_nil)) (pa_cons (pe_callB call_len_seq (by rfl) B.len PySem.boot_len (pa_cons (pv 1) pa_nil)) pa_nil))))))
        (pss_one (ps_ret pe_bl)) pss_nil)
      (pss_cons (ps_for PassesOwn.never rfl (pi_zipX (by rfl) B.zip (pa_cons (pv 0) (pa_cons (pv 1) pa_nil))) (pg_tup rfl (pgs_cons (pg_name (i := 2) scPlaces.nd rfl (.inl rfl)) (pgs_cons (pg_name (i := 3) scPlaces.nd rfl (.inl rfl)) pgs_nil)))
        (pss_one (ps_if (PW.pt (pw_or (pt_val (pe_callB call_isi (by rfl) B.isi boot_isinstance (pa_cons (pv 2) (pa_cons (pe_bltn (v := .ty "bool") (by rfl) B.bool (by decide +kernel) rfl) pa_nil))))
            (pw_or (pt_not (pt_val (pe_callB call_isi (by rfl) B.isi boot_isinstance (pa_cons (pv 2) (pa_cons (pe_bltn (v := .ty "int") (by rfl) B.int (by decide +kernel) rfl) pa_nil)))))
              (pw_or1 (pt_not (pt_chain op_le op_lt pe_int (pv 2) (pv 3)))))))
          (pss_one (ps_ret pe_bl)) pss_nil)))
      (pss_one (ps_ret pe_bl))), ?_⟩
    refine ⟨v, rfl, .ref b, rfl, b, _, rfl, .inl hy, .ref b, rfl, b, _, rfl, .inl hy, v, d, _, _, rfl, hv, _, rfl, ?_⟩
    have lm : ((ms.map V.int).length) = ms.length := List.length_map ..
    cases ht : isTup d with
    | false =>
      have z : placesB d ms = false := by unfold placesB; rw [ht]; rfl
      rw [z] at q
      refine iteT ?_
      exact q H (Evl.Ex.refl H)
    | true =>
      obtain ⟨ds, rfl⟩ := tup_of ht
      obtain ⟨a, xs, rfl, hx, hi⟩ := hv.items
      have xl := hi.len
      by_cases hl : ds.length = ms.length
      · have z : (decide (((ms.map V.int).length : Int) ≤ ((itemsD (.tuple ds)).length : Int)) && decide (((itemsD (.tuple ds)).length : Int) ≤ ((ms.map V.int).length : Int))) = true := by
          rw [lm]
          show (decide ((ms.length : Int) ≤ (ds.length : Int)) && decide ((ds.length : Int) ≤ (ms.length : Int))) = true
          rw [hl]
          simp
        rw [z]
        refine iteF ?_
        have pB : placesB (.tuple ds) ms = allP ds ms := by
          show (true && (decide (ds.length = ms.length) && allP ds ms)) = _
          rw [decide_eq_true hl]
          simp
        rw [pB] at q
        refine ⟨.ref a, rfl, .ref b, rfl, false, true, a, b, xs, ms.map V.int, rfl, hx, hy, ?_⟩
        refine for_it (walk_zx (l := false) (m := true) (xs := xs) (ys := ms.map V.int) (by rw [lm, xl, hl])) (fun i σ H' => ∃ y2 y3, σ = [some (.ref a), some (.ref b), y2, y3] ∧ Evl.Ex H H' ∧ ∀ j d m, j < i → ds[j]? = some d → ms[j]? = some m → placeB d m = true) ⟨none, none, rfl, Evl.Ex.refl H, fun j _ _ z => absurd z (Nat.not_lt_zero j)⟩ ?_ ?_ ?_
        · rintro i σ H' _ ⟨_, _, _, e, _⟩
          exact ⟨Evl.ex_t e hx, Evl.ex_l e hy⟩
        · rintro i v σ H1 H2 hii ⟨y2, y3, rfl, e, hall⟩ ⟨T, x, y, rfl, nT, rfl, ex, ey⟩
          obtain ⟨k, hk, rfl⟩ := get_map_int ey
          obtain ⟨dx, hdx, hth⟩ := hi.get ex
          have e2 : Evl.Ex H (upd H1 T (.tup [x, .int k])) := e.trans (Evl.Ex.new nT)
          have hth2 := hth.keep (TK.ex e2)
          refine ⟨T, [x, .int k], rfl, .inl (.inl upd_same), rfl, x, [.int k], rfl, .int k, [], rfl, rfl, ?_⟩
          refine ⟨x, rfl, x, .ty "bool", .type (tyS dx), .type "bool", isBool dx, rfl, .ty _, hth2.ty, kit_ty (kit_bool dx), isBool dx, rfl, ?_⟩
          have bad : placeB dx k = false → Q (.bl false) (upd H1 T (.tup [x, .int k])) := fun z => by
            have := q _ e2
            rw [allP_bad hdx hk z] at this
            exact this
          cases hb : isBool dx with
          | true =>
            refine iteT (iteT ?_)
            refine bad ?_
            cases dx <;> first
              | rfl
              | cases hb
          | false =>
            refine iteF ?_
            refine ⟨x, rfl, x, .ty "int", .type (tyS dx), .type "int", isInt dx, rfl, .ty _, hth2.ty, kit_ty (kit_int dx), isInt dx, rfl, ?_⟩
            cases hn : isInt dx with
            | false =>
              refine iteT (iteT ?_)
              refine bad ?_
              cases dx <;> first
                | rfl
                | cases hn
            | true =>
              refine iteF ?_
              obtain ⟨n, rfl, rfl⟩ := hth.int_of hn hb
              refine ⟨.int n, rfl, 0, n, rfl, rfl, decide ((0:Int) ≤ n), rfl, ?_⟩
              by_cases h0 : (0 : Int) ≤ n
              · rw [if_pos (decide_eq_true h0)]
                refine ⟨.int k, rfl, n, k, rfl, rfl, decide (n < k), rfl, ?_⟩
                by_cases h1 : n < k
                · rw [decide_eq_true h1]
                  refine iteF ?_
                  refine ⟨_, _, rfl, e2, fun j d m hj hd hm => ?_⟩
                  by_cases hji : j = i
                  · subst hji
                    rw [hdx] at hd
                    rw [hk] at hm
                    cases hd
                    cases hm
                    show (decide (0 ≤ n) && decide (n < k)) = true
                    rw [decide_eq_true h0, decide_eq_true h1]
                    rfl
                  · exact hall j d m (by omega) hd hm
                · rw [decide_eq_false h1]
                  refine iteT ?_
                  refine bad ?_
                  show (decide (0 ≤ n) && decide (n < k)) = false
                  rw [decide_eq_false h1]
                  simp
              · rw [if_neg (by rw [decide_eq_false h0]; exact Bool.false_ne_true)]
                refine ⟨false, rfl, ?_⟩
                refine iteT ?_
                refine bad ?_
                show (decide (0 ≤ n) && decide (n < k)) = false
                rw [decide_eq_false h0]
                rfl
        · rintro σ H' ⟨y2, y3, rfl, e, hall⟩
          have z2 : allP ds ms = true := allP_all fun i d m hd hm => hall i d m (by
            have := (List.getElem?_eq_some_iff.mp hd).1
            omega) hd hm
          have := q H' e
          rw [z2] at this
          exact this
      · have z : (decide (((ms.map V.int).length : Int) ≤ ((itemsD (.tuple ds)).length : Int)) && decide (((itemsD (.tuple ds)).length : Int) ≤ ((ms.map V.int).length : Int))) = false := by
          rw [lm]
          show (decide ((ms.length : Int) ≤ (ds.length : Int)) && decide ((ds.length : Int) ≤ (ms.length : Int))) = false
          rw [Bool.and_eq_false_iff]
          by_cases h : (ms.length : Int) ≤ ds.length
          · exact .inr (decide_eq_false (by omega))
          · exact .inl (decide_eq_false h)
        rw [z]
        have pB : placesB (.tuple ds) ms = false := by
          show (true && (decide (ds.length = ms.length) && allP ds ms)) = false
          rw [decide_eq_false hl]
          rfl
        rw [pB] at q
        refine iteT ?_
        exact q H (Evl.Ex.refl H)
end
end Wb

set_option Elab.async false
set_option linter.all false
set_option maxRecDepth 100000
set_option maxHeartbeats 4000000
set_option pp.maxSteps 600
set_option pp.deepTerms false
namespace Wb
open PySem PySem.Spec PyProof.Rows L2
def zV (v : V) : V := if decide (v = .non) = true then .int 0 else v
theorem orZero_dp {K : PySem.W.Frag} {H : Hp} {v : V} {d : PyData} (h : Dp K H v d) : Dp K H (zV v) (orZero d) := by
  cases h with
  | non => exact .int 0
  | bl b => exact .bl b
  | int i => exact .int i
  | str x => exact .str x
  | lst h a => exact .lst h a
  | tup h a => exact .tup h a
theorem orZero_mx {H : Hp} {v : V} {d : PyData} (h : Mx H v d) : Mx H (zV v) (orZero d) := by
  cases h with
  | non => exact .int 0
  | bl b => exact .bl b
  | int i => exact .int i
  | str x => exact .str x
  | d0 h => exact .d0 h
  | d1 h => exact .d1 h
theorem paired_map {α β γ δ : Type} {R : α → β → Prop} {S : γ → δ → Prop} {f : α → γ} {g : β → δ} (h : ∀ a b, R a b → S (f a) (g b)) : ∀ {xs : List α} {ys : List β}, Paired R xs ys → Paired S (xs.map f) (ys.map g)
  | _, _, .nil => .nil
  | _, _, .cons r t => .cons (h _ _ r) (paired_map h t)
theorem ItemsAt.zero {K : PySem.W.Frag} {H : Hp} {xs : List V} {ds : List PyData} (h : ItemsAt K H xs ds) : ItemsAt K H (xs.map zV) (ds.map orZero) := by
  rcases h with h | h
  · exact .inl (paired_map (R := Dp K H) (S := Dp K H) (f := zV) (g := orZero) (fun _ _ => orZero_dp) h)
  · exact .inr (paired_map (R := Mx H) (S := Mx H) (f := zV) (g := orZero) (fun _ _ => orZero_mx) h)
theorem ItemsAt.keep {K : PySem.W.Frag} {H H' : Hp} (e : TK K H H') {xs : List V} {ds : List PyData} (h : ItemsAt K H xs ds) : ItemsAt K H' xs ds := by
  rcases h with h | h
  · exact .inl (Paired.imp (fun _ _ => Dp.keep e) h)
  · exact .inr (Paired.imp (fun _ _ => Mx.keep e) h)
def spIsStand (K : PySem.W.Frag) : Sp := fun vs H Q _ => ∃ (v u : V) (l : Lock) (d : PyData), vs = [v, u] ∧ LockAt K H v l ∧ LockOk l ∧ Th K H u d ∧ ∀ H', Evl.Ex H H' → Q (.bl (placesB d (manysOf l))) H'
def spIsWish (K : PySem.W.Frag) : Sp := fun vs H Q _ => ∃ (v u : V) (l : Lock) (d : PyData), vs = [v, u] ∧ LockAt K H v l ∧ LockOk l ∧ Th K H u d ∧ ∀ H', Evl.Ex H H' → Q (.bl (wishedB d (manysOf l))) H'
def prodL (ms : List Int) : Int := ms.foldl (fun a b => a * b) 1
def spStandsOf (K : PySem.W.Frag) : Sp := fun vs H Q _ => ∃ (v : V) (l : Lock), vs = [v] ∧ LockAt K H v l ∧ LockOk l ∧ ∀ H', Evl.Ex H H' → Q (.int (prodL (manysOf l))) H'
section
variable {P : Program} {w : World} {K : PySem.W.Frag} {mg : Str → Option Value} {base : Heap}
theorem ok_wishedG {f f1 f2 : Addr} {fd fd1 fd2 : FuncData} (F : Fun K "are_wished" "are_wished" sWished f fd) (F1 : Fun K "is_tuple_of" "is_tuple_of" sTupOf f1 fd1) (b1 : Binds K fd1 ["thing", "low", "high"] []) (g1 : mg "is_tuple_of" = some (.ref f1))
    (F2 : Fun K "are_places" "are_places" sPlaces f2 fd2) (b2 : Binds K fd2 ["thing", "manys"] []) (g2 : mg "are_places" = some (.ref f2)) (B : Bi mg) :
    FnOk P w K mg base CX0 3 f fd ["thing", "manys"] (spWishedG K) := by
  have G1 : FnOk P w K mg base CX0 1 f1 fd1 ["thing", "low", "high"] (spTupG K) := ok_tupG F1 B
  have G2 : FnOk P w K mg base CX0 2 f2 fd2 ["thing", "manys"] (spPlacesG K) := ok_placesG F2 F1 b1 g1 B
  refine F.ok scWished (fun vs H Q E h => ?_) (fun cdv A outer s H vs Q E hr h => ?_)
  · obtain ⟨v, d, b, ms, rfl, _⟩ := h; rfl
  · obtain ⟨v, d, b, ms, rfl, hv, hy, m60, q⟩ := h
    have hr1 : Room 1 _ := hr.mono (by decide)
    refine ⟨_, pss_cons (ps_if (pt_not (pt_val (pe_call G1 hr1 (by rfl) g1 F1.kp b1 .nil pass0 (pa_cons (pv 0) (pa_cons (pe_callB call_len_seq (by rfl) B.len PySem.boot_len (pa_cons (pv 1) pa_nil)) (pa_cons (pe_callB call_len_seq (by rfl) B.len PySem.boot_len (pa_cons (pv 1) pa_nil)) pa_nil))))))
        (pss_one (ps_ret pe_bl)) pss_nil)
      (pss_one (ps_ret (pe_call G2 hr (by rfl) g2 F2.kp b2 .nil pass0 (pa_cons (pe_callTy (r := rTupK K) call_tupK (by rfl) B.tuple PyProof.Rows.boot_tuple (pa_cons
        (pe_lc (own := [("place", 2)]) (wi := iTup K (tVar 0)) (g := gName 2) rfl scWished.nd (pi_tup (pv 0)) (blkOk_by (own := [("place", 2)]) (N := ["thing", "manys", "place"]) (sc := defScope sWished) (by decide +kernel))
          (fun _ _ _ _ _ => pg_name (i := 2) scWished.nd rfl (Or.inl rfl)) (fun _ _ _ _ _ => pts_nil)
          (fun _ _ _ _ _ => pe_ifExp (pt_cmpR op_isN (pv 2) pe_non (nomark _)) pe_int (pv 2))) pa_nil)) (pa_cons (pv 1) pa_nil))))), ?_⟩
    refine ⟨v, rfl, .ref b, rfl, b, _, rfl, .inl hy, .ref b, rfl, b, _, rfl, .inl hy, v, d, _, _, rfl, hv, _, rfl, ?_⟩
    have lm : ((ms.map V.int).length) = ms.length := List.length_map ..
    cases ht : isTup d with
    | false =>
      have z : wishedB d ms = false := by unfold wishedB; rw [ht]; rfl
      rw [z] at q
      refine iteT ?_
      exact q H (Evl.Ex.refl H)
    | true =>
      obtain ⟨ds, rfl⟩ := tup_of ht
      obtain ⟨a, xs, rfl, hx, hi⟩ := hv.items
      have xl := hi.len
      by_cases hl : ds.length = ms.length
      · have z : (decide (((ms.map V.int).length : Int) ≤ ((itemsD (.tuple ds)).length : Int)) && decide (((itemsD (.tuple ds)).length : Int) ≤ ((ms.map V.int).length : Int))) = true := by
          rw [lm]
          show (decide ((ms.length : Int) ≤ (ds.length : Int)) && decide ((ds.length : Int) ≤ (ms.length : Int))) = true
          rw [hl]
          simp
        rw [z]
        refine iteF ?_
        refine ⟨.ref a, rfl, a, rfl, ⟨_, hx⟩, fun D hD => ?_⟩
        refine lc_tup (K := K) (a := a) (xs := xs) (fun i H' => Evl.Ex H H' ∧ H' D = some (.lst ((xs.take i).map zV))) ⟨Evl.Ex.new hD, upd_same⟩ ?_ ?_ ?_
        · rintro i H' _ ⟨e, _⟩
          exact Evl.ex_t e hx
        · rintro i x H1 hxi ⟨e, hD1⟩
          have il : i < xs.length := (List.getElem?_eq_some_iff.mp hxi).1
          refine ⟨rfl, x, rfl, rfl, decide (x = .non), rfl, ?_⟩
          have step : H1 D = some (.lst ((xs.take i).map zV)) ∧ ((xs.take i).map zV).length < sizeLine ∧ Evl.Ex H (upd H1 D (.lst ((xs.take i).map zV ++ [zV x]))) ∧ (upd H1 D (.lst ((xs.take i).map zV ++ [zV x]))) D = some (.lst ((xs.take (i + 1)).map zV)) := by
            refine ⟨hD1, Nat.lt_of_le_of_lt (by rw [List.length_map, List.length_take]; omega : ((xs.take i).map zV).length ≤ 60) (by decide), e.mut hD, ?_⟩
            rw [upd_same, take_succ_get hxi, List.map_append]
            rfl
          by_cases hx0 : x = .non
          · have hz : zV x = .int 0 := by unfold zV; rw [if_pos (decide_eq_true hx0)]
            rw [hz] at step
            rw [decide_eq_true hx0]
            refine iteT ?_
            exact ⟨_, step⟩
          · have hz : zV x = x := by unfold zV; rw [if_neg (by rw [decide_eq_false hx0]; exact Bool.false_ne_true)]
            rw [hz] at step
            rw [decide_eq_false hx0]
            refine iteF ?_
            exact ⟨x, rfl, _, step⟩
        · rintro H1 ⟨e, hD1⟩
          rw [List.take_length] at hD1
          refine ⟨D, _, rfl, .inl ⟨.inl (.inl hD1), fun t nt => ?_⟩⟩
          have e2 := Evl.Ex.new (o := .tup (xs.map zV)) nt
          have e12 := e.trans e2
          have hT : Th K (upd H1 t (.tup (xs.map zV))) (.ref t) (.tuple (ds.map orZero)) := Th.tupI (.inl (.inl upd_same)) ((hi.zero).keep (TK.ex e12))
          have pB : placesB (.tuple (ds.map orZero)) ms = wishedB (.tuple ds) ms := by
            show (true && (decide ((ds.map orZero).length = ms.length) && allP (ds.map orZero) ms)) = (true && (decide (ds.length = ms.length) && allP (ds.map orZero) ms))
            rw [List.length_map]
          refine ⟨.ref b, rfl, .ref t, _, b, ms, rfl, hT, Evl.ex_l e12 hy, fun H2 e3 => ?_⟩
          rw [pB]
          exact q H2 (e12.trans e3)
      · have z : (decide (((ms.map V.int).length : Int) ≤ ((itemsD (.tuple ds)).length : Int)) && decide (((itemsD (.tuple ds)).length : Int) ≤ ((ms.map V.int).length : Int))) = false := by
          rw [lm]
          show (decide ((ms.length : Int) ≤ (ds.length : Int)) && decide ((ds.length : Int) ≤ (ms.length : Int))) = false
          rw [Bool.and_eq_false_iff]
          by_cases h : (ms.length : Int) ≤ ds.length
          · exact .inr (decide_eq_false (by omega))
          · exact .inl (decide_eq_false h)
        rw [z]
        have pB : wishedB (.tuple ds) ms = false := by
          show (true && (decide (ds.length = ms.length) && allP (ds.map orZero) ms)) = false
          rw [decide_eq_false hl]
          rfl
        rw [pB] at q
        refine iteT ?_
        exact q H (Evl.Ex.refl H)
theorem ok_isStand {f : Addr} {fd : FuncData} (F : Fun K "is_stand" "is_stand" sIsStand f fd) (D : Pr K mg) : FnOk P w K mg base CX0 8 f fd ["lock", "thing"] (spIsStand K) := by
  have G24 : FnOk P w K mg base CX0 7 D.f24 D.d24 ["lock"] (spFault K) := ok_needL D
  have G23 : FnOk P w K mg base CX0 1 D.f23 D.d23 ["lock"] (spManys K) := ok_manys D
  have G4 : FnOk P w K mg base CX0 2 D.f4 D.d4 ["thing", "manys"] (spPlacesG K) := ok_placesG D.F4 D.F3 D.b3 D.g3 D.B
  refine F.ok scIsStand (fun vs H Q E h => ?_) (fun cdv A outer s H vs Q E hr h => ?_)
  · obtain ⟨v, u, l, d, rfl, _⟩ := h; rfl
  · obtain ⟨v, u, l, d, rfl, hv, ok, hu, q⟩ := h
    have hr1 : Room 1 _ := hr.mono (by decide)
    have hr2 : Room 2 _ := hr.mono (by decide)
    refine ⟨_, pss_cons (ps_expr (pe_call G24 hr (by rfl) D.g24 D.F24.kp D.b24 .nil pass0 (pa_cons (pv 0) pa_nil)))
      (pss_one (ps_ret (pe_call G4 hr2 (by rfl) D.g4 D.F4.kp D.b4 .nil pass0 (pa_cons (pv 1) (pa_cons (pe_call G23 hr1 (by rfl) D.g23 D.F23.kp D.b23 .nil pass0 (pa_cons (pv 0) pa_nil)) pa_nil))))), ?_⟩
    refine ⟨v, rfl, v, l, rfl, hv, ok, fun H1 e1 => ?_⟩
    refine ⟨u, rfl, v, rfl, v, l, rfl, hv.mono (TX.ex e1), ok.n1, fun H2 p e2 np hp => ?_⟩
    have e12 := e1.trans e2
    exact ⟨u, d, p, _, rfl, hu.keep (TK.ex e12), .inl (.inl hp), fun H3 e3 => q H3 (e12.trans e3)⟩
theorem ok_isWish {f f5 : Addr} {fd fd5 : FuncData} (F : Fun K "is_wish" "is_wish" sIsWish f fd) (F5 : Fun K "are_wished" "are_wished" sWished f5 fd5) (b5 : Binds K fd5 ["thing", "manys"] []) (g5 : mg "are_wished" = some (.ref f5)) (D : Pr K mg) : FnOk P w K mg base CX0 8 f fd ["lock", "thing"] (spIsWish K) := by
  have G24 : FnOk P w K mg base CX0 7 D.f24 D.d24 ["lock"] (spFault K) := ok_needL D
  have G23 : FnOk P w K mg base CX0 1 D.f23 D.d23 ["lock"] (spManys K) := ok_manys D
  have G5 : FnOk P w K mg base CX0 3 f5 fd5 ["thing", "manys"] (spWishedG K) := ok_wishedG F5 D.F3 D.b3 D.g3 D.F4 D.b4 D.g4 D.B
  refine F.ok scIsWish (fun vs H Q E h => ?_) (fun cdv A outer s H vs Q E hr h => ?_)
  · obtain ⟨v, u, l, d, rfl, _⟩ := h; rfl
  · obtain ⟨v, u, l, d, rfl, hv, ok, hu, q⟩ := h
    have hr1 : Room 1 _ := hr.mono (by decide)
    have hr3 : Room 3 _ := hr.mono (by decide)
    refine ⟨_, pss_cons (ps_expr (pe_call G24 hr (by rfl) D.g24 D.F24.kp D.b24 .nil pass0 (pa_cons (pv 0) pa_nil)))
      (pss_one (ps_ret (pe_call G5 hr3 (by rfl) g5 F5.kp b5 .nil pass0 (pa_cons (pv 1) (pa_cons (pe_call G23 hr1 (by rfl) D.g23 D.F23.kp D.b23 .nil pass0 (pa_cons (pv 0) pa_nil)) pa_nil))))), ?_⟩
    refine ⟨v, rfl, v, l, rfl, hv, ok, fun H1 e1 => ?_⟩
    refine ⟨u, rfl, v, rfl, v, l, rfl, hv.mono (TX.ex e1), ok.n1, fun H2 p e2 np hp => ?_⟩
    have e12 := e1.trans e2
    have ml : (manysOf l).length ≤ 60 := by unfold manysOf; rw [List.length_map]; exact ok.n1
    exact ⟨u, d, p, _, rfl, hu.keep (TK.ex e12), .inl (.inl hp), ml, fun H3 e3 => q H3 (e12.trans e3)⟩
end
end Wb

set_option Elab.async false
set_option linter.all false
set_option maxRecDepth 100000
set_option maxHeartbeats 4000000
set_option pp.maxSteps 600
set_option pp.deepTerms false
namespace Wb
open PySem PySem.Spec PyProof.Rows L2
abbrev sLMany : Stmt := topS 40
theorem scLMany : FnScope ["_law_lock_here", "_law_found", "_law_bolt"] ["_law_lock_here"] (defScope sLMany) := ⟨rfl, rfl, rfl, by decide +kernel, rfl, by decide +kernel, by decide +kernel⟩
theorem ip_times {X : Cx} : PIp X .Mult (fun x y H Q => ∃ i j, x = .int i ∧ y = .int j ∧ CMul i j ∧ Q (.int (i * j)) H) := by
  intro pins s σ H x y v u Q I rx ry h
  obtain ⟨i, j, ex, ey, hc, q⟩ := h
  subst ex
  subst ey
  obtain ⟨t, rfl⟩ := rx
  obtain ⟨t', rfl⟩ := ry
  exact PyProof.Rows.imul_int ⟨.int _, H, I.tok _, ⟨_, rfl⟩, q⟩ hc.ok
theorem prodL_snoc (ms : List Int) (m : Int) : prodL (ms ++ [m]) = prodL ms * m := by
  unfold prodL
  rw [List.foldl_append]
  rfl
theorem fold_bound : ∀ {ms : List Int} {a : Int}, 0 ≤ a → (∀ m ∈ ms, 0 ≤ m ∧ m ≤ 4) → 0 ≤ ms.foldl (fun a b => a * b) a ∧ ms.foldl (fun a b => a * b) a ≤ a * 4 ^ ms.length
  | [], a, h0, _ => ⟨h0, by simp⟩
  | m :: ms, a, h0, h => by
    obtain ⟨m0, m4⟩ := h m List.mem_cons_self
    have am0 : 0 ≤ a * m := Int.mul_nonneg h0 m0
    obtain ⟨g0, g1⟩ := fold_bound (ms := ms) (a := a * m) am0 fun m' hm => h m' (List.mem_cons_of_mem _ hm)
    refine ⟨g0, Int.le_trans g1 ?_⟩
    have p0 : (0 : Int) ≤ 4 ^ ms.length := Int.pow_nonneg (by decide)
    have h1 : a * m ≤ a * 4 := Int.mul_le_mul_of_nonneg_left m4 h0
    have h2 : a * m * 4 ^ ms.length ≤ a * 4 * 4 ^ ms.length := Int.mul_le_mul_of_nonneg_right h1 p0
    rw [List.length_cons, Int.pow_succ, Int.mul_comm (4 ^ ms.length) 4, ← Int.mul_assoc]
    exact h2
theorem prodL_bound {ms : List Int} (h : ∀ m ∈ ms, 0 ≤ m ∧ m ≤ 4) : 0 ≤ prodL ms ∧ prodL ms ≤ 4 ^ ms.length := by
  have := fold_bound (a := 1) (by decide) h
  rw [Int.one_mul] at this
  exact this
theorem prod_fine {l : Lock} (ok : LockOk l) : Fine (.int (prodL (manysOf l))) 0 80 := by
  have hb := prodL_bound (ms := manysOf l) fun m hm => by
    obtain ⟨b, hb, rfl⟩ := List.mem_map.mp hm
    obtain ⟨k, hk⟩ := List.mem_iff_getElem?.mp hb
    have BO := ok.bolts k b hk
    have := BO.m0
    have := BO.m1
    omega
  have ml : (manysOf l).length ≤ 60 := by unfold manysOf; rw [List.length_map]; exact ok.n1
  have hp : (4 : Int) ^ (manysOf l).length ≤ 4 ^ 60 := by
    have : (4 : Nat) ^ (manysOf l).length ≤ 4 ^ 60 := Nat.pow_le_pow_right (by decide) ml
    exact_mod_cast this
  have hn : (prodL (manysOf l)).natAbs < 10 ^ 40 := by
    have h1 : prodL (manysOf l) ≤ 4 ^ 60 := Int.le_trans hb.2 hp
    have h0 := hb.1
    have e : (4 : Int) ^ 60 = 1329227995784915872903807060280344576 := by decide
    rw [e] at h1
    have e2 : (10 : Nat) ^ 40 = 10000000000000000000000000000000000000000 := by decide
    rw [e2]
    omega
  refine ⟨by simp only [PyData.canLay0], ?_, by simp only [PyData.depth]; omega, ?_⟩
  · simp only [PyData.showable]
    refine decide_eq_true ?_
    by_cases z : (prodL (manysOf l)).natAbs = 0
    · rw [z]; decide
    · refine (Nat.log2_lt z).mpr (Nat.lt_of_lt_of_le hn ?_)
      exact Nat.le_trans (show 10 ^ 40 ≤ 2 ^ 150 by decide) (Nat.pow_le_pow_right (by decide) (by decide))
  · simp only [PyData.shown]
    rw [PySem.ofString_length]
    exact Nat.le_trans (int_text_length_le10 (k := 40) (by decide) hn) (by decide)
def spLMany (K : PySem.W.Frag) : Sp := fun vs H Q _ => ∃ (v : V) (l : Lock), vs = [v] ∧ LockAt K H v l ∧ LockOk l ∧ Q (.int (prodL (manysOf l))) H
section
variable {P : Program} {w : World} {K : PySem.W.Frag} {mg : Str → Option Value} {base : Heap}
theorem ok_lmany {f : Addr} {fd : FuncData} (F : Fun K "_law_many" "_law_many" sLMany f fd) : FnOk P w K mg base CX0 1 f fd ["_law_lock_here"] (spLMany K) := by
  refine F.ok scLMany (fun vs H Q E h => ?_) (fun cdv A outer s H vs Q E hr h => ?_)
  · obtain ⟨v, l, rfl, _⟩ := h; rfl
  · obtain ⟨v, l, rfl, ⟨a, bs, rfl, ha, hbs⟩, ok, q⟩ := h
    refine ⟨_, pss_cons (ps_set (i := 1) scLMany.nd rfl (.inl rfl) pe_int)
      (pss_cons (ps_for PassesOwn.never rfl (pi_tup (pv 0)) (pg_name (i := 2) scLMany.nd rfl (.inl rfl))
        (pss_one (ps_set (i := 1) scLMany.nd rfl (.inl rfl) (pe_op op_mul (pv 1) (pe_ix (r := rIxT K) ix_tup (pv 2) pe_int (fun _ _ => rfl))))))
      (pss_one (ps_ret (pv 1)))), ?_⟩
    refine ⟨.ref a, rfl, a, rfl, ⟨_, ha⟩, ?_⟩
    refine for_tup (K := K) (a := a) (xs := bs) (fun i σ H' => H' = H ∧ ∃ y2, σ = [some (.ref a), some (.int (prodL ((manysOf l).take i))), y2]) ⟨rfl, none, rfl⟩ ?_ ?_ ?_
    · rintro i σ H' _ ⟨rfl, _⟩
      exact ha
    · rintro i x σ H' hx ⟨rfl, y2, rfl⟩
      obtain ⟨b, hb, ⟨a1, c1, gs, rfl, h1, h2, h3⟩⟩ := Paired.get1 hbs hx
      have BO := ok.bolts i b hb
      have m0 := BO.m0
      have m1 := BO.m1
      have mm : (manysOf l)[i]? = some b.many := by
        unfold manysOf
        rw [List.getElem?_map, hb]
        rfl
      refine ⟨.int _, rfl, .ref a1, rfl, a1, _, 0, .int b.many, rfl, rfl, h1, atI_nat (j := 0) rfl, _, _, rfl, rfl, .inr ⟨by omega, by omega⟩, rfl, some (.ref a1), ?_⟩
      rw [take_succ_get mm, prodL_snoc]
      rfl
    · rintro σ H' ⟨rfl, y2, rfl⟩
      refine ⟨.int _, rfl, ?_⟩
      have bl : bs.length = (manysOf l).length := by unfold manysOf; rw [List.length_map, Paired.len hbs]
      rw [bl, List.take_length]
      exact q
theorem ok_standsOf {f : Addr} {fd : FuncData} (F : Fun K "stands_of" "stands_of" sStandsOf f fd) (D : Pr K mg) : FnOk P w K mg base CX0 8 f fd ["lock"] (spStandsOf K) := by
  have G24 : FnOk P w K mg base CX0 7 D.f24 D.d24 ["lock"] (spFault K) := ok_needL D
  have G23 : FnOk P w K mg base CX0 1 D.f23 D.d23 ["lock"] (spManys K) := ok_manys D
  refine F.ok scStandsOf (fun vs H Q E h => ?_) (fun cdv A outer s H vs Q E hr h => ?_)
  · obtain ⟨v, l, rfl, _⟩ := h; rfl
  · obtain ⟨v, l, rfl, hv, ok, q⟩ := h
    have hr1 : Room 1 _ := hr.mono (by decide)
    refine ⟨_, pss_cons (ps_expr (pe_call G24 hr (by rfl) D.g24 D.F24.kp D.b24 .nil pass0 (pa_cons (pv 0) pa_nil)))
      (pss_cons (ps_set (i := 1) scStandsOf.nd rfl (.inl rfl) pe_int)
      (pss_cons (ps_for PassesOwn.never rfl (pi_list (pe_call G23 hr1 (by rfl) D.g23 D.F23.kp D.b23 .nil pass0 (pa_cons (pv 0) pa_nil))) (pg_name (i := 2) scStandsOf.nd rfl (.inl rfl))
        (pss_one (ps_aug (i := 1) scStandsOf.nd rfl (.inl rfl) (pv 2) ip_times)))
      (pss_one (ps_ret (pv 1))))), ?_⟩
    refine ⟨v, rfl, v, l, rfl, hv, ok, fun H1 e1 => ?_⟩
    refine ⟨v, rfl, v, l, rfl, hv.mono (TX.ex e1), ok.n1, fun H2 p e2 np hp => ?_⟩
    refine ⟨p, rfl, ⟨_, SqL.of hp⟩, ?_⟩
    refine for_list (K := K) (a := p) (xs := (manysOf l).map V.int) (fun i σ H' => H' = H2 ∧ ∃ y2, σ = [some v, some (.int (prodL ((manysOf l).take i))), y2]) ⟨rfl, none, rfl⟩ ?_ ?_ ?_
    · rintro i σ H' _ ⟨rfl, _⟩
      exact SqL.of hp
    · rintro i x σ H' hx ⟨rfl, y2, rfl⟩
      obtain ⟨m, hm, rfl⟩ := get_map_int hx
      have hm2 : m ∈ manysOf l := List.mem_of_getElem? hm
      obtain ⟨b, hb, rfl⟩ := List.mem_map.mp hm2
      obtain ⟨k, hk⟩ := List.mem_iff_getElem?.mp hb
      have BO := ok.bolts k b hk
      have m0 := BO.m0
      have m1 := BO.m1
      refine ⟨_, rfl, .int b.many, rfl, _, _, rfl, rfl, .inr ⟨by omega, by omega⟩, rfl, some (.int b.many), ?_⟩
      rw [take_succ_get hm, prodL_snoc]
      rfl
    · rintro σ H' ⟨rfl, y2, rfl⟩
      rw [List.length_map, List.take_length]
      exact ⟨.int _, rfl, q _ (e1.trans e2)⟩
end
end Wb

set_option Elab.async false
set_option linter.all false
set_option maxRecDepth 100000
set_option maxHeartbeats 4000000
set_option pp.maxSteps 600
set_option pp.deepTerms false
namespace HT
open PySem PySem.Spec PyProof.Rows
section
variable {prog : Program} {w : World} {A : Around} {E : Value → Shared → Prop} {s : Shared}
theorem adjust_back (n : Nat) : Builtin.Slice.sliceAdjust none none (-1) (n : Int) = ((n : Int) - 1, -1) := by
  unfold Builtin.Slice.sliceAdjust
  rfl
theorem places_back (n : Nat) : Builtin.Slice.slicePlaces ((n : Int) - 1) (-1) (-1) = n := by
  unfold Builtin.Slice.slicePlaces
  rw [if_neg (by decide)]
  by_cases h : ((n : Int) - 1 > -1)
  · rw [if_pos h, show (-(-1) : Int) = 1 from rfl, Int.ediv_one]
    omega
  · rw [if_neg h]
    omega
theorem fm_congr {α β : Type} {f g : α → Option β} : ∀ {xs : List α}, (∀ x ∈ xs, f x = g x) → xs.filterMap f = xs.filterMap g
  | [], _ => rfl
  | x :: xs, h => by
    rw [List.filterMap_cons, List.filterMap_cons, h x List.mem_cons_self, fm_congr fun y hy => h y (List.mem_cons_of_mem _ hy)]
theorem pick_back (xs : Array Value) : ((List.range xs.size).filterMap fun (m : Nat) => xs[(((xs.size : Int) - 1) + (m : Int) * (-1)).toNat]?).toArray = xs.toList.reverse.toArray := by
  have z := PySem.W.krv_pick xs
  rw [← z]
  unfold slicePick
  rw [PySem.W.krv_bounds]
  show _ = ((sliceRange ((xs.size : Int) - 1) (-1) (-1)).filterMap (xs[·]?)).toArray
  rw [PySem.W.krv_sliceRange, List.filterMap_map]
  congr 1
  refine fm_congr fun m hm => ?_
  have := List.mem_range.mp hm
  show xs[(((xs.size : Int) - 1) + (m : Int) * (-1)).toNat]? = xs[xs.size - 1 - m]?
  rw [show (((xs.size : Int) - 1) + (m : Int) * (-1)).toNat = xs.size - 1 - m by omega]
theorem applied_back {q : Addr} {vs : Value} {n : Nat} {Q : Int × Int × Nat → Shared → Prop} (hq : s.heap.IsSliceOf q .none .none vs) (hv : IsPart vs (some (-1)))
    (h : Q ((n : Int) - 1, -1, n) s) : wpAny (model prog w) A (Builtin.Slice.sliceApplied (.ref q) (pure (n : Int))) Q E s := by
  obtain ⟨ob, g1, g2, g3⟩ := id hq
  unfold Builtin.Slice.sliceApplied Builtin.Slice.sliceFields
  refine wpAny_bind (wpAny_bind (wpAny_field g1 g3 (x := .none) rfl ?_))
  refine wpAny_bind (wpAny_field g1 g3 (x := .none) rfl ?_)
  refine wpAny_bind (wpAny_field g1 g3 (x := vs) rfl (wpAny_pure ?_))
  refine wpAny_bind (slicePart_ hv ?_)
  show wpAny _ _ (if ((-1 : Int) == 0) = true then _ else _) _ _ s
  rw [if_neg (by decide)]
  refine wpAny_bind (slicePart_none ?_)
  refine wpAny_bind (slicePart_none ?_)
  refine wpAny_bind (wpAny_pure ?_)
  show wpAny _ _ (match Builtin.Slice.sliceAdjust none none (-1) (n : Int) with | (lo, hi) => pure (lo, (-1 : Int), Builtin.Slice.slicePlaces lo hi (-1))) _ _ s
  rw [adjust_back]
  show wpAny _ _ (pure ((n : Int) - 1, (-1 : Int), Builtin.Slice.slicePlaces ((n : Int) - 1) (-1) (-1))) _ _ s
  rw [places_back]
  exact wpAny_pure h
theorem getItem_back {t q : Addr} {xs : Array Value} {vs : Value} {Q : Value → Shared → Prop} (ht : IsTup s.heap t xs) (hq : s.heap.IsSliceOf q .none .none vs) (hv : IsPart vs (some (-1)))
    (h : Q (.ref s.heap.objs.size) { s with heap := s.heap.push { cls := .type "tuple", data := .seq xs.toList.reverse.toArray } }) (hz : xs.size ≤ sizeLine) : wpAny (model prog w) A (getItem (.ref t) (.ref q)) Q E s := by
  have small : sizeOk (.seq xs.toList.reverse.toArray) := by
    show xs.toList.reverse.toArray.size ≤ sizeLine
    rw [List.size_toArray, List.length_reverse, Array.length_toList]
    exact hz
  obtain ⟨ob, g1, g2, g3⟩ := id hq
  have tq : s.TypeIs (.ref q) "slice" := ⟨ob, g1, g2⟩
  unfold getItem
  try with_reducible refine wpAny_holding ?_
  first
    | refine wpAny_bind (wpAny_pure ?_)
    | skip
  refine wpAny_bind (wpAny_sequenceKey ht.typeIs (by decide) ?_)
  refine wpAny_bind (wpAny_callSpecial?_slot (name := Str.ofString "__getitem__") ht.typeIs PyProof.Rows.slot_tuple_getitem (wpAny_call_entry PyProof.Rows.slot_tuple_getitem ht.typeIs entry_tuple_getitem ?_ (args_tuple_getitem _ _)))
  show wpAny _ _ (Builtin.Tuple.tupleItemsOf (.ref t) >>= _) _ _ s
  refine wpAny_bind (tupleItemsOf_ ht ?_)
  refine wpAny_bind (wpAny_typeOf tq ?_)
  rw [if_pos (by decide)]
  refine wpAny_bind (applied_back hq hv ?_)
  have no : ¬ ((((xs.size : Int) - 1 == 0) && ((-1 : Int) == 1) && (xs.size == xs.size)) = true) := by
    have z : ((-1 : Int) == 1) = false := by decide
    rw [z, Bool.and_false, Bool.false_and]
    exact Bool.false_ne_true
  show wpAny _ _ (if (((xs.size : Int) - 1 == 0) && ((-1 : Int) == 1) && (xs.size == xs.size)) = true then _ else _) _ _ s
  rw [if_neg no, pick_back]
  first
    | exact wpAny_bind (m := Builtin.Tuple.tupleExact _) (wpAny_newObj_type (wpAny_pure ⟨_, rfl, wpAny_pure h⟩) small)
    | exact wpAny_bind (m := Builtin.Tuple.tupleExact _) (wpAny_newObj_type (wpAny_bind (wpAny_pure (wpAny_pure ⟨_, rfl, wpAny_pure h⟩))) small)
    | exact wpAny_bind (wpAny_bind (m := Builtin.Tuple.tupleExact _) (wpAny_newObj_type (wpAny_pure (wpAny_pure ⟨_, rfl, wpAny_pure h⟩)) small))
    | exact wpAny_bind (wpAny_bind (m := Builtin.Tuple.tupleExact _) (wpAny_newObj_type (wpAny_pure ⟨_, rfl, wpAny_pure h⟩) small))
end
end HT
namespace Wb
open PySem PySem.Spec PyProof.Rows L2
section
variable {X : Cx}
/-- t[::-1] -/
def tBack (K : PySem.W.Frag) (te : TE) : TE := fun σ H Q => te σ H fun x H1 => ∃ a xs, x = .ref a ∧ SqT K H1 a xs ∧ ∀ q, H1 q = none → Q (.ref q) (upd H1 q (.tup xs.reverse))
theorem pe_back {e : Expr} {te : TE} {j : Nat} {pa pb pc pos : Pos} (he : PE X e te) : PE X (.Subscript e (.Slice none none (some (.UnaryOp .USub (.Constant (.int 1) j pa) pb)) pc) pos) (tBack X.K te) := by
  refine ⟨fun pins s σ H Q I h => ?_⟩
  refine Subscript_ (thn (he.run pins s σ H _ I h) fun v s1 ⟨x, H1, I1, r1, q1⟩ => ?_)
  obtain ⟨a, xs, ex, hx, q⟩ := q1
  rw [ex] at r1
  cases r1
  have minus : PO X (some (.UnaryOp .USub (.Constant (.int 1) j pa) pb)) (tPart (tUn (rU fun i => .int (-i)) (tC (.int 1)))) := po_some (pe_un un_neg pe_int)
  refine wpAny_Slice (thn (po_none.run pins s1 σ H1 (fun o G => o = none ∧ G = H1) I1 ⟨rfl, rfl⟩) fun v1 s2 ⟨o1, G1, J1, p1, eo1, eG1⟩ => ?_)
  rw [eo1] at p1
  rw [eG1] at J1
  refine thn (po_none.run pins s2 σ H1 (fun o G => o = none ∧ G = H1) J1 ⟨rfl, rfl⟩) fun v2 s3 ⟨o2, G2, J2, p2, eo2, eG2⟩ => ?_
  rw [eo2] at p2
  rw [eG2] at J2
  refine thn (minus.run pins s3 σ H1 (fun o G => o = some (-1) ∧ G = H1) J2 ⟨1, rfl, -1, rfl, rfl, rfl⟩) fun v3 s4 ⟨o3, G3, J3, p3, eo3, eG3⟩ => ?_
  rw [eo3] at p3
  rw [eG3] at J3
  cases p1
  cases p2
  have J4 : Inv X pins σ H1 { s4 with heap := s4.heap.push { cls := .type "slice", data := .fields #[.none, .none, v3] } } := J3.kept (t' := s4.toks) fun b ob g => Heap.get?_push_of_some _ g
  obtain ⟨its, r, ht, hz⟩ := J4.tuple hx
  have hlen := r.length
  show wpAny (model X.prog X.w) X.A (subscriptTail e (.Slice none none (some (.UnaryOp .USub (.Constant (.int 1) j pa) pb)) pc) (.ref a) (.ref s4.heap.objs.size)) (EP X pins σ Q) X.xe
    { s4 with heap := s4.heap.push { cls := .type "slice", data := .fields #[.none, .none, v3] } }
  refine tail_any (ops := [.ref a, .ref s4.heap.objs.size]) ht.typeIs PyProof.Rows.slot_tuple_getitem.lookup ?_ (by with_unfolding_all rfl)
  refine HT.getItem_back ht (Heap.IsSliceOf.new _ .none .none v3) p3 ?_ (by rw [List.size_toArray]; omega)
  refine ⟨.ref _, _, J4.laid (t' := s4.toks) (o := .tup xs.reverse) (fun b ob g => Heap.get?_push_of_some _ g) (Nat.le_refl _) ?_, rfl, q _ (J4.hok.fresh (Nat.le_refl _))⟩
  exact ⟨by rw [List.length_reverse]; exact hz, _, r.reverse, IsTup.new _ _⟩
/-- str of an int or of None -/
theorem call_strO : CallR X (.type "str") (fun xs H Q => (∃ i, xs = [.int i] ∧ i.natAbs.log2 < 1920 ∧ Q (.str (toString i)) H) ∨ (xs = [.non] ∧ Q (.str "None") H)) := by
  intro pins s σ H xs us Q I r h
  rcases h with h | ⟨rfl, q⟩
  · exact call_str_int pins s σ H xs us Q I r h
  · cases r with
    | cons r1 r2 =>
      cases r2
      cases r1
      exact PySem.P.str_of_none ⟨.str _, H, I.tok _, ⟨_, rfl⟩, q⟩
end
end Wb

set_option Elab.async false
set_option linter.all false
set_option maxRecDepth 100000
set_option maxHeartbeats 4000000
set_option pp.maxSteps 600
set_option pp.deepTerms false
namespace Wb
open PySem PySem.Spec PyProof.Rows L2
abbrev sLWhole : Stmt := topS 36
abbrev sLIsWord : Stmt := topS 39
theorem scLWhole : FnScope ["_law_thing", "_law_least_one", "_law_most_one"] ["_law_thing", "_law_least_one", "_law_most_one"] (defScope sLWhole) := ⟨rfl, rfl, rfl, by decide +kernel, rfl, by decide +kernel, by decide +kernel⟩
abbrev nLIsWord : List Str := ["_law_lock_here", "_law_thing", "_law_is_wish_like", "_law_bad", "_law_k"]
theorem scLIsWord : FnScope nLIsWord ["_law_lock_here", "_law_thing", "_law_is_wish_like"] (defScope sLIsWord) := ⟨rfl, rfl, rfl, by decide +kernel, rfl, by decide +kernel, by decide +kernel⟩
def wholeB : PyData → Int → Int → Bool
  | .int i, l, m => decide (l ≤ i) && decide (i ≤ m)
  | _, _, _ => false
theorem whole_place (d : PyData) (m : Int) : wholeB d 0 (m - 1) = placeB d m := by
  cases d <;> first
    | rfl
    | skip
  rename_i i
  show (decide (0 ≤ i) && decide (i ≤ m - 1)) = (decide (0 ≤ i) && decide (i < m))
  congr 1
  exact decide_eq_decide.mpr (by omega)
def spLWhole (K : PySem.W.Frag) : Sp := fun vs H Q _ => ∃ (v : V) (d : PyData) (l m : Int), vs = [v, .int l, .int m] ∧ Th K H v d ∧ Q (.bl (wholeB d l m)) H
def spIsWord (K : PySem.W.Frag) : Sp := fun vs H Q _ => ∃ (v u : V) (l : Lock) (d : PyData) (wl : Bool), vs = [v, u, .bl wl] ∧ LockAt K H v l ∧ LockOk l ∧ Th K H u d ∧ ∀ H', Evl.Ex H H' → Q (.bl (if wl = true then wishedB d (manysOf l) else placesB d (manysOf l))) H'
def badK (ds : List PyData) (ms : List Int) (k : Nat) : Bool := !placeB (ds.getD k .none) (ms.getD k 0)
def notNone : PyData → Bool
  | .none => false
  | _ => true
theorem allP_iff : ∀ {ds : List PyData} {ms : List Int}, ds.length = ms.length → (allP ds ms = true ↔ ∀ k, k < ds.length → placeB (ds.getD k .none) (ms.getD k 0) = true)
  | [], [], _ => ⟨fun _ k hk => absurd hk (Nat.not_lt_zero k), fun _ => rfl⟩
  | d :: ds, m :: ms, h => by
    have ih := allP_iff (ds := ds) (ms := ms) (by simpa using h)
    simp only [allP, Bool.and_eq_true, ih]
    constructor
    · rintro ⟨h0, h1⟩ k hk
      cases k with
      | zero => simpa using h0
      | succ k => simpa using h1 k (by simpa using hk)
    · intro h2
      exact ⟨by simpa using h2 0 (by simp), fun k hk => by simpa using h2 (k + 1) (by simpa using hk)⟩
  | [], _ :: _, h => by simp at h
  | _ :: _, [], h => by simp at h
theorem getD_map_zero (ds : List PyData) (k : Nat) (h : k < ds.length) : (ds.map orZero).getD k .none = orZero (ds.getD k .none) := by
  rw [List.getD_eq_getElem?_getD, List.getD_eq_getElem?_getD, List.getElem?_map, List.getElem?_eq_getElem h]
  rfl
def outK (ds : List PyData) (ms : List Int) (wl : Bool) (k : Nat) : Bool := badK ds ms k && (notNone (ds.getD k .none) || !wl)
theorem out_nil {ds : List PyData} {ms : List Int} (wl : Bool) (hl : ds.length = ms.length) (hm : ∀ m ∈ ms, 1 ≤ m) :
    decide ((List.range ds.length).filter (outK ds ms wl) = []) = (if wl = true then allP (ds.map orZero) ms else allP ds ms) := by
  have e : (if wl = true then allP (ds.map orZero) ms else allP ds ms) = true ↔ ∀ k, k < ds.length → outK ds ms wl k = false := by
    cases wl with
    | false =>
      rw [if_neg Bool.false_ne_true, allP_iff hl]
      refine forall_congr' fun k => forall_congr' fun hk => ?_
      unfold outK badK
      simp
    | true =>
      rw [if_pos rfl, allP_iff (by rw [List.length_map]; exact hl)]
      rw [List.length_map]
      refine forall_congr' fun k => forall_congr' fun hk => ?_
      rw [getD_map_zero ds k hk]
      have hm1 : 1 ≤ ms.getD k 0 := by
        have hk2 : k < ms.length := by omega
        rw [List.getD_eq_getElem?_getD, List.getElem?_eq_getElem hk2]
        exact hm _ (List.getElem_mem hk2)
      unfold outK badK
      generalize ds.getD k .none = d
      generalize ms.getD k 0 = m at hm1
      cases d <;> simp [orZero, notNone, placeB]
      omega
  rw [Bool.eq_iff_iff, decide_eq_true_eq, List.filter_eq_nil_iff, e]
  constructor
  · intro h k hk
    simpa using h k (List.mem_range.mpr hk)
  · intro h k hk
    simpa using h k (List.mem_range.mp hk)
theorem non_data {K : PySem.W.Frag} {H : Hp} {v : V} {d : PyData} (h : Th K H v d) : (!decide (v = .non)) = notNone d := by
  rw [h.non_iff]
  cases d <;> rfl
section
variable {P : Program} {w : World} {K : PySem.W.Frag} {mg : Str → Option Value} {base : Heap}
theorem ok_lwhole {f : Addr} {fd : FuncData} (F : Fun K "_law_whole" "_law_whole" sLWhole f fd) (B : Bi mg) : FnOk P w K mg base CX0 1 f fd ["_law_thing", "_law_least_one", "_law_most_one"] (spLWhole K) := by
  refine F.ok scLWhole (fun vs H Q E h => ?_) (fun cdv A outer s H vs Q E hr h => ?_)
  · obtain ⟨v, d, l, m, rfl, _⟩ := h; rfl
  · obtain ⟨v, d, l, m, rfl, hv, q⟩ := h
    refine ⟨_, pss_one (ps_ret (pe_and (pe_callB call_isi (by rfl) B.isi boot_isinstance (pa_cons (pv 0) (pa_cons (pe_bltn (v := .ty "int") (by rfl) B.int (by decide +kernel) rfl) pa_nil)))
      (pe_and (pe_not (pe_callB call_isi (by rfl) B.isi boot_isinstance (pa_cons (pv 0) (pa_cons (pe_bltn (v := .ty "bool") (by rfl) B.bool (by decide +kernel) rfl) pa_nil))))
        (pe_one (pe_chain op_le op_le (pv 1) (pv 0) (pv 2)))))), ?_⟩
    refine ⟨v, rfl, v, .ty "int", .type (tyS d), .type "int", isInt d, rfl, .ty _, hv.ty, kit_ty (kit_int d), isInt d, rfl, ?_⟩
    cases hi : isInt d with
    | false =>
      rw [if_neg Bool.false_ne_true]
      have z : wholeB d l m = false := by
        cases d <;> first
          | rfl
          | cases hi
      rw [z] at q
      exact q
    | true =>
      rw [if_pos rfl]
      refine ⟨v, rfl, v, .ty "bool", .type (tyS d), .type "bool", isBool d, rfl, .ty _, hv.ty, kit_ty (kit_bool d), isBool d, rfl, ?_⟩
      cases hb : isBool d with
      | true =>
        refine ⟨false, rfl, ?_⟩
        rw [if_neg Bool.false_ne_true]
        have z : wholeB d l m = false := by
          cases d <;> first
            | rfl
            | cases hb
        rw [z] at q
        exact q
      | false =>
        refine ⟨true, rfl, ?_⟩
        rw [if_pos rfl]
        obtain ⟨i, rfl, rfl⟩ := hv.int_of hi hb
        refine ⟨.int l, rfl, .int i, rfl, l, i, rfl, rfl, decide (l ≤ i), rfl, ?_⟩
        have z : wholeB (.int i) l m = (decide (l ≤ i) && decide (i ≤ m)) := rfl
        rw [z] at q
        by_cases h1 : l ≤ i
        · rw [if_pos (decide_eq_true h1)]
          refine ⟨.int m, rfl, i, m, rfl, rfl, ?_⟩
          rw [decide_eq_true h1] at q
          exact q
        · rw [if_neg (by rw [decide_eq_false h1]; exact Bool.false_ne_true)]
          rw [decide_eq_false h1] at q
          exact q
theorem ok_isWord {f f1 : Addr} {fd fd1 : FuncData} (F : Fun K "_law_is_word" "_law_is_word" sLIsWord f fd) (F1 : Fun K "_law_whole" "_law_whole" sLWhole f1 fd1) (b1 : Binds K fd1 ["_law_thing", "_law_least_one", "_law_most_one"] []) (g1 : mg "_law_whole" = some (.ref f1)) (B : Bi mg) :
    FnOk P w K mg base CX0 2 f fd ["_law_lock_here", "_law_thing", "_law_is_wish_like"] (spIsWord K) := by
  have G1 : FnOk P w K mg base CX0 1 f1 fd1 ["_law_thing", "_law_least_one", "_law_most_one"] (spLWhole K) := ok_lwhole F1 B
  refine F.ok scLIsWord (fun vs H Q E h => ?_) (fun cdv A outer s H vs Q E hr h => ?_)
  · obtain ⟨v, u, l, d, wl, rfl, _⟩ := h; rfl
  · obtain ⟨v, u, l, d, wl, rfl, ⟨a, bs, rfl, ha, hbs⟩, ok, hu, q⟩ := h
    refine ⟨_, pss_cons (ps_if (PW.pt (pw_or (pt_not (pt_val (pe_callB call_isi (by rfl) B.isi boot_isinstance (pa_cons (pv 1) (pa_cons (pe_bltn (v := .ty "tuple") (by rfl) B.tuple (by decide +kernel) rfl) pa_nil)))))
          (pw_or1 (pt_cmpR op_ne (pe_callB call_len_seq (by rfl) B.len PySem.boot_len (pa_cons (pv 1) pa_nil)) (pe_callB call_len_seq (by rfl) B.len PySem.boot_len (pa_cons (pv 0) pa_nil)) (nomark _)))))
        (pss_one (ps_ret pe_bl)) pss_nil)
      (pss_cons (ps_setLc (i := 3) (own := [("_law_k", 4)]) (g := gName 4) (by rfl) scLIsWord.nd rfl rfl (sw_true rfl rfl rfl (by decide +kernel)) (pi_range1 (by rfl) B.range (pa_cons (pe_callB call_len_seq (by rfl) B.len PySem.boot_len (pa_cons (pv 0) pa_nil)) pa_nil)) (blkOk_by (own := [("_law_k", 4)]) (N := nLIsWord) (sc := defScope sLIsWord) (by decide +kernel))
          (fun _ _ _ _ _ => pg_name (i := 4) scLIsWord.nd rfl (Or.inl rfl))
          (fun _ _ _ _ _ => pts_one (pt_not (pt_val (pe_call G1 hr (by rfl) g1 F1.kp b1 .nil pass0 (pa_cons (pe_ix (r := rIxT K) ix_tup (pv 1) (pv 4) (fun _ _ => rfl)) (pa_cons pe_int (pa_cons (pe_op op_sub (pe_ix (r := rIxT K) ix_tup (pe_ix (r := rIxT K) ix_tup (pv 0) (pv 4) (fun _ _ => rfl)) pe_int (fun _ _ => rfl)) pe_int) pa_nil)))))))
          (fun _ _ _ _ _ => pv 4))
      (pss_one (ps_ret (pe_cmpR (op_eqD hr.units) (pe_lc (own := [("_law_k", 4)]) (wi := iList K (tVar 3)) (g := gName 4) rfl scLIsWord.nd (pi_list (pv 3)) (blkOk_by (own := [("_law_k", 4)]) (N := nLIsWord) (sc := defScope sLIsWord) (by decide +kernel))
          (fun _ _ _ _ _ => pg_name (i := 4) scLIsWord.nd rfl (Or.inl rfl))
          (fun _ _ _ _ _ => pts_one (PW.pt (pw_or (pt_cmpR op_notN (pe_ix (r := rIxT K) ix_tup (pv 1) (pv 4) (fun _ _ => rfl)) pe_non (nomark _)) (pw_or1 (pt_not (pt_val (pv 2)))))))
          (fun _ _ _ _ _ => pv 4)) (pe_lst pa_nil) (nomark _))))), ?_⟩
    have bl : bs.length = l.length := Paired.len hbs
    have ml : (manysOf l).length = l.length := by unfold manysOf; rw [List.length_map]
    have l60 := ok.n1
    refine ⟨u, rfl, u, .ty "tuple", .type (tyS d), .type "tuple", isTup d, rfl, .ty _, hu.ty, kit_ty (kit_tup d), isTup d, rfl, ?_⟩
    cases ht : isTup d with
    | false =>
      have z : (if wl = true then wishedB d (manysOf l) else placesB d (manysOf l)) = false := by
        unfold wishedB placesB
        rw [ht]
        cases wl <;> rfl
      rw [z] at q
      refine iteT (iteT ?_)
      exact q H (Evl.Ex.refl H)
    | true =>
      obtain ⟨ds, rfl⟩ := tup_of ht
      obtain ⟨ua, xs, rfl, hx, hi⟩ := hu.items
      have xl := hi.len
      refine iteF ?_
      refine ⟨.ref ua, rfl, ua, xs, rfl, .inr hx, .ref a, rfl, a, bs, rfl, .inr ha, rfl, _, rfl, ?_⟩
      refine ite2 (fun hc => ?_) (fun hc => ?_)
      · have hne : ds.length ≠ (manysOf l).length := fun z => by
          have z2 : V.int (xs.length : Nat) = V.int (bs.length : Nat) := by rw [xl, z, ml, bl]
          rw [decide_eq_true z2] at hc
          cases hc
        have z : (if wl = true then wishedB (.tuple ds) (manysOf l) else placesB (.tuple ds) (manysOf l)) = false := by
          have z1 : wishedB (.tuple ds) (manysOf l) = false := by
            show (true && (decide (ds.length = (manysOf l).length) && _)) = false
            rw [decide_eq_false hne]
            rfl
          have z2 : placesB (.tuple ds) (manysOf l) = false := by
            show (true && (decide (ds.length = (manysOf l).length) && _)) = false
            rw [decide_eq_false hne]
            rfl
          rw [z1, z2]
          cases wl <;> rfl
        rw [z] at q
        exact q H (Evl.Ex.refl H)
      · have hlen : ds.length = (manysOf l).length := by
          refine Classical.byContradiction fun z => hc ?_
          have z2 : ¬ V.int (xs.length : Nat) = V.int (bs.length : Nat) := fun e => z (by
            have := V.int.inj e
            omega)
          rw [decide_eq_false z2]
          rfl
        have hm1 : ∀ m ∈ manysOf l, 1 ≤ m := fun m hm => by
          obtain ⟨b, hb, rfl⟩ := List.mem_map.mp hm
          obtain ⟨k, hk⟩ := List.mem_iff_getElem?.mp hb
          have := (ok.bolts k b hk).m0
          omega
        have fin := out_nil (ds := ds) (ms := manysOf l) wl hlen hm1
        have goalB : (if wl = true then wishedB (.tuple ds) (manysOf l) else placesB (.tuple ds) (manysOf l)) = (if wl = true then allP (ds.map orZero) (manysOf l) else allP ds (manysOf l)) := by
          have z1 : wishedB (.tuple ds) (manysOf l) = allP (ds.map orZero) (manysOf l) := by
            show (true && (decide (ds.length = (manysOf l).length) && allP (ds.map orZero) (manysOf l))) = _
            rw [decide_eq_true hlen]
            simp
          have z2 : placesB (.tuple ds) (manysOf l) = allP ds (manysOf l) := by
            show (true && (decide (ds.length = (manysOf l).length) && allP ds (manysOf l))) = _
            rw [decide_eq_true hlen]
            simp
          rw [z1, z2]
        rw [goalB, ← fin] at q
        -- bad
        refine ⟨.ref a, rfl, a, bs, rfl, .inr ha, _, rfl, by omega, by omega, fun D hD => ?_⟩
        refine lc_range (lo := 0) (n := ((bs.length : Nat) : Int).toNat) (fun i H' => Evl.Ex H H' ∧ H' D = some (.lst ((((List.range i).filter (badK ds (manysOf l))).map (fun n : Nat => (n : Int))).map V.int))) ⟨Evl.Ex.new hD, upd_same⟩ ?_ ?_
        · rintro i H1 hi2 ⟨e, hD1⟩
          have il : i < l.length := by omega
          have ei : (0 : Int) + (i : Nat) = ((i : Nat) : Int) := by omega
          rw [ei]
          obtain ⟨x, hxi⟩ : ∃ x, xs[i]? = some x := ⟨xs[i], List.getElem?_eq_getElem (by omega)⟩
          obtain ⟨dx, hdx, hth⟩ := hi.get hxi
          obtain ⟨b, hb⟩ : ∃ b, l[i]? = some b := ⟨l[i], List.getElem?_eq_getElem il⟩
          obtain ⟨bv, hbv, ⟨a1, c1, gs, rfl, h1, h2, h3⟩⟩ := Paired.get2 hbs hb
          have mm : (manysOf l)[i]? = some b.many := by
            unfold manysOf
            rw [List.getElem?_map, hb]
            rfl
          have eD : ds.getD i .none = dx := by rw [List.getD_eq_getElem?_getD, hdx]; rfl
          have eM : (manysOf l).getD i 0 = b.many := by rw [List.getD_eq_getElem?_getD, mm]; rfl
          refine ⟨rfl, ?_⟩
          refine ⟨.ref ua, rfl, .int (i : Nat), rfl, ua, xs, (i : Nat), x, rfl, rfl, Evl.ex_t e hx, atI_nat hxi, ?_⟩
          refine ⟨.ref a, rfl, .int (i : Nat), rfl, a, bs, (i : Nat), .ref a1, rfl, rfl, Evl.ex_t e ha, atI_nat hbv, a1, _, 0, .int b.many, rfl, rfl, Evl.ex_t e h1, atI_nat (j := 0) rfl, b.many, 1, rfl, rfl, ?_⟩
          refine ⟨x, dx, 0, b.many - 1, rfl, hth.keep (TK.ex e), ?_⟩
          refine ⟨wholeB dx 0 (b.many - 1), rfl, ?_⟩
          rw [whole_place]
          have hbad : badK ds (manysOf l) i = !placeB dx b.many := by unfold badK; rw [eD, eM]
          have ll : ((((List.range i).filter (badK ds (manysOf l))).map (fun n : Nat => (n : Int))).map V.int).length ≤ 60 := by
            rw [List.length_map, List.length_map]
            have := List.length_filter_le (badK ds (manysOf l)) (List.range i)
            rw [List.length_range] at this
            omega
          cases hp : placeB dx b.many with
          | true =>
            refine iteF ?_
            refine ⟨e, ?_⟩
            rw [hD1, List.range_succ, List.filter_append, List.filter_cons, if_neg (by rw [hbad, hp]; exact Bool.false_ne_true)]
            simp
          | false =>
            refine iteT ?_
            refine ⟨.int (i : Nat), rfl, _, hD1, Nat.lt_of_le_of_lt ll (by decide), e.mut hD, ?_⟩
            rw [upd_same, List.range_succ, List.filter_append, List.filter_cons, if_pos (by rw [hbad, hp]; rfl)]
            simp
        · rintro H1 ⟨e, hD1⟩
          have en : ((bs.length : Nat) : Int).toNat = ds.length := by omega
          rw [en] at hD1
          generalize hks : (List.range ds.length).filter (badK ds (manysOf l)) = ks at hD1
          have kl : ∀ k ∈ ks, k < ds.length := fun k hk => by
            rw [← hks] at hk
            exact List.mem_range.mp (List.mem_filter.mp hk).1
          have kn : ks.length ≤ 60 := by
            rw [← hks]
            have := List.length_filter_le (badK ds (manysOf l)) (List.range ds.length)
            rw [List.length_range] at this
            omega
          refine ⟨.ref D, rfl, D, rfl, ⟨_, SqL.of hD1⟩, fun D2 hD2 => ?_⟩
          refine lc_list (K := K) (a := D) (xs := (ks.map (fun n : Nat => (n : Int))).map V.int) (fun i H' => Evl.Ex H1 H' ∧ H' D2 = some (.lst ((((ks.take i).filter (fun k => notNone (ds.getD k .none) || !wl)).map (fun n : Nat => (n : Int))).map V.int))) ⟨Evl.Ex.new hD2, upd_same⟩ ?_ ?_ ?_
          · rintro i H' _ ⟨e2, _⟩
            exact SqL.of (e2 _ _ hD1)
          · rintro i x H2 hxi ⟨e2, hD3⟩
            obtain ⟨n, hn, rfl⟩ := get_map_int hxi
            rw [List.getElem?_map] at hn
            obtain ⟨k, hk, rfl⟩ := Option.map_eq_some_iff.mp hn
            have hkl := kl k (List.mem_of_getElem? hk)
            obtain ⟨y, hy⟩ : ∃ y, xs[k]? = some y := ⟨xs[k], List.getElem?_eq_getElem (by omega)⟩
            obtain ⟨dy, hdy, hth⟩ := hi.get hy
            have eD : ds.getD k .none = dy := by rw [List.getD_eq_getElem?_getD, hdy]; rfl
            have e12 := e.trans e2
            refine ⟨rfl, ?_⟩
            refine ⟨.ref ua, rfl, .int (k : Nat), rfl, ua, xs, (k : Nat), y, rfl, rfl, Evl.ex_t e12 hx, atI_nat hy, rfl, _, rfl, ?_⟩
            rw [non_data (hth.keep (TK.ex e12))]
            have ll : ((((ks.take i).filter (fun k => notNone (ds.getD k .none) || !wl)).map (fun n : Nat => (n : Int))).map V.int).length ≤ 60 := by
              rw [List.length_map, List.length_map]
              have := List.length_filter_le (fun k => notNone (ds.getD k .none) || !wl) (ks.take i)
              rw [List.length_take] at this
              omega
            have put : (notNone (ds.getD k .none) || !wl) = true → ∃ acc, H2 D2 = some (.lst acc) ∧ acc.length < sizeLine ∧ Evl.Ex H1 (upd H2 D2 (.lst (acc ++ [.int (k : Nat)]))) ∧ (upd H2 D2 (.lst (acc ++ [.int (k : Nat)]))) D2 = some (.lst ((((ks.take (i + 1)).filter (fun k => notNone (ds.getD k .none) || !wl)).map (fun n : Nat => (n : Int))).map V.int)) := fun z => by
              refine ⟨_, hD3, Nat.lt_of_le_of_lt ll (by decide), e2.mut hD2, ?_⟩
              rw [upd_same, take_succ_get hk, List.filter_append, List.filter_cons, if_pos z]
              simp
            have leave : (notNone (ds.getD k .none) || !wl) = false → Evl.Ex H1 H2 ∧ H2 D2 = some (.lst ((((ks.take (i + 1)).filter (fun k => notNone (ds.getD k .none) || !wl)).map (fun n : Nat => (n : Int))).map V.int)) := fun z => by
              refine ⟨e2, ?_⟩
              rw [hD3, take_succ_get hk, List.filter_append, List.filter_cons, if_neg (by rw [z]; exact Bool.false_ne_true)]
              simp
            rw [eD] at put leave
            cases hnn : notNone dy with
            | true =>
              rw [hnn] at put
              refine iteT (iteT ?_)
              exact ⟨.int (k : Nat), rfl, put rfl⟩
            | false =>
              rw [hnn] at put leave
              refine iteF ?_
              refine ⟨.bl wl, rfl, wl, rfl, ?_⟩
              cases wl with
              | true =>
                refine iteF ?_
                exact leave rfl
              | false =>
                refine iteT ?_
                exact ⟨.int (k : Nat), rfl, put rfl⟩
          · rintro H2 ⟨e2, hD3⟩
            have tl : (ks.take (((ks.map (fun n : Nat => (n : Int))).map V.int).length)) = ks := by rw [List.length_map, List.length_map, List.take_length]
            rw [tl] at hD3
            refine ⟨Nat.zero_le _, fun e0 ne0 => ?_⟩
            have e3 := Evl.Ex.new (o := .lst []) ne0
            have hD4 := e3 _ _ hD3
            refine ⟨.list (((ks.filter (fun k => notNone (ds.getD k .none) || !wl)).map (fun n : Nat => (n : Int))).map PyData.int), .list [], .lst (.inl (.inl hD4)) (dp_ints _), .lst (.inl (.inl upd_same)) .nil, ints_shaped _, (by decide), ?_⟩
            have qq := q _ (e.trans (e2.trans e3))
            have eo : (List.range ds.length).filter (outK ds (manysOf l) wl) = ks.filter (fun k => notNone (ds.getD k .none) || !wl) := by
              rw [← hks, List.filter_filter]
              congr 1
              funext k
              unfold outK
              rw [Bool.and_comm]
            rw [eo] at qq
            cases hz : ks.filter (fun k => notNone (ds.getD k .none) || !wl) with
            | nil =>
              rw [hz] at qq
              exact qq
            | cons k0 kr =>
              rw [hz] at qq
              exact qq
end
end Wb

set_option Elab.async false
set_option linter.all false
set_option maxRecDepth 100000
set_option maxHeartbeats 4000000
set_option pp.maxSteps 600
set_option pp.deepTerms false
namespace Wb
open PySem PySem.Spec PyProof.Rows L2
abbrev sOdd : Stmt := topS 37
theorem scOdd : FnScope ["_law_pen_here", "_law_some"] ["_law_pen_here"] (defScope sOdd) := ⟨rfl, rfl, rfl, by decide +kernel, rfl, by decide +kernel, by decide +kernel⟩
/-- small data of any kind: it can be written -/
structure Sm (d : PyData) (n L : Nat) : Prop where
  sho : d.showable = true
  dep : d.depth ≤ n
  len : d.shown.length ≤ L
theorem sm_d0 : Sm (.dict []) 3 200 := ⟨by decide +kernel, by decide +kernel, by decide +kernel⟩
theorem sm_d1 : Sm (.dict [(.int 0, .int 1)]) 3 200 := ⟨by decide +kernel, by decide +kernel, by decide +kernel⟩
/-- data, or a scalar or such a dict -/
def Od (K : PySem.W.Frag) (H : Hp) (v : V) (d : PyData) : Prop := Dp K H v d ∨ Mx H v d
theorem Od.keep {K : PySem.W.Frag} {H H' : Hp} (e : TK K H H') {v : V} {d : PyData} (h : Od K H v d) : Od K H' v d := h.elim (fun h => .inl (Dp.keep e h)) (fun h => .inr (h.keep e))
theorem Od.th {K : PySem.W.Frag} {H : Hp} {v : V} {d : PyData} (h : Od K H v d) : Th K H v d := h.elim .dp .mx
def OddV (K : PySem.W.Frag) (H : Hp) (v : V) : Prop := ∃ d, Od K H v d ∧ Sm d 3 200
def spOdd (K : PySem.W.Frag) : Sp := fun vs H Q _ => ∃ (p c : Addr) (T : Int), vs = [.ref p] ∧ PenAt H p c T ∧ T ≤ 10000000 ∧ ∀ H' v d, Exx p H H' → PenAt H' p c (T + 1) → Od K H' v d → Sm d 3 200 → Q v H'
section
variable {P : Program} {w : World} {K : PySem.W.Frag} {mg : Str → Option Value} {base : Heap}
theorem ok_odd {f f1 f2 : Addr} {fd fd1 fd2 : FuncData} (F : Fun K "_law_odd" "_law_odd" sOdd f fd) (F1 : Fun K "_law_draw" "_law_draw" sDraw f1 fd1) (b1 : Binds K fd1 ["_law_pen_here", "_law_many_here"] []) (g1 : mg "_law_draw" = some (.ref f1))
    (F2 : Fun K "_law_pick" "_law_pick" sPick f2 fd2) (b2 : Binds K fd2 ["_law_pen_here", "_law_some"] []) (g2 : mg "_law_pick" = some (.ref f2)) (B : Bi mg) : FnOk P w K mg base CX0 3 f fd ["_law_pen_here"] (spOdd K) := by
  have G2 : FnOk P w K mg base CX0 2 f2 fd2 ["_law_pen_here", "_law_some"] (spPick K) := ok_pick F2 F1 b1 g1 B
  refine F.ok scOdd (fun vs H Q E h => ?_) (fun cdv A outer s H vs Q E hr h => ?_)
  · obtain ⟨p, c, T, rfl, _⟩ := h; rfl
  · obtain ⟨p, c, T, rfl, hp, T9, q⟩ := h
    refine ⟨_, pss_cons (ps_set (i := 1) scOdd.nd rfl (.inl rfl) (pe_lst (pa_cons pe_non (pa_cons pe_bl (pa_cons pe_bl (pa_cons pe_int (pa_cons pe_int (pa_cons (pe_un un_neg pe_int) (pa_cons pe_int (pa_cons (pe_op op_pow pe_int pe_int) (pa_cons (pe_op op_pow pe_int pe_int) (pa_cons pe_str (pa_cons pe_str (pa_cons pe_str (pa_cons (pe_tup pa_nil) (pa_cons (pe_tup (pa_cons pe_int pa_nil)) (pa_cons (pe_lst pa_nil) (pa_cons (pe_lst (pa_cons pe_int pa_nil)) (pa_cons pe_dnewK (pa_cons (pe_disp (pps_cons pe_int pe_int pps_nil) (by rfl) (by rfl) (fun z => by cases z) (by decide)) (pa_cons (pe_tup (pa_cons pe_non pa_nil)) pa_nil)))))))))))))))))))))
      (pss_cons (ps_set (i := 1) scOdd.nd rfl (.inl rfl) (pe_op op_cat (pv 1) (pe_lst (pa_cons (pe_tup (pa_cons pe_int (pa_cons pe_int pa_nil))) (pa_cons (pe_lst (pa_cons (pe_tup (pa_cons pe_int (pa_cons pe_int pa_nil))) pa_nil)) (pa_cons (pe_tup (pa_cons (pe_tup pa_nil) pa_nil)) (pa_cons (pe_tup (pa_cons (pe_tup (pa_cons pe_int (pa_cons (pe_tup pa_nil) pa_nil))) pa_nil)) (pa_cons (pe_tup (pa_cons pe_bl pa_nil)) (pa_cons (pe_tup (pa_cons pe_str pa_nil)) (pa_cons (pe_tup (pa_cons (pe_tup (pa_cons pe_int (pa_cons pe_int pa_nil))) (pa_cons (pe_tup (pa_cons pe_int (pa_cons pe_int pa_nil))) pa_nil))) (pa_cons (pe_tup (pa_cons pe_int (pa_cons pe_int (pa_cons pe_int (pa_cons (pe_tup pa_nil) pa_nil))))) pa_nil)))))))))))
      (pss_one (ps_ret (pe_call G2 hr (by rfl) g2 F2.kp b2 .nil pass0 (pa_cons (pv 0) (pa_cons (pv 1) pa_nil)))))), ?_⟩
    refine ⟨1, rfl, 10, 6, rfl, rfl, ⟨by decide, by decide, by decide⟩, 10, 60, rfl, rfl, ⟨by decide, by decide, by decide⟩, (by show 0 ≤ sizeLine; decide), fun a1 n1 => ?_⟩
    have e1 := Evl.Ex.new (o := .tup []) n1
    have g1 : (upd H a1 (.tup [])) a1 = some (.tup []) := upd_same
    generalize upd H a1 (.tup []) = H1 at e1 g1
    have q1 : Dp K H1 (.ref a1) (.tuple []) := .tup (.inl (.inl g1)) .nil
    refine ⟨(by show 1 ≤ sizeLine; decide), fun a2 n2 => ?_⟩
    have e2 := Evl.Ex.new (o := .tup [.int 0]) n2
    have g2 : (upd H1 a2 (.tup [.int 0])) a2 = some (.tup [.int 0]) := upd_same
    generalize upd H1 a2 (.tup [.int 0]) = H2 at e2 g2
    have q1 := Dp.keep (TK.ex (K := K) e2) q1
    have q2 : Dp K H2 (.ref a2) (.tuple [.int 0]) := .tup (.inl (.inl g2)) (.cons (.int 0) .nil)
    refine ⟨(by show 0 ≤ sizeLine; decide), fun a3 n3 => ?_⟩
    have e3 := Evl.Ex.new (o := .lst []) n3
    have g3 : (upd H2 a3 (.lst [])) a3 = some (.lst []) := upd_same
    generalize upd H2 a3 (.lst []) = H3 at e3 g3
    have q1 := Dp.keep (TK.ex (K := K) e3) q1
    have q2 := Dp.keep (TK.ex (K := K) e3) q2
    have q3 : Dp K H3 (.ref a3) (.list []) := .lst (.inl (.inl g3)) .nil
    refine ⟨(by show 1 ≤ sizeLine; decide), fun a4 n4 => ?_⟩
    have e4 := Evl.Ex.new (o := .lst [.int 0]) n4
    have g4 : (upd H3 a4 (.lst [.int 0])) a4 = some (.lst [.int 0]) := upd_same
    generalize upd H3 a4 (.lst [.int 0]) = H4 at e4 g4
    have q1 := Dp.keep (TK.ex (K := K) e4) q1
    have q2 := Dp.keep (TK.ex (K := K) e4) q2
    have q3 := Dp.keep (TK.ex (K := K) e4) q3
    have q4 : Dp K H4 (.ref a4) (.list [.int 0]) := .lst (.inl (.inl g4)) (.cons (.int 0) .nil)
    intro a5 n5
    have e5 := Evl.Ex.new (o := .dK []) n5
    have z5 : (upd H4 a5 (.dK [])) a5 = some (.dK []) := upd_same
    generalize upd H4 a5 (.dK []) = H5 at e5 z5
    have q1 := Dp.keep (TK.ex (K := K) e5) q1
    have q2 := Dp.keep (TK.ex (K := K) e5) q2
    have q3 := Dp.keep (TK.ex (K := K) e5) q3
    have q4 := Dp.keep (TK.ex (K := K) e5) q4
    intro a6 n6
    refine ⟨upd_same, one0, rfl, (by show 1 ≤ 15; decide), ?_⟩
    have e6 : Evl.Ex H5 (upd (upd H5 a6 (.dK [])) a6 (.dK (mergeK [] one0))) := (Evl.Ex.new n6).mut n6
    have z6 : (upd (upd H5 a6 (.dK [])) a6 (.dK (mergeK [] one0))) a6 = some (.dK one0) := upd_same
    generalize upd (upd H5 a6 (.dK [])) a6 (.dK (mergeK [] one0)) = H6 at e6 z6
    have q1 := Dp.keep (TK.ex (K := K) e6) q1
    have q2 := Dp.keep (TK.ex (K := K) e6) q2
    have q3 := Dp.keep (TK.ex (K := K) e6) q3
    have q4 := Dp.keep (TK.ex (K := K) e6) q4
    have z5 := e6 _ _ z5
    refine ⟨(by show 1 ≤ sizeLine; decide), fun a7 n7 => ?_⟩
    have e7 := Evl.Ex.new (o := .tup [.non]) n7
    have g7 : (upd H6 a7 (.tup [.non])) a7 = some (.tup [.non]) := upd_same
    generalize upd H6 a7 (.tup [.non]) = H7 at e7 g7
    have q1 := Dp.keep (TK.ex (K := K) e7) q1
    have q2 := Dp.keep (TK.ex (K := K) e7) q2
    have q3 := Dp.keep (TK.ex (K := K) e7) q3
    have q4 := Dp.keep (TK.ex (K := K) e7) q4
    have z5 := e7 _ _ z5
    have z6 := e7 _ _ z6
    have q7 : Dp K H7 (.ref a7) (.tuple [.none]) := .tup (.inl (.inl g7)) (.cons .non .nil)
    refine ⟨(by show 19 ≤ sizeLine; decide), fun a8 n8 => ?_⟩
    have e8 := Evl.Ex.new (o := .lst [.non, .bl true, .bl false, .int 0, .int 1, .int (-1), .int 2, .int (10 ^ (6 : Int).toNat), .int (10 ^ (60 : Int).toNat), .str "", .str "0", .str "a", .ref a1, .ref a2, .ref a3, .ref a4, .ref a5, .ref a6, .ref a7]) n8
    have z8 : (upd H7 a8 (.lst [.non, .bl true, .bl false, .int 0, .int 1, .int (-1), .int 2, .int (10 ^ (6 : Int).toNat), .int (10 ^ (60 : Int).toNat), .str "", .str "0", .str "a", .ref a1, .ref a2, .ref a3, .ref a4, .ref a5, .ref a6, .ref a7])) a8 = some (.lst [.non, .bl true, .bl false, .int 0, .int 1, .int (-1), .int 2, .int (10 ^ (6 : Int).toNat), .int (10 ^ (60 : Int).toNat), .str "", .str "0", .str "a", .ref a1, .ref a2, .ref a3, .ref a4, .ref a5, .ref a6, .ref a7]) := upd_same
    generalize upd H7 a8 (.lst [.non, .bl true, .bl false, .int 0, .int 1, .int (-1), .int 2, .int (10 ^ (6 : Int).toNat), .int (10 ^ (60 : Int).toNat), .str "", .str "0", .str "a", .ref a1, .ref a2, .ref a3, .ref a4, .ref a5, .ref a6, .ref a7]) = H8 at e8 z8
    have q1 := Dp.keep (TK.ex (K := K) e8) q1
    have q2 := Dp.keep (TK.ex (K := K) e8) q2
    have q3 := Dp.keep (TK.ex (K := K) e8) q3
    have q4 := Dp.keep (TK.ex (K := K) e8) q4
    have z5 := e8 _ _ z5
    have z6 := e8 _ _ z6
    have q7 := Dp.keep (TK.ex (K := K) e8) q7
    refine ⟨.ref a8, rfl, (by show 2 ≤ sizeLine; decide), fun a9 n9 => ?_⟩
    have e9 := Evl.Ex.new (o := .tup [.int 0, .int 1]) n9
    have g9 : (upd H8 a9 (.tup [.int 0, .int 1])) a9 = some (.tup [.int 0, .int 1]) := upd_same
    generalize upd H8 a9 (.tup [.int 0, .int 1]) = H9 at e9 g9
    have q1 := Dp.keep (TK.ex (K := K) e9) q1
    have q2 := Dp.keep (TK.ex (K := K) e9) q2
    have q3 := Dp.keep (TK.ex (K := K) e9) q3
    have q4 := Dp.keep (TK.ex (K := K) e9) q4
    have z5 := e9 _ _ z5
    have z6 := e9 _ _ z6
    have q7 := Dp.keep (TK.ex (K := K) e9) q7
    have z8 := e9 _ _ z8
    have q9 : Dp K H9 (.ref a9) (.tuple [.int 0, .int 1]) := .tup (.inl (.inl g9)) (.cons (.int 0) (.cons (.int 1) .nil))
    refine ⟨(by show 2 ≤ sizeLine; decide), fun a10 n10 => ?_⟩
    have e10 := Evl.Ex.new (o := .tup [.int 0, .int 1]) n10
    have g10 : (upd H9 a10 (.tup [.int 0, .int 1])) a10 = some (.tup [.int 0, .int 1]) := upd_same
    generalize upd H9 a10 (.tup [.int 0, .int 1]) = H10 at e10 g10
    have q1 := Dp.keep (TK.ex (K := K) e10) q1
    have q2 := Dp.keep (TK.ex (K := K) e10) q2
    have q3 := Dp.keep (TK.ex (K := K) e10) q3
    have q4 := Dp.keep (TK.ex (K := K) e10) q4
    have z5 := e10 _ _ z5
    have z6 := e10 _ _ z6
    have q7 := Dp.keep (TK.ex (K := K) e10) q7
    have z8 := e10 _ _ z8
    have q9 := Dp.keep (TK.ex (K := K) e10) q9
    have q10 : Dp K H10 (.ref a10) (.tuple [.int 0, .int 1]) := .tup (.inl (.inl g10)) (.cons (.int 0) (.cons (.int 1) .nil))
    refine ⟨(by show 1 ≤ sizeLine; decide), fun a11 n11 => ?_⟩
    have e11 := Evl.Ex.new (o := .lst [.ref a10]) n11
    have g11 : (upd H10 a11 (.lst [.ref a10])) a11 = some (.lst [.ref a10]) := upd_same
    generalize upd H10 a11 (.lst [.ref a10]) = H11 at e11 g11
    have q1 := Dp.keep (TK.ex (K := K) e11) q1
    have q2 := Dp.keep (TK.ex (K := K) e11) q2
    have q3 := Dp.keep (TK.ex (K := K) e11) q3
    have q4 := Dp.keep (TK.ex (K := K) e11) q4
    have z5 := e11 _ _ z5
    have z6 := e11 _ _ z6
    have q7 := Dp.keep (TK.ex (K := K) e11) q7
    have z8 := e11 _ _ z8
    have q9 := Dp.keep (TK.ex (K := K) e11) q9
    have q10 := Dp.keep (TK.ex (K := K) e11) q10
    have q11 : Dp K H11 (.ref a11) (.list [.tuple [.int 0, .int 1]]) := .lst (.inl (.inl g11)) (.cons q10 .nil)
    refine ⟨(by show 0 ≤ sizeLine; decide), fun a12 n12 => ?_⟩
    have e12 := Evl.Ex.new (o := .tup []) n12
    have g12 : (upd H11 a12 (.tup [])) a12 = some (.tup []) := upd_same
    generalize upd H11 a12 (.tup []) = H12 at e12 g12
    have q1 := Dp.keep (TK.ex (K := K) e12) q1
    have q2 := Dp.keep (TK.ex (K := K) e12) q2
    have q3 := Dp.keep (TK.ex (K := K) e12) q3
    have q4 := Dp.keep (TK.ex (K := K) e12) q4
    have z5 := e12 _ _ z5
    have z6 := e12 _ _ z6
    have q7 := Dp.keep (TK.ex (K := K) e12) q7
    have z8 := e12 _ _ z8
    have q9 := Dp.keep (TK.ex (K := K) e12) q9
    have q10 := Dp.keep (TK.ex (K := K) e12) q10
    have q11 := Dp.keep (TK.ex (K := K) e12) q11
    have q12 : Dp K H12 (.ref a12) (.tuple []) := .tup (.inl (.inl g12)) .nil
    refine ⟨(by show 1 ≤ sizeLine; decide), fun a13 n13 => ?_⟩
    have e13 := Evl.Ex.new (o := .tup [.ref a12]) n13
    have g13 : (upd H12 a13 (.tup [.ref a12])) a13 = some (.tup [.ref a12]) := upd_same
    generalize upd H12 a13 (.tup [.ref a12]) = H13 at e13 g13
    have q1 := Dp.keep (TK.ex (K := K) e13) q1
    have q2 := Dp.keep (TK.ex (K := K) e13) q2
    have q3 := Dp.keep (TK.ex (K := K) e13) q3
    have q4 := Dp.keep (TK.ex (K := K) e13) q4
    have z5 := e13 _ _ z5
    have z6 := e13 _ _ z6
    have q7 := Dp.keep (TK.ex (K := K) e13) q7
    have z8 := e13 _ _ z8
    have q9 := Dp.keep (TK.ex (K := K) e13) q9
    have q10 := Dp.keep (TK.ex (K := K) e13) q10
    have q11 := Dp.keep (TK.ex (K := K) e13) q11
    have q12 := Dp.keep (TK.ex (K := K) e13) q12
    have q13 : Dp K H13 (.ref a13) (.tuple [.tuple []]) := .tup (.inl (.inl g13)) (.cons q12 .nil)
    refine ⟨(by show 0 ≤ sizeLine; decide), fun a14 n14 => ?_⟩
    have e14 := Evl.Ex.new (o := .tup []) n14
    have g14 : (upd H13 a14 (.tup [])) a14 = some (.tup []) := upd_same
    generalize upd H13 a14 (.tup []) = H14 at e14 g14
    have q1 := Dp.keep (TK.ex (K := K) e14) q1
    have q2 := Dp.keep (TK.ex (K := K) e14) q2
    have q3 := Dp.keep (TK.ex (K := K) e14) q3
    have q4 := Dp.keep (TK.ex (K := K) e14) q4
    have z5 := e14 _ _ z5
    have z6 := e14 _ _ z6
    have q7 := Dp.keep (TK.ex (K := K) e14) q7
    have z8 := e14 _ _ z8
    have q9 := Dp.keep (TK.ex (K := K) e14) q9
    have q10 := Dp.keep (TK.ex (K := K) e14) q10
    have q11 := Dp.keep (TK.ex (K := K) e14) q11
    have q12 := Dp.keep (TK.ex (K := K) e14) q12
    have q13 := Dp.keep (TK.ex (K := K) e14) q13
    have q14 : Dp K H14 (.ref a14) (.tuple []) := .tup (.inl (.inl g14)) .nil
    refine ⟨(by show 2 ≤ sizeLine; decide), fun a15 n15 => ?_⟩
    have e15 := Evl.Ex.new (o := .tup [.int 2, .ref a14]) n15
    have g15 : (upd H14 a15 (.tup [.int 2, .ref a14])) a15 = some (.tup [.int 2, .ref a14]) := upd_same
    generalize upd H14 a15 (.tup [.int 2, .ref a14]) = H15 at e15 g15
    have q1 := Dp.keep (TK.ex (K := K) e15) q1
    have q2 := Dp.keep (TK.ex (K := K) e15) q2
    have q3 := Dp.keep (TK.ex (K := K) e15) q3
    have q4 := Dp.keep (TK.ex (K := K) e15) q4
    have z5 := e15 _ _ z5
    have z6 := e15 _ _ z6
    have q7 := Dp.keep (TK.ex (K := K) e15) q7
    have z8 := e15 _ _ z8
    have q9 := Dp.keep (TK.ex (K := K) e15) q9
    have q10 := Dp.keep (TK.ex (K := K) e15) q10
    have q11 := Dp.keep (TK.ex (K := K) e15) q11
    have q12 := Dp.keep (TK.ex (K := K) e15) q12
    have q13 := Dp.keep (TK.ex (K := K) e15) q13
    have q14 := Dp.keep (TK.ex (K := K) e15) q14
    have q15 : Dp K H15 (.ref a15) (.tuple [.int 2, .tuple []]) := .tup (.inl (.inl g15)) (.cons (.int 2) (.cons q14 .nil))
    refine ⟨(by show 1 ≤ sizeLine; decide), fun a16 n16 => ?_⟩
    have e16 := Evl.Ex.new (o := .tup [.ref a15]) n16
    have g16 : (upd H15 a16 (.tup [.ref a15])) a16 = some (.tup [.ref a15]) := upd_same
    generalize upd H15 a16 (.tup [.ref a15]) = H16 at e16 g16
    have q1 := Dp.keep (TK.ex (K := K) e16) q1
    have q2 := Dp.keep (TK.ex (K := K) e16) q2
    have q3 := Dp.keep (TK.ex (K := K) e16) q3
    have q4 := Dp.keep (TK.ex (K := K) e16) q4
    have z5 := e16 _ _ z5
    have z6 := e16 _ _ z6
    have q7 := Dp.keep (TK.ex (K := K) e16) q7
    have z8 := e16 _ _ z8
    have q9 := Dp.keep (TK.ex (K := K) e16) q9
    have q10 := Dp.keep (TK.ex (K := K) e16) q10
    have q11 := Dp.keep (TK.ex (K := K) e16) q11
    have q12 := Dp.keep (TK.ex (K := K) e16) q12
    have q13 := Dp.keep (TK.ex (K := K) e16) q13
    have q14 := Dp.keep (TK.ex (K := K) e16) q14
    have q15 := Dp.keep (TK.ex (K := K) e16) q15
    have q16 : Dp K H16 (.ref a16) (.tuple [.tuple [.int 2, .tuple []]]) := .tup (.inl (.inl g16)) (.cons q15 .nil)
    refine ⟨(by show 1 ≤ sizeLine; decide), fun a17 n17 => ?_⟩
    have e17 := Evl.Ex.new (o := .tup [.bl true]) n17
    have g17 : (upd H16 a17 (.tup [.bl true])) a17 = some (.tup [.bl true]) := upd_same
    generalize upd H16 a17 (.tup [.bl true]) = H17 at e17 g17
    have q1 := Dp.keep (TK.ex (K := K) e17) q1
    have q2 := Dp.keep (TK.ex (K := K) e17) q2
    have q3 := Dp.keep (TK.ex (K := K) e17) q3
    have q4 := Dp.keep (TK.ex (K := K) e17) q4
    have z5 := e17 _ _ z5
    have z6 := e17 _ _ z6
    have q7 := Dp.keep (TK.ex (K := K) e17) q7
    have z8 := e17 _ _ z8
    have q9 := Dp.keep (TK.ex (K := K) e17) q9
    have q10 := Dp.keep (TK.ex (K := K) e17) q10
    have q11 := Dp.keep (TK.ex (K := K) e17) q11
    have q12 := Dp.keep (TK.ex (K := K) e17) q12
    have q13 := Dp.keep (TK.ex (K := K) e17) q13
    have q14 := Dp.keep (TK.ex (K := K) e17) q14
    have q15 := Dp.keep (TK.ex (K := K) e17) q15
    have q16 := Dp.keep (TK.ex (K := K) e17) q16
    have q17 : Dp K H17 (.ref a17) (.tuple [.bool true]) := .tup (.inl (.inl g17)) (.cons (.bl true) .nil)
    refine ⟨(by show 1 ≤ sizeLine; decide), fun a18 n18 => ?_⟩
    have e18 := Evl.Ex.new (o := .tup [.str "0"]) n18
    have g18 : (upd H17 a18 (.tup [.str "0"])) a18 = some (.tup [.str "0"]) := upd_same
    generalize upd H17 a18 (.tup [.str "0"]) = H18 at e18 g18
    have q1 := Dp.keep (TK.ex (K := K) e18) q1
    have q2 := Dp.keep (TK.ex (K := K) e18) q2
    have q3 := Dp.keep (TK.ex (K := K) e18) q3
    have q4 := Dp.keep (TK.ex (K := K) e18) q4
    have z5 := e18 _ _ z5
    have z6 := e18 _ _ z6
    have q7 := Dp.keep (TK.ex (K := K) e18) q7
    have z8 := e18 _ _ z8
    have q9 := Dp.keep (TK.ex (K := K) e18) q9
    have q10 := Dp.keep (TK.ex (K := K) e18) q10
    have q11 := Dp.keep (TK.ex (K := K) e18) q11
    have q12 := Dp.keep (TK.ex (K := K) e18) q12
    have q13 := Dp.keep (TK.ex (K := K) e18) q13
    have q14 := Dp.keep (TK.ex (K := K) e18) q14
    have q15 := Dp.keep (TK.ex (K := K) e18) q15
    have q16 := Dp.keep (TK.ex (K := K) e18) q16
    have q17 := Dp.keep (TK.ex (K := K) e18) q17
    have q18 : Dp K H18 (.ref a18) (.tuple [.str "0"]) := .tup (.inl (.inl g18)) (.cons (.str "0") .nil)
    refine ⟨(by show 2 ≤ sizeLine; decide), fun a19 n19 => ?_⟩
    have e19 := Evl.Ex.new (o := .tup [.int 0, .int 1]) n19
    have g19 : (upd H18 a19 (.tup [.int 0, .int 1])) a19 = some (.tup [.int 0, .int 1]) := upd_same
    generalize upd H18 a19 (.tup [.int 0, .int 1]) = H19 at e19 g19
    have q1 := Dp.keep (TK.ex (K := K) e19) q1
    have q2 := Dp.keep (TK.ex (K := K) e19) q2
    have q3 := Dp.keep (TK.ex (K := K) e19) q3
    have q4 := Dp.keep (TK.ex (K := K) e19) q4
    have z5 := e19 _ _ z5
    have z6 := e19 _ _ z6
    have q7 := Dp.keep (TK.ex (K := K) e19) q7
    have z8 := e19 _ _ z8
    have q9 := Dp.keep (TK.ex (K := K) e19) q9
    have q10 := Dp.keep (TK.ex (K := K) e19) q10
    have q11 := Dp.keep (TK.ex (K := K) e19) q11
    have q12 := Dp.keep (TK.ex (K := K) e19) q12
    have q13 := Dp.keep (TK.ex (K := K) e19) q13
    have q14 := Dp.keep (TK.ex (K := K) e19) q14
    have q15 := Dp.keep (TK.ex (K := K) e19) q15
    have q16 := Dp.keep (TK.ex (K := K) e19) q16
    have q17 := Dp.keep (TK.ex (K := K) e19) q17
    have q18 := Dp.keep (TK.ex (K := K) e19) q18
    have q19 : Dp K H19 (.ref a19) (.tuple [.int 0, .int 1]) := .tup (.inl (.inl g19)) (.cons (.int 0) (.cons (.int 1) .nil))
    refine ⟨(by show 2 ≤ sizeLine; decide), fun a20 n20 => ?_⟩
    have e20 := Evl.Ex.new (o := .tup [.int 1, .int 0]) n20
    have g20 : (upd H19 a20 (.tup [.int 1, .int 0])) a20 = some (.tup [.int 1, .int 0]) := upd_same
    generalize upd H19 a20 (.tup [.int 1, .int 0]) = H20 at e20 g20
    have q1 := Dp.keep (TK.ex (K := K) e20) q1
    have q2 := Dp.keep (TK.ex (K := K) e20) q2
    have q3 := Dp.keep (TK.ex (K := K) e20) q3
    have q4 := Dp.keep (TK.ex (K := K) e20) q4
    have z5 := e20 _ _ z5
    have z6 := e20 _ _ z6
    have q7 := Dp.keep (TK.ex (K := K) e20) q7
    have z8 := e20 _ _ z8
    have q9 := Dp.keep (TK.ex (K := K) e20) q9
    have q10 := Dp.keep (TK.ex (K := K) e20) q10
    have q11 := Dp.keep (TK.ex (K := K) e20) q11
    have q12 := Dp.keep (TK.ex (K := K) e20) q12
    have q13 := Dp.keep (TK.ex (K := K) e20) q13
    have q14 := Dp.keep (TK.ex (K := K) e20) q14
    have q15 := Dp.keep (TK.ex (K := K) e20) q15
    have q16 := Dp.keep (TK.ex (K := K) e20) q16
    have q17 := Dp.keep (TK.ex (K := K) e20) q17
    have q18 := Dp.keep (TK.ex (K := K) e20) q18
    have q19 := Dp.keep (TK.ex (K := K) e20) q19
    have q20 : Dp K H20 (.ref a20) (.tuple [.int 1, .int 0]) := .tup (.inl (.inl g20)) (.cons (.int 1) (.cons (.int 0) .nil))
    refine ⟨(by show 2 ≤ sizeLine; decide), fun a21 n21 => ?_⟩
    have e21 := Evl.Ex.new (o := .tup [.ref a19, .ref a20]) n21
    have g21 : (upd H20 a21 (.tup [.ref a19, .ref a20])) a21 = some (.tup [.ref a19, .ref a20]) := upd_same
    generalize upd H20 a21 (.tup [.ref a19, .ref a20]) = H21 at e21 g21
    have q1 := Dp.keep (TK.ex (K := K) e21) q1
    have q2 := Dp.keep (TK.ex (K := K) e21) q2
    have q3 := Dp.keep (TK.ex (K := K) e21) q3
    have q4 := Dp.keep (TK.ex (K := K) e21) q4
    have z5 := e21 _ _ z5
    have z6 := e21 _ _ z6
    have q7 := Dp.keep (TK.ex (K := K) e21) q7
    have z8 := e21 _ _ z8
    have q9 := Dp.keep (TK.ex (K := K) e21) q9
    have q10 := Dp.keep (TK.ex (K := K) e21) q10
    have q11 := Dp.keep (TK.ex (K := K) e21) q11
    have q12 := Dp.keep (TK.ex (K := K) e21) q12
    have q13 := Dp.keep (TK.ex (K := K) e21) q13
    have q14 := Dp.keep (TK.ex (K := K) e21) q14
    have q15 := Dp.keep (TK.ex (K := K) e21) q15
    have q16 := Dp.keep (TK.ex (K := K) e21) q16
    have q17 := Dp.keep (TK.ex (K := K) e21) q17
    have q18 := Dp.keep (TK.ex (K := K) e21) q18
    have q19 := Dp.keep (TK.ex (K := K) e21) q19
    have q20 := Dp.keep (TK.ex (K := K) e21) q20
    have q21 : Dp K H21 (.ref a21) (.tuple [.tuple [.int 0, .int 1], .tuple [.int 1, .int 0]]) := .tup (.inl (.inl g21)) (.cons q19 (.cons q20 .nil))
    refine ⟨(by show 0 ≤ sizeLine; decide), fun a22 n22 => ?_⟩
    have e22 := Evl.Ex.new (o := .tup []) n22
    have g22 : (upd H21 a22 (.tup [])) a22 = some (.tup []) := upd_same
    generalize upd H21 a22 (.tup []) = H22 at e22 g22
    have q1 := Dp.keep (TK.ex (K := K) e22) q1
    have q2 := Dp.keep (TK.ex (K := K) e22) q2
    have q3 := Dp.keep (TK.ex (K := K) e22) q3
    have q4 := Dp.keep (TK.ex (K := K) e22) q4
    have z5 := e22 _ _ z5
    have z6 := e22 _ _ z6
    have q7 := Dp.keep (TK.ex (K := K) e22) q7
    have z8 := e22 _ _ z8
    have q9 := Dp.keep (TK.ex (K := K) e22) q9
    have q10 := Dp.keep (TK.ex (K := K) e22) q10
    have q11 := Dp.keep (TK.ex (K := K) e22) q11
    have q12 := Dp.keep (TK.ex (K := K) e22) q12
    have q13 := Dp.keep (TK.ex (K := K) e22) q13
    have q14 := Dp.keep (TK.ex (K := K) e22) q14
    have q15 := Dp.keep (TK.ex (K := K) e22) q15
    have q16 := Dp.keep (TK.ex (K := K) e22) q16
    have q17 := Dp.keep (TK.ex (K := K) e22) q17
    have q18 := Dp.keep (TK.ex (K := K) e22) q18
    have q19 := Dp.keep (TK.ex (K := K) e22) q19
    have q20 := Dp.keep (TK.ex (K := K) e22) q20
    have q21 := Dp.keep (TK.ex (K := K) e22) q21
    have q22 : Dp K H22 (.ref a22) (.tuple []) := .tup (.inl (.inl g22)) .nil
    refine ⟨(by show 4 ≤ sizeLine; decide), fun a23 n23 => ?_⟩
    have e23 := Evl.Ex.new (o := .tup [.int 0, .int 0, .int 1, .ref a22]) n23
    have g23 : (upd H22 a23 (.tup [.int 0, .int 0, .int 1, .ref a22])) a23 = some (.tup [.int 0, .int 0, .int 1, .ref a22]) := upd_same
    generalize upd H22 a23 (.tup [.int 0, .int 0, .int 1, .ref a22]) = H23 at e23 g23
    have q1 := Dp.keep (TK.ex (K := K) e23) q1
    have q2 := Dp.keep (TK.ex (K := K) e23) q2
    have q3 := Dp.keep (TK.ex (K := K) e23) q3
    have q4 := Dp.keep (TK.ex (K := K) e23) q4
    have z5 := e23 _ _ z5
    have z6 := e23 _ _ z6
    have q7 := Dp.keep (TK.ex (K := K) e23) q7
    have z8 := e23 _ _ z8
    have q9 := Dp.keep (TK.ex (K := K) e23) q9
    have q10 := Dp.keep (TK.ex (K := K) e23) q10
    have q11 := Dp.keep (TK.ex (K := K) e23) q11
    have q12 := Dp.keep (TK.ex (K := K) e23) q12
    have q13 := Dp.keep (TK.ex (K := K) e23) q13
    have q14 := Dp.keep (TK.ex (K := K) e23) q14
    have q15 := Dp.keep (TK.ex (K := K) e23) q15
    have q16 := Dp.keep (TK.ex (K := K) e23) q16
    have q17 := Dp.keep (TK.ex (K := K) e23) q17
    have q18 := Dp.keep (TK.ex (K := K) e23) q18
    have q19 := Dp.keep (TK.ex (K := K) e23) q19
    have q20 := Dp.keep (TK.ex (K := K) e23) q20
    have q21 := Dp.keep (TK.ex (K := K) e23) q21
    have q22 := Dp.keep (TK.ex (K := K) e23) q22
    have q23 : Dp K H23 (.ref a23) (.tuple [.int 0, .int 0, .int 1, .tuple []]) := .tup (.inl (.inl g23)) (.cons (.int 0) (.cons (.int 0) (.cons (.int 1) (.cons q22 .nil))))
    refine ⟨(by show 8 ≤ sizeLine; decide), fun a24 n24 => ?_⟩
    have e24 := Evl.Ex.new (o := .lst [.ref a9, .ref a11, .ref a13, .ref a16, .ref a17, .ref a18, .ref a21, .ref a23]) n24
    have z24 : (upd H23 a24 (.lst [.ref a9, .ref a11, .ref a13, .ref a16, .ref a17, .ref a18, .ref a21, .ref a23])) a24 = some (.lst [.ref a9, .ref a11, .ref a13, .ref a16, .ref a17, .ref a18, .ref a21, .ref a23]) := upd_same
    generalize upd H23 a24 (.lst [.ref a9, .ref a11, .ref a13, .ref a16, .ref a17, .ref a18, .ref a21, .ref a23]) = H24 at e24 z24
    have q1 := Dp.keep (TK.ex (K := K) e24) q1
    have q2 := Dp.keep (TK.ex (K := K) e24) q2
    have q3 := Dp.keep (TK.ex (K := K) e24) q3
    have q4 := Dp.keep (TK.ex (K := K) e24) q4
    have z5 := e24 _ _ z5
    have z6 := e24 _ _ z6
    have q7 := Dp.keep (TK.ex (K := K) e24) q7
    have z8 := e24 _ _ z8
    have q9 := Dp.keep (TK.ex (K := K) e24) q9
    have q10 := Dp.keep (TK.ex (K := K) e24) q10
    have q11 := Dp.keep (TK.ex (K := K) e24) q11
    have q12 := Dp.keep (TK.ex (K := K) e24) q12
    have q13 := Dp.keep (TK.ex (K := K) e24) q13
    have q14 := Dp.keep (TK.ex (K := K) e24) q14
    have q15 := Dp.keep (TK.ex (K := K) e24) q15
    have q16 := Dp.keep (TK.ex (K := K) e24) q16
    have q17 := Dp.keep (TK.ex (K := K) e24) q17
    have q18 := Dp.keep (TK.ex (K := K) e24) q18
    have q19 := Dp.keep (TK.ex (K := K) e24) q19
    have q20 := Dp.keep (TK.ex (K := K) e24) q20
    have q21 := Dp.keep (TK.ex (K := K) e24) q21
    have q22 := Dp.keep (TK.ex (K := K) e24) q22
    have q23 := Dp.keep (TK.ex (K := K) e24) q23
    refine ⟨a8, a24, _, _, rfl, rfl, z8, z24, (by show 27 ≤ sizeLine; decide), fun a25 n25 => ?_⟩
    have e25 := Evl.Ex.new (o := .lst ([.non, .bl true, .bl false, .int 0, .int 1, .int (-1), .int 2, .int (10 ^ (6 : Int).toNat), .int (10 ^ (60 : Int).toNat), .str "", .str "0", .str "a", .ref a1, .ref a2, .ref a3, .ref a4, .ref a5, .ref a6, .ref a7] ++ [.ref a9, .ref a11, .ref a13, .ref a16, .ref a17, .ref a18, .ref a21, .ref a23])) n25
    have z25 : (upd H24 a25 (.lst ([.non, .bl true, .bl false, .int 0, .int 1, .int (-1), .int 2, .int (10 ^ (6 : Int).toNat), .int (10 ^ (60 : Int).toNat), .str "", .str "0", .str "a", .ref a1, .ref a2, .ref a3, .ref a4, .ref a5, .ref a6, .ref a7] ++ [.ref a9, .ref a11, .ref a13, .ref a16, .ref a17, .ref a18, .ref a21, .ref a23]))) a25 = some (.lst ([.non, .bl true, .bl false, .int 0, .int 1, .int (-1), .int 2, .int (10 ^ (6 : Int).toNat), .int (10 ^ (60 : Int).toNat), .str "", .str "0", .str "a", .ref a1, .ref a2, .ref a3, .ref a4, .ref a5, .ref a6, .ref a7] ++ [.ref a9, .ref a11, .ref a13, .ref a16, .ref a17, .ref a18, .ref a21, .ref a23])) := upd_same
    generalize upd H24 a25 (.lst ([.non, .bl true, .bl false, .int 0, .int 1, .int (-1), .int 2, .int (10 ^ (6 : Int).toNat), .int (10 ^ (60 : Int).toNat), .str "", .str "0", .str "a", .ref a1, .ref a2, .ref a3, .ref a4, .ref a5, .ref a6, .ref a7] ++ [.ref a9, .ref a11, .ref a13, .ref a16, .ref a17, .ref a18, .ref a21, .ref a23])) = H25 at e25 z25
    have q1 := Dp.keep (TK.ex (K := K) e25) q1
    have q2 := Dp.keep (TK.ex (K := K) e25) q2
    have q3 := Dp.keep (TK.ex (K := K) e25) q3
    have q4 := Dp.keep (TK.ex (K := K) e25) q4
    have z5 := e25 _ _ z5
    have z6 := e25 _ _ z6
    have q7 := Dp.keep (TK.ex (K := K) e25) q7
    have z8 := e25 _ _ z8
    have q9 := Dp.keep (TK.ex (K := K) e25) q9
    have q10 := Dp.keep (TK.ex (K := K) e25) q10
    have q11 := Dp.keep (TK.ex (K := K) e25) q11
    have q12 := Dp.keep (TK.ex (K := K) e25) q12
    have q13 := Dp.keep (TK.ex (K := K) e25) q13
    have q14 := Dp.keep (TK.ex (K := K) e25) q14
    have q15 := Dp.keep (TK.ex (K := K) e25) q15
    have q16 := Dp.keep (TK.ex (K := K) e25) q16
    have q17 := Dp.keep (TK.ex (K := K) e25) q17
    have q18 := Dp.keep (TK.ex (K := K) e25) q18
    have q19 := Dp.keep (TK.ex (K := K) e25) q19
    have q20 := Dp.keep (TK.ex (K := K) e25) q20
    have q21 := Dp.keep (TK.ex (K := K) e25) q21
    have q22 := Dp.keep (TK.ex (K := K) e25) q22
    have q23 := Dp.keep (TK.ex (K := K) e25) q23
    have z24 := e25 _ _ z24
    have ee : Evl.Ex H H25 := (e1.trans (e2.trans (e3.trans (e4.trans (e5.trans (e6.trans (e7.trans (e8.trans (e9.trans (e10.trans (e11.trans (e12.trans (e13.trans (e14.trans (e15.trans (e16.trans (e17.trans (e18.trans (e19.trans (e20.trans (e21.trans (e22.trans (e23.trans (e24.trans e25))))))))))))))))))))))))
    have hpk := hp.ex ee
    have each : ∀ x ∈ ([.non, .bl true, .bl false, .int 0, .int 1, .int (-1), .int 2, .int (10 ^ (6 : Int).toNat), .int (10 ^ (60 : Int).toNat), .str "", .str "0", .str "a", .ref a1, .ref a2, .ref a3, .ref a4, .ref a5, .ref a6, .ref a7] ++ [.ref a9, .ref a11, .ref a13, .ref a16, .ref a17, .ref a18, .ref a21, .ref a23] : List V), OddV K H25 x := by
      intro x hx
      simp only [List.cons_append, List.nil_append, List.mem_cons, List.not_mem_nil, or_false] at hx
      rcases hx with rfl | rfl | rfl | rfl | rfl | rfl | rfl | rfl | rfl | rfl | rfl | rfl | rfl | rfl | rfl | rfl | rfl | rfl | rfl | rfl | rfl | rfl | rfl | rfl | rfl | rfl | rfl
      · exact ⟨_, .inl .non, ⟨by decide +kernel, by decide +kernel, by decide +kernel⟩⟩
      · exact ⟨_, .inl (.bl _), ⟨by decide +kernel, by decide +kernel, by decide +kernel⟩⟩
      · exact ⟨_, .inl (.bl _), ⟨by decide +kernel, by decide +kernel, by decide +kernel⟩⟩
      · exact ⟨_, .inl (.int _), ⟨by decide +kernel, by decide +kernel, by decide +kernel⟩⟩
      · exact ⟨_, .inl (.int _), ⟨by decide +kernel, by decide +kernel, by decide +kernel⟩⟩
      · exact ⟨_, .inl (.int _), ⟨by decide +kernel, by decide +kernel, by decide +kernel⟩⟩
      · exact ⟨_, .inl (.int _), ⟨by decide +kernel, by decide +kernel, by decide +kernel⟩⟩
      · exact ⟨_, .inl (.int _), ⟨by decide +kernel, by decide +kernel, by decide +kernel⟩⟩
      · exact ⟨_, .inl (.int _), ⟨by decide +kernel, by decide +kernel, by decide +kernel⟩⟩
      · exact ⟨_, .inl (.str _), ⟨by decide +kernel, by decide +kernel, by decide +kernel⟩⟩
      · exact ⟨_, .inl (.str _), ⟨by decide +kernel, by decide +kernel, by decide +kernel⟩⟩
      · exact ⟨_, .inl (.str _), ⟨by decide +kernel, by decide +kernel, by decide +kernel⟩⟩
      · exact ⟨_, .inl q1, ⟨by decide +kernel, by decide +kernel, by decide +kernel⟩⟩
      · exact ⟨_, .inl q2, ⟨by decide +kernel, by decide +kernel, by decide +kernel⟩⟩
      · exact ⟨_, .inl q3, ⟨by decide +kernel, by decide +kernel, by decide +kernel⟩⟩
      · exact ⟨_, .inl q4, ⟨by decide +kernel, by decide +kernel, by decide +kernel⟩⟩
      · exact ⟨_, .inr (.d0 z5), sm_d0⟩
      · exact ⟨_, .inr (.d1 z6), sm_d1⟩
      · exact ⟨_, .inl q7, ⟨by decide +kernel, by decide +kernel, by decide +kernel⟩⟩
      · exact ⟨_, .inl q9, ⟨by decide +kernel, by decide +kernel, by decide +kernel⟩⟩
      · exact ⟨_, .inl q11, ⟨by decide +kernel, by decide +kernel, by decide +kernel⟩⟩
      · exact ⟨_, .inl q13, ⟨by decide +kernel, by decide +kernel, by decide +kernel⟩⟩
      · exact ⟨_, .inl q16, ⟨by decide +kernel, by decide +kernel, by decide +kernel⟩⟩
      · exact ⟨_, .inl q17, ⟨by decide +kernel, by decide +kernel, by decide +kernel⟩⟩
      · exact ⟨_, .inl q18, ⟨by decide +kernel, by decide +kernel, by decide +kernel⟩⟩
      · exact ⟨_, .inl q21, ⟨by decide +kernel, by decide +kernel, by decide +kernel⟩⟩
      · exact ⟨_, .inl q23, ⟨by decide +kernel, by decide +kernel, by decide +kernel⟩⟩
    refine ⟨.ref p, rfl, .ref a25, rfl, p, c, a25, _, _, rfl, hpk, T9, .inl (.inl z25), (hp.ex ((e1.trans (e2.trans (e3.trans (e4.trans (e5.trans (e6.trans (e7.trans (e8.trans (e9.trans (e10.trans (e11.trans (e12.trans (e13.trans (e14.trans (e15.trans (e16.trans (e17.trans (e18.trans (e19.trans (e20.trans (e21.trans (e22.trans (e23.trans e24))))))))))))))))))))))))).new1 n25, (fun z => nomatch z), (by show 27 ≤ 1000000; decide), fun x H' hx x1 hp1 => ?_⟩
    obtain ⟨d, hd, hs⟩ := each x hx
    exact q H' x d ((Exx.ex ee).trans x1) hp1 (hd.keep (hpk.tk x1)) hs
end
end Wb

set_option Elab.async false
set_option linter.all false
set_option maxRecDepth 100000
set_option maxHeartbeats 4000000
set_option pp.maxSteps 600
set_option pp.deepTerms false
namespace Wb
open PySem PySem.Spec PyProof.Rows L2
abbrev sWish : Stmt := topS 35
abbrev nWish : List Str := ["_law_pen_here", "_law_lock_here", "_law_found", "_law_way", "_law_at", "_law_place", "_law_k"]
theorem scWish : FnScope nWish ["_law_pen_here", "_law_lock_here"] (defScope sWish) := ⟨rfl, rfl, rfl, by decide +kernel, rfl, by decide +kernel, by decide +kernel⟩
/-- a place or None -/
def ScV (x : V) : Prop := x = .non ∨ ∃ i : Int, x = .int i ∧ 0 ≤ i ∧ i ≤ 4
def WoAt (H : Hp) (u : V) (xs : List V) : Prop := ∃ a, u = .ref a ∧ H a = some (.tup xs) ∧ ∀ x ∈ xs, ScV x
def spWish (K : PySem.W.Frag) : Sp := fun vs H Q _ => ∃ (p c : Addr) (v : V) (l : Lock) (T : Int), vs = [.ref p, v] ∧ PenAt H p c T ∧ T ≤ 8000000 ∧ LockAt K H v l ∧ LockOk l ∧
  ∀ H' u xs, Exx p H H' → PenAt H' p c (T + 300) → WoAt H' u xs → xs.length = l.length → Q u H'
theorem wo_of_wd {K : PySem.W.Frag} {H : Hp} {u : V} {st : Word} {l : Lock} (ok : LockOk l) (h : Wd K H u st) (hin : InAll st (manysOf l)) : WoAt H u (st.map V.int) := by
  obtain ⟨a, rfl, ha⟩ := h
  refine ⟨a, rfl, ha, fun x hx => ?_⟩
  obtain ⟨i, hi, rfl⟩ := List.mem_map.mp hx
  obtain ⟨k, hk⟩ := List.mem_iff_getElem?.mp hi
  have kl : k < st.length := (List.getElem?_eq_some_iff.mp hk).1
  have ml : (manysOf l).length = l.length := by unfold manysOf; rw [List.length_map]
  have kl2 : k < l.length := by have := hin.1; omega
  have mm : (manysOf l)[k]? = some l[k].many := by
    unfold manysOf
    rw [List.getElem?_map, List.getElem?_eq_getElem kl2]
    rfl
  have h1 := hin.2 k i _ hk mm
  have h2 := manys_le ok (List.getElem?_eq_getElem kl2)
  exact .inr ⟨i, rfl, h1.1, by omega⟩
section
variable {P : Program} {w : World} {K : PySem.W.Frag} {mg : Str → Option Value} {base : Heap}
theorem ok_wish {f f1 f2 f3 f4 : Addr} {fd fd1 fd2 fd3 fd4 : FuncData} (F : Fun K "_law_wish" "_law_wish" sWish f fd) (F1 : Fun K "_law_draw" "_law_draw" sDraw f1 fd1) (b1 : Binds K fd1 ["_law_pen_here", "_law_many_here"] []) (g1 : mg "_law_draw" = some (.ref f1))
    (F2 : Fun K "_law_pick" "_law_pick" sPick f2 fd2) (b2 : Binds K fd2 ["_law_pen_here", "_law_some"] []) (g2 : mg "_law_pick" = some (.ref f2))
    (F3 : Fun K "_law_ways" "_law_ways" sAllWays f3 fd3) (b3 : Binds K fd3 ["_law_lock_here"] []) (g3 : mg "_law_ways" = some (.ref f3))
    (F4 : Fun K "_law_stand" "_law_stand" sStand f4 fd4) (b4 : Binds K fd4 ["_law_pen_here", "_law_lock_here"] []) (g4 : mg "_law_stand" = some (.ref f4)) (B : Bi mg) :
    FnOk P w K mg base CX0 4 f fd ["_law_pen_here", "_law_lock_here"] (spWish K) := by
  have G1 : FnOk P w K mg base CX0 1 f1 fd1 ["_law_pen_here", "_law_many_here"] spDraw := ok_draw F1 B
  have G4 : FnOk P w K mg base CX0 3 f4 fd4 ["_law_pen_here", "_law_lock_here"] (spStand K) := ok_stand F4 F1 b1 g1 F2 b2 g2 F3 b3 g3 B
  refine F.ok scWish (fun vs H Q E h => ?_) (fun cdv A outer s H vs Q E hr h => ?_)
  · obtain ⟨p, c, v, l, T, rfl, _⟩ := h; rfl
  · obtain ⟨p, c, v, l, T, rfl, hp, T9, hL, ok, q⟩ := h
    obtain ⟨a, bs, rfl, ha, hbs⟩ := id hL
    have hr1 : Room 1 _ := hr.mono (by decide)
    refine ⟨_, pss_cons (ps_asg (pe_tup (pa_cons (pe_call G4 hr (by rfl) g4 F4.kp b4 .nil pass0 (pa_cons (pv 0) (pa_cons (pv 1) pa_nil))) (pa_cons (pe_call G1 hr1 (by rfl) g1 F1.kp b1 .nil pass0 (pa_cons (pv 0) (pa_cons pe_int pa_nil))) pa_nil)))
          (pg_tup rfl (pgs_cons (pg_name (i := 2) scWish.nd rfl (.inr rfl)) (pgs_cons (pg_name (i := 3) scWish.nd rfl (.inr rfl)) pgs_nil))))
      (pss_cons (ps_set (i := 4) scWish.nd rfl (.inr rfl) (pe_call G1 hr1 (by rfl) g1 F1.kp b1 .nil pass0 (pa_cons (pv 0) (pa_cons (pe_callB call_len_seq (by rfl) B.len PySem.boot_len (pa_cons (pv 1) pa_nil)) pa_nil))))
      (pss_cons (ps_if (pt_cmpR op_eq (pv 3) pe_int (nomark _)) (pss_one (ps_ret (pe_callTy (r := rTupK K) call_tupK (by rfl) B.tuple PyProof.Rows.boot_tuple (pa_cons
          (pe_lc (own := [("_law_place", 5)]) (wi := iTup K (tVar 2)) (g := gName 5) rfl scWish.nd (pi_tup (pv 2)) (blkOk_by (own := [("_law_place", 5)]) (N := nWish) (sc := defScope sWish) (by decide +kernel))
            (fun _ _ _ _ _ => pg_name (i := 5) scWish.nd rfl (Or.inl rfl)) (fun _ _ _ _ _ => pts_nil) (fun _ _ _ _ _ => pe_non)) pa_nil)))) pss_nil)
      (pss_cons (ps_if (pt_cmpR op_lt (pv 3) pe_int (nomark _)) (pss_one (ps_ret (pe_callTy (r := rTupK K) call_tupK (by rfl) B.tuple PyProof.Rows.boot_tuple (pa_cons
          (pe_lc (own := [("_law_k", 6)]) (g := gName 6) rfl scWish.nd (pi_range1 (by rfl) B.range (pa_cons (pe_callB call_len_seq (by rfl) B.len PySem.boot_len (pa_cons (pv 2) pa_nil)) pa_nil)) (blkOk_by (own := [("_law_k", 6)]) (N := nWish) (sc := defScope sWish) (by decide +kernel))
            (fun _ _ _ _ _ => pg_name (i := 6) scWish.nd rfl (Or.inl rfl)) (fun _ _ _ _ _ => pts_nil) (fun _ _ _ _ _ => pe_ifExp (pt_cmpR op_eq (pv 6) (pv 4) (nomark _)) (pe_ix (r := rIxT K) ix_tup (pv 2) (pv 6) (fun _ _ => rfl)) pe_non)) pa_nil)))) pss_nil)
      (pss_one (ps_ret (pe_callTy (r := rTupK K) call_tupK (by rfl) B.tuple PyProof.Rows.boot_tuple (pa_cons
          (pe_lc (own := [("_law_place", 5)]) (wi := iTup K (tVar 2)) (g := gName 5) rfl scWish.nd (pi_tup (pv 2)) (blkOk_by (own := [("_law_place", 5)]) (N := nWish) (sc := defScope sWish) (by decide +kernel))
            (fun _ _ _ _ _ => pg_name (i := 5) scWish.nd rfl (Or.inl rfl)) (fun _ _ _ _ _ => pts_nil)
            (fun _ _ _ _ _ => pe_ifExp (pt_cmpR op_lt (pe_call G1 hr1 (by rfl) g1 F1.kp b1 .nil pass0 (pa_cons (pv 0) (pa_cons pe_int pa_nil))) (pe_op op_sub (pv 3) pe_int) (nomark _)) pe_non (pv 5))) pa_nil))))))), ?_⟩
    have bl : bs.length = l.length := Paired.len hbs
    have l60 := ok.n1
    have l1 := ok.n0
    refine ⟨.ref p, rfl, .ref a, rfl, p, c, .ref a, l, T, rfl, hp, by omega, hL, ok, fun H1 u st x1 hp1 hu hin => ?_⟩
    obtain ⟨ua, rfl, hua⟩ := id hu
    have hwo := wo_of_wd ok hu hin
    have stl : st.length = l.length := by
      have := hin.1
      unfold manysOf at this
      rwa [List.length_map] at this
    refine ⟨.ref p, rfl, p, c, 6, _, rfl, hp1, by decide, by decide, by omega, fun way H2 w0 w6 x2 hp2 => ?_⟩
    refine ⟨(by show 2 ≤ sizeLine; decide), fun tp ntp => ?_⟩
    have e3 := Evl.Ex.new (o := .tup [.ref ua, .int way]) ntp
    have ht3 : (upd H2 tp (.tup [.ref ua, .int way])) tp = some (.tup [.ref ua, .int way]) := upd_same
    generalize upd H2 tp (.tup [.ref ua, .int way]) = H3 at e3 ht3
    have hp3 := hp2.ex e3
    have x3 : Exx p H H3 := x1.trans (x2.trans (Exx.ex e3))
    have hua3 : H3 ua = some (.tup (st.map V.int)) := e3 _ _ ((hp1.tx (K := K) x2).2 _ _ hua)
    have sc : ∀ x ∈ st.map V.int, ScV x := by
      obtain ⟨_, e, _, hs⟩ := hwo
      exact hs
    have ll : (st.map V.int).length = l.length := by rw [List.length_map, stl]
    have ha3 : SqT K H3 a bs := (hp.tx x3).1 _ _ ha
    refine ⟨tp, _, rfl, .inl (.inl ht3), rfl, _, _, rfl, _, _, rfl, rfl, ?_⟩
    refine ⟨.ref p, rfl, .ref a, rfl, a, bs, rfl, .inr ha3, p, c, (bs.length : Nat), _, rfl, hp3, by omega, by omega, by omega, fun at_ H4 at0 at1 x4 hp4 => ?_⟩
    have hua4 : H4 ua = some (.tup (st.map V.int)) := (hp3.tx (K := K) x4).2 _ _ hua3
    have x04 : Exx p H H4 := x3.trans x4
    -- each way out: a new tuple of as many places or None
    have out : ∀ (H5 : Hp) (D : Addr) (ys : List V), Exx p H4 H5 → PenAt H5 p c (T + 200) → H5 D = some (.lst ys) → ys.length = l.length → (∀ y ∈ ys, ScV y) → rTupK K [.ref D] H5 Q := by
      intro H5 D ys x5 hp5 hD hl hs
      refine ⟨D, ys, rfl, .inl ⟨.inl (.inl hD), fun t nt => ?_⟩⟩
      have e6 := Evl.Ex.new (o := .tup ys) nt
      exact q _ (.ref t) ys (x04.trans (x5.trans (Exx.ex e6))) ((hp5.ex e6).mono (by omega)) ⟨t, rfl, upd_same, hs⟩ hl
    refine ⟨.int way, rfl, rfl, _, rfl, ?_⟩
    refine ite2 (fun _ => ?_) (fun _ => ?_)
    · refine ⟨.ref ua, rfl, ua, rfl, ⟨_, .inl (.inl hua4)⟩, fun D hD => ?_⟩
      refine lc_tup (K := K) (a := ua) (xs := st.map V.int) (fun i H' => Evl.Ex H4 H' ∧ H' D = some (.lst (List.replicate i V.non))) ⟨Evl.Ex.new hD, upd_same⟩ ?_ ?_ ?_
      · rintro i H' _ ⟨e, _⟩
        exact .inl (.inl (e _ _ hua4))
      · rintro i x H5 hx ⟨e, hD5⟩
        have il : i < (st.map V.int).length := (List.getElem?_eq_some_iff.mp hx).1
        refine ⟨rfl, _, hD5, Nat.lt_of_le_of_lt (by rw [List.length_replicate]; omega : (List.replicate i V.non).length ≤ 60) (by decide), e.mut hD, ?_⟩
        rw [upd_same, List.replicate_succ']
      · rintro H5 ⟨e, hD5⟩
        refine out H5 D _ (Exx.ex e) ((hp4.ex e).mono (by omega)) hD5 (by rw [List.length_replicate, ll]) fun y hy => ?_
        rw [(List.mem_replicate.mp hy).2]
        exact .inl rfl
    · refine ⟨.int way, rfl, way, 3, rfl, rfl, _, rfl, ?_⟩
      refine ite2 (fun _ => ?_) (fun _ => ?_)
      · refine ⟨.ref ua, rfl, ua, _, rfl, .inr (.inl (.inl hua4)), _, rfl, by omega, by omega, fun D hD => ?_⟩
        refine lc_range (lo := 0) (n := (((st.map V.int).length : Nat) : Int).toNat) (fun i H' => ∃ ys : List V, Evl.Ex H4 H' ∧ H' D = some (.lst ys) ∧ ys.length = i ∧ ∀ y ∈ ys, ScV y) ⟨[], Evl.Ex.new hD, upd_same, rfl, fun y hy => (by cases hy)⟩ ?_ ?_
        · rintro i H5 hi ⟨ys, e, hD5, yl, hys⟩
          have ei : (0 : Int) + (i : Nat) = ((i : Nat) : Int) := by omega
          rw [ei]
          have il : i < (st.map V.int).length := by omega
          obtain ⟨x, hx⟩ : ∃ x, (st.map V.int)[i]? = some x := ⟨(st.map V.int)[i], List.getElem?_eq_getElem il⟩
          have put : ∀ y, ScV y → ∃ acc, H5 D = some (.lst acc) ∧ acc.length < sizeLine ∧ ∃ ys : List V, Evl.Ex H4 (upd H5 D (.lst (acc ++ [y]))) ∧ (upd H5 D (.lst (acc ++ [y]))) D = some (.lst ys) ∧ ys.length = i + 1 ∧ ∀ y ∈ ys, ScV y := fun y hy => by
            refine ⟨ys, hD5, Nat.lt_of_le_of_lt (by omega : ys.length ≤ 60) (by decide), ys ++ [y], e.mut hD, upd_same, by rw [List.length_append, yl]; rfl, fun z hz => ?_⟩
            rcases List.mem_append.mp hz with h | h
            · exact hys z h
            · rw [List.mem_singleton.mp h]
              exact hy
          refine ⟨rfl, .int (i : Nat), rfl, .int at_, rfl, rfl, _, rfl, ?_⟩
          refine ite2 (fun _ => ?_) (fun _ => ?_)
          · exact ⟨.ref ua, rfl, .int (i : Nat), rfl, ua, _, (i : Nat), x, rfl, rfl, .inl (.inl (e _ _ hua4)), atI_nat hx, put x (sc x (List.mem_of_getElem? hx))⟩
          · exact put .non (.inl rfl)
        · rintro H5 ⟨ys, e, hD5, yl, hys⟩
          exact out H5 D ys (Exx.ex e) ((hp4.ex e).mono (by omega)) hD5 (by omega) hys
      · refine ⟨.ref ua, rfl, ua, rfl, ⟨_, .inl (.inl hua4)⟩, fun D hD => ?_⟩
        have nDp : D ≠ p := hp4.new1 hD
        have nDc : D ≠ c := hp4.new2 hD
        have hua_p : ua ≠ p := fun z => by
          obtain ⟨cells, t, d, hpp, _⟩ := hp4
          rw [z, hpp] at hua4
          cases hua4
        refine lc_tup (K := K) (a := ua) (xs := st.map V.int) (fun i H' => ∃ ys : List V, Exx p H4 H' ∧ PenAt H' p c (T + 120 + (i : Nat)) ∧ H' D = some (.lst ys) ∧ ys.length = i ∧ ∀ y ∈ ys, ScV y) ⟨[], Exx.ex (Evl.Ex.new hD), ?_, upd_same, rfl, fun y hy => (by cases hy)⟩ ?_ ?_ ?_
        · exact (hp4.put (o := .lst []) nDp nDc).mono (by omega)
        · rintro i H' _ ⟨_, e, _⟩
          exact .inl (.inl (e _ _ hua_p hua4))
        · rintro i x H5 hx ⟨ys, x5, hp5, hD5, yl, hys⟩
          have il : i < (st.map V.int).length := (List.getElem?_eq_some_iff.mp hx).1
          refine ⟨rfl, .ref p, rfl, p, c, 6, _, rfl, hp5, by decide, by decide, by omega, fun r H6 r0 r6 x6 hp6 => ?_⟩
          have hD6 := x6 _ _ nDp hD5
          have put : ∀ y, ScV y → ∃ acc, H6 D = some (.lst acc) ∧ acc.length < sizeLine ∧ ∃ ys : List V, Exx p H4 (upd H6 D (.lst (acc ++ [y]))) ∧ PenAt (upd H6 D (.lst (acc ++ [y]))) p c (T + 120 + ((i + 1 : Nat) : Int)) ∧ (upd H6 D (.lst (acc ++ [y]))) D = some (.lst ys) ∧ ys.length = i + 1 ∧ ∀ y ∈ ys, ScV y := fun y hy => by
            refine ⟨ys, hD6, Nat.lt_of_le_of_lt (by omega : ys.length ≤ 60) (by decide), ys ++ [y], (x5.trans x6).mut hD, (hp6.put nDp nDc).mono (by omega), upd_same, by rw [List.length_append, yl]; rfl, fun z hz => ?_⟩
            rcases List.mem_append.mp hz with h | h
            · exact hys z h
            · rw [List.mem_singleton.mp h]
              exact hy
          refine ⟨.int way, rfl, way, 2, rfl, rfl, r, way - 2, rfl, rfl, _, rfl, ?_⟩
          refine ite2 (fun _ => ?_) (fun _ => ?_)
          · exact put .non (.inl rfl)
          · exact ⟨x, rfl, put x (sc x (List.mem_of_getElem? hx))⟩
        · rintro H5 ⟨ys, x5, hp5, hD5, yl, hys⟩
          exact out H5 D ys x5 (hp5.mono (by omega)) hD5 (by omega) hys
end
end Wb

set_option Elab.async false
set_option linter.all false
set_option maxRecDepth 100000
set_option maxHeartbeats 4000000
set_option pp.maxSteps 600
set_option pp.deepTerms false
namespace Wb
open PySem PySem.Spec PyProof.Rows L2
/-! ### parts of tuples, tuples together, whatever the parts are -/
theorem cutV_whole {xs : List V} {lo hi : Option Int} (h : HT.sIx xs.length 0 lo = 0 ∧ HT.sIx xs.length xs.length hi = xs.length) : cutV xs lo hi = xs := by
  unfold cutV
  rw [h.1, h.2, List.drop_zero, Nat.sub_zero, List.take_length]
theorem mem_cutV {xs : List V} {lo hi : Option Int} {x : V} (h : x ∈ cutV xs lo hi) : x ∈ xs := by
  unfold cutV at h
  exact List.mem_of_mem_drop (List.mem_of_mem_take h)
section
variable {K : PySem.W.Frag} {H : Hp} {Q : VK} {a b : Addr} {xs ys : List V}
theorem sl_any {lo hi : Option Int} (ha : SqT K H a xs) (q : ∀ H' z, Evl.Ex H H' → SqT K H' z (cutV xs lo hi) → Q (.ref z) H') : rSlA K (.ref a) lo hi H Q := by
  refine ⟨a, xs, rfl, ha, fun h => ?_, fun _ t nt => ?_⟩
  · exact q H a (Evl.Ex.refl H) (by rw [cutV_whole h]; exact ha)
  · exact q _ t (Evl.Ex.new nt) (.inl (.inl upd_same))
theorem cat_any (ha : SqT K H a xs) (hb : SqT K H b ys) (hz : xs.length + ys.length ≤ sizeLine) (q : ∀ H' z, Evl.Ex H H' → SqT K H' z (xs ++ ys) → Q (.ref z) H') : rCatA K (.ref a) (.ref b) H Q := by
  refine ⟨a, b, xs, ys, rfl, rfl, ha, hb, hz, fun h => ?_, fun _ h => ?_, fun _ _ t nt => ?_⟩
  · exact q H b (Evl.Ex.refl H) (by rw [h]; exact hb)
  · exact q H a (Evl.Ex.refl H) (by rw [h, List.append_nil]; exact ha)
  · exact q _ t (Evl.Ex.new nt) (.inl (.inl upd_same))
end
/-! ### what can be written, whatever it is -/
structure SmAll (ds : List PyData) (n S : Nat) : Prop where
  sho : PyData.showableAll ds = true
  dep : PyData.depthAll ds ≤ n
  len : piled (PyData.shownAll ds) ≤ S
theorem SmAll.rep {n B : Nat} : ∀ {ds : List PyData}, (∀ d ∈ ds, Sm d n B) → SmAll ds n (ds.length * (B + 2))
  | [], _ => ⟨rfl, Nat.zero_le _, by simp [PyData.shownAll, piled]⟩
  | d :: ds, h => by
    obtain ⟨a2, a3, a4⟩ := h d List.mem_cons_self
    obtain ⟨b2, b3, b4⟩ := SmAll.rep fun d' hd => h d' (List.mem_cons_of_mem _ hd)
    refine ⟨by simp [PyData.showableAll, a2, b2], by simp only [PyData.depthAll]; omega, ?_⟩
    simp only [PyData.shownAll, piled_cons]
    rw [List.length_cons, Nat.succ_mul]
    omega
theorem sm_tup {ds : List PyData} {n S : Nat} (h : SmAll ds n S) : Sm (.tuple ds) (n + 1) (S + 3) := by
  obtain ⟨b2, b3, b4⟩ := h
  refine ⟨by simpa only [PyData.showable] using b2, by simp only [PyData.depth]; omega, ?_⟩
  simp only [PyData.shown]
  unfold tupleText
  rw [strLen_append, strLen_append]
  have e1 : ((("(" : String) : Str)).length = 1 := rfl
  have e3 : (((if (PyData.shownAll ds).length == 1 then ",)" else ")" : String) : Str)).length ≤ 2 := by split <;> decide
  have := join_le (PyData.shownAll ds)
  omega
theorem sm_lst {ds : List PyData} {n S : Nat} (h : SmAll ds n S) : Sm (.list ds) (n + 1) (S + 3) := by
  obtain ⟨b2, b3, b4⟩ := h
  refine ⟨by simpa only [PyData.showable] using b2, by simp only [PyData.depth]; omega, ?_⟩
  simp only [PyData.shown]
  unfold listText
  rw [strLen_append]
  have e1 : ((("]" : String) : Str)).length = 1 := rfl
  have e2 : ((("[" : String) : Str)).length = 1 := rfl
  have := textFrom_le (PyData.shownAll ds) 0 "["
  omega
theorem Sm.mono {d : PyData} {n n' L L' : Nat} (h : Sm d n L) (a : n ≤ n') (b : L ≤ L') : Sm d n' L' := ⟨h.1, Nat.le_trans h.2 a, Nat.le_trans h.3 b⟩
theorem Fine.sm {d : PyData} {n L : Nat} (h : Fine d n L) : Sm d n L := ⟨h.sho, h.dep, h.len⟩
def dS : V → PyData
  | .int i => .int i
  | .bl b => .bool b
  | .str x => .str x
  | _ => .none
theorem sc_sm {x : V} (h : ScV x) : Sm (dS x) 3 200 := by
  rcases h with rfl | ⟨i, rfl, h0, h1⟩
  · exact ⟨by decide +kernel, by decide +kernel, by decide +kernel⟩
  · exact (fine_small h0 (by omega)).sm.mono (by decide) (by decide)
section
variable {K : PySem.W.Frag} {H H' : Hp}
theorem sc_mx {x : V} (h : ScV x) : Mx H x (dS x) := by
  rcases h with rfl | ⟨i, rfl, h0, h1⟩
  · exact .non
  · exact .int i
theorem sc_dp {x : V} (h : ScV x) : Dp K H x (dS x) := by
  rcases h with rfl | ⟨i, rfl, h0, h1⟩
  · exact .non
  · exact .int i
theorem paired_dS {R : V → PyData → Prop} : ∀ {xs : List V}, (∀ x ∈ xs, R x (dS x)) → Paired R xs (xs.map dS)
  | [], _ => .nil
  | x :: xs, h => .cons (h x List.mem_cons_self) (paired_dS fun y hy => h y (List.mem_cons_of_mem _ hy))
/-- small things -/
def Sk (K : PySem.W.Frag) (H : Hp) (v : V) : Prop := ∃ d, Th K H v d ∧ Sm d 5 40000
theorem Sk.keep (e : TK K H H') {v : V} (h : Sk K H v) : Sk K H' v := by
  obtain ⟨d, h1, h2⟩ := h
  exact ⟨d, h1.keep e, h2⟩
theorem Od.sk {v : V} {d : PyData} (h : Od K H v d) (s : Sm d 3 200) : Sk K H v := ⟨d, h.th, s.mono (by decide) (by decide)⟩
theorem sk_tup {a : Addr} {xs : List V} (h : SqT K H a xs) (hs : ∀ x ∈ xs, ScV x) (n : xs.length ≤ 190) : Sk K H (.ref a) := by
  refine ⟨.tuple (xs.map dS), .dp (.tup h (dp_paired (paired_dS fun x hx => sc_dp (hs x hx)))), ?_⟩
  have z := SmAll.rep (ds := xs.map dS) (n := 3) (B := 200) fun d hd => by
    obtain ⟨x, hx, rfl⟩ := List.mem_map.mp hd
    exact sc_sm (hs x hx)
  rw [List.length_map] at z
  exact (sm_tup z).mono (by decide) (by omega)
theorem sk_lst {a : Addr} {xs : List V} (h : SqL K H a xs) (hs : ∀ x ∈ xs, ScV x) (n : xs.length ≤ 190) : Sk K H (.ref a) := by
  refine ⟨.list (xs.map dS), .dp (.lst h (dp_paired (paired_dS fun x hx => sc_dp (hs x hx)))), ?_⟩
  have z := SmAll.rep (ds := xs.map dS) (n := 3) (B := 200) fun d hd => by
    obtain ⟨x, hx, rfl⟩ := List.mem_map.mp hd
    exact sc_sm (hs x hx)
  rw [List.length_map] at z
  exact (sm_lst z).mono (by decide) (by omega)
/-- places or None with one odd thing among them -/
theorem sk_mid {a : Addr} {xs ys : List V} {y : V} {d : PyData} (h : SqT K H a (xs ++ [y] ++ ys)) (hx : ∀ x ∈ xs, ScV x) (hy : ∀ x ∈ ys, ScV x) (hd : Od K H y d) (s : Sm d 3 200) (n : xs.length + ys.length ≤ 180) : Sk K H (.ref a) := by
  refine ⟨.tuple (xs.map dS ++ [d] ++ ys.map dS), ?_, ?_⟩
  · rcases hd with hd | hd
    · exact .dp (.tup h (dp_paired (Paired.app (Paired.app (paired_dS fun x hx' => sc_dp (hx x hx')) (.cons hd .nil)) (paired_dS fun x hx' => sc_dp (hy x hx')))))
    · exact .tup h (Paired.app (Paired.app (paired_dS fun x hx' => sc_mx (hx x hx')) (.cons hd .nil)) (paired_dS fun x hx' => sc_mx (hy x hx')))
  · have z := SmAll.rep (ds := xs.map dS ++ [d] ++ ys.map dS) (n := 3) (B := 200) fun d' hd' => by
      rcases List.mem_append.mp hd' with h1 | h1
      · rcases List.mem_append.mp h1 with h2 | h2
        · obtain ⟨x, hx', rfl⟩ := List.mem_map.mp h2
          exact sc_sm (hx x hx')
        · rw [List.mem_singleton.mp h2]
          exact s
      · obtain ⟨x, hx', rfl⟩ := List.mem_map.mp h1
        exact sc_sm (hy x hx')
    rw [List.length_append, List.length_append, List.length_map, List.length_map, List.length_singleton] at z
    exact (sm_tup z).mono (by decide) (by omega)
theorem kit_seq (d : PyData) : PySem.W.kitAny K (.type (tyS d)) [.type "tuple", .type "list"] = some (isTup d || isLst d) := by
  have h1 := kit_ty (K := K) (kit_tup d)
  have h2 := kit_ty (K := K) (kit_lst d)
  unfold PySem.W.kitAny
  rw [h1]
  cases isTup d with
  | true => rfl
  | false =>
    show PySem.W.kitAny K (.type (tyS d)) [.type "list"] = _
    unfold PySem.W.kitAny
    rw [h2]
    cases isLst d <;> rfl
end
end Wb

set_option Elab.async false
set_option linter.all false
set_option maxRecDepth 100000
set_option maxHeartbeats 4000000
set_option pp.maxSteps 600
set_option pp.deepTerms false
namespace Wb
open PySem PySem.Spec PyProof.Rows L2
abbrev sBent : Stmt := topS 38
abbrev nBent : List Str := ["_law_pen_here", "_law_thing", "_law_at", "_law_way", "_law_inner", "_law_some"]
theorem scBent : FnScope nBent ["_law_pen_here", "_law_thing"] (defScope sBent) := ⟨rfl, rfl, rfl, by decide +kernel, rfl, by decide +kernel, by decide +kernel⟩
theorem nopart1 {σ : L2.St} {H : Hp} {F : Option Int → Hp → Prop} (h : F none H) : tNoPart σ H F := h
def spNo : Sp := fun _ _ _ _ => False
/-- a place or None bent; with ok1 a tuple of such, too -/
def spBent (ok1 : Prop) (K : PySem.W.Frag) : Sp := fun vs H Q _ => ∃ (p c : Addr) (T : Int), PenAt H p c T ∧ T ≤ 9000000 ∧
  ((∃ x, vs = [.ref p, x] ∧ ScV x ∧ ∀ H' v d, Exx p H H' → PenAt H' p c (T + 10) → Od K H' v d → Sm d 3 200 → Q v H') ∨
    (ok1 ∧ T ≤ 8000000 ∧ ∃ a xs, vs = [.ref p, .ref a] ∧ H a = some (.tup xs) ∧ (∀ x ∈ xs, ScV x) ∧ 1 ≤ xs.length ∧ xs.length ≤ 60 ∧ ∀ H' v, Exx p H H' → PenAt H' p c (T + 30) → Sk K H' v → Q v H'))
section
variable {P : Program} {w : World} {K : PySem.W.Frag} {mg : Str → Option Value} {base : Heap}
theorem ok_no {f : Addr} {fd : FuncData} (F : Fun K "_law_bent" "_law_bent" sBent f fd) : FnOk P w K mg base CX0 1 f fd ["_law_pen_here", "_law_thing"] spNo :=
  F.ok scBent (fun vs H Q E h => False.elim h) (fun cdv A outer s H vs Q E hr h => False.elim h)
theorem ok_bent {f f1 f2 f3 : Addr} {fd fd1 fd2 fd3 : FuncData} {ks m : Nat} {ok1 : Prop} {spI : Sp} (F : Fun K "_law_bent" "_law_bent" sBent f fd) (bb : Binds K fd ["_law_pen_here", "_law_thing"] []) (gb : mg "_law_bent" = some (.ref f))
    (F1 : Fun K "_law_draw" "_law_draw" sDraw f1 fd1) (b1 : Binds K fd1 ["_law_pen_here", "_law_many_here"] []) (g1 : mg "_law_draw" = some (.ref f1))
    (F2 : Fun K "_law_pick" "_law_pick" sPick f2 fd2) (b2 : Binds K fd2 ["_law_pen_here", "_law_some"] []) (g2 : mg "_law_pick" = some (.ref f2))
    (F3 : Fun K "_law_odd" "_law_odd" sOdd f3 fd3) (b3 : Binds K fd3 ["_law_pen_here"] []) (g3 : mg "_law_odd" = some (.ref f3))
    (str_ : mg "str" = none) (B : Bi mg) (GI : FnOk P w K mg base CX0 ks f fd ["_law_pen_here", "_law_thing"] spI) (hks : ks ≤ m) (h3 : 3 ≤ m) (hI : ok1 → spI = spBent False K) :
    FnOk P w K mg base CX0 (m + 1) f fd ["_law_pen_here", "_law_thing"] (spBent ok1 K) := by
  have G1 : FnOk P w K mg base CX0 1 f1 fd1 ["_law_pen_here", "_law_many_here"] spDraw := ok_draw F1 B
  have G2 : FnOk P w K mg base CX0 2 f2 fd2 ["_law_pen_here", "_law_some"] (spPick K) := ok_pick F2 F1 b1 g1 B
  have G3 : FnOk P w K mg base CX0 3 f3 fd3 ["_law_pen_here"] (spOdd K) := ok_odd F3 F1 b1 g1 F2 b2 g2 B
  refine F.ok scBent (fun vs H Q E h => ?_) (fun cdv A outer s H vs Q E hr h => ?_)
  · obtain ⟨p, c, T, _, _, ⟨x, rfl, _⟩ | ⟨_, _, a, xs, rfl, _⟩⟩ := h <;> rfl
  · have hr1 : Room 1 _ := hr.mono (by omega)
    have hr2 : Room 2 _ := hr.mono (by omega)
    have hr3 : Room 3 _ := hr.mono h3
    have hrI : Room ks _ := hr.mono hks
    obtain ⟨p, c, T, hp, T9, h⟩ := h
    refine ⟨_, Evl.pss_cut (ps_if (PW.pt (pw_and (pt_val (pe_callB call_isiT (by rfl) B.isi boot_isinstance (pa_cons (pv 1) (pa_cons (pe_tup (pa_cons (pe_bltn (v := .ty "tuple") (by rfl) B.tuple (by decide +kernel) rfl) (pa_cons (pe_bltn (v := .ty "list") (by rfl) B.list (by decide +kernel) rfl) pa_nil))) pa_nil))))
          (pw_and (pt_cmpR op_gt (pe_callB call_len_seq (by rfl) B.len PySem.boot_len (pa_cons (pv 1) pa_nil)) pe_int (nomark _))
            (pw_and1 (pt_cmpR op_gt (pe_call G1 hr1 (by rfl) g1 F1.kp b1 .nil pass0 (pa_cons (pv 0) (pa_cons pe_int pa_nil))) pe_int (nomark _))))))
        (pss_cons (ps_par (by rfl) scBent.nd (i := 2) (j := 3) rfl rfl (by decide) rfl rfl (pa_cons (pe_call G1 hr1 (by rfl) g1 F1.kp b1 .nil pass0 (pa_cons (pv 0) (pa_cons (pe_callB call_len_seq (by rfl) B.len PySem.boot_len (pa_cons (pv 1) pa_nil)) pa_nil)))
            (pa_cons (pe_call G1 hr1 (by rfl) g1 F1.kp b1 .nil pass0 (pa_cons (pv 0) (pa_cons pe_int pa_nil))) pa_nil)) (by rfl))
        (pss_cons (ps_if (pt_cmpR op_lt (pv 3) pe_int (nomark _))
            (pss_cons (ps_set (i := 4) scBent.nd rfl (.inl rfl) (pe_lst (pa_cons (pe_call GI hrI (by rfl) gb F.kp bb .nil pass0 (pa_cons (pv 0) (pa_cons (pe_ix (r := rIxT K) ix_tup (pv 1) (pv 2) (fun _ _ => rfl)) pa_nil))) pa_nil)))
            (pss_cons (ps_set (i := 4) scBent.nd rfl (.inl rfl) (pe_ifExp (pt_val (pe_callB call_isi (by rfl) B.isi boot_isinstance (pa_cons (pv 1) (pa_cons (pe_bltn (v := .ty "list") (by rfl) B.list (by decide +kernel) rfl) pa_nil)))) (pv 4) (pe_callTy (r := rTupK K) call_tupK (by rfl) B.tuple PyProof.Rows.boot_tuple (pa_cons (pv 4) pa_nil))))
            (pss_one (ps_ret (pe_op op_catA (pe_op op_catA (pe_slice (r := rSlA K) sl_tupA (pv 1) po_none (po_some (pv 2))) (pv 4)) (pe_slice (r := rSlA K) sl_tupA (pv 1) (po_some (pe_op op_add (pv 2) pe_int)) po_none)))))) pss_nil)
        (pss_cons (ps_set (i := 5) scBent.nd rfl (.inl rfl) (pe_lst (pa_cons (pe_op op_catA (pe_slice (r := rSlA K) sl_tupA (pv 1) po_none (po_some (pv 2))) (pe_slice (r := rSlA K) sl_tupA (pv 1) (po_some (pe_op op_add (pv 2) pe_int)) po_none))
            (pa_cons (pe_op op_catA (pe_slice (r := rSlA K) sl_tupA (pv 1) po_none (po_some (pe_op op_add (pv 2) pe_int))) (pe_slice (r := rSlA K) sl_tupA (pv 1) (po_some (pv 2)) po_none)) pa_nil))))
        (pss_cons (ps_expr (pe_bm PySem.F.plainAttrs_list PySem.F.slot_list_append PySem.F.type_list_append mt_append (pv 5) (pa_cons (pe_op op_catA (pe_op op_catA (pe_slice (r := rSlA K) sl_tupA (pv 1) po_none (po_some (pv 2)))
            (pe_back (pe_slice (r := rSlA K) sl_tupA (pv 1) (po_some (pv 2)) (po_some (pe_op op_add (pv 2) pe_int))))) (pe_slice (r := rSlA K) sl_tupA (pv 1) (po_some (pe_op op_add (pv 2) pe_int)) po_none)) pa_nil)))
        (pss_one (ps_ret (pe_ix ix_list (pe_op op_cat (pv 5) (pe_lst (pa_cons (pe_ifExp (pt_val (pe_callB call_isi (by rfl) B.isi boot_isinstance (pa_cons (pv 1) (pa_cons (pe_bltn (v := .ty "tuple") (by rfl) B.tuple (by decide +kernel) rfl) pa_nil))))
            (pe_callTy call_list_of (by rfl) B.list PyProof.Rows.boot_list (pa_cons (pv 1) pa_nil)) (pe_callTy (r := rTupK K) call_tupK (by rfl) B.tuple PyProof.Rows.boot_tuple (pa_cons (pv 1) pa_nil))) pa_nil))) (pe_op op_sub (pv 3) pe_int) (fun _ _ => rfl)))))))) pss_nil)
      (Evl.pss_cut (ps_if (PW.pt (pw_and (pt_val (pe_callB call_isi (by rfl) B.isi boot_isinstance (pa_cons (pv 1) (pa_cons (pe_bltn (v := .ty "int") (by rfl) B.int (by decide +kernel) rfl) pa_nil)))) (pw_and1 (pt_cmpR op_gt (pe_call G1 hr1 (by rfl) g1 F1.kp b1 .nil pass0 (pa_cons (pv 0) (pa_cons pe_int pa_nil))) pe_int (nomark _)))))
        (pss_cons (ps_set (i := 5) scBent.nd rfl (.inl rfl) (pe_lst (pa_cons (pe_op op_add (pv 1) pe_int) (pa_cons (pe_op op_sub (pv 1) pe_int) (pa_cons (pe_op op_sub pe_int (pv 1)) (pa_cons (pe_cmpR op_eq (pv 1) pe_int (nomark _)) (pa_cons (pe_callTy call_strO (by rfl) str_ PyProof.Rows.boot_str (pa_cons (pv 1) pa_nil))
            (pa_cons (pe_op op_mul (pv 1) (pe_op op_pow pe_int pe_int)) (pa_cons pe_non (pa_cons (pe_tup (pa_cons (pv 1) pa_nil)) pa_nil))))))))))
        (pss_one (ps_ret (pe_call G2 hr2 (by rfl) g2 F2.kp b2 .nil pass0 (pa_cons (pv 0) (pa_cons (pv 5) pa_nil)))))) pss_nil)
      (pss_cons (ps_if (PW.pt (pw_and (pt_val (pe_callB call_isi (by rfl) B.isi boot_isinstance (pa_cons (pv 1) (pa_cons (pe_bltn (v := .ty "str") (by rfl) str_ (by decide +kernel) rfl) pa_nil)))) (pw_and1 (pt_cmpR op_gt (pe_call G1 hr1 (by rfl) g1 F1.kp b1 .nil pass0 (pa_cons (pv 0) (pa_cons pe_int pa_nil))) pe_int (nomark _)))))
        pss_never pss_nil)
      (pss_one (ps_ret (pe_call G3 hr3 (by rfl) g3 F3.kp b3 .nil pass0 (pa_cons (pv 0) pa_nil)))))), ?_⟩
    -- the thing, and the way out by an odd one
    obtain ⟨y, dy, hvs, hy, hnb, hns, hodd⟩ : ∃ y dy, vs = [.ref p, y] ∧ Th K H y dy ∧ isBool dy = false ∧ isStr dy = false ∧ (∀ H' v d, Exx p H H' → PenAt H' p c (T + 3) → Od K H' v d → Sm d 3 200 → Q v H') := by
      rcases h with ⟨x, e, hx, q⟩ | ⟨_, _, a, xs, e, ha, hs, n1, n60, q⟩
      · refine ⟨x, dS x, e, .mx (sc_mx hx), ?_, ?_, fun H' v d x1 hp1 ho hm => q H' v d x1 (hp1.mono (by omega)) ho hm⟩
        · rcases hx with rfl | ⟨i, rfl, _⟩ <;> rfl
        · rcases hx with rfl | ⟨i, rfl, _⟩ <;> rfl
      · exact ⟨.ref a, .tuple (xs.map dS), e, .dp (.tup (.inl (.inl ha)) (dp_paired (paired_dS fun x hx => sc_dp (hs x hx)))), rfl, rfl, fun H' v d x1 hp1 ho hm => q H' v x1 (hp1.mono (by omega)) (ho.sk hm)⟩
    subst hvs
    refine ⟨fun σ' H' => σ' = [some (.ref p), some y, none, none, none, none] ∧ Exx p H H' ∧ PenAt H' p c (T + 1), ?_, ?_⟩
    · refine ⟨y, rfl, (by show 2 ≤ sizeLine; decide), fun tp ntp => ?_⟩
      have e1 := Evl.Ex.new (o := .tup [.ty "tuple", .ty "list"]) ntp
      refine ⟨y, tp, _, .type (tyS dy), _, (isTup dy || isLst dy), rfl, upd_same, .cons (.ty _) (.cons (.ty _) .nil), (hy.keep (TK.ex e1)).ty, kit_seq dy, _, rfl, ?_⟩
      rcases h with ⟨x, e, hx, q⟩ | ⟨k1, T8, a, xs, e, ha, hs, n1, n60, q⟩
      · have hyx : y = x := by
          have := (List.cons.inj (List.cons.inj e).2).1
          exact this
        have hb : (isTup dy || isLst dy) = false := by
          rw [hyx] at hy
          rcases hx with rfl | ⟨i, rfl, _⟩
          · cases hy with
            | dp h => cases h; rfl
            | mx h => cases h; rfl
          · cases hy with
            | dp h => cases h; rfl
            | mx h => cases h; rfl
        rw [hb]
        refine iteF (iteF ?_)
        exact ⟨rfl, Exx.ex e1, (hp.ex e1).mono (by omega)⟩
      · have hya : y = .ref a := (List.cons.inj (List.cons.inj e).2).1
        subst hya
        have hsp := hI k1
        subst hsp
        have hb : (isTup dy || isLst dy) = true := by
          cases hy with
          | dp h => cases h <;> rfl
          | mx h =>
            cases h with
            | d0 h => rw [ha] at h; cases h
            | d1 h => rw [ha] at h; cases h
          | tup h _ => rfl
        rw [hb]
        refine iteT ?_
        have nap : a ≠ p := fun z => by
          obtain ⟨cells, t, d, hpp, _⟩ := hp
          rw [z, hpp] at ha
          cases ha
        have hp1 := hp.ex e1
        have ha1 := e1 _ _ ha
        refine ⟨.ref a, rfl, a, xs, rfl, .inr (.inl (.inl ha1)), (xs.length : Nat), 0, rfl, rfl, _, rfl, ?_⟩
        refine ite2 (fun _ => ?_) (fun z => absurd (decide_eq_true (by omega)) z)
        refine ⟨.ref p, rfl, p, c, 8, _, rfl, hp1, by decide, by decide, by omega, fun r H2 r0 r8 x2 hp2 => ⟨r, 0, rfl, rfl, _, rfl, ?_⟩⟩
        refine ite2 (fun _ => ?_) (fun _ => ?_)
        · have ha2 := x2 _ _ nap ha1
          refine ⟨.ref p, rfl, .ref a, rfl, a, xs, rfl, .inr (.inl (.inl ha2)), p, c, (xs.length : Nat), _, rfl, hp2, by omega, by omega, by omega, fun at' H3 at0 at1 x3 hp3 => ?_⟩
          obtain ⟨at_, rfl⟩ : ∃ n : Nat, at' = (n : Int) := ⟨at'.toNat, by omega⟩
          refine ⟨.ref p, rfl, p, c, 9, _, rfl, hp3, by decide, by decide, by omega, fun way H4 w0 w9 x4 hp4 => ?_⟩
          refine ⟨.int (at_ : Nat), .int way, rfl, ?_⟩
          have ha4 := x4 _ _ nap (x3 _ _ nap ha2)
          have sq4 : SqT K H4 a xs := .inl (.inl ha4)
          have x04 : Exx p H H4 := (Exx.ex e1).trans (x2.trans (x3.trans x4))
          have al : at_ < xs.length := by omega
          refine ⟨.int way, rfl, way, 5, rfl, rfl, _, rfl, ?_⟩
          refine ite2 (fun _ => ?_) (fun hw => ?_)
          · obtain ⟨x, hx⟩ : ∃ x, xs[at_]? = some x := ⟨xs[at_], List.getElem?_eq_getElem al⟩
            refine ⟨.ref p, rfl, .ref a, rfl, .int (at_ : Nat), rfl, a, xs, (at_ : Nat), x, rfl, rfl, sq4, atI_nat hx, ?_⟩
            refine ⟨p, c, _, hp4, by omega, .inl ⟨x, rfl, hs x (List.mem_of_getElem? hx), fun H5 v d x5 hp5 ho hm => ?_⟩⟩
            refine ⟨(by show 1 ≤ sizeLine; decide), fun l nl => ?_⟩
            have e6 := Evl.Ex.new (o := .lst [v]) nl
            have g6 : (upd H5 l (.lst [v])) l = some (.lst [v]) := upd_same
            generalize upd H5 l (.lst [v]) = H6 at e6 g6
            have sq5 : SqT K H5 a xs := .inl (.inl (x5 _ _ nap ha4))
            have sq6 := Evl.ex_t e6 sq5
            refine ⟨.ref a, rfl, .ref a, .ty "list", .type "tuple", .type "list", false, rfl, .ty _, tyx_tup sq6, kit_ty (by decide +kernel), false, rfl, ?_⟩
            refine iteF ?_
            refine ⟨.ref l, rfl, l, [v], rfl, .inl ⟨SqL.of g6, fun t nt => ?_⟩⟩
            have e7 := Evl.Ex.new (o := .tup [v]) nt
            have g7 : (upd H6 t (.tup [v])) t = some (.tup [v]) := upd_same
            generalize upd H6 t (.tup [v]) = H7 at e7 g7
            have sq7 := Evl.ex_t e7 sq6
            refine ⟨.ref a, rfl, .int (at_ : Nat), rfl, (at_ : Nat), rfl, ?_⟩
            refine sl_any (K := K) (lo := none) (hi := some (at_ : Nat)) sq7 fun H8 z8 e8 s8 => ?_
            have sqt8 : SqT K H8 t [v] := Evl.ex_t e8 (.inl (.inl g7))
            refine ⟨.ref t, rfl, ?_⟩
            have c1 := cutV_length xs none (some ((at_ : Nat) : Int))
            refine cat_any (K := K) s8 sqt8 (Nat.le_trans (by rw [List.length_singleton]; omega : (cutV xs none (some ((at_ : Nat) : Int))).length + [v].length ≤ 61) (by decide)) fun H9 z9 e9 s9 => ?_
            have sq9 := Evl.ex_t (e8.trans e9) sq7
            refine ⟨.ref a, rfl, .int (at_ : Nat), rfl, (at_ : Nat), 1, rfl, rfl, ((at_ : Nat) : Int) + 1, rfl, ?_⟩
            refine nopart1 ?_
            refine sl_any (K := K) (lo := some (((at_ : Nat) : Int) + 1)) (hi := none) sq9 fun H10 z10 e10 s10 => ?_
            have c2 := cutV_length xs (some (((at_ : Nat) : Int) + 1)) none
            refine cat_any (K := K) (Evl.ex_t e10 s9) s10 (Nat.le_trans (by rw [List.length_append, List.length_singleton]; omega : (cutV xs none (some ((at_ : Nat) : Int)) ++ [v]).length + (cutV xs (some (((at_ : Nat) : Int) + 1)) none).length ≤ 121) (by decide)) fun H11 z11 e11 s11 => ?_
            have e511 : Evl.Ex H5 H11 := e6.trans (e7.trans (e8.trans (e9.trans (e10.trans e11))))
            exact q H11 (.ref z11) (x04.trans (x5.trans (Exx.ex e511))) ((hp5.ex e511).mono (by omega)) (sk_mid s11 (fun x hx => hs x (mem_cutV hx)) (fun x hx => hs x (mem_cutV hx)) (ho.keep (TK.ex e511)) hm (by omega))
          · have way5 : 5 ≤ way := Int.not_lt.mp fun z => hw (decide_eq_true z)
            have l120 : ∀ {lo hi lo2 hi2 : Option Int}, (cutV xs lo hi).length + (cutV xs lo2 hi2).length ≤ 120 := fun {lo hi lo2 hi2} => by
              have := cutV_length xs lo hi
              have := cutV_length xs lo2 hi2
              omega
            -- the first
            refine ⟨.ref a, rfl, .int (at_ : Nat), rfl, (at_ : Nat), rfl, ?_⟩
            refine sl_any (K := K) (lo := none) (hi := some (at_ : Nat)) sq4 fun H5 z5 e5 s5 => ?_
            have sq5 := Evl.ex_t e5 sq4
            refine ⟨.ref a, rfl, .int (at_ : Nat), rfl, (at_ : Nat), 1, rfl, rfl, ((at_ : Nat) : Int) + 1, rfl, ?_⟩
            refine nopart1 ?_
            refine sl_any (K := K) (lo := some (((at_ : Nat) : Int) + 1)) (hi := none) sq5 fun H6 z6 e6 s6 => ?_
            refine cat_any (K := K) (Evl.ex_t e6 s5) s6 (Nat.le_trans l120 (by decide)) fun H7 y1 e7 s7 => ?_
            have sq7 := Evl.ex_t (e6.trans e7) sq5
            -- the second
            refine ⟨.ref a, rfl, .int (at_ : Nat), rfl, (at_ : Nat), 1, rfl, rfl, ((at_ : Nat) : Int) + 1, rfl, ?_⟩
            refine sl_any (K := K) (lo := none) (hi := some (((at_ : Nat) : Int) + 1)) sq7 fun H8 z8 e8 s8 => ?_
            have sq8 := Evl.ex_t e8 sq7
            refine ⟨.ref a, rfl, .int (at_ : Nat), rfl, (at_ : Nat), rfl, ?_⟩
            refine nopart1 ?_
            refine sl_any (K := K) (lo := some (at_ : Nat)) (hi := none) sq8 fun H9 z9 e9 s9 => ?_
            refine cat_any (K := K) (Evl.ex_t e9 s8) s9 (Nat.le_trans l120 (by decide)) fun H10 y2 e10 s10 => ?_
            have sq10 := Evl.ex_t (e9.trans e10) sq8
            refine ⟨(by show 2 ≤ sizeLine; decide), fun l nl => ?_⟩
            have e11 := Evl.Ex.new (o := .lst [.ref y1, .ref y2]) nl
            have g11 : (upd H10 l (.lst [.ref y1, .ref y2])) l = some (.lst [.ref y1, .ref y2]) := upd_same
            generalize upd H10 l (.lst [.ref y1, .ref y2]) = H11 at e11 g11
            have sq11 := Evl.ex_t e11 sq10
            -- the third
            refine ⟨.ref l, rfl, .inl ⟨rfl, _, SqL.of g11⟩, ?_⟩
            refine ⟨.ref a, rfl, .int (at_ : Nat), rfl, (at_ : Nat), rfl, ?_⟩
            refine sl_any (K := K) (lo := none) (hi := some (at_ : Nat)) sq11 fun H12 z12 e12 s12 => ?_
            have sq12 := Evl.ex_t e12 sq11
            refine ⟨.ref a, rfl, .int (at_ : Nat), rfl, (at_ : Nat), rfl, .int (at_ : Nat), rfl, (at_ : Nat), 2, rfl, rfl, ((at_ : Nat) : Int) + 2, rfl, ?_⟩
            refine sl_any (K := K) (lo := some (at_ : Nat)) (hi := some (((at_ : Nat) : Int) + 2)) sq12 fun H13 z13 e13 s13 => ?_
            refine ⟨z13, _, rfl, s13, fun z14 n14 => ?_⟩
            have e14 := Evl.Ex.new (o := .tup (cutV xs (some ((at_ : Nat) : Int)) (some (((at_ : Nat) : Int) + 2))).reverse) n14
            have s14 : SqT K (upd H13 z14 (.tup (cutV xs (some ((at_ : Nat) : Int)) (some (((at_ : Nat) : Int) + 2))).reverse)) z14 (cutV xs (some ((at_ : Nat) : Int)) (some (((at_ : Nat) : Int) + 2))).reverse := .inl (.inl upd_same)
            generalize upd H13 z14 (.tup (cutV xs (some ((at_ : Nat) : Int)) (some (((at_ : Nat) : Int) + 2))).reverse) = H14 at e14 s14
            refine cat_any (K := K) (Evl.ex_t (e13.trans e14) s12) s14 (Nat.le_trans (by rw [List.length_reverse]; exact l120) (by decide)) fun H15 z15 e15 s15 => ?_
            have sq15 := Evl.ex_t (e13.trans (e14.trans e15)) sq12
            refine ⟨.ref a, rfl, .int (at_ : Nat), rfl, (at_ : Nat), 2, rfl, rfl, ((at_ : Nat) : Int) + 2, rfl, ?_⟩
            refine nopart1 ?_
            refine sl_any (K := K) (lo := some (((at_ : Nat) : Int) + 2)) (hi := none) sq15 fun H16 z16 e16 s16 => ?_
            have l180 : (cutV xs none (some ((at_ : Nat) : Int)) ++ (cutV xs (some ((at_ : Nat) : Int)) (some (((at_ : Nat) : Int) + 2))).reverse).length + (cutV xs (some (((at_ : Nat) : Int) + 2)) none).length ≤ 180 := by
              have h1 := cutV_length xs none (some ((at_ : Nat) : Int))
              have h2 := cutV_length xs (some ((at_ : Nat) : Int)) (some (((at_ : Nat) : Int) + 2))
              have h3 := cutV_length xs (some (((at_ : Nat) : Int) + 2)) none
              rw [List.length_append, List.length_reverse]
              omega
            refine cat_any (K := K) (Evl.ex_t e16 s15) s16 (Nat.le_trans l180 (by decide)) fun H17 y3 e17 s17 => ?_
            have e1117 := e12.trans (e13.trans (e14.trans (e15.trans (e16.trans e17))))
            have nl4 : H4 l = none := Evl.fresh_back (e5.trans (e6.trans (e7.trans (e8.trans (e9.trans e10))))) nl
            refine ⟨l, [.ref y1, .ref y2], _, rfl, rfl, e1117 _ _ g11, (by show 2 < sizeLine; decide), ?_⟩
            have e4l : Evl.Ex H4 (upd H17 l (.lst ([.ref y1, .ref y2] ++ [.ref y3]))) := (e5.trans (e6.trans (e7.trans (e8.trans (e9.trans (e10.trans (e11.trans e1117))))))).mut nl4
            have keepT : ∀ {b : Addr} {zs : List V}, SqT K H17 b zs → SqT K (upd H17 l (.lst ([.ref y1, .ref y2] ++ [.ref y3]))) b zs := fun {b zs} hz => (TX.put (e1117 _ _ g11)).1 _ _ hz
            have t1 := keepT (Evl.ex_t (e8.trans (e9.trans (e10.trans (e11.trans e1117)))) s7)
            have t2 := keepT (Evl.ex_t (e11.trans e1117) s10)
            have t3 := keepT s17
            have ta := keepT (Evl.ex_t (e11.trans e1117) sq10)
            have gl : (upd H17 l (.lst ([.ref y1, .ref y2] ++ [.ref y3]))) l = some (.lst ([.ref y1, .ref y2] ++ [.ref y3])) := upd_same
            generalize upd H17 l (.lst ([.ref y1, .ref y2] ++ [.ref y3])) = H18 at e4l t1 t2 t3 ta gl
            refine ⟨.ref l, rfl, ?_⟩
            refine ⟨.ref a, rfl, .ref a, .ty "tuple", .type "tuple", .type "tuple", true, rfl, .ty _, tyx_tup ta, kit_ty (by decide +kernel), true, rfl, ?_⟩
            refine iteT ?_
            refine ⟨.ref a, rfl, a, xs, rfl, .inr ta, fun y4 n4 => ?_⟩
            have e19 := Evl.Ex.new (o := .lst xs) n4
            have g19 : (upd H18 y4 (.lst xs)) y4 = some (.lst xs) := upd_same
            generalize upd H18 y4 (.lst xs) = H19 at e19 g19
            refine ⟨(by show 1 ≤ sizeLine; decide), fun l2 nl2 => ?_⟩
            have e20 := Evl.Ex.new (o := .lst [.ref y4]) nl2
            have g20 : (upd H19 l2 (.lst [.ref y4])) l2 = some (.lst [.ref y4]) := upd_same
            generalize upd H19 l2 (.lst [.ref y4]) = H20 at e20 g20
            refine ⟨l, l2, _, _, rfl, rfl, e20 _ _ (e19 _ _ gl), g20, (by show 4 ≤ sizeLine; decide), fun l3 nl3 => ?_⟩
            have e21 := Evl.Ex.new (o := .lst (([.ref y1, .ref y2] ++ [.ref y3]) ++ [.ref y4])) nl3
            have g21 : (upd H20 l3 (.lst (([.ref y1, .ref y2] ++ [.ref y3]) ++ [.ref y4]))) l3 = some (.lst (([.ref y1, .ref y2] ++ [.ref y3]) ++ [.ref y4])) := upd_same
            generalize upd H20 l3 (.lst (([.ref y1, .ref y2] ++ [.ref y3]) ++ [.ref y4])) = H21 at e21 g21
            have e1821 := e19.trans (e20.trans e21)
            have hp21 := hp4.ex (e4l.trans e1821)
            have x21 : Exx p H H21 := x04.trans (Exx.ex (e4l.trans e1821))
            have mem2 : ∀ {lo hi lo2 hi2 : Option Int}, ∀ x ∈ cutV xs lo hi ++ cutV xs lo2 hi2, ScV x := fun x hx => (List.mem_append.mp hx).elim (fun h => hs x (mem_cutV h)) (fun h => hs x (mem_cutV h))
            have k1 : Sk K H21 (.ref y1) := sk_tup (Evl.ex_t e1821 t1) mem2 (by rw [List.length_append]; exact Nat.le_trans l120 (by decide))
            have k2 : Sk K H21 (.ref y2) := sk_tup (Evl.ex_t e1821 t2) mem2 (by rw [List.length_append]; exact Nat.le_trans l120 (by decide))
            have k3 : Sk K H21 (.ref y3) := sk_tup (Evl.ex_t e1821 t3) (fun x hx => by
              rcases List.mem_append.mp hx with h | h
              · rcases List.mem_append.mp h with h | h
                · exact hs x (mem_cutV h)
                · exact hs x (mem_cutV (List.mem_reverse.mp h))
              · exact hs x (mem_cutV h)) (by rw [List.length_append]; exact Nat.le_trans l180 (by decide))
            have k4 : Sk K H21 (.ref y4) := sk_lst (.inl (.inl (e21 _ _ (e20 _ _ g19)))) hs (by omega)
            have fin : ∀ v, Sk K H21 v → Q v H21 := fun v hv => q H21 v x21 (hp21.mono (by omega)) hv
            obtain rfl | rfl | rfl | rfl : way = 5 ∨ way = 6 ∨ way = 7 ∨ way = 8 := by omega
            · exact ⟨.int 5, rfl, 5, 5, rfl, rfl, l3, _, 5 - 5, .ref y1, rfl, rfl, SqL.of g21, rfl, fin _ k1⟩
            · exact ⟨.int 6, rfl, 6, 5, rfl, rfl, l3, _, 6 - 5, .ref y2, rfl, rfl, SqL.of g21, rfl, fin _ k2⟩
            · exact ⟨.int 7, rfl, 7, 5, rfl, rfl, l3, _, 7 - 5, .ref y3, rfl, rfl, SqL.of g21, rfl, fin _ k3⟩
            · exact ⟨.int 8, rfl, 8, 5, rfl, rfl, l3, _, 8 - 5, .ref y4, rfl, rfl, SqL.of g21, rfl, fin _ k4⟩
        · exact ⟨rfl, (Exx.ex e1).trans x2, hp2.mono (by omega)⟩
    · rintro σ' H1 ⟨rfl, x1, hp1⟩
      have hy1 := hy.keep (hp.tk x1)
      refine ⟨fun σ' H' => σ' = [some (.ref p), some y, none, none, none, none] ∧ Exx p H H' ∧ PenAt H' p c (T + 2), ?_, ?_⟩
      · refine ⟨y, rfl, y, .ty "int", .type (tyS dy), .type "int", isInt dy, rfl, .ty _, hy1.ty, kit_ty (kit_int dy), isInt dy, rfl, ?_⟩
        cases hi : isInt dy with
        | false =>
          refine iteF (iteF ?_)
          exact ⟨rfl, x1, hp1.mono (by omega)⟩
        | true =>
          refine iteT ?_
          obtain ⟨i, rfl, rfl⟩ := hy.int_of hi hnb
          obtain ⟨hi0, hi4, hq⟩ : 0 ≤ i ∧ i ≤ 4 ∧ ∀ H' v d, Exx p H H' → PenAt H' p c (T + 10) → Od K H' v d → Sm d 3 200 → Q v H' := by
            rcases h with ⟨x, e, hx, q⟩ | ⟨_, _, a, xs, e, _⟩
            · have hyx : V.int i = x := (List.cons.inj (List.cons.inj e).2).1
              rcases hx with rfl | ⟨j, rfl, h0, h4⟩
              · cases hyx
              · cases hyx
                exact ⟨h0, h4, q⟩
            · have hyx : V.int i = .ref a := (List.cons.inj (List.cons.inj e).2).1
              cases hyx
          refine ⟨.ref p, rfl, p, c, 6, _, rfl, hp1, by decide, by decide, by omega, fun r H2 r0 r6 x2 hp2 => ⟨r, 0, rfl, rfl, _, rfl, ?_⟩⟩
          refine ite2 (fun _ => ?_) (fun _ => ?_)
          · refine ⟨.int i, rfl, i, 1, rfl, rfl, ?_⟩
            refine ⟨.int i, rfl, i, 1, rfl, rfl, ?_⟩
            refine ⟨.int i, rfl, 0, i, rfl, rfl, ?_⟩
            refine ⟨.int i, rfl, rfl, ?_⟩
            have sho : i.natAbs.log2 < 1920 := by
              have := (fine_small hi0 (by omega)).sho
              simp only [PyData.showable] at this
              exact of_decide_eq_true this
            refine ⟨.int i, rfl, .inl ⟨i, rfl, sho, ?_⟩⟩
            refine ⟨.int i, rfl, 10, 6, rfl, rfl, ⟨by decide, by decide, by decide⟩, i, _, rfl, rfl, .inl ⟨by omega, by omega⟩, ?_⟩
            refine ⟨.int i, rfl, (by show 1 ≤ sizeLine; decide), fun t nt => ?_⟩
            have e3 := Evl.Ex.new (o := .tup [.int i]) nt
            have g3 : (upd H2 t (.tup [.int i])) t = some (.tup [.int i]) := upd_same
            generalize upd H2 t (.tup [.int i]) = H3 at e3 g3
            refine ⟨(by show 8 ≤ sizeLine; decide), fun l nl => ?_⟩
            have e4 := Evl.Ex.new (o := .lst [.int (i + 1), .int (i - 1), .int (0 - i), .bl (decide (V.int i = V.int 1)), .str (toString i), .int (i * 10 ^ (6 : Int).toNat), .non, .ref t]) nl
            have g4 : (upd H3 l (.lst [.int (i + 1), .int (i - 1), .int (0 - i), .bl (decide (V.int i = V.int 1)), .str (toString i), .int (i * 10 ^ (6 : Int).toNat), .non, .ref t])) l = some (.lst [.int (i + 1), .int (i - 1), .int (0 - i), .bl (decide (V.int i = V.int 1)), .str (toString i), .int (i * 10 ^ (6 : Int).toNat), .non, .ref t]) := upd_same
            generalize upd H3 l (.lst [.int (i + 1), .int (i - 1), .int (0 - i), .bl (decide (V.int i = V.int 1)), .str (toString i), .int (i * 10 ^ (6 : Int).toNat), .non, .ref t]) = H4 at e4 g4
            have hp4 := hp2.ex (e3.trans e4)
            have six : (10 : Int) ^ (6 : Int).toNat = 1000000 := by decide
            have small : ∀ z : Int, z.natAbs < 10 ^ 7 → Sm (.int z) 3 200 := fun z hz => (fine_int hz).sm.mono (by decide) (by decide)
            have each : ∀ x ∈ ([.int (i + 1), .int (i - 1), .int (0 - i), .bl (decide (V.int i = V.int 1)), .str (toString i), .int (i * 10 ^ (6 : Int).toNat), .non, .ref t] : List V), ∃ d, Od K H4 x d ∧ Sm d 3 200 := by
              intro x hx
              simp only [List.mem_cons, List.not_mem_nil, or_false] at hx
              have tens : (10 : Nat) ^ 7 = 10000000 := by decide
              rcases hx with rfl | rfl | rfl | rfl | rfl | rfl | rfl | rfl
              · exact ⟨_, .inl (.int _), small _ (by rw [tens]; omega)⟩
              · exact ⟨_, .inl (.int _), small _ (by rw [tens]; omega)⟩
              · exact ⟨_, .inl (.int _), small _ (by rw [tens]; omega)⟩
              · refine ⟨_, .inl (.bl _), ?_⟩
                generalize decide (V.int i = V.int 1) = bq
                cases bq <;> exact ⟨by decide +kernel, by decide +kernel, by decide +kernel⟩
              · refine ⟨_, .inl (.str _), ?_⟩
                obtain rfl | rfl | rfl | rfl | rfl : i = 0 ∨ i = 1 ∨ i = 2 ∨ i = 3 ∨ i = 4 := by omega
                all_goals exact ⟨by decide +kernel, by decide +kernel, by decide +kernel⟩
              · exact ⟨_, .inl (.int _), small _ (by rw [tens, six]; omega)⟩
              · exact ⟨_, .inl .non, ⟨by decide +kernel, by decide +kernel, by decide +kernel⟩⟩
              · refine ⟨.tuple [.int i], .inl (.tup (.inl (.inl (e4 _ _ g3))) (.cons (.int i) .nil)), ?_⟩
                obtain rfl | rfl | rfl | rfl | rfl : i = 0 ∨ i = 1 ∨ i = 2 ∨ i = 3 ∨ i = 4 := by omega
                all_goals exact ⟨by decide +kernel, by decide +kernel, by decide +kernel⟩
            refine ⟨.ref p, rfl, .ref l, rfl, p, c, l, _, _, rfl, hp4, by omega, .inl (.inl g4), (hp2.ex e3).new1 nl, (fun z => nomatch z), (by show 8 ≤ 1000000; decide), fun x H5 hx x5 hp5 => ?_⟩
            obtain ⟨d, ho, hm⟩ := each x hx
            exact hq H5 x d (x1.trans (x2.trans ((Exx.ex (e3.trans e4)).trans x5))) (hp5.mono (by omega)) (ho.keep (hp4.tk x5)) hm
          · exact ⟨rfl, x1.trans x2, hp2.mono (by omega)⟩
      · rintro σ' H2 ⟨rfl, x2, hp2⟩
        have hy2 := hy.keep (hp.tk x2)
        refine ⟨y, rfl, y, .ty "str", .type (tyS dy), .type "str", isStr dy, rfl, .ty _, hy2.ty, kit_ty (kit_str dy), isStr dy, rfl, ?_⟩
        rw [hns]
        refine iteF (iteF ?_)
        exact ⟨.ref p, rfl, p, c, _, rfl, hp2, by omega, fun H3 v d x3 hp3 ho hm => hodd H3 v d (x2.trans x3) (hp3.mono (by omega)) ho hm⟩
end
end Wb

set_option Elab.async false
set_option linter.all false
set_option maxRecDepth 100000
set_option maxHeartbeats 4000000
set_option pp.maxSteps 600
set_option pp.deepTerms false
namespace Wb
open PySem PySem.Spec PyProof.Rows L2
abbrev sNear : Stmt := topS 41
abbrev nNear : List Str := ["_law_pen_here", "_law_lock_here", "_law_word", "_law_k", "_law_some", "_law_fresh", "_law_more"]
theorem scNear : FnScope nNear ["_law_pen_here", "_law_lock_here", "_law_word"] (defScope sNear) := ⟨rfl, rfl, rfl, by decide +kernel, rfl, by decide +kernel, by decide +kernel⟩
def spNear (K : PySem.W.Frag) : Sp := fun vs H Q _ => ∃ (p c : Addr) (v u : V) (l : Lock) (xs : List V) (T : Int), vs = [.ref p, v, u] ∧ PenAt H p c T ∧ T ≤ 7000000 ∧ LockAt K H v l ∧ LockOk l ∧ WoAt H u xs ∧ xs.length = l.length ∧
  ∀ H' z, Exx p H H' → PenAt H' p c (T + 60) → Sk K H' z → Q z H'
def rStrO : List V → Hp → VK → Prop := fun xs H Q => (∃ i, xs = [.int i] ∧ i.natAbs.log2 < 1920 ∧ Q (.str (toString i)) H) ∨ (xs = [.non] ∧ Q (.str "None") H)
theorem call_strN {X : Cx} : CallR X (.type "str") rStrO := call_strO
theorem tnil1 {σ : L2.St} {H : Hp} {F : List V → Hp → Prop} (h : F [] H) : tNil σ H F := h
theorem str_any {x : V} (h : ScV x) : ∃ s : Str, Sm (.str s) 3 200 ∧ ∀ (Q : VK) (H : Hp), Q (.str s) H → rStrO [x] H Q := by
  rcases h with rfl | ⟨i, rfl, h0, h4⟩
  · exact ⟨"None", ⟨by decide +kernel, by decide +kernel, by decide +kernel⟩, fun Q H q => .inr ⟨rfl, q⟩⟩
  · have sho : i.natAbs.log2 < 1920 := by
      have := (fine_small h0 (by omega)).sho
      simp only [PyData.showable] at this
      exact of_decide_eq_true this
    refine ⟨toString i, ?_, fun Q H q => .inl ⟨i, rfl, sho, q⟩⟩
    obtain rfl | rfl | rfl | rfl | rfl : i = 0 ∨ i = 1 ∨ i = 2 ∨ i = 3 ∨ i = 4 := by omega
    all_goals exact ⟨by decide +kernel, by decide +kernel, by decide +kernel⟩
theorem one_tup {x : V} (h : ScV x) : Sm (.tuple [dS x]) 3 200 := by
  rcases h with rfl | ⟨i, rfl, h0, h4⟩
  · exact ⟨by decide +kernel, by decide +kernel, by decide +kernel⟩
  · obtain rfl | rfl | rfl | rfl | rfl : i = 0 ∨ i = 1 ∨ i = 2 ∨ i = 3 ∨ i = 4 := by omega
    all_goals exact ⟨by decide +kernel, by decide +kernel, by decide +kernel⟩
section
variable {P : Program} {w : World} {K : PySem.W.Frag} {mg : Str → Option Value} {base : Heap}
theorem ok_near {f f1 f2 f3 f4 : Addr} {fd fd1 fd2 fd3 fd4 : FuncData} (F : Fun K "_law_near" "_law_near" sNear f fd)
    (F1 : Fun K "_law_draw" "_law_draw" sDraw f1 fd1) (b1 : Binds K fd1 ["_law_pen_here", "_law_many_here"] []) (g1 : mg "_law_draw" = some (.ref f1))
    (F2 : Fun K "_law_pick" "_law_pick" sPick f2 fd2) (b2 : Binds K fd2 ["_law_pen_here", "_law_some"] []) (g2 : mg "_law_pick" = some (.ref f2))
    (F3 : Fun K "_law_odd" "_law_odd" sOdd f3 fd3) (b3 : Binds K fd3 ["_law_pen_here"] []) (g3 : mg "_law_odd" = some (.ref f3))
    (F4 : Fun K "_law_bent" "_law_bent" sBent f4 fd4) (b4 : Binds K fd4 ["_law_pen_here", "_law_thing"] []) (g4 : mg "_law_bent" = some (.ref f4))
    (str_ : mg "str" = none) (B : Bi mg) : FnOk P w K mg base CX0 6 f fd ["_law_pen_here", "_law_lock_here", "_law_word"] (spNear K) := by
  have G1 : FnOk P w K mg base CX0 1 f1 fd1 ["_law_pen_here", "_law_many_here"] spDraw := ok_draw F1 B
  have G2 : FnOk P w K mg base CX0 2 f2 fd2 ["_law_pen_here", "_law_some"] (spPick K) := ok_pick F2 F1 b1 g1 B
  have G40 : FnOk P w K mg base CX0 4 f4 fd4 ["_law_pen_here", "_law_thing"] (spBent False K) := ok_bent (m := 3) F4 b4 g4 F1 b1 g1 F2 b2 g2 F3 b3 g3 str_ B (ok_no F4) (by decide) (by decide) (fun z => False.elim z)
  have G4 : FnOk P w K mg base CX0 5 f4 fd4 ["_law_pen_here", "_law_thing"] (spBent True K) := ok_bent (m := 4) F4 b4 g4 F1 b1 g1 F2 b2 g2 F3 b3 g3 str_ B G40 (by decide) (by decide) (fun _ => rfl)
  refine F.ok scNear (fun vs H Q E h => ?_) (fun cdv A outer s H vs Q E hr h => ?_)
  · obtain ⟨p, c, v, u, l, xs, T, rfl, _⟩ := h; rfl
  · obtain ⟨p, c, v, u, l, xs, T, rfl, hp, T9, hL, ok, ⟨ua, rfl, hua, hs⟩, xl, q⟩ := h
    obtain ⟨la, bs, rfl, hla, hbs⟩ := id hL
    have hr1 : Room 1 _ := hr.mono (by decide)
    have hr2 : Room 2 _ := hr.mono (by decide)
    refine ⟨_, pss_cons (ps_set (i := 3) scNear.nd rfl (.inl rfl) (pe_call G1 hr1 (by rfl) g1 F1.kp b1 .nil pass0 (pa_cons (pv 0) (pa_cons (pe_callB call_len_seq (by rfl) B.len PySem.boot_len (pa_cons (pv 1) pa_nil)) pa_nil))))
      (pss_cons (ps_set (i := 4) scNear.nd rfl (.inl rfl) (pe_lst (pa_cons (pe_ix (r := rIxT K) ix_tup (pe_ix (r := rIxT K) ix_tup (pv 1) (pv 3) (fun _ _ => rfl)) pe_int (fun _ _ => rfl))
          (pa_cons (pe_op op_sub (pe_ix (r := rIxT K) ix_tup (pe_ix (r := rIxT K) ix_tup (pv 1) (pv 3) (fun _ _ => rfl)) pe_int (fun _ _ => rfl)) pe_int) (pa_cons (pe_un un_neg pe_int) (pa_cons pe_non (pa_cons pe_bl (pa_cons pe_bl
          (pa_cons (pe_callTy (r := rStrO) call_strN (by rfl) str_ PyProof.Rows.boot_str (pa_cons (pe_ix (r := rIxT K) ix_tup (pv 2) (pv 3) (fun _ _ => rfl)) pa_nil)) (pa_cons (pe_tup (pa_cons (pe_ix (r := rIxT K) ix_tup (pv 2) (pv 3) (fun _ _ => rfl)) pa_nil)) (pa_cons (pe_op op_pow pe_int pe_int) pa_nil)))))))))))
      (pss_cons (ps_set (i := 5) scNear.nd rfl (.inl rfl) (pe_op op_catA (pe_op op_catA (pe_slice (r := rSlA K) sl_tupA (pv 2) po_none (po_some (pv 3))) (pe_tup (pa_cons (pe_call G2 hr2 (by rfl) g2 F2.kp b2 .nil pass0 (pa_cons (pv 0) (pa_cons (pv 4) pa_nil))) pa_nil)))
          (pe_slice (r := rSlA K) sl_tupA (pv 2) (po_some (pe_op op_add (pv 3) pe_int)) po_none)))
      (pss_cons (ps_set (i := 6) scNear.nd rfl (.inl rfl) (pe_lst (pa_cons (pv 5) (pa_cons (pv 5) (pa_cons (pe_op op_catA (pv 2) (pe_tup (pa_cons pe_int pa_nil))) (pa_cons (pe_slice (r := rSlA K) sl_tupA (pv 2) po_none (po_some (pe_un un_neg pe_int)))
          (pa_cons (pe_callTy call_list_of (by rfl) B.list PyProof.Rows.boot_list (pa_cons (pv 2) pa_nil)) (pa_cons (pe_op op_catA (pe_slice (r := rSlA K) sl_tupA (pv 2) po_none (po_some (pv 3))) (pe_slice (r := rSlA K) sl_tupA (pv 2) (po_some (pe_op op_add (pv 3) pe_int)) po_none))
          (pa_cons (pe_call G4 hr (by rfl) g4 F4.kp b4 .nil pass0 (pa_cons (pv 0) (pa_cons (pv 2) pa_nil))) pa_nil)))))))))
      (pss_one (ps_ret (pe_call G2 hr2 (by rfl) g2 F2.kp b2 .nil pass0 (pa_cons (pv 0) (pa_cons (pv 6) pa_nil)))))))), ?_⟩
    have bl : bs.length = l.length := Paired.len hbs
    have l60 := ok.n1
    have l1 := ok.n0
    refine ⟨.ref p, rfl, .ref la, rfl, la, bs, rfl, .inr hla, p, c, (bs.length : Nat), _, rfl, hp, by omega, by omega, by omega, fun k' H1 k0 k1 x1 hp1 => ?_⟩
    obtain ⟨k, rfl⟩ : ∃ n : Nat, k' = (n : Int) := ⟨k'.toNat, by omega⟩
    have kl : k < l.length := by omega
    have tk1 : TK K H H1 := hp.tk x1
    obtain ⟨b, hb⟩ : ∃ b, l[k]? = some b := ⟨l[k], List.getElem?_eq_getElem kl⟩
    obtain ⟨bv, hbv, ⟨a1, c1, gs, rfl, h1, h2, h3⟩⟩ := Paired.get2 hbs hb
    obtain ⟨x, hx⟩ : ∃ x, xs[k]? = some x := ⟨xs[k], List.getElem?_eq_getElem (by omega)⟩
    have hsx := hs x (List.mem_of_getElem? hx)
    have BO := ok.bolts k b hb
    have m0 := BO.m0
    have m4 := BO.m1
    have squ : SqT K H1 ua xs := tk1.t _ _ (.inl (.inl hua))
    obtain ⟨sx, smx, sq⟩ := str_any hsx
    -- some
    refine ⟨.ref la, rfl, .int (k : Nat), rfl, la, bs, (k : Nat), .ref a1, rfl, rfl, tk1.t _ _ hla, atI_nat hbv, a1, _, 0, .int b.many, rfl, rfl, tk1.t _ _ h1, atI_nat (j := 0) rfl, ?_⟩
    refine ⟨.ref la, rfl, .int (k : Nat), rfl, la, bs, (k : Nat), .ref a1, rfl, rfl, tk1.t _ _ hla, atI_nat hbv, a1, _, 0, .int b.many, rfl, rfl, tk1.t _ _ h1, atI_nat (j := 0) rfl, b.many, 1, rfl, rfl, ?_⟩
    refine ⟨1, rfl, ?_⟩
    refine ⟨.ref ua, rfl, .int (k : Nat), rfl, ua, xs, (k : Nat), x, rfl, rfl, squ, atI_nat hx, ?_⟩
    refine tnil1 ?_
    refine sq _ _ ?_
    refine ⟨.ref ua, rfl, .int (k : Nat), rfl, ua, xs, (k : Nat), x, rfl, rfl, squ, atI_nat hx, (by show 1 ≤ sizeLine; decide), fun t nt => ?_⟩
    have e2 := Evl.Ex.new (o := .tup [x]) nt
    have g2' : (upd H1 t (.tup [x])) t = some (.tup [x]) := upd_same
    generalize upd H1 t (.tup [x]) = H2 at e2 g2'
    refine ⟨10, 60, rfl, rfl, ⟨by decide, by decide, by decide⟩, (by show 9 ≤ sizeLine; decide), fun l1' nl1 => ?_⟩
    have e3 := Evl.Ex.new (o := .lst [.int b.many, .int (b.many - 1), .int (-1), .non, .bl true, .bl false, .str sx, .ref t, .int (10 ^ (60 : Int).toNat)]) nl1
    have g3' : (upd H2 l1' (.lst [.int b.many, .int (b.many - 1), .int (-1), .non, .bl true, .bl false, .str sx, .ref t, .int (10 ^ (60 : Int).toNat)])) l1' = some (.lst [.int b.many, .int (b.many - 1), .int (-1), .non, .bl true, .bl false, .str sx, .ref t, .int (10 ^ (60 : Int).toNat)]) := upd_same
    generalize upd H2 l1' (.lst [.int b.many, .int (b.many - 1), .int (-1), .non, .bl true, .bl false, .str sx, .ref t, .int (10 ^ (60 : Int).toNat)]) = H3 at e3 g3'
    have hp3 := hp1.ex (e2.trans e3)
    have squ3 := Evl.ex_t (e2.trans e3) squ
    have small : ∀ z : Int, z.natAbs < 10 ^ 7 → Sm (.int z) 3 200 := fun z hz => (fine_int hz).sm.mono (by decide) (by decide)
    have each : ∀ y ∈ ([.int b.many, .int (b.many - 1), .int (-1), .non, .bl true, .bl false, .str sx, .ref t, .int (10 ^ (60 : Int).toNat)] : List V), ∃ d, Od K H3 y d ∧ Sm d 3 200 := by
      intro y hy
      simp only [List.mem_cons, List.not_mem_nil, or_false] at hy
      have tens : (10 : Nat) ^ 7 = 10000000 := by decide
      rcases hy with rfl | rfl | rfl | rfl | rfl | rfl | rfl | rfl | rfl
      · exact ⟨_, .inl (.int _), small _ (by rw [tens]; omega)⟩
      · exact ⟨_, .inl (.int _), small _ (by rw [tens]; omega)⟩
      · exact ⟨_, .inl (.int _), small _ (by rw [tens]; omega)⟩
      · exact ⟨_, .inl .non, ⟨by decide +kernel, by decide +kernel, by decide +kernel⟩⟩
      · exact ⟨_, .inl (.bl _), ⟨by decide +kernel, by decide +kernel, by decide +kernel⟩⟩
      · exact ⟨_, .inl (.bl _), ⟨by decide +kernel, by decide +kernel, by decide +kernel⟩⟩
      · exact ⟨_, .inl (.str _), smx⟩
      · exact ⟨_, .inl (.tup (.inl (.inl (e3 _ _ g2'))) (.cons (sc_dp hsx) .nil)), one_tup hsx⟩
      · exact ⟨_, .inl (.int _), ⟨by decide +kernel, by decide +kernel, by decide +kernel⟩⟩
    -- fresh
    refine ⟨.ref ua, rfl, .int (k : Nat), rfl, (k : Nat), rfl, ?_⟩
    refine sl_any (K := K) (lo := none) (hi := some (k : Nat)) squ3 fun H4 z4 e4 s4 => ?_
    have hp4 := hp3.ex e4
    refine ⟨.ref p, rfl, .ref l1', rfl, p, c, l1', _, _, rfl, hp4, by omega, .inl (.inl (e4 _ _ g3')), (hp1.ex e2).new1 nl1, (fun z => nomatch z), (by show 9 ≤ 1000000; decide), fun y H5 hy x5 hp5 => ?_⟩
    obtain ⟨dy, hod, hsm⟩ := each y hy
    have tk5 : TK K H3 H5 := (TK.ex e4).trans (hp4.tk x5)
    have hod5 := hod.keep tk5
    refine ⟨(by show 1 ≤ sizeLine; decide), fun t6 nt6 => ?_⟩
    have e6 := Evl.Ex.new (o := .tup [y]) nt6
    have s6 : SqT K (upd H5 t6 (.tup [y])) t6 [y] := .inl (.inl upd_same)
    generalize upd H5 t6 (.tup [y]) = H6 at e6 s6
    have s46 := Evl.ex_t e6 ((hp4.tk x5).t _ _ s4)
    have c1 := cutV_length xs none (some ((k : Nat) : Int))
    have squ6 := Evl.ex_t e6 (tk5.t _ _ squ3)
    refine cat_any (K := K) s46 s6 (Nat.le_trans (by rw [List.length_singleton]; omega : (cutV xs none (some ((k : Nat) : Int))).length + [y].length ≤ 61) (by decide)) fun H7 z7 e7 s7 => ?_
    have squ7 := Evl.ex_t e7 squ6
    refine ⟨.ref ua, rfl, .int (k : Nat), rfl, (k : Nat), 1, rfl, rfl, ((k : Nat) : Int) + 1, rfl, ?_⟩
    refine nopart1 ?_
    refine sl_any (K := K) (lo := some (((k : Nat) : Int) + 1)) (hi := none) squ7 fun H8 z8 e8 s8 => ?_
    have c2 := cutV_length xs (some (((k : Nat) : Int) + 1)) none
    refine cat_any (K := K) (Evl.ex_t e8 s7) s8 (Nat.le_trans (by rw [List.length_append, List.length_singleton]; omega : (cutV xs none (some ((k : Nat) : Int)) ++ [y]).length + (cutV xs (some (((k : Nat) : Int) + 1)) none).length ≤ 121) (by decide)) fun H9 fr e9 s9 => ?_
    have e59 := e6.trans (e7.trans (e8.trans e9))
    have squ9 := Evl.ex_t (e8.trans e9) squ7
    have kf : Sk K H9 (.ref fr) := sk_mid s9 (fun x hx => hs x (mem_cutV hx)) (fun x hx => hs x (mem_cutV hx)) (hod5.keep (TK.ex e59)) hsm (by omega)
    have hp9 := hp5.ex e59
    -- more
    refine ⟨.ref fr, rfl, .ref fr, rfl, .ref ua, rfl, (by show 1 ≤ sizeLine; decide), fun t10 nt10 => ?_⟩
    have e10 := Evl.Ex.new (o := .tup [.int 0]) nt10
    have s10 : SqT K (upd H9 t10 (.tup [.int 0])) t10 [.int 0] := .inl (.inl upd_same)
    generalize upd H9 t10 (.tup [.int 0]) = H10 at e10 s10
    refine cat_any (K := K) (Evl.ex_t e10 squ9) s10 (Nat.le_trans (by rw [List.length_singleton]; omega : xs.length + [V.int 0].length ≤ 61) (by decide)) fun H11 z11 e11 s11 => ?_
    have squ11 := Evl.ex_t (e10.trans e11) squ9
    refine ⟨.ref ua, rfl, 1, rfl, -1, rfl, ?_⟩
    refine sl_any (K := K) (lo := none) (hi := some (-1)) squ11 fun H12 z12 e12 s12 => ?_
    have squ12 := Evl.ex_t e12 squ11
    refine ⟨.ref ua, rfl, ua, xs, rfl, .inr squ12, fun z13 n13 => ?_⟩
    have e13 := Evl.Ex.new (o := .lst xs) n13
    have s13 : SqL K (upd H12 z13 (.lst xs)) z13 xs := .inl (.inl upd_same)
    generalize upd H12 z13 (.lst xs) = H13 at e13 s13
    have squ13 := Evl.ex_t e13 squ12
    refine ⟨.ref ua, rfl, .int (k : Nat), rfl, (k : Nat), rfl, ?_⟩
    refine sl_any (K := K) (lo := none) (hi := some (k : Nat)) squ13 fun H14 z14 e14 s14 => ?_
    have squ14 := Evl.ex_t e14 squ13
    refine ⟨.ref ua, rfl, .int (k : Nat), rfl, (k : Nat), 1, rfl, rfl, ((k : Nat) : Int) + 1, rfl, ?_⟩
    refine nopart1 ?_
    refine sl_any (K := K) (lo := some (((k : Nat) : Int) + 1)) (hi := none) squ14 fun H15 z15 e15 s15 => ?_
    refine cat_any (K := K) (Evl.ex_t e15 s14) s15 (Nat.le_trans (by omega : (cutV xs none (some ((k : Nat) : Int))).length + (cutV xs (some (((k : Nat) : Int) + 1)) none).length ≤ 120) (by decide)) fun H16 z16 e16 s16 => ?_
    have e916 := e10.trans (e11.trans (e12.trans (e13.trans (e14.trans (e15.trans e16)))))
    have hp16 := hp9.ex e916
    have x016 : Exx p H H16 := x1.trans ((Exx.ex (e2.trans (e3.trans e4))).trans (x5.trans (Exx.ex (e59.trans e916))))
    have hua16 : H16 ua = some (.tup xs) := x016 _ _ (fun z => by
      obtain ⟨cells, t', d', hpp, _⟩ := hp
      rw [z, hpp] at hua
      cases hua) hua
    refine ⟨.ref p, rfl, .ref ua, rfl, p, c, _, hp16, by omega, .inr ⟨trivial, by omega, ua, xs, rfl, hua16, hs, by omega, by omega, fun H17 v x17 hp17 kv => ?_⟩⟩
    have tk17 : TK K H16 H17 := hp16.tk x17
    have j1 : Sk K H17 (.ref fr) := (kf.keep (TK.ex e916)).keep tk17
    have j2 : Sk K H17 (.ref z11) := (sk_tup (Evl.ex_t (e12.trans (e13.trans (e14.trans (e15.trans e16)))) s11) (fun x hx => by
      rcases List.mem_append.mp hx with h | h
      · exact hs x h
      · rw [List.mem_singleton.mp h]
        exact .inr ⟨0, rfl, by decide, by decide⟩) (by rw [List.length_append, List.length_singleton]; omega)).keep tk17
    have j3 : Sk K H17 (.ref z12) := (sk_tup (Evl.ex_t (e13.trans (e14.trans (e15.trans e16))) s12) (fun x hx => hs x (mem_cutV hx)) (by have := cutV_length xs none (some (-1)); omega)).keep tk17
    have j4 : Sk K H17 (.ref z13) := (sk_lst (Evl.ex_l (e14.trans (e15.trans e16)) s13) hs (by omega)).keep tk17
    have j5 : Sk K H17 (.ref z16) := (sk_tup s16 (fun x hx => (List.mem_append.mp hx).elim (fun h => hs x (mem_cutV h)) (fun h => hs x (mem_cutV h))) (by rw [List.length_append]; omega)).keep tk17
    refine ⟨(by show 7 ≤ sizeLine; decide), fun l2 nl2 => ?_⟩
    have e18 := Evl.Ex.new (o := .lst [.ref fr, .ref fr, .ref z11, .ref z12, .ref z13, .ref z16, v]) nl2
    have g18 : (upd H17 l2 (.lst [.ref fr, .ref fr, .ref z11, .ref z12, .ref z13, .ref z16, v])) l2 = some (.lst [.ref fr, .ref fr, .ref z11, .ref z12, .ref z13, .ref z16, v]) := upd_same
    generalize upd H17 l2 (.lst [.ref fr, .ref fr, .ref z11, .ref z12, .ref z13, .ref z16, v]) = H18 at e18 g18
    have hp18 := hp17.ex e18
    have all : ∀ y ∈ ([.ref fr, .ref fr, .ref z11, .ref z12, .ref z13, .ref z16, v] : List V), Sk K H17 y := by
      intro y hy
      simp only [List.mem_cons, List.not_mem_nil, or_false] at hy
      rcases hy with rfl | rfl | rfl | rfl | rfl | rfl | rfl
      · exact j1
      · exact j1
      · exact j2
      · exact j3
      · exact j4
      · exact j5
      · exact kv
    refine ⟨.ref p, rfl, .ref l2, rfl, p, c, l2, _, _, rfl, hp18, by omega, .inl (.inl g18), hp17.new1 nl2, (fun z => nomatch z), (by show 7 ≤ 1000000; decide), fun y' H19 hy' x19 hp19 => ?_⟩
    exact q H19 y' (x016.trans (x17.trans ((Exx.ex e18).trans x19))) (hp19.mono (by omega)) (((all y' hy').keep (TK.ex e18)).keep (hp18.tk x19))
end
end Wb

set_option Elab.async false
set_option linter.all false
set_option maxRecDepth 100000
set_option maxHeartbeats 4000000
set_option pp.maxSteps 600
set_option pp.deepTerms false
namespace Wb
open PySem PySem.Spec PyProof.Rows L2
abbrev sLaw : Stmt := topS 42
abbrev nLaw : List Str := ["_law_script", "_law_pen_here", "_law_turn", "_law_some", "_law_many_here", "_law_lock_here", "_law_held", "_law_again", "_law_stand_here", "_law_wish_here", "_law_thing", "_law_kept", "_law_told", "_law_due"]
theorem scLaw : FnScope nLaw ["_law_script"] (defScope sLaw) := ⟨rfl, rfl, rfl, by decide +kernel, rfl, by decide +kernel, by decide +kernel⟩
/-- the law's own defs, and those that it asks -/
structure Ld (K : PySem.W.Frag) (mg : Str → Option Value) where
  f5 : Addr
  d5 : FuncData
  F5 : Fun K "are_wished" "are_wished" sWished f5 d5
  b5 : Binds K d5 ["thing", "manys"] []
  g5 : mg "are_wished" = some (.ref f5)
  f22 : Addr
  d22 : FuncData
  F22 : Fun K "is_stand" "is_stand" sIsStand f22 d22
  b22 : Binds K d22 ["lock", "thing"] []
  g22 : mg "is_stand" = some (.ref f22)
  f23 : Addr
  d23 : FuncData
  F23 : Fun K "is_wish" "is_wish" sIsWish f23 d23
  b23 : Binds K d23 ["lock", "thing"] []
  g23 : mg "is_wish" = some (.ref f23)
  f26 : Addr
  d26 : FuncData
  F26 : Fun K "stands_of" "stands_of" sStandsOf f26 d26
  b26 : Binds K d26 ["lock"] []
  g26 : mg "stands_of" = some (.ref f26)
  f28 : Addr
  d28 : FuncData
  F28 : Fun K "_law_pen" "_law_pen" sPen f28 d28
  b28 : Binds K d28 ["_law_script"] []
  g28 : mg "_law_pen" = some (.ref f28)
  f29 : Addr
  d29 : FuncData
  F29 : Fun K "_law_draw" "_law_draw" sDraw f29 d29
  b29 : Binds K d29 ["_law_pen_here", "_law_many_here"] []
  g29 : mg "_law_draw" = some (.ref f29)
  f30 : Addr
  d30 : FuncData
  F30 : Fun K "_law_pick" "_law_pick" sPick f30 d30
  b30 : Binds K d30 ["_law_pen_here", "_law_some"] []
  g30 : mg "_law_pick" = some (.ref f30)
  f31 : Addr
  d31 : FuncData
  F31 : Fun K "_law_gaps" "_law_gaps" sGaps f31 d31
  b31 : Binds K d31 ["_law_pen_here", "_law_wide", "_law_words"] []
  g31 : mg "_law_gaps" = some (.ref f31)
  f32 : Addr
  d32 : FuncData
  F32 : Fun K "_law_lock" "_law_lock" sLock f32 d32
  b32 : Binds K d32 ["_law_pen_here", "_law_many_here", "_law_wide", "_law_more"] []
  g32 : mg "_law_lock" = some (.ref f32)
  f33 : Addr
  d33 : FuncData
  F33 : Fun K "_law_ways" "_law_ways" sAllWays f33 d33
  b33 : Binds K d33 ["_law_lock_here"] []
  g33 : mg "_law_ways" = some (.ref f33)
  f34 : Addr
  d34 : FuncData
  F34 : Fun K "_law_stand" "_law_stand" sStand f34 d34
  b34 : Binds K d34 ["_law_pen_here", "_law_lock_here"] []
  g34 : mg "_law_stand" = some (.ref f34)
  f35 : Addr
  d35 : FuncData
  F35 : Fun K "_law_wish" "_law_wish" sWish f35 d35
  b35 : Binds K d35 ["_law_pen_here", "_law_lock_here"] []
  g35 : mg "_law_wish" = some (.ref f35)
  f36 : Addr
  d36 : FuncData
  F36 : Fun K "_law_whole" "_law_whole" sLWhole f36 d36
  b36 : Binds K d36 ["_law_thing", "_law_least_one", "_law_most_one"] []
  g36 : mg "_law_whole" = some (.ref f36)
  f37 : Addr
  d37 : FuncData
  F37 : Fun K "_law_odd" "_law_odd" sOdd f37 d37
  b37 : Binds K d37 ["_law_pen_here"] []
  g37 : mg "_law_odd" = some (.ref f37)
  f38 : Addr
  d38 : FuncData
  F38 : Fun K "_law_bent" "_law_bent" sBent f38 d38
  b38 : Binds K d38 ["_law_pen_here", "_law_thing"] []
  g38 : mg "_law_bent" = some (.ref f38)
  f39 : Addr
  d39 : FuncData
  F39 : Fun K "_law_is_word" "_law_is_word" sLIsWord f39 d39
  b39 : Binds K d39 ["_law_lock_here", "_law_thing", "_law_is_wish_like"] []
  g39 : mg "_law_is_word" = some (.ref f39)
  f40 : Addr
  d40 : FuncData
  F40 : Fun K "_law_many" "_law_many" sLMany f40 d40
  b40 : Binds K d40 ["_law_lock_here"] []
  g40 : mg "_law_many" = some (.ref f40)
  f41 : Addr
  d41 : FuncData
  F41 : Fun K "_law_near" "_law_near" sNear f41 d41
  b41 : Binds K d41 ["_law_pen_here", "_law_lock_here", "_law_word"] []
  g41 : mg "_law_near" = some (.ref f41)
  str_ : mg "str" = none
def spLaw (K : PySem.W.Frag) : Sp := fun vs H Q _ => ∃ (a : Addr) (ns : List Int), vs = [.ref a] ∧ SqL K H a (ns.map V.int) ∧ ∀ H', Q (.bl true) H'
theorem two_sm (a b : Bool) : Sm (.tuple [.bool a, .bool b]) 3 200 := by
  cases a <;> cases b <;> exact ⟨by decide +kernel, by decide +kernel, by decide +kernel⟩
section
variable {P : Program} {w : World} {K : PySem.W.Frag} {mg : Str → Option Value} {base : Heap}
theorem ok_law {f : Addr} {fd : FuncData} (F : Fun K "law" "law" sLaw f fd) (D : Pr K mg) (L : Ld K mg) : FnG P w K mg base 9 f fd ["_law_script"] (spLaw K) := by
  have B := D.B
  have G28 : FnOk P w K mg base CX0 1 L.f28 L.d28 ["_law_script"] (spPen K) := ok_pen L.F28 B
  have G29 : FnOk P w K mg base CX0 1 L.f29 L.d29 ["_law_pen_here", "_law_many_here"] spDraw := ok_draw L.F29 B
  have G30 : FnOk P w K mg base CX0 2 L.f30 L.d30 ["_law_pen_here", "_law_some"] (spPick K) := ok_pick L.F30 L.F29 L.b29 L.g29 B
  have G32 : FnOk P w K mg base CX0 4 L.f32 L.d32 ["_law_pen_here", "_law_many_here", "_law_wide", "_law_more"] (spLock K) := ok_lock L.F32 L.F29 L.b29 L.g29 L.F30 L.b30 L.g30 L.F31 L.b31 L.g31 B
  have G34 : FnOk P w K mg base CX0 3 L.f34 L.d34 ["_law_pen_here", "_law_lock_here"] (spStand K) := ok_stand L.F34 L.F29 L.b29 L.g29 L.F30 L.b30 L.g30 L.F33 L.b33 L.g33 B
  have G35 : FnOk P w K mg base CX0 4 L.f35 L.d35 ["_law_pen_here", "_law_lock_here"] (spWish K) := ok_wish L.F35 L.F29 L.b29 L.g29 L.F30 L.b30 L.g30 L.F33 L.b33 L.g33 L.F34 L.b34 L.g34 B
  have G37 : FnOk P w K mg base CX0 3 L.f37 L.d37 ["_law_pen_here"] (spOdd K) := ok_odd L.F37 L.F29 L.b29 L.g29 L.F30 L.b30 L.g30 B
  have G41 : FnOk P w K mg base CX0 6 L.f41 L.d41 ["_law_pen_here", "_law_lock_here", "_law_word"] (spNear K) := ok_near L.F41 L.F29 L.b29 L.g29 L.F30 L.b30 L.g30 L.F37 L.b37 L.g37 L.F38 L.b38 L.g38 L.str_ B
  have G39 : FnOk P w K mg base CX0 2 L.f39 L.d39 ["_law_lock_here", "_law_thing", "_law_is_wish_like"] (spIsWord K) := ok_isWord L.F39 L.F36 L.b36 L.g36 B
  have G40 : FnOk P w K mg base CX0 1 L.f40 L.d40 ["_law_lock_here"] (spLMany K) := ok_lmany L.F40
  have G26 : FnOk P w K mg base CX0 8 L.f26 L.d26 ["lock"] (spStandsOf K) := ok_standsOf L.F26 D
  have G22 : FnOk P w K mg base CX0 8 L.f22 L.d22 ["lock", "thing"] (spIsStand K) := ok_isStand L.F22 D
  have G23 : FnOk P w K mg base CX0 8 L.f23 L.d23 ["lock", "thing"] (spIsWish K) := ok_isWish L.F23 L.F5 L.b5 L.g5 D
  refine fnG_ok F scLaw (fun vs H Q E h => ?_) (fun cdv A outer s H vs Q E hgd hr h => ?_)
  · obtain ⟨a, ns, rfl, _⟩ := h; rfl
  · obtain ⟨a, ns, rfl, hS, q⟩ := h
    have hr1 : Room 1 _ := hr.mono (by decide)
    have hr2 : Room 2 _ := hr.mono (by decide)
    have hr3 : Room 3 _ := hr.mono (by decide)
    have hr4 : Room 4 _ := hr.mono (by decide)
    have hr6 : Room 6 _ := hr.mono (by decide)
    have hg' : (A.deeper (envOfC "law" (defScope sLaw) s.heap.objs.size f cdv)).guards = some [] := hgd
    refine ⟨_, pss_cons (ps_set (i := 1) scLaw.nd rfl (.inl rfl) (pe_call G28 hr1 (by rfl) L.g28 L.F28.kp L.b28 .nil pass0 (pa_cons (pv 0) pa_nil)))
      (pss_cons (ps_for PassesOwn.never rfl (pi_range1 (by rfl) B.range (pa_cons pe_int pa_nil)) (pg_name (i := 2) scLaw.nd rfl (.inl rfl))
        (pss_cons (ps_set (i := 3) scLaw.nd rfl (.inl rfl) (pe_lst (pa_cons pe_int (pa_cons pe_int (pa_cons (pe_op op_add pe_int (pe_call G29 hr1 (by rfl) L.g29 L.F29.kp L.b29 .nil pass0 (pa_cons (pv 1) (pa_cons pe_int pa_nil)))) (pa_cons (pe_op op_add pe_int (pe_call G29 hr1 (by rfl) L.g29 L.F29.kp L.b29 .nil pass0 (pa_cons (pv 1) (pa_cons pe_int pa_nil)))) (pa_cons (pe_op op_add pe_int (pe_call G29 hr1 (by rfl) L.g29 L.F29.kp L.b29 .nil pass0 (pa_cons (pv 1) (pa_cons pe_int pa_nil)))) pa_nil)))))))
        (pss_cons (ps_set (i := 4) scLaw.nd rfl (.inl rfl) (pe_call G30 hr2 (by rfl) L.g30 L.F30.kp L.b30 .nil pass0 (pa_cons (pv 1) (pa_cons (pe_op op_cat (pv 3) (pe_op op_rep (pe_lst (pa_cons pe_int pa_nil)) (pe_callTy call_int1 (by rfl) B.int PyProof.Rows.boot_int (pa_cons (pe_cmpR op_eq (pv 2) pe_int (nomark _)) pa_nil)))) pa_nil))))
        (pss_cons (ps_set (i := 5) scLaw.nd rfl (.inl rfl) (pe_call G32 hr4 (by rfl) L.g32 L.F32.kp L.b32 .nil pass0 (pa_cons (pv 1) (pa_cons (pv 4) (pa_cons pe_int (pa_cons pe_int pa_nil))))))
        (pss_cons (ps_set (i := 6) scLaw.nd rfl (.inl rfl) (pe_callB (call_repr_thing hr.units hg') (by rfl) B.repr boot_repr (pa_cons (pv 5) pa_nil)))
        (pss_cons (ps_if (pt_cmpR op_ne (pe_callB (call_repr_thing hr.units hg') (by rfl) B.repr boot_repr (pa_cons (pe_call G26 hr (by rfl) L.g26 L.F26.kp L.b26 .nil pass0 (pa_cons (pv 5) pa_nil)) pa_nil)) (pe_callB (call_repr_thing hr.units hg') (by rfl) B.repr boot_repr (pa_cons (pe_call G40 hr1 (by rfl) L.g40 L.F40.kp L.b40 .nil pass0 (pa_cons (pv 5) pa_nil)) pa_nil)) (nomark _)) pss_never pss_nil)
        (pss_cons (ps_for PassesOwn.never rfl (pi_range1 (by rfl) B.range (pa_cons pe_int pa_nil)) (pg_name (i := 7) scLaw.nd rfl (.inl rfl))
          (pss_cons (ps_par (by rfl) scLaw.nd (i := 8) (j := 9) rfl rfl (by decide) rfl rfl (pa_cons (pe_call G34 hr3 (by rfl) L.g34 L.F34.kp L.b34 .nil pass0 (pa_cons (pv 1) (pa_cons (pv 5) pa_nil))) (pa_cons (pe_call G35 hr4 (by rfl) L.g35 L.F35.kp L.b35 .nil pass0 (pa_cons (pv 1) (pa_cons (pv 5) pa_nil))) pa_nil)) (by rfl))
          (pss_one (ps_for PassesOwn.never rfl (pi_tup (pe_tup (pa_cons (pv 8) (pa_cons (pv 9) (pa_cons (pe_call G41 hr6 (by rfl) L.g41 L.F41.kp L.b41 .nil pass0 (pa_cons (pv 1) (pa_cons (pv 5) (pa_cons (pv 8) pa_nil)))) (pa_cons (pe_call G41 hr6 (by rfl) L.g41 L.F41.kp L.b41 .nil pass0 (pa_cons (pv 1) (pa_cons (pv 5) (pa_cons (pv 9) pa_nil)))) (pa_cons (pe_call G37 hr3 (by rfl) L.g37 L.F37.kp L.b37 .nil pass0 (pa_cons (pv 1) pa_nil)) pa_nil))))))) (pg_name (i := 10) scLaw.nd rfl (.inl rfl))
            (pss_cons (ps_set (i := 11) scLaw.nd rfl (.inl rfl) (pe_callB (call_repr_thing hr.units hg') (by rfl) B.repr boot_repr (pa_cons (pv 10) pa_nil)))
            (pss_cons (ps_set (i := 12) scLaw.nd rfl (.inl rfl) (pe_tup (pa_cons (pe_call G22 hr (by rfl) L.g22 L.F22.kp L.b22 .nil pass0 (pa_cons (pv 5) (pa_cons (pv 10) pa_nil))) (pa_cons (pe_call G23 hr (by rfl) L.g23 L.F23.kp L.b23 .nil pass0 (pa_cons (pv 5) (pa_cons (pv 10) pa_nil))) pa_nil))))
            (pss_cons (ps_set (i := 13) scLaw.nd rfl (.inl rfl) (pe_tup (pa_cons (pe_call G39 hr2 (by rfl) L.g39 L.F39.kp L.b39 .nil pass0 (pa_cons (pv 5) (pa_cons (pv 10) (pa_cons pe_bl pa_nil)))) (pa_cons (pe_call G39 hr2 (by rfl) L.g39 L.F39.kp L.b39 .nil pass0 (pa_cons (pv 5) (pa_cons (pv 10) (pa_cons pe_bl pa_nil)))) pa_nil))))
            (pss_one (ps_if (PW.pt (pw_or (pt_cmpR op_ne (pe_callB (call_repr_thing hr.units hg') (by rfl) B.repr boot_repr (pa_cons (pv 12) pa_nil)) (pe_callB (call_repr_thing hr.units hg') (by rfl) B.repr boot_repr (pa_cons (pv 13) pa_nil)) (nomark _)) (pw_or1 (pt_cmpR op_ne (pe_callB (call_repr_thing hr.units hg') (by rfl) B.repr boot_repr (pa_cons (pv 10) pa_nil)) (pv 11) (nomark _))))) pss_never pss_nil)))))))))
        (pss_one (ps_if (pt_cmpR op_ne (pe_callB (call_repr_thing hr.units hg') (by rfl) B.repr boot_repr (pa_cons (pv 5) pa_nil)) (pv 6) (nomark _)) pss_never pss_nil)))))))))
      (pss_one (ps_ret pe_bl))), ?_⟩
    refine ⟨.ref a, rfl, a, ns, rfl, hS, fun H1 p e1 np hpc => ?_⟩
    obtain ⟨c, hp1⟩ := hpc
    refine ⟨5, rfl, by decide, by decide, ?_⟩
    refine for_range (lo := 0) (n := 5) (fun t σ H' => ∃ y2 y3 y4 y5 y6 y7 y8 y9 y10 y11 y12 y13 : Option V, σ = [some (.ref a), some (.ref p), y2, y3, y4, y5, y6, y7, y8, y9, y10, y11, y12, y13] ∧ PenAt H' p c (100000 * (t : Nat)))
      ⟨none, none, none, none, none, none, none, none, none, none, none, none, rfl, by simpa using hp1⟩ ?_ ?_
    · rintro t σ H2 ht ⟨y2, y3, y4, y5, y6, y7, y8, y9, y10, y11, y12, y13, rfl, hp2⟩
      refine ⟨.ref p, rfl, p, c, 10, _, rfl, hp2, by decide, by decide, by omega, fun r1 H3 r10 r11 x3 hp3 => ⟨1, r1, rfl, rfl, ?_⟩⟩
      refine ⟨.ref p, rfl, p, c, 10, _, rfl, hp3, by decide, by decide, by omega, fun r2 H4 r20 r21 x4 hp4 => ⟨1, r2, rfl, rfl, ?_⟩⟩
      refine ⟨.ref p, rfl, p, c, 10, _, rfl, hp4, by decide, by decide, by omega, fun r3 H5 r30 r31 x5 hp5 => ⟨1, r3, rfl, rfl, ?_⟩⟩
      refine ⟨(by show 5 ≤ sizeLine; decide), fun la nla => ?_⟩
      have hp6 : PenAt (upd H5 la (.lst [.int 1, .int 2, .int (1 + r1), .int (1 + r2), .int (1 + r3)])) p c (100000 * (t : Nat) + 3) := (hp5.ex (Evl.Ex.new nla)).mono (by omega)
      have hla : (upd H5 la (.lst [.int 1, .int 2, .int (1 + r1), .int (1 + r2), .int (1 + r3)])) la = some (.lst [.int 1, .int 2, .int (1 + r1), .int (1 + r2), .int (1 + r3)]) := upd_same
      generalize upd H5 la (.lst [.int 1, .int 2, .int (1 + r1), .int (1 + r2), .int (1 + r3)]) = H6 at hp6 hla
      -- many
      refine ⟨.ref p, rfl, .ref la, rfl, (by show 1 ≤ sizeLine; decide), fun l60 nl60 => ?_⟩
      have e7 := Evl.Ex.new (o := .lst [.int 60]) nl60
      refine ⟨.int (0 + (t : Nat)), rfl, rfl, .inr ⟨_, rfl, ?_⟩⟩
      generalize hk : (if decide (V.int (0 + (t : Nat)) = V.int 0) = true then (1 : Int) else 0) = kk
      have k01 : kk = 0 ∨ kk = 1 := by
        rw [← hk]
        split
        · exact .inr rfl
        · exact .inl rfl
      have kn : kk.toNat ≤ 1 := by omega
      refine ⟨l60, kk, _, rfl, rfl, upd_same, by omega, by omega, Nat.le_trans (by rw [List.length_singleton]; omega : [V.int 60].length * kk.toNat ≤ 1) (by decide), fun lr nlr => ?_⟩
      have e8 := Evl.Ex.new (o := .lst (List.replicate kk.toNat [V.int 60]).flatten) nlr
      have hla8 := e8 _ _ (e7 _ _ hla)
      have lr1 : (List.replicate kk.toNat [V.int 60]).flatten.length ≤ 1 := by
        rcases k01 with z | z
        · rw [z]; exact Nat.zero_le _
        · rw [z]; exact Nat.le_refl _
      refine ⟨la, lr, _, _, rfl, rfl, hla8, upd_same, Nat.le_trans (by simp only [List.length_cons, List.length_nil]; omega : _ + _ ≤ 6) (by decide), fun lb nlb => ?_⟩
      have e9 := Evl.Ex.new (o := .lst ([.int 1, .int 2, .int (1 + r1), .int (1 + r2), .int (1 + r3)] ++ (List.replicate kk.toNat [V.int 60]).flatten)) nlb
      have e79 := e7.trans (e8.trans e9)
      have hp9 := hp6.ex e79
      have nlbp : lb ≠ p := (hp6.ex (e7.trans e8)).new1 nlb
      have each : ∀ x ∈ ([.int 1, .int 2, .int (1 + r1), .int (1 + r2), .int (1 + r3)] ++ (List.replicate kk.toNat [V.int 60]).flatten : List V), ∃ m : Int, x = .int m ∧ 1 ≤ m ∧ m ≤ 60 := by
        intro x hx
        rcases List.mem_append.mp hx with h | h
        · simp only [List.mem_cons, List.not_mem_nil, or_false] at h
          rcases h with rfl | rfl | rfl | rfl | rfl
          · exact ⟨_, rfl, by decide, by decide⟩
          · exact ⟨_, rfl, by decide, by decide⟩
          · exact ⟨_, rfl, by omega, by omega⟩
          · exact ⟨_, rfl, by omega, by omega⟩
          · exact ⟨_, rfl, by omega, by omega⟩
        · obtain ⟨ys, hy, hz⟩ := List.mem_flatten.mp h
          rw [List.mem_replicate] at hy
          rw [hy.2] at hz
          exact ⟨60, List.mem_singleton.mp hz, by decide, by decide⟩
      refine ⟨p, c, lb, _, _, rfl, hp9, by omega, .inl (.inl upd_same), nlbp, (fun z => nomatch z), Nat.le_trans (by rw [List.length_append]; simp only [List.length_cons, List.length_nil]; omega : _ ≤ 6) (by decide), fun x H10 hx x10 hp10 => ?_⟩
      obtain ⟨many, rfl, m1, m60⟩ := each x hx
      -- the lock
      refine ⟨.ref p, rfl, .int many, rfl, p, c, many, _, rfl, hp10, by omega, m1, m60, fun H11 v l x11 hp11 hL ok hl => ?_⟩
      obtain ⟨lk, bs, rfl, hL1, hL2⟩ := hL
      have hL : LockAt K H11 (.ref lk) l := ⟨lk, bs, rfl, hL1, hL2⟩
      have fl := fine_L ok
      have dpl : Th K H11 (.ref lk) (dL l) := .dp (dp_L hL)
      refine ⟨.ref lk, rfl, .ref lk, dL l, rfl, dpl, fl.sho, Nat.le_trans fl.dep (by decide), Nat.le_trans fl.len (by decide), ?_⟩
      have pf := prod_fine ok
      refine ⟨.ref lk, rfl, .ref lk, l, rfl, hL, ok, fun H12 e12 => ?_⟩
      have hL12 := LockAt.mono (TX.ex e12) hL
      refine ⟨.int _, .int (prodL (manysOf l)), rfl, .dp (.int _), pf.sho, Nat.le_trans pf.dep (by decide), Nat.le_trans pf.len (by decide), ?_⟩
      refine ⟨.ref lk, rfl, .ref lk, l, rfl, hL12, ok, ?_⟩
      refine ⟨.int _, .int (prodL (manysOf l)), rfl, .dp (.int _), pf.sho, Nat.le_trans pf.dep (by decide), Nat.le_trans pf.len (by decide), ?_⟩
      refine ⟨rfl, _, rfl, ?_⟩
      refine ite2 (fun hc => absurd hc (by simp)) (fun _ => ?_)
      have hp12 := hp11.ex e12
      refine ⟨4, rfl, by decide, by decide, ?_⟩
      refine for_range (lo := 0) (n := 4) (fun i σ H' => ∃ z7 z8 z9 z10 z11 z12 z13 : Option V, σ = [some (.ref a), some (.ref p), some (.int (0 + (t : Nat))), some (.ref la), some (.int many), some (.ref lk), some (.str (dL l).shown), z7, z8, z9, z10, z11, z12, z13] ∧ Exx p H12 H' ∧ PenAt H' p c (100000 * (t : Nat) + 50000 + 1000 * (i : Nat)))
        ⟨_, _, _, _, _, _, _, rfl, Exx.refl p H12, hp12.mono (by omega)⟩ ?_ ?_
      · rintro i σ H13 hi ⟨z7, z8, z9, z10, z11, z12, z13, rfl, x13, hp13⟩
        have hL13 := LockAt.mono (hp12.tx x13) hL12
        have l60 := ok.n1
        refine ⟨.ref p, rfl, .ref lk, rfl, p, c, .ref lk, l, _, rfl, hp13, by omega, hL13, ok, fun H14 u st x14 hp14 hu hin => ?_⟩
        have hL14 := LockAt.mono (hp13.tx x14) hL13
        have hwu := wo_of_wd ok hu hin
        have stl : (st.map V.int).length = l.length := by
          have := hin.1
          unfold manysOf at this
          rw [List.length_map] at this ⊢
          exact this
        refine ⟨.ref p, rfl, .ref lk, rfl, p, c, .ref lk, l, _, rfl, hp14, by omega, hL14, ok, fun H15 wv ws x15 hp15 hww hwl => ?_⟩
        have hL15 := LockAt.mono (hp14.tx x15) hL14
        obtain ⟨ua, rfl, hua, hus⟩ := hwu
        obtain ⟨wa, rfl, hwa, hws⟩ := hww
        have hua15 : H15 ua = some (.tup (st.map V.int)) := (hp14.tx (K := K) x15).2 _ _ hua
        refine ⟨.ref ua, .ref wa, rfl, ?_⟩
        -- the five things
        refine ⟨.ref ua, rfl, .ref wa, rfl, .ref p, rfl, .ref lk, rfl, .ref ua, rfl, p, c, .ref lk, .ref ua, l, _, _, rfl, hp15, by omega, hL15, ok, ⟨ua, rfl, hua15, hus⟩, stl, fun H16 n1 x16 hp16 k1 => ?_⟩
        have tk16 : TK K H15 H16 := hp15.tk x16
        have hL16 := LockAt.mono (hp15.tx x16) hL15
        have hwa16 : H16 wa = some (.tup ws) := (hp15.tx (K := K) x16).2 _ _ hwa
        refine ⟨.ref p, rfl, .ref lk, rfl, .ref wa, rfl, p, c, .ref lk, .ref wa, l, _, _, rfl, hp16, by omega, hL16, ok, ⟨wa, rfl, hwa16, hws⟩, hwl, fun H17 n2 x17 hp17 k2 => ?_⟩
        have tk17 : TK K H16 H17 := hp16.tk x17
        have hL17 := LockAt.mono (hp16.tx x17) hL16
        refine ⟨.ref p, rfl, p, c, _, rfl, hp17, by omega, fun H18 od dd x18 hp18 ho hm => ?_⟩
        have tk18 : TK K H17 H18 := hp17.tk x18
        have hL18 := LockAt.mono (hp17.tx x18) hL17
        refine ⟨(by show 5 ≤ sizeLine; decide), fun tp ntp => ?_⟩
        have e19 := Evl.Ex.new (o := .tup [.ref ua, .ref wa, n1, n2, od]) ntp
        have g19 : (upd H18 tp (.tup [.ref ua, .ref wa, n1, n2, od])) tp = some (.tup [.ref ua, .ref wa, n1, n2, od]) := upd_same
        generalize upd H18 tp (.tup [.ref ua, .ref wa, n1, n2, od]) = H19 at e19 g19
        have tke := TK.ex (K := K) e19
        have all : ∀ x ∈ ([.ref ua, .ref wa, n1, n2, od] : List V), Sk K H19 x := by
          intro x hx
          simp only [List.mem_cons, List.not_mem_nil, or_false] at hx
          rcases hx with rfl | rfl | rfl | rfl | rfl
          · exact (sk_tup (K := K) (.inl (.inl hua15)) hus (by omega)).keep (tk16.trans (tk17.trans (tk18.trans tke)))
          · exact (sk_tup (K := K) (.inl (.inl hwa16)) hws (by omega)).keep (tk17.trans (tk18.trans tke))
          · exact k1.keep (tk17.trans (tk18.trans tke))
          · exact k2.keep (tk18.trans tke)
          · exact (ho.sk hm).keep tke
        have hL19 := LockAt.mono (TX.ex e19) hL18
        have hp19 := hp18.ex e19
        have x1219 : Exx p H12 H19 := x13.trans (x14.trans (x15.trans (x16.trans (x17.trans (x18.trans (Exx.ex e19))))))
        refine ⟨tp, rfl, ⟨_, .inl (.inl g19)⟩, ?_⟩
        refine for_tup (K := K) (a := tp) (xs := [.ref ua, .ref wa, n1, n2, od]) (fun j σ H' => ∃ w10 w11 w12 w13 : Option V, σ = [some (.ref a), some (.ref p), some (.int (0 + (t : Nat))), some (.ref la), some (.int many), some (.ref lk), some (.str (dL l).shown), some (.int (0 + (i : Nat))), some (.ref ua), some (.ref wa), w10, w11, w12, w13] ∧ Evl.Ex H19 H')
          ⟨_, _, _, _, rfl, Evl.Ex.refl _⟩ ?_ ?_ ?_
        · rintro j σ H' _ ⟨_, _, _, _, _, e⟩
          exact .inl (.inl (e _ _ g19))
        · rintro j x σ H20 hx ⟨w10, w11, w12, w13, rfl, e20⟩
          obtain ⟨d, hd, hsm⟩ := (all x (List.mem_of_getElem? hx)).keep (TK.ex e20)
          have hL20 := LockAt.mono (TX.ex e20) hL19
          have dep : d.depth ≤ 20 := Nat.le_trans hsm.dep (by decide)
          have len : d.shown.length ≤ sizeLine := Nat.le_trans hsm.len (by decide)
          refine ⟨x, rfl, x, d, rfl, hd, hsm.sho, dep, len, ?_⟩
          refine ⟨.ref lk, rfl, x, rfl, .ref lk, x, l, d, rfl, hL20, ok, hd, fun H21 e21 => ?_⟩
          refine ⟨.ref lk, rfl, x, rfl, .ref lk, x, l, d, rfl, LockAt.mono (TX.ex e21) hL20, ok, hd.keep (TK.ex e21), fun H22 e22 => ?_⟩
          refine ⟨(by show 2 ≤ sizeLine; decide), fun t1 nt1 => ?_⟩
          have e23 := Evl.Ex.new (o := .tup [.bl (placesB d (manysOf l)), .bl (wishedB d (manysOf l))]) nt1
          have g23 : (upd H22 t1 (.tup [.bl (placesB d (manysOf l)), .bl (wishedB d (manysOf l))])) t1 = some (.tup [.bl (placesB d (manysOf l)), .bl (wishedB d (manysOf l))]) := upd_same
          generalize upd H22 t1 (.tup [.bl (placesB d (manysOf l)), .bl (wishedB d (manysOf l))]) = H23 at e23 g23
          have e2023 := e21.trans (e22.trans e23)
          refine ⟨.ref lk, rfl, x, rfl, .ref lk, x, l, d, false, rfl, LockAt.mono (TX.ex e2023) hL20, ok, hd.keep (TK.ex e2023), fun H24 e24 => ?_⟩
          have e2024 := e2023.trans e24
          refine ⟨.ref lk, rfl, x, rfl, .ref lk, x, l, d, true, rfl, LockAt.mono (TX.ex e2024) hL20, ok, hd.keep (TK.ex e2024), fun H25 e25 => ?_⟩
          rw [if_neg Bool.false_ne_true, if_pos rfl]
          refine ⟨(by show 2 ≤ sizeLine; decide), fun t2 nt2 => ?_⟩
          have e26 := Evl.Ex.new (o := .tup [.bl (placesB d (manysOf l)), .bl (wishedB d (manysOf l))]) nt2
          have g26 : (upd H25 t2 (.tup [.bl (placesB d (manysOf l)), .bl (wishedB d (manysOf l))])) t2 = some (.tup [.bl (placesB d (manysOf l)), .bl (wishedB d (manysOf l))]) := upd_same
          generalize upd H25 t2 (.tup [.bl (placesB d (manysOf l)), .bl (wishedB d (manysOf l))]) = H26 at e26 g26
          have two := two_sm (placesB d (manysOf l)) (wishedB d (manysOf l))
          have e2026 := e2024.trans (e25.trans e26)
          refine ⟨.ref t1, rfl, .ref t1, .tuple [.bool (placesB d (manysOf l)), .bool (wishedB d (manysOf l))], rfl, .dp (.tup (.inl (.inl ((e24.trans (e25.trans e26)) _ _ g23))) (.cons (.bl _) (.cons (.bl _) .nil))), two.sho, Nat.le_trans two.dep (by decide), Nat.le_trans two.len (by decide), ?_⟩
          refine ⟨.ref t2, rfl, .ref t2, .tuple [.bool (placesB d (manysOf l)), .bool (wishedB d (manysOf l))], rfl, .dp (.tup (.inl (.inl g26)) (.cons (.bl _) (.cons (.bl _) .nil))), two.sho, Nat.le_trans two.dep (by decide), Nat.le_trans two.len (by decide), ?_⟩
          refine ⟨rfl, _, rfl, ?_⟩
          refine ite2 (fun hc => absurd hc (by simp)) (fun _ => ?_)
          refine ⟨x, rfl, x, d, rfl, hd.keep (TK.ex e2026), hsm.sho, dep, len, ?_⟩
          refine ⟨.str d.shown, rfl, rfl, _, rfl, ?_⟩
          refine ite2 (fun hc => absurd hc (by simp)) (fun _ => ?_)
          exact ⟨_, _, _, _, rfl, e20.trans e2026⟩
        · rintro σ H20 ⟨w10, w11, w12, w13, rfl, e20⟩
          exact ⟨_, _, _, _, _, _, _, rfl, x1219.trans (Exx.ex e20), (hp19.ex e20).mono (by omega)⟩
      · rintro σ H13 ⟨z7, z8, z9, z10, z11, z12, z13, rfl, x13, hp13⟩
        have hL13 := LockAt.mono (hp12.tx x13) hL12
        refine ⟨.ref lk, rfl, .ref lk, dL l, rfl, .dp (dp_L hL13), fl.sho, Nat.le_trans fl.dep (by decide), Nat.le_trans fl.len (by decide), ?_⟩
        refine ⟨.str (dL l).shown, rfl, rfl, _, rfl, ?_⟩
        refine ite2 (fun hc => absurd hc (by simp)) (fun _ => ?_)
        exact ⟨_, _, _, _, _, _, _, _, _, _, _, _, rfl, hp13.mono (by omega)⟩
    · rintro σ H2 ⟨y2, y3, y4, y5, y6, y7, y8, y9, y10, y11, y12, y13, rfl, hp2⟩
      exact q _
end
end Wb

set_option Elab.async false
set_option linter.all false
set_option maxRecDepth 100000
set_option maxHeartbeats 4000000
set_option pp.maxSteps 600
set_option pp.deepTerms false
namespace Wb
open PySem PySem.Spec PyProof.Rows L2
section
variable {P : Program} {w : World} {K : PySem.W.Frag} {mg mb : Str → Option Value} {k : Nat} {fa a : Addr} {fd : FuncData} {x : Str} {sp : Sp} {t : Shared} {vs : List Value} {ns : List Int}
/-- from a heap that tracks at most the script -/
theorem top_core (kin : K.In t.heap) (mns : t.heap.Ns mainGlobals mg) (bns : t.heap.Ns builtinsNs mb)
    (bok : ∀ y : Str, y ≠ "__name__" → mb y = bootBuiltins y) (nol : t.heap.NoLimit) (gen0 : t.gens = #[])
    (oa : t.heap.get? a = some { cls := .type "list", data := .seq vs.toArray }) (rv : Vals (ns.map V.int) vs) (room : Room k callerA) (gu : callerA.guards = some [])
    (prom : ∀ bs : Heap, K.In bs → bs.Ns mainGlobals mg → FnG P w K mg bs k fa fd [x] sp) (bnd : ∀ (t' : Shared) (u : Value), BindsTo t' fd ⟨[u], []⟩ [(x, u)])
    (I : Hp) (only : Only I) (due : sp [.ref a] I (fun v _ => v = .bl true) fun _ _ _ => False) (iok : HOk P w I t.heap) (at_a : ∀ b, I b ≠ none → b = a) (free_a : I a ≠ none → K.lookup a = none) :
    codeAny (model P w) callerA (.call (.ref fa) ⟨[.ref a], []⟩) (fun r t' => r = .ok (.ret (.bool true)) ∧ OldK t.heap t'.heap ∧ t'.os = t.os ∧ AllBare t'.gens) t := by
  have keep : ∀ {b : Addr} {o : Obj}, I b = none → t.heap.get? b = some o → (hidT t.heap I).get? b = some o := fun n e => hidT_get e n
  have isA : ∀ {b : Addr}, I b ≠ none → t.heap.get? b = some { cls := .type "list", data := .seq vs.toArray } := fun {b} n => by
    rw [at_a b n]
    exact oa
  have nsI : ∀ {b : Addr} {m : Str → Option Value}, t.heap.Ns b m → (hidT t.heap I).Ns b m := by
    intro b m h
    obtain ⟨o, es, ep, e1, e2, e3⟩ := h
    refine ⟨o, es, ep, keep ?_ e1, e2, e3⟩
    refine Classical.byContradiction fun n => ?_
    have z := isA n
    rw [e1] at z
    cases z
    have z2 : Data.seq vs.toArray _ = Data.dict es ep := e2
    cases z2
  have kinI : K.In (hidT t.heap I) := by
    intro b o e
    refine keep (Classical.byContradiction fun n => ?_) (kin b o e)
    have z := free_a (by rw [← at_a b n]; exact n)
    rw [← at_a b n, e] at z
    cases z
  have nolI : (hidT t.heap I).NoLimit := by
    obtain ⟨mc, h1, h2⟩ := nol
    exact ⟨mc, nsI h1, h2⟩
  have mod : Mod K mg (hidT t.heap I) := ⟨kinI, nsI mns, ⟨mb, nsI bns, bok⟩, nolI⟩
  have env : Env0 P w K mg (hidT t.heap I) callerA [] t I :=
    ⟨rfl, mod, fun b o e => of_hidT e, Nat.le_of_eq (hidT_size _ _), trivial, (fun b hb => absurd hb (List.not_mem_nil)), iok, .of_eq gen0⟩
  refine codeAny_mono ((prom _ kinI (nsI mns)).go callerA [] t I ⟨[.ref a], []⟩ [.ref a] [.ref a] _ _ gu room env (bnd t (.ref a)) (.cons rfl .nil) due) ?_
  intro r t' h
  cases r with
  | error e => exact False.elim h
  | ok fl =>
    cases fl with
    | next => exact False.elim h
    | brk => exact False.elim h
    | cont => exact False.elim h
    | ret u =>
      obtain ⟨v, I', eos, bare, un, iok', rr, hv⟩ := h
      have hv' : v = .bl true := hv
      rw [hv'] at rr
      have hu : u = Value.bool true := rr
      rw [hu]
      refine ⟨rfl, OldK.of_keep fun b o e => ?_, eos, bare⟩
      rcases only b with z | ⟨ob, xs, z⟩
      · exact un.keep b o e z (by intro h; exact absurd h List.not_mem_nil) (by simp)
      · obtain ⟨e1, _⟩ := iok b _ z
        obtain ⟨e2, _⟩ := iok' b _ (un.frzs b ob _ z)
        rw [e] at e1
        cases e1
        exact e2
theorem call_top (kin : K.In t.heap) (mns : t.heap.Ns mainGlobals mg) (bns : t.heap.Ns builtinsNs mb)
    (bok : ∀ y : Str, y ≠ "__name__" → mb y = bootBuiltins y) (nol : t.heap.NoLimit) (gen0 : t.gens = #[])
    (oa : t.heap.get? a = some { cls := .type "list", data := .seq vs.toArray }) (iv : IntsAre vs ns) (len : ns.length ≤ sizeLine) (room : Room k callerA) (gu : callerA.guards = some [])
    (prom : ∀ bs : Heap, K.In bs → bs.Ns mainGlobals mg → FnG P w K mg bs k fa fd [x] sp) (bnd : ∀ (t' : Shared) (u : Value), BindsTo t' fd ⟨[u], []⟩ [(x, u)])
    (due : ∀ I : Hp, SqL K I a (ns.map V.int) → sp [.ref a] I (fun v _ => v = .bl true) fun _ _ _ => False) :
    codeAny (model P w) callerA (.call (.ref fa) ⟨[.ref a], []⟩) (fun r t' => r = .ok (.ret (.bool true)) ∧ OldK t.heap t'.heap ∧ t'.os = t.os ∧ AllBare t'.gens) t := by
  have rv := vals_ints iv
  have lv := iv.length
  cases hk : K.lookup a with
  | some o =>
    have e := kin a o hk
    rw [oa] at e
    cases e
    have hS : SqL K (fun _ => none) a (ns.map V.int) := .inr ⟨_, vs.toArray, _, hk, rfl, rfl, rfl, (by rw [List.size_toArray, lv]; exact len), (by simpa using rv)⟩
    exact top_core kin mns bns bok nol gen0 oa rv room gu prom bnd (fun _ => none) (fun _ => .inl rfl) (due _ hS) (fun b u z => (by cases z)) (fun b z => absurd rfl z) (fun z => absurd rfl z)
  | none =>
    have one : ∀ b, b ≠ a → (fun b => if b = a then some (HO.frz { cls := .type "list", data := .seq vs.toArray } (.lst (ns.map V.int))) else none : Hp) b = none := fun b n => if_neg n
    have two : (fun b => if b = a then some (HO.frz { cls := .type "list", data := .seq vs.toArray } (.lst (ns.map V.int))) else none : Hp) a = some (HO.frz { cls := .type "list", data := .seq vs.toArray } (.lst (ns.map V.int))) := if_pos rfl
    generalize (fun b => if b = a then some (HO.frz { cls := .type "list", data := .seq vs.toArray } (.lst (ns.map V.int))) else none : Hp) = I at one two
    have hS : SqL K I a (ns.map V.int) := .inl (.inr ⟨_, two⟩)
    have at_a : ∀ b, I b ≠ none → b = a := fun b n => Classical.byContradiction fun z => n (one b z)
    refine top_core kin mns bns bok nol gen0 oa rv room gu prom bnd I ?_ (due I hS) ?_ at_a (fun _ => hk)
    · intro b
      by_cases z : b = a
      · rw [z]
        exact .inr ⟨_, _, two⟩
      · exact .inl (one b z)
    · intro b u z
      have e := at_a b (by rw [z]; exact fun y => nomatch y)
      subst e
      rw [two] at z
      cases z
      exact ⟨oa, (by rw [List.length_map]; exact len), vs, _, rv, oa⟩
end
theorem walk_top {l : PySem.W.OpenLaw} {n k : Nat} {q : Program} {loose : List Str} {XP : (Str → Option Value) → Heap → Prop} {YP : World → Heap → Prop} {d : DefRec} {K : Params → PySem.W.Frag} {sp : World → Sp} {x : Str}
    (hn : l.most = some n) (hn2 : n ≤ sizeLine) (hd : d.params.defaults = []) (room : Room k callerA) (gu : callerA.guards = some [])
    (hY : ∀ (w : World) (h : Heap), YP w h → (K w.params).In h)
    (F : ∀ (w : World) (mg : Str → Option Value) (fa : Addr) (h : Heap), (K w.params).In h → h.Ns mainGlobals mg → mg d.name = some (.ref fa) → ∃ fd : FuncData,
      (∀ (t : Shared) (u : Value), BindsTo t fd ⟨[u], []⟩ [(x, u)]) ∧ ∀ bs : Heap, (K w.params).In bs → bs.Ns mainGlobals mg → FnG l.prog w (K w.params) mg bs k fa fd [x] (sp w))
    (due : ∀ (w : World) (I : Hp) (a : Addr) (ns : List Int), SqL (K w.params) I a (ns.map V.int) → sp w [.ref a] I (fun v _ => v = .bl true) fun _ _ _ => False) :
    PySem.W.WalkO q loose XP YP l.row.toRowW d [] (fun f vs => PySem.call f vs) := by
  refine Att.attach_call hn hd ?_
  intro w t0 t mg mb fa o pm cd doc a vs ns G Y ho hdt hcd hmg oa iv hl gen0
  obtain ⟨fd, hb, hF⟩ := F w mg fa _ (hY w _ Y) G.T.g hmg
  exact call_top (hY w _ Y) G.T.g G.T.b G.T.builtins G.T.nolimit gen0 oa iv (Nat.le_trans hl hn2) room gu hF hb fun I hS => due w I a ns hS
end Wb

set_option Elab.async false
set_option linter.all false
set_option maxRecDepth 100000
set_option maxHeartbeats 4000000
namespace Wb
open PySem PySem.Spec PyProof.Rows L2
theorem all_facts {pr : Program} {w : World} {K : PySem.W.Frag} {h : Heap} {mg : Str → Option Value} {fa : Addr} (X : K.In h) (G : h.Ns mainGlobals mg) (hfa : mg "law" = some (.ref fa))
    {fp1 : Addr} {ocp1 kVp1 dcp1 pmp1 cdp1 ctp1 : Value} {odp1 anp1 : Option Addr} {slp1 : Array (Option Value)}
    (ap1 : PySem.W.nsIn K mainGlobals "is_whole" = some (some (.ref fp1)))
    (lp1 : K.lookup fp1 = some ⟨ocp1, odp1, .func (PySem.W.fnOf "is_whole" "is_whole" (defArgs sWhole) (defBody sWhole) (defScope sWhole) .none kVp1 dcp1 pmp1 anp1 cdp1 ctp1), slp1⟩)
    (cp1 : PySem.W.codeIn K cdp1 "is_whole" = true) (kp1 : PySem.W.keepIn K (.ref fp1) = true)
    {fp2 : Addr} {ocp2 kVp2 dcp2 pmp2 cdp2 ctp2 : Value} {odp2 anp2 : Option Addr} {slp2 : Array (Option Value)}
    (ap2 : PySem.W.nsIn K mainGlobals "is_whole_in" = some (some (.ref fp2)))
    (lp2 : K.lookup fp2 = some ⟨ocp2, odp2, .func (PySem.W.fnOf "is_whole_in" "is_whole_in" (defArgs sWholeIn) (defBody sWholeIn) (defScope sWholeIn) .none kVp2 dcp2 pmp2 anp2 cdp2 ctp2), slp2⟩)
    (cp2 : PySem.W.codeIn K cdp2 "is_whole_in" = true) (kp2 : PySem.W.keepIn K (.ref fp2) = true)
    {fp3 : Addr} {ocp3 kVp3 dcp3 pmp3 cdp3 ctp3 : Value} {odp3 anp3 : Option Addr} {slp3 : Array (Option Value)}
    (ap3 : PySem.W.nsIn K mainGlobals "is_tuple_of" = some (some (.ref fp3)))
    (lp3 : K.lookup fp3 = some ⟨ocp3, odp3, .func (PySem.W.fnOf "is_tuple_of" "is_tuple_of" (defArgs sTupOf) (defBody sTupOf) (defScope sTupOf) .none kVp3 dcp3 pmp3 anp3 cdp3 ctp3), slp3⟩)
    (cp3 : PySem.W.codeIn K cdp3 "is_tuple_of" = true) (kp3 : PySem.W.keepIn K (.ref fp3) = true)
    {fp4 : Addr} {ocp4 kVp4 dcp4 pmp4 cdp4 ctp4 : Value} {odp4 anp4 : Option Addr} {slp4 : Array (Option Value)}
    (ap4 : PySem.W.nsIn K mainGlobals "are_places" = some (some (.ref fp4)))
    (lp4 : K.lookup fp4 = some ⟨ocp4, odp4, .func (PySem.W.fnOf "are_places" "are_places" (defArgs sPlaces) (defBody sPlaces) (defScope sPlaces) .none kVp4 dcp4 pmp4 anp4 cdp4 ctp4), slp4⟩)
    (cp4 : PySem.W.codeIn K cdp4 "are_places" = true) (kp4 : PySem.W.keepIn K (.ref fp4) = true)
    {fp10 : Addr} {ocp10 kVp10 dcp10 pmp10 cdp10 ctp10 : Value} {odp10 anp10 : Option Addr} {slp10 : Array (Option Value)}
    (ap10 : PySem.W.nsIn K mainGlobals "words_of" = some (some (.ref fp10)))
    (lp10 : K.lookup fp10 = some ⟨ocp10, odp10, .func (PySem.W.fnOf "words_of" "words_of" (defArgs sWords) (defBody sWords) (defScope sWords) .none kVp10 dcp10 pmp10 anp10 cdp10 ctp10), slp10⟩)
    (cp10 : PySem.W.codeIn K cdp10 "words_of" = true) (kp10 : PySem.W.keepIn K (.ref fp10) = true)
    {fp19 : Addr} {ocp19 kVp19 dcp19 pmp19 cdp19 ctp19 : Value} {odp19 anp19 : Option Addr} {slp19 : Array (Option Value)}
    (ap19 : PySem.W.nsIn K mainGlobals "fault_of" = some (some (.ref fp19)))
    (lp19 : K.lookup fp19 = some ⟨ocp19, odp19, .func (PySem.W.fnOf "fault_of" "fault_of" (defArgs sFault) (defBody sFault) (defScope sFault) .none kVp19 dcp19 pmp19 anp19 cdp19 ctp19), slp19⟩)
    (cp19 : PySem.W.codeIn K cdp19 "fault_of" = true) (kp19 : PySem.W.keepIn K (.ref fp19) = true)
    {fp20 : Addr} {ocp20 kVp20 dcp20 pmp20 cdp20 ctp20 : Value} {odp20 anp20 : Option Addr} {slp20 : Array (Option Value)}
    (ap20 : PySem.W.nsIn K mainGlobals "is_bolt" = some (some (.ref fp20)))
    (lp20 : K.lookup fp20 = some ⟨ocp20, odp20, .func (PySem.W.fnOf "is_bolt" "is_bolt" (defArgs sBolt) (defBody sBolt) (defScope sBolt) .none kVp20 dcp20 pmp20 anp20 cdp20 ctp20), slp20⟩)
    (cp20 : PySem.W.codeIn K cdp20 "is_bolt" = true) (kp20 : PySem.W.keepIn K (.ref fp20) = true)
    {fp21 : Addr} {ocp21 kVp21 dcp21 pmp21 cdp21 ctp21 : Value} {odp21 anp21 : Option Addr} {slp21 : Array (Option Value)}
    (ap21 : PySem.W.nsIn K mainGlobals "is_gap" = some (some (.ref fp21)))
    (lp21 : K.lookup fp21 = some ⟨ocp21, odp21, .func (PySem.W.fnOf "is_gap" "is_gap" (defArgs sGap) (defBody sGap) (defScope sGap) .none kVp21 dcp21 pmp21 anp21 cdp21 ctp21), slp21⟩)
    (cp21 : PySem.W.codeIn K cdp21 "is_gap" = true) (kp21 : PySem.W.keepIn K (.ref fp21) = true)
    {fp22 : Addr} {ocp22 kVp22 dcp22 pmp22 cdp22 ctp22 : Value} {odp22 anp22 : Option Addr} {slp22 : Array (Option Value)}
    (ap22 : PySem.W.nsIn K mainGlobals "are_ways" = some (some (.ref fp22)))
    (lp22 : K.lookup fp22 = some ⟨ocp22, odp22, .func (PySem.W.fnOf "are_ways" "are_ways" (defArgs sWays) (defBody sWays) (defScope sWays) .none kVp22 dcp22 pmp22 anp22 cdp22 ctp22), slp22⟩)
    (cp22 : PySem.W.codeIn K cdp22 "are_ways" = true) (kp22 : PySem.W.keepIn K (.ref fp22) = true)
    {fp23 : Addr} {ocp23 kVp23 dcp23 pmp23 cdp23 ctp23 : Value} {odp23 anp23 : Option Addr} {slp23 : Array (Option Value)}
    (ap23 : PySem.W.nsIn K mainGlobals "manys_of" = some (some (.ref fp23)))
    (lp23 : K.lookup fp23 = some ⟨ocp23, odp23, .func (PySem.W.fnOf "manys_of" "manys_of" (defArgs sManys) (defBody sManys) (defScope sManys) .none kVp23 dcp23 pmp23 anp23 cdp23 ctp23), slp23⟩)
    (cp23 : PySem.W.codeIn K cdp23 "manys_of" = true) (kp23 : PySem.W.keepIn K (.ref fp23) = true)
    {fp24 : Addr} {ocp24 kVp24 dcp24 pmp24 cdp24 ctp24 : Value} {odp24 anp24 : Option Addr} {slp24 : Array (Option Value)}
    (ap24 : PySem.W.nsIn K mainGlobals "need_lock" = some (some (.ref fp24)))
    (lp24 : K.lookup fp24 = some ⟨ocp24, odp24, .func (PySem.W.fnOf "need_lock" "need_lock" (defArgs sNeedL) (defBody sNeedL) (defScope sNeedL) .none kVp24 dcp24 pmp24 anp24 cdp24 ctp24), slp24⟩)
    (cp24 : PySem.W.codeIn K cdp24 "need_lock" = true) (kp24 : PySem.W.keepIn K (.ref fp24) = true)
    {f5 : Addr} {oc5 kV5 dc5 pm5 cd5 ct5 : Value} {od5 an5 : Option Addr} {sl5 : Array (Option Value)}
    (a5 : PySem.W.nsIn K mainGlobals "are_wished" = some (some (.ref f5)))
    (l5 : K.lookup f5 = some ⟨oc5, od5, .func (PySem.W.fnOf "are_wished" "are_wished" (defArgs sWished) (defBody sWished) (defScope sWished) .none kV5 dc5 pm5 an5 cd5 ct5), sl5⟩)
    (c5 : PySem.W.codeIn K cd5 "are_wished" = true) (k5 : PySem.W.keepIn K (.ref f5) = true)
    {f22 : Addr} {oc22 kV22 dc22 pm22 cd22 ct22 : Value} {od22 an22 : Option Addr} {sl22 : Array (Option Value)}
    (a22 : PySem.W.nsIn K mainGlobals "is_stand" = some (some (.ref f22)))
    (l22 : K.lookup f22 = some ⟨oc22, od22, .func (PySem.W.fnOf "is_stand" "is_stand" (defArgs sIsStand) (defBody sIsStand) (defScope sIsStand) .none kV22 dc22 pm22 an22 cd22 ct22), sl22⟩)
    (c22 : PySem.W.codeIn K cd22 "is_stand" = true) (k22 : PySem.W.keepIn K (.ref f22) = true)
    {f23 : Addr} {oc23 kV23 dc23 pm23 cd23 ct23 : Value} {od23 an23 : Option Addr} {sl23 : Array (Option Value)}
    (a23 : PySem.W.nsIn K mainGlobals "is_wish" = some (some (.ref f23)))
    (l23 : K.lookup f23 = some ⟨oc23, od23, .func (PySem.W.fnOf "is_wish" "is_wish" (defArgs sIsWish) (defBody sIsWish) (defScope sIsWish) .none kV23 dc23 pm23 an23 cd23 ct23), sl23⟩)
    (c23 : PySem.W.codeIn K cd23 "is_wish" = true) (k23 : PySem.W.keepIn K (.ref f23) = true)
    {f26 : Addr} {oc26 kV26 dc26 pm26 cd26 ct26 : Value} {od26 an26 : Option Addr} {sl26 : Array (Option Value)}
    (a26 : PySem.W.nsIn K mainGlobals "stands_of" = some (some (.ref f26)))
    (l26 : K.lookup f26 = some ⟨oc26, od26, .func (PySem.W.fnOf "stands_of" "stands_of" (defArgs sStandsOf) (defBody sStandsOf) (defScope sStandsOf) .none kV26 dc26 pm26 an26 cd26 ct26), sl26⟩)
    (c26 : PySem.W.codeIn K cd26 "stands_of" = true) (k26 : PySem.W.keepIn K (.ref f26) = true)
    {f28 : Addr} {oc28 kV28 dc28 pm28 cd28 ct28 : Value} {od28 an28 : Option Addr} {sl28 : Array (Option Value)}
    (a28 : PySem.W.nsIn K mainGlobals "_law_pen" = some (some (.ref f28)))
    (l28 : K.lookup f28 = some ⟨oc28, od28, .func (PySem.W.fnOf "_law_pen" "_law_pen" (defArgs sPen) (defBody sPen) (defScope sPen) .none kV28 dc28 pm28 an28 cd28 ct28), sl28⟩)
    (c28 : PySem.W.codeIn K cd28 "_law_pen" = true) (k28 : PySem.W.keepIn K (.ref f28) = true)
    {f29 : Addr} {oc29 kV29 dc29 pm29 cd29 ct29 : Value} {od29 an29 : Option Addr} {sl29 : Array (Option Value)}
    (a29 : PySem.W.nsIn K mainGlobals "_law_draw" = some (some (.ref f29)))
    (l29 : K.lookup f29 = some ⟨oc29, od29, .func (PySem.W.fnOf "_law_draw" "_law_draw" (defArgs sDraw) (defBody sDraw) (defScope sDraw) .none kV29 dc29 pm29 an29 cd29 ct29), sl29⟩)
    (c29 : PySem.W.codeIn K cd29 "_law_draw" = true) (k29 : PySem.W.keepIn K (.ref f29) = true)
    {f30 : Addr} {oc30 kV30 dc30 pm30 cd30 ct30 : Value} {od30 an30 : Option Addr} {sl30 : Array (Option Value)}
    (a30 : PySem.W.nsIn K mainGlobals "_law_pick" = some (some (.ref f30)))
    (l30 : K.lookup f30 = some ⟨oc30, od30, .func (PySem.W.fnOf "_law_pick" "_law_pick" (defArgs sPick) (defBody sPick) (defScope sPick) .none kV30 dc30 pm30 an30 cd30 ct30), sl30⟩)
    (c30 : PySem.W.codeIn K cd30 "_law_pick" = true) (k30 : PySem.W.keepIn K (.ref f30) = true)
    {f31 : Addr} {oc31 kV31 dc31 pm31 cd31 ct31 : Value} {od31 an31 : Option Addr} {sl31 : Array (Option Value)}
    (a31 : PySem.W.nsIn K mainGlobals "_law_gaps" = some (some (.ref f31)))
    (l31 : K.lookup f31 = some ⟨oc31, od31, .func (PySem.W.fnOf "_law_gaps" "_law_gaps" (defArgs sGaps) (defBody sGaps) (defScope sGaps) .none kV31 dc31 pm31 an31 cd31 ct31), sl31⟩)
    (c31 : PySem.W.codeIn K cd31 "_law_gaps" = true) (k31 : PySem.W.keepIn K (.ref f31) = true)
    {f32 : Addr} {oc32 kV32 dc32 pm32 cd32 ct32 : Value} {od32 an32 : Option Addr} {sl32 : Array (Option Value)}
    (a32 : PySem.W.nsIn K mainGlobals "_law_lock" = some (some (.ref f32)))
    (l32 : K.lookup f32 = some ⟨oc32, od32, .func (PySem.W.fnOf "_law_lock" "_law_lock" (defArgs sLock) (defBody sLock) (defScope sLock) .none kV32 dc32 pm32 an32 cd32 ct32), sl32⟩)
    (c32 : PySem.W.codeIn K cd32 "_law_lock" = true) (k32 : PySem.W.keepIn K (.ref f32) = true)
    {f33 : Addr} {oc33 kV33 dc33 pm33 cd33 ct33 : Value} {od33 an33 : Option Addr} {sl33 : Array (Option Value)}
    (a33 : PySem.W.nsIn K mainGlobals "_law_ways" = some (some (.ref f33)))
    (l33 : K.lookup f33 = some ⟨oc33, od33, .func (PySem.W.fnOf "_law_ways" "_law_ways" (defArgs sAllWays) (defBody sAllWays) (defScope sAllWays) .none kV33 dc33 pm33 an33 cd33 ct33), sl33⟩)
    (c33 : PySem.W.codeIn K cd33 "_law_ways" = true) (k33 : PySem.W.keepIn K (.ref f33) = true)
    {f34 : Addr} {oc34 kV34 dc34 pm34 cd34 ct34 : Value} {od34 an34 : Option Addr} {sl34 : Array (Option Value)}
    (a34 : PySem.W.nsIn K mainGlobals "_law_stand" = some (some (.ref f34)))
    (l34 : K.lookup f34 = some ⟨oc34, od34, .func (PySem.W.fnOf "_law_stand" "_law_stand" (defArgs sStand) (defBody sStand) (defScope sStand) .none kV34 dc34 pm34 an34 cd34 ct34), sl34⟩)
    (c34 : PySem.W.codeIn K cd34 "_law_stand" = true) (k34 : PySem.W.keepIn K (.ref f34) = true)
    {f35 : Addr} {oc35 kV35 dc35 pm35 cd35 ct35 : Value} {od35 an35 : Option Addr} {sl35 : Array (Option Value)}
    (a35 : PySem.W.nsIn K mainGlobals "_law_wish" = some (some (.ref f35)))
    (l35 : K.lookup f35 = some ⟨oc35, od35, .func (PySem.W.fnOf "_law_wish" "_law_wish" (defArgs sWish) (defBody sWish) (defScope sWish) .none kV35 dc35 pm35 an35 cd35 ct35), sl35⟩)
    (c35 : PySem.W.codeIn K cd35 "_law_wish" = true) (k35 : PySem.W.keepIn K (.ref f35) = true)
    {f36 : Addr} {oc36 kV36 dc36 pm36 cd36 ct36 : Value} {od36 an36 : Option Addr} {sl36 : Array (Option Value)}
    (a36 : PySem.W.nsIn K mainGlobals "_law_whole" = some (some (.ref f36)))
    (l36 : K.lookup f36 = some ⟨oc36, od36, .func (PySem.W.fnOf "_law_whole" "_law_whole" (defArgs sLWhole) (defBody sLWhole) (defScope sLWhole) .none kV36 dc36 pm36 an36 cd36 ct36), sl36⟩)
    (c36 : PySem.W.codeIn K cd36 "_law_whole" = true) (k36 : PySem.W.keepIn K (.ref f36) = true)
    {f37 : Addr} {oc37 kV37 dc37 pm37 cd37 ct37 : Value} {od37 an37 : Option Addr} {sl37 : Array (Option Value)}
    (a37 : PySem.W.nsIn K mainGlobals "_law_odd" = some (some (.ref f37)))
    (l37 : K.lookup f37 = some ⟨oc37, od37, .func (PySem.W.fnOf "_law_odd" "_law_odd" (defArgs sOdd) (defBody sOdd) (defScope sOdd) .none kV37 dc37 pm37 an37 cd37 ct37), sl37⟩)
    (c37 : PySem.W.codeIn K cd37 "_law_odd" = true) (k37 : PySem.W.keepIn K (.ref f37) = true)
    {f38 : Addr} {oc38 kV38 dc38 pm38 cd38 ct38 : Value} {od38 an38 : Option Addr} {sl38 : Array (Option Value)}
    (a38 : PySem.W.nsIn K mainGlobals "_law_bent" = some (some (.ref f38)))
    (l38 : K.lookup f38 = some ⟨oc38, od38, .func (PySem.W.fnOf "_law_bent" "_law_bent" (defArgs sBent) (defBody sBent) (defScope sBent) .none kV38 dc38 pm38 an38 cd38 ct38), sl38⟩)
    (c38 : PySem.W.codeIn K cd38 "_law_bent" = true) (k38 : PySem.W.keepIn K (.ref f38) = true)
    {f39 : Addr} {oc39 kV39 dc39 pm39 cd39 ct39 : Value} {od39 an39 : Option Addr} {sl39 : Array (Option Value)}
    (a39 : PySem.W.nsIn K mainGlobals "_law_is_word" = some (some (.ref f39)))
    (l39 : K.lookup f39 = some ⟨oc39, od39, .func (PySem.W.fnOf "_law_is_word" "_law_is_word" (defArgs sLIsWord) (defBody sLIsWord) (defScope sLIsWord) .none kV39 dc39 pm39 an39 cd39 ct39), sl39⟩)
    (c39 : PySem.W.codeIn K cd39 "_law_is_word" = true) (k39 : PySem.W.keepIn K (.ref f39) = true)
    {f40 : Addr} {oc40 kV40 dc40 pm40 cd40 ct40 : Value} {od40 an40 : Option Addr} {sl40 : Array (Option Value)}
    (a40 : PySem.W.nsIn K mainGlobals "_law_many" = some (some (.ref f40)))
    (l40 : K.lookup f40 = some ⟨oc40, od40, .func (PySem.W.fnOf "_law_many" "_law_many" (defArgs sLMany) (defBody sLMany) (defScope sLMany) .none kV40 dc40 pm40 an40 cd40 ct40), sl40⟩)
    (c40 : PySem.W.codeIn K cd40 "_law_many" = true) (k40 : PySem.W.keepIn K (.ref f40) = true)
    {f41 : Addr} {oc41 kV41 dc41 pm41 cd41 ct41 : Value} {od41 an41 : Option Addr} {sl41 : Array (Option Value)}
    (a41 : PySem.W.nsIn K mainGlobals "_law_near" = some (some (.ref f41)))
    (l41 : K.lookup f41 = some ⟨oc41, od41, .func (PySem.W.fnOf "_law_near" "_law_near" (defArgs sNear) (defBody sNear) (defScope sNear) .none kV41 dc41 pm41 an41 cd41 ct41), sl41⟩)
    (c41 : PySem.W.codeIn K cd41 "_law_near" = true) (k41 : PySem.W.keepIn K (.ref f41) = true)
    {f42 : Addr} {oc42 kV42 dc42 pm42 cd42 ct42 : Value} {od42 an42 : Option Addr} {sl42 : Array (Option Value)}
    (a42 : PySem.W.nsIn K mainGlobals "law" = some (some (.ref f42)))
    (l42 : K.lookup f42 = some ⟨oc42, od42, .func (PySem.W.fnOf "law" "law" (defArgs sLaw) (defBody sLaw) (defScope sLaw) .none kV42 dc42 pm42 an42 cd42 ct42), sl42⟩)
    (c42 : PySem.W.codeIn K cd42 "law" = true) (k42 : PySem.W.keepIn K (.ref f42) = true)
    {t0 : Tok} (n0 : PySem.W.nsIn K mainGlobals "MOST_BOLTS" = some (some (.int 60 t0)))
    {t1 : Tok} (n1 : PySem.W.nsIn K mainGlobals "FEWEST_PLACES" = some (some (.int 2 t1)))
    {t2 : Tok} (n2 : PySem.W.nsIn K mainGlobals "MOST_PLACES" = some (some (.int 4 t2)))
    {t3 : Tok} (n3 : PySem.W.nsIn K mainGlobals "MOST_WAYS" = some (some (.int 8 t3)))
    {t4 : Tok} (n4 : PySem.W.nsIn K mainGlobals "MOST_WORDS" = some (some (.int 8 t4)))
    {t5 : Tok} (n5 : PySem.W.nsIn K mainGlobals "MOST_PRICE" = some (some (.int 1000000 t5)))
    (z0 : PySem.W.nsIn K mainGlobals "isinstance" = some none)
    (z1 : PySem.W.nsIn K mainGlobals "int" = some none)
    (z2 : PySem.W.nsIn K mainGlobals "bool" = some none)
    (z3 : PySem.W.nsIn K mainGlobals "tuple" = some none)
    (z4 : PySem.W.nsIn K mainGlobals "list" = some none)
    (z5 : PySem.W.nsIn K mainGlobals "len" = some none)
    (z6 : PySem.W.nsIn K mainGlobals "zip" = some none)
    (z7 : PySem.W.nsIn K mainGlobals "all" = some none)
    (z8 : PySem.W.nsIn K mainGlobals "range" = some none)
    (z9 : PySem.W.nsIn K mainGlobals "reversed" = some none)
    (z10 : PySem.W.nsIn K mainGlobals "enumerate" = some none)
    (z11 : PySem.W.nsIn K mainGlobals "sorted" = some none)
    (z12 : PySem.W.nsIn K mainGlobals "set" = some none)
    (z13 : PySem.W.nsIn K mainGlobals "abs" = some none)
    (z14 : PySem.W.nsIn K mainGlobals "repr" = some none)
    (z15 : PySem.W.nsIn K mainGlobals "str" = some none) :
    ∃ fd : FuncData, (∀ (t : Shared) (u : Value), BindsTo t fd ⟨[u], []⟩ [("_law_script", u)]) ∧ ∀ bs : Heap, K.In bs → bs.Ns mainGlobals mg → FnG pr w K mg bs 9 fa fd ["_law_script"] (spLaw K) := by
  have e := hfa.symm.trans (PySem.W.mg_of X G a42)
  cases e
  have Fp1 := fun_mk (st := sWhole) lp1 cp1 kp1
  have Fp2 := fun_mk (st := sWholeIn) lp2 cp2 kp2
  have Fp3 := fun_mk (st := sTupOf) lp3 cp3 kp3
  have Fp4 := fun_mk (st := sPlaces) lp4 cp4 kp4
  have Fp10 := fun_mk (st := sWords) lp10 cp10 kp10
  have Fp19 := fun_mk (st := sFault) lp19 cp19 kp19
  have Fp20 := fun_mk (st := sBolt) lp20 cp20 kp20
  have Fp21 := fun_mk (st := sGap) lp21 cp21 kp21
  have Fp22 := fun_mk (st := sWays) lp22 cp22 kp22
  have Fp23 := fun_mk (st := sManys) lp23 cp23 kp23
  have Fp24 := fun_mk (st := sNeedL) lp24 cp24 kp24
  have F5 := fun_mk (st := sWished) l5 c5 k5
  have F22 := fun_mk (st := sIsStand) l22 c22 k22
  have F23 := fun_mk (st := sIsWish) l23 c23 k23
  have F26 := fun_mk (st := sStandsOf) l26 c26 k26
  have F28 := fun_mk (st := sPen) l28 c28 k28
  have F29 := fun_mk (st := sDraw) l29 c29 k29
  have F30 := fun_mk (st := sPick) l30 c30 k30
  have F31 := fun_mk (st := sGaps) l31 c31 k31
  have F32 := fun_mk (st := sLock) l32 c32 k32
  have F33 := fun_mk (st := sAllWays) l33 c33 k33
  have F34 := fun_mk (st := sStand) l34 c34 k34
  have F35 := fun_mk (st := sWish) l35 c35 k35
  have F36 := fun_mk (st := sLWhole) l36 c36 k36
  have F37 := fun_mk (st := sOdd) l37 c37 k37
  have F38 := fun_mk (st := sBent) l38 c38 k38
  have F39 := fun_mk (st := sLIsWord) l39 c39 k39
  have F40 := fun_mk (st := sLMany) l40 c40 k40
  have F41 := fun_mk (st := sNear) l41 c41 k41
  have F42 := fun_mk (st := sLaw) l42 c42 k42
  have bp1 := Fp1.binds (ps := ["thing"]) fun _ _ _ _ _ _ us hl => match us, hl with | [_], _ => rfl
  have bp2 := Fp2.binds (ps := ["thing", "low", "high"]) fun _ _ _ _ _ _ us hl => match us, hl with | [_, _, _], _ => rfl
  have bp3 := Fp3.binds (ps := ["thing", "low", "high"]) fun _ _ _ _ _ _ us hl => match us, hl with | [_, _, _], _ => rfl
  have bp4 := Fp4.binds (ps := ["thing", "manys"]) fun _ _ _ _ _ _ us hl => match us, hl with | [_, _], _ => rfl
  have bp10 := Fp10.binds (ps := ["lock"]) fun _ _ _ _ _ _ us hl => match us, hl with | [_], _ => rfl
  have bp19 := Fp19.binds (ps := ["thing"]) fun _ _ _ _ _ _ us hl => match us, hl with | [_], _ => rfl
  have bp20 := Fp20.binds (ps := ["thing", "below"]) fun _ _ _ _ _ _ us hl => match us, hl with | [_, _], _ => rfl
  have bp21 := Fp21.binds (ps := ["thing", "many", "below"]) fun _ _ _ _ _ _ us hl => match us, hl with | [_, _, _], _ => rfl
  have bp22 := Fp22.binds (ps := ["thing", "below"]) fun _ _ _ _ _ _ us hl => match us, hl with | [_, _], _ => rfl
  have bp23 := Fp23.binds (ps := ["lock"]) fun _ _ _ _ _ _ us hl => match us, hl with | [_], _ => rfl
  have bp24 := Fp24.binds (ps := ["lock"]) fun _ _ _ _ _ _ us hl => match us, hl with | [_], _ => rfl
  have b5 := F5.binds (ps := ["thing", "manys"]) fun _ _ _ _ _ _ us hl => match us, hl with | [_, _], _ => rfl
  have b22 := F22.binds (ps := ["lock", "thing"]) fun _ _ _ _ _ _ us hl => match us, hl with | [_, _], _ => rfl
  have b23 := F23.binds (ps := ["lock", "thing"]) fun _ _ _ _ _ _ us hl => match us, hl with | [_, _], _ => rfl
  have b26 := F26.binds (ps := ["lock"]) fun _ _ _ _ _ _ us hl => match us, hl with | [_], _ => rfl
  have b28 := F28.binds (ps := ["_law_script"]) fun _ _ _ _ _ _ us hl => match us, hl with | [_], _ => rfl
  have b29 := F29.binds (ps := ["_law_pen_here", "_law_many_here"]) fun _ _ _ _ _ _ us hl => match us, hl with | [_, _], _ => rfl
  have b30 := F30.binds (ps := ["_law_pen_here", "_law_some"]) fun _ _ _ _ _ _ us hl => match us, hl with | [_, _], _ => rfl
  have b31 := F31.binds (ps := ["_law_pen_here", "_law_wide", "_law_words"]) fun _ _ _ _ _ _ us hl => match us, hl with | [_, _, _], _ => rfl
  have b32 := F32.binds (ps := ["_law_pen_here", "_law_many_here", "_law_wide", "_law_more"]) fun _ _ _ _ _ _ us hl => match us, hl with | [_, _, _, _], _ => rfl
  have b33 := F33.binds (ps := ["_law_lock_here"]) fun _ _ _ _ _ _ us hl => match us, hl with | [_], _ => rfl
  have b34 := F34.binds (ps := ["_law_pen_here", "_law_lock_here"]) fun _ _ _ _ _ _ us hl => match us, hl with | [_, _], _ => rfl
  have b35 := F35.binds (ps := ["_law_pen_here", "_law_lock_here"]) fun _ _ _ _ _ _ us hl => match us, hl with | [_, _], _ => rfl
  have b36 := F36.binds (ps := ["_law_thing", "_law_least_one", "_law_most_one"]) fun _ _ _ _ _ _ us hl => match us, hl with | [_, _, _], _ => rfl
  have b37 := F37.binds (ps := ["_law_pen_here"]) fun _ _ _ _ _ _ us hl => match us, hl with | [_], _ => rfl
  have b38 := F38.binds (ps := ["_law_pen_here", "_law_thing"]) fun _ _ _ _ _ _ us hl => match us, hl with | [_, _], _ => rfl
  have b39 := F39.binds (ps := ["_law_lock_here", "_law_thing", "_law_is_wish_like"]) fun _ _ _ _ _ _ us hl => match us, hl with | [_, _, _], _ => rfl
  have b40 := F40.binds (ps := ["_law_lock_here"]) fun _ _ _ _ _ _ us hl => match us, hl with | [_], _ => rfl
  have b41 := F41.binds (ps := ["_law_pen_here", "_law_lock_here", "_law_word"]) fun _ _ _ _ _ _ us hl => match us, hl with | [_, _, _], _ => rfl
  have B : Bi mg := ⟨PySem.W.mg_none_of X G z0, PySem.W.mg_none_of X G z1, PySem.W.mg_none_of X G z2, PySem.W.mg_none_of X G z3, PySem.W.mg_none_of X G z4, PySem.W.mg_none_of X G z5, PySem.W.mg_none_of X G z6, PySem.W.mg_none_of X G z7, PySem.W.mg_none_of X G z8, PySem.W.mg_none_of X G z9, PySem.W.mg_none_of X G z10, PySem.W.mg_none_of X G z11, PySem.W.mg_none_of X G z12, PySem.W.mg_none_of X G z13, PySem.W.mg_none_of X G z14⟩
  have N : Nu mg := ⟨⟨_, PySem.W.mg_of X G n0⟩, ⟨_, PySem.W.mg_of X G n1⟩, ⟨_, PySem.W.mg_of X G n2⟩, ⟨_, PySem.W.mg_of X G n3⟩, ⟨_, PySem.W.mg_of X G n4⟩, ⟨_, PySem.W.mg_of X G n5⟩⟩
  have D : Pr K mg := ⟨_, _, Fp1, bp1, PySem.W.mg_of X G ap1, _, _, Fp2, bp2, PySem.W.mg_of X G ap2, _, _, Fp3, bp3, PySem.W.mg_of X G ap3, _, _, Fp4, bp4, PySem.W.mg_of X G ap4, _, _, Fp10, bp10, PySem.W.mg_of X G ap10, _, _, Fp19, bp19, PySem.W.mg_of X G ap19, _, _, Fp20, bp20, PySem.W.mg_of X G ap20, _, _, Fp21, bp21, PySem.W.mg_of X G ap21, _, _, Fp22, bp22, PySem.W.mg_of X G ap22, _, _, Fp23, bp23, PySem.W.mg_of X G ap23, _, _, Fp24, bp24, PySem.W.mg_of X G ap24, B, N⟩
  have L : Ld K mg := ⟨_, _, F5, b5, PySem.W.mg_of X G a5, _, _, F22, b22, PySem.W.mg_of X G a22, _, _, F23, b23, PySem.W.mg_of X G a23, _, _, F26, b26, PySem.W.mg_of X G a26, _, _, F28, b28, PySem.W.mg_of X G a28, _, _, F29, b29, PySem.W.mg_of X G a29, _, _, F30, b30, PySem.W.mg_of X G a30, _, _, F31, b31, PySem.W.mg_of X G a31, _, _, F32, b32, PySem.W.mg_of X G a32, _, _, F33, b33, PySem.W.mg_of X G a33, _, _, F34, b34, PySem.W.mg_of X G a34, _, _, F35, b35, PySem.W.mg_of X G a35, _, _, F36, b36, PySem.W.mg_of X G a36, _, _, F37, b37, PySem.W.mg_of X G a37, _, _, F38, b38, PySem.W.mg_of X G a38, _, _, F39, b39, PySem.W.mg_of X G a39, _, _, F40, b40, PySem.W.mg_of X G a40, _, _, F41, b41, PySem.W.mg_of X G a41, PySem.W.mg_none_of X G z15⟩
  exact ⟨_, fun t u => .of_eq rfl, fun bs _ _ => ok_law F42 D L⟩
end Wb

set_option Elab.async false
set_option linter.all false
set_option maxRecDepth 100000
open PySem PySem.W PyProof.Rows
set_option maxHeartbeats 0 in
theorem PySem.Challenge.cw_waitbolts_k02_stands_and_wishes_holds : PySem.Challenge.rw_waitbolts_k02_stands_and_wishes.Holds := by
  w_on; o_law; k_head; (case hw => w_witness2)
  k_fill
  refine Wb.walk_top (l := PySem.Challenge.rw_waitbolts_k02_stands_and_wishes) (n := 63) (k := 9) (x := "_law_script") (sp := fun w => Wb.spLaw _) rfl (by decide) rfl ⟨rfl, by decide, by decide⟩ rfl (fun w h Y => PySem.W.kIn_of Y) ?F (fun w I a ns hS => ⟨a, ns, rfl, hS, fun _ => rfl⟩)
  case F =>
    intro w mg fa h KX G hmg
    refine' Wb.all_facts KX G hmg ?ap1 ?lp1 ?cp1 ?kp1 ?ap2 ?lp2 ?cp2 ?kp2 ?ap3 ?lp3 ?cp3 ?kp3 ?ap4 ?lp4 ?cp4 ?kp4 ?ap10 ?lp10 ?cp10 ?kp10 ?ap19 ?lp19 ?cp19 ?kp19 ?ap20 ?lp20 ?cp20 ?kp20 ?ap21 ?lp21 ?cp21 ?kp21 ?ap22 ?lp22 ?cp22 ?kp22 ?ap23 ?lp23 ?cp23 ?kp23 ?ap24 ?lp24 ?cp24 ?kp24 ?a5 ?l5 ?c5 ?k5 ?a22 ?l22 ?c22 ?k22 ?a23 ?l23 ?c23 ?k23 ?a26 ?l26 ?c26 ?k26 ?a28 ?l28 ?c28 ?k28 ?a29 ?l29 ?c29 ?k29 ?a30 ?l30 ?c30 ?k30 ?a31 ?l31 ?c31 ?k31 ?a32 ?l32 ?c32 ?k32 ?a33 ?l33 ?c33 ?k33 ?a34 ?l34 ?c34 ?k34 ?a35 ?l35 ?c35 ?k35 ?a36 ?l36 ?c36 ?k36 ?a37 ?l37 ?c37 ?k37 ?a38 ?l38 ?c38 ?k38 ?a39 ?l39 ?c39 ?k39 ?a40 ?l40 ?c40 ?k40 ?a41 ?l41 ?c41 ?k41 ?a42 ?l42 ?c42 ?k42 ?n0 ?n1 ?n2 ?n3 ?n4 ?n5 ?z0 ?z1 ?z2 ?z3 ?z4 ?z5 ?z6 ?z7 ?z8 ?z9 ?z10 ?z11 ?z12 ?z13 ?z14 ?z15
    (case ap1 => k_is)
    (case lp1 => k_is)
    (case cp1 => k_is)
    (case kp1 => k_is)
    (case ap2 => k_is)
    (case lp2 => k_is)
    (case cp2 => k_is)
    (case kp2 => k_is)
    (case ap3 => k_is)
    (case lp3 => k_is)
    (case cp3 => k_is)
    (case kp3 => k_is)
    (case ap4 => k_is)
    (case lp4 => k_is)
    (case cp4 => k_is)
    (case kp4 => k_is)
    (case ap10 => k_is)
    (case lp10 => k_is)
    (case cp10 => k_is)
    (case kp10 => k_is)
    (case ap19 => k_is)
    (case lp19 => k_is)
    (case cp19 => k_is)
    (case kp19 => k_is)
    (case ap20 => k_is)
    (case lp20 => k_is)
    (case cp20 => k_is)
    (case kp20 => k_is)
    (case ap21 => k_is)
    (case lp21 => k_is)
    (case cp21 => k_is)
    (case kp21 => k_is)
    (case ap22 => k_is)
    (case lp22 => k_is)
    (case cp22 => k_is)
    (case kp22 => k_is)
    (case ap23 => k_is)
    (case lp23 => k_is)
    (case cp23 => k_is)
    (case kp23 => k_is)
    (case ap24 => k_is)
    (case lp24 => k_is)
    (case cp24 => k_is)
    (case kp24 => k_is)
    (case a5 => k_is)
    (case l5 => k_is)
    (case c5 => k_is)
    (case k5 => k_is)
    (case a22 => k_is)
    (case l22 => k_is)
    (case c22 => k_is)
    (case k22 => k_is)
    (case a23 => k_is)
    (case l23 => k_is)
    (case c23 => k_is)
    (case k23 => k_is)
    (case a26 => k_is)
    (case l26 => k_is)
    (case c26 => k_is)
    (case k26 => k_is)
    (case a28 => k_is)
    (case l28 => k_is)
    (case c28 => k_is)
    (case k28 => k_is)
    (case a29 => k_is)
    (case l29 => k_is)
    (case c29 => k_is)
    (case k29 => k_is)
    (case a30 => k_is)
    (case l30 => k_is)
    (case c30 => k_is)
    (case k30 => k_is)
    (case a31 => k_is)
    (case l31 => k_is)
    (case c31 => k_is)
    (case k31 => k_is)
    (case a32 => k_is)
    (case l32 => k_is)
    (case c32 => k_is)
    (case k32 => k_is)
    (case a33 => k_is)
    (case l33 => k_is)
    (case c33 => k_is)
    (case k33 => k_is)
    (case a34 => k_is)
    (case l34 => k_is)
    (case c34 => k_is)
    (case k34 => k_is)
    (case a35 => k_is)
    (case l35 => k_is)
    (case c35 => k_is)
    (case k35 => k_is)
    (case a36 => k_is)
    (case l36 => k_is)
    (case c36 => k_is)
    (case k36 => k_is)
    (case a37 => k_is)
    (case l37 => k_is)
    (case c37 => k_is)
    (case k37 => k_is)
    (case a38 => k_is)
    (case l38 => k_is)
    (case c38 => k_is)
    (case k38 => k_is)
    (case a39 => k_is)
    (case l39 => k_is)
    (case c39 => k_is)
    (case k39 => k_is)
    (case a40 => k_is)
    (case l40 => k_is)
    (case c40 => k_is)
    (case k40 => k_is)
    (case a41 => k_is)
    (case l41 => k_is)
    (case c41 => k_is)
    (case k41 => k_is)
    (case a42 => k_is)
    (case l42 => k_is)
    (case c42 => k_is)
    (case k42 => k_is)
    (case n0 => k_is)
    (case n1 => k_is)
    (case n2 => k_is)
    (case n3 => k_is)
    (case n4 => k_is)
    (case n5 => k_is)
    (case z0 => k_is)
    (case z1 => k_is)
    (case z2 => k_is)
    (case z3 => k_is)
    (case z4 => k_is)
    (case z5 => k_is)
    (case z6 => k_is)
    (case z7 => k_is)
    (case z8 => k_is)
    (case z9 => k_is)
    (case z10 => k_is)
    (case z11 => k_is)
    (case z12 => k_is)
    (case z13 => k_is)
    (case z14 => k_is)
    (case z15 => k_is)

