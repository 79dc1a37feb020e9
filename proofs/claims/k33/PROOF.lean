import PyProof.Rows.All
import Wide.All
import OpenK.AllK
import Wide.FinOn
import PySem.Challenge.RW_rowsback_k33_tapes_there_and_back
import HandS.ForMost
import HandS.IsInst
import HandS.TupAny
import HandS.TupMul
import HandS.Wide
import PyProof.ReprRoads
import HandS.Style
import PyProof.ReprLen
import PyProof.StrLawsRepr
import KE.GoesEnum
import HandS.Iter
import HandS.More
import HandS.Conv
import HandS.WideBits
import HandS.WordsExc
import HandS.TryOnly
import HandS.ExcIs
set_option Elab.async false
set_option linter.all false
set_option maxRecDepth 100000
namespace Jg
open PySem PySem.Spec PyProof.Rows L2
def topS (i : Nat) : Stmt := PySem.Challenge.pw_rowsback_k33_tapes_there_and_back.main.body.getD i (.Pass ⟨0, 0, 0, 0⟩)
end Jg
namespace Jg
open PySem PySem.Spec PyProof.Rows L2
mutual
/-- a value as data: lists (none of them D or B), tuples, empty dicts -/
inductive Dq (D B : Addr) (H : Hp) : V → PyData → Prop
  | non : Dq D B H .non .none
  | bl (b : Bool) : Dq D B H (.bl b) (.bool b)
  | int (i : Int) : Dq D B H (.int i) (.int i)
  | str (x : Str) : Dq D B H (.str x) (.str x)
  | lst {a : Addr} {xs : List V} {ds : List PyData} : a ≠ D → a ≠ B → H a = some (.lst xs) → DqAll D B H xs ds → Dq D B H (.ref a) (.list ds)
  | tup {a : Addr} {xs : List V} {ds : List PyData} : H a = some (.tup xs) → DqAll D B H xs ds → Dq D B H (.ref a) (.tuple ds)
  | dct {a : Addr} : H a = some (.dK []) → Dq D B H (.ref a) (.dict [])
inductive DqAll (D B : Addr) (H : Hp) : List V → List PyData → Prop
  | nil : DqAll D B H [] []
  | cons {v : V} {vs : List V} {d : PyData} {ds : List PyData} : Dq D B H v d → DqAll D B H vs ds → DqAll D B H (v :: vs) (d :: ds)
end
theorem DqAll.len {D B : Addr} {H : Hp} : ∀ {vs : List V} {ds : List PyData}, DqAll D B H vs ds → vs.length = ds.length
  | _, _, .nil => rfl
  | _, _, .cons _ h => congrArg Nat.succ h.len
/-- what lies stays, where all that is neither D nor B stays -/
def Fr (D B : Addr) (H H' : Hp) : Prop := ∀ b o, b ≠ D → b ≠ B → H b = some o → H' b = some o
mutual
theorem Dq.keep {D B : Addr} {H H' : Hp} (hD : ∃ xs, H D = some (.lst xs)) (hB : ∃ xs, H B = some (.lst xs)) (f : Fr D B H H') : ∀ (d : PyData) (v : V), Dq D B H v d → Dq D B H' v d
  | .none, _, h => by
    cases h
    exact .non
  | .bool _, _, h => by
    cases h
    exact .bl _
  | .int _, _, h => by
    cases h
    exact .int _
  | .str _, _, h => by
    cases h
    exact .str _
  | .list ds, _, h => by
    cases h with
    | lst h1 h2 h3 h4 => exact .lst h1 h2 (f _ _ h1 h2 h3) (DqAll.keep hD hB f ds _ h4)
  | .tuple ds, _, h => by
    obtain ⟨xD, eD⟩ := hD
    obtain ⟨xB, eB⟩ := hB
    cases h with
    | tup h3 h4 =>
      refine .tup (f _ _ (fun z => ?_) (fun z => ?_) h3) (DqAll.keep ⟨xD, eD⟩ ⟨xB, eB⟩ f ds _ h4)
      · rw [z, eD] at h3
        cases h3
      · rw [z, eB] at h3
        cases h3
  | .dict ds, _, h => by
    obtain ⟨xD, eD⟩ := hD
    obtain ⟨xB, eB⟩ := hB
    cases h with
    | dct h3 =>
      refine .dct (f _ _ (fun z => ?_) (fun z => ?_) h3)
      · rw [z, eD] at h3
        cases h3
      · rw [z, eB] at h3
        cases h3
theorem DqAll.keep {D B : Addr} {H H' : Hp} (hD : ∃ xs, H D = some (.lst xs)) (hB : ∃ xs, H B = some (.lst xs)) (f : Fr D B H H') : ∀ (ds : List PyData) (vs : List V), DqAll D B H vs ds → DqAll D B H' vs ds
  | [], _, h => by
    cases h
    exact .nil
  | d :: ds, _, h => by
    cases h with
    | cons h1 h2 => exact .cons (Dq.keep hD hB f d _ h1) (DqAll.keep hD hB f ds _ h2)
end
section
variable {X : Cx} {pins : List (Addr × Obj)} {σ : L2.St} {H : Hp} {s : Shared} {D B : Addr}
mutual
theorem Dq.rep (I : Inv X pins σ H s) : ∀ (d : PyData) (v : V) (u : Value), Dq D B H v d → RelV v u → d.showable = true → d.shown.length ≤ sizeLine →
    ∃ bs as, ReadAtMost s.heap d.depth bs ∧ Reads s.heap u d as ∧ ReprK X.prog X.w bs s.heap d.depth u d.shown
  | .none, _, _, h, r, _, _ => by
    cases h
    cases r
    exact ⟨[], [], (fun _ h => nomatch h), .none, by simp only [PyData.shown]; exact .of_is ReprIs.none _ _ _⟩
  | .bool b, _, _, h, r, _, _ => by
    cases h
    cases r
    exact ⟨[], [], (fun _ h => nomatch h), .bool b, by simp only [PyData.shown]; exact .of_is (ReprIs.bool b) _ _ _⟩
  | .int i, _, _, h, r, hs, _ => by
    cases h
    obtain ⟨t, rfl⟩ := r
    exact ⟨[], [], (fun _ h => nomatch h), .int i t, by simp only [PyData.shown]; exact .of_is (ReprIs.int t (by simpa [PyData.showable] using hs)) _ _ _⟩
  | .str x, _, _, h, r, _, hz => by
    cases h
    obtain ⟨t, rfl⟩ := r
    exact ⟨[], [], (fun _ h => nomatch h), .str x t, by simp only [PyData.shown]; exact .of_is (ReprIs.str x t (by simpa only [PyData.shown] using hz)) _ _ _⟩
  | .list ds, _, _, h, r, hs, hz => by
    cases h with
    | lst _ _ e ha =>
      cases r
      have hz2 : (listText (PyData.shownAll ds)).length ≤ sizeLine := by simpa only [PyData.shown] using hz
      obtain ⟨_, its, n, rv, ho⟩ := I.hok _ _ e
      obtain ⟨bs, as, hb, hr, hk⟩ := DqAll.rep I ds _ its ha rv (by simpa [PyData.showable] using hs) (fun t ht => Nat.le_trans (listText_mem_le ht) hz2)
      have hr2 : ReadsAll s.heap its.toArray.toList ds as := hr
      have rd := Reads.list ho rfl rfl hr2
      have hna := not_mem_of_deeper (n := PyData.depthAll ds) rd (by simp only [PyData.depth]; omega) hb
      refine ⟨_ :: bs, _, ReadAtMost.cons rd (by simp only [PyData.depth]; omega) hb, rd, ?_⟩
      simp only [PyData.depth, PyData.shown]
      cases its with
      | nil =>
        cases hr
        simp only [PyData.shownAll, listText_nil]
        exact ReprK.listEmpty ho rfl rfl
      | cons x l => exact ReprK.list ho rfl rfl hna (by simpa using hk.length_eq) (fun i y e => hk.item i y (by simpa using e))
  | .tuple ds, _, _, h, r, hs, hz => by
    cases h with
    | tup e ha =>
      cases r
      have hz2 : (tupleText (PyData.shownAll ds)).length ≤ sizeLine := by simpa only [PyData.shown] using hz
      obtain ⟨_, its, rv, o, ho, hc, n, hd⟩ := I.hok _ _ e
      obtain ⟨bs, as, hb, hr, hk⟩ := DqAll.rep I ds _ its ha rv (by simpa [PyData.showable] using hs) (fun t ht => Nat.le_trans (tupleText_mem_le ht) hz2)
      have hr2 : ReadsAll s.heap its.toArray.toList ds as := hr
      have rd := Reads.tuple ho hc hd hr2
      have hna := not_mem_of_deeper (n := PyData.depthAll ds) rd (by simp only [PyData.depth]; omega) hb
      refine ⟨_ :: bs, _, ReadAtMost.cons rd (by simp only [PyData.depth]; omega) hb, rd, ?_⟩
      simp only [PyData.depth, PyData.shown]
      exact ReprK.tuple ho hc hd hna hk
  | .dict kvs, _, _, h, r, hs, hz => by
    cases h with
    | dct e =>
      cases r
      obtain ⟨_, hsys, vs, hv, o, es, ep, ho, hx, hd, hes⟩ := I.hok _ _ e
      have hv0 : vs = [] := by
        cases hv
        rfl
      subst hv0
      have he : es = #[] := by
        have h2 := hes.2.1
        cases hq : es.toList with
        | nil => simpa using hq
        | cons e r =>
          rw [hq] at h2
          cases h2
      subst he
      have rd := Reads.dict (kvs := []) ho hx.1 hd ReadsAll.nil ReadsAll.nil
      refine ⟨_ :: [], _, ReadAtMost.cons (n := 0) rd (Nat.zero_le _) (fun _ h => nomatch h), rd, ?_⟩
      simp only [PyData.depth, PyData.depthKv, PyData.shown, PyData.shownKv]
      exact ReprK.dict ho hx.1 hd hsys (fun z => nomatch z) .nil
theorem DqAll.rep (I : Inv X pins σ H s) : ∀ (ds : List PyData) (vs : List V) (us : List Value), DqAll D B H vs ds → Vals vs us → PyData.showableAll ds = true → (∀ t ∈ PyData.shownAll ds, t.length ≤ sizeLine) →
    ∃ bs as, ReadAtMost s.heap (PyData.depthAll ds) bs ∧ ReadsAll s.heap us ds as ∧ ReprAllK X.prog X.w bs s.heap (PyData.depthAll ds) us (PyData.shownAll ds)
  | [], _, _, h, r, _, _ => by
    cases h
    cases r
    exact ⟨[], [], (fun _ h => nomatch h), .nil, by simp only [PyData.shownAll]; exact .nil⟩
  | d :: ds, _, _, h, r, hs, hz => by
    have hs2 : d.showable = true ∧ PyData.showableAll ds = true := by simpa [PyData.showableAll] using hs
    cases h with
    | cons h1 h2 =>
      cases r with
      | cons r1 r2 =>
        obtain ⟨b1, a1, hb1, q1, k1⟩ := Dq.rep I d _ _ h1 r1 hs2.1 (hz _ (by simp [PyData.shownAll]))
        obtain ⟨b2, a2, hb2, q2, k2⟩ := DqAll.rep I ds _ _ h2 r2 hs2.2 (fun t ht => hz t (by simp [PyData.shownAll, ht]))
        refine ⟨b1 ++ b2, a1 ++ a2, ?_, .cons q1 q2, ?_⟩
        · simp only [PyData.depthAll]
          exact (hb1.mono (Nat.le_max_left _ _)).append (hb2.mono (Nat.le_max_right _ _))
        · simp only [PyData.depthAll, PyData.shownAll]
          exact .cons ((k1.more fun b hb => List.mem_append_left _ hb).level_le (Nat.le_max_left _ _)) (k2.more_le (fun b hb => List.mem_append_right _ hb) (Nat.le_max_right _ _))
end
/-- repr(x), x data: what is shown of it -/
def rRepr : List V → Hp → VK → Prop := fun xs H Q => ∃ (D B : Addr) (v : V) (d : PyData), xs = [v] ∧ Dq D B H v d ∧ d.showable = true ∧ d.shown.length ≤ sizeLine ∧ d.depth ≤ 60 ∧ Q (.str d.shown) H
theorem call_reprD {X : Cx} (hg : X.A.guards = some []) (hu : X.A.units + 64 < cLine) : CallR X (.builtin "repr") rRepr := by
  intro pins s σ H xs us Q I r h
  obtain ⟨D, B, v, d, rfl, hd, hs, hz, hdp, q⟩ := h
  obtain ⟨u, rfl, ru⟩ := vals1 r
  have fin : ∀ (x : Str), x = d.shown → ∀ (h' : Heap) (t : Tok) (tk : Nat), (∀ b o, s.heap.get? b = some o → h'.get? b = some o) → EP X pins σ Q (.str x t) { s with heap := h', toks := tk } := fun x e h' t tk k => by
    subst e
    exact ⟨.str d.shown, H, I.kept (t' := tk) k, ⟨_, rfl⟩, q⟩
  cases hd with
  | non =>
    cases ru
    exact PySem.P.repr_of_none (fin _ (by simp only [PyData.shown]) _ _ _ fun _ _ z => z)
  | bl b =>
    cases ru
    exact PySem.P.repr_of_bool (fin _ (by simp only [PyData.shown]) _ _ _ fun _ _ z => z)
  | int i =>
    obtain ⟨t, rfl⟩ := ru
    exact PySem.P.repr_of_int (by simpa [PyData.showable] using hs) (fin _ (by simp only [PyData.shown]) _ _ _ fun _ _ z => z)
  | str x =>
    obtain ⟨t, rfl⟩ := ru
    exact PySem.P.repr_of_str (fin _ (by simp only [PyData.shown]) _ _ _ fun _ _ z => z) (by simpa only [PyData.shown] using hz)
  | @lst a xs ds _ _ e ha =>
    cases ru
    simp only [PyData.depth] at hdp
    have hz2 : (listText (PyData.shownAll ds)).length ≤ sizeLine := by simpa only [PyData.shown] using hz
    obtain ⟨_, its, n, rv, ho⟩ := I.hok _ _ e
    obtain ⟨bs, as, hb, hr, hk⟩ := DqAll.rep I ds _ its ha rv (by simpa [PyData.showable] using hs) (fun t ht => Nat.le_trans (listText_mem_le ht) hz2)
    have hr2 : ReadsAll s.heap its.toArray.toList ds as := hr
    have hna := not_mem_of_deeper (n := PyData.depthAll ds) (Reads.list ho rfl rfl hr2) (by simp only [PyData.depth]; omega) hb
    refine call_repr_slot (by omega) ⟨_, ho, rfl⟩ F.slot_list_repr.toG ?_
    cases its with
    | nil =>
      cases hr
      exact call_list_repr_empty ⟨_, ho, rfl⟩ ho rfl ⟨_, _, rfl, fin _ (by simp only [PyData.shown, PyData.shownAll, listText_nil]) _ _ _ fun _ _ z => z⟩
    | cons x l =>
      exact call_list_reprK ho rfl rfl hna (by simpa using hk.length_eq) (fun i y e => hk.item i y (by simpa using e)) hg (fun b _ => Clear.nil b) (by show X.A.units + 1 + _ < _; omega) (fun _ _ z => z)
        (fun h' t tk k => ⟨_, _, rfl, fin _ (by simp only [PyData.shown]) _ _ _ k⟩) hz2
  | @tup a xs ds e ha =>
    cases ru
    simp only [PyData.depth] at hdp
    have hz2 : (tupleText (PyData.shownAll ds)).length ≤ sizeLine := by simpa only [PyData.shown] using hz
    obtain ⟨_, its, rv, o, ho, hc, n, hd⟩ := I.hok _ _ e
    obtain ⟨bs, as, hb, hr, hk⟩ := DqAll.rep I ds _ its ha rv (by simpa [PyData.showable] using hs) (fun t ht => Nat.le_trans (tupleText_mem_le ht) hz2)
    have hr2 : ReadsAll s.heap its.toArray.toList ds as := hr
    have hna := not_mem_of_deeper (n := PyData.depthAll ds) (Reads.tuple ho hc hd hr2) (by simp only [PyData.depth]; omega) hb
    refine call_repr_slot (by omega) ⟨_, ho, hc⟩ F.slot_tuple_repr ?_
    exact call_tuple_reprK ho hc hd hna hk hg (fun b _ => Clear.nil b) (by show X.A.units + 1 + _ < _; omega) (fun _ _ z => z)
      (fun h' t tk k => ⟨_, _, rfl, fin _ (by simp only [PyData.shown]) _ _ _ k⟩) hz2
  | dct e =>
    cases ru
    have ho0 := Dq.rep (D := D) (B := B) I _ _ _ (.dct e) rfl hs hz
    obtain ⟨_, hsys, vs, hv, o, es, ep, ho, hx, hd, hes⟩ := I.hok _ _ e
    have he : es = #[] := by
      have h2 := hes.2.1
      cases hv
      cases hq : es.toList with
      | nil => simpa using hq
      | cons e r =>
        rw [hq] at h2
        cases h2
    subst he
    refine call_repr_slot (by omega) ⟨_, ho, hx.1⟩ F.slot_dict_repr ?_
    exact call_dict_reprK (d := 0) (as := []) ho hx.1 hd hsys (fun z => nomatch z) .nil hg (fun b _ => Clear.nil b) (by show X.A.units + 1 + _ < _; omega) (fun _ _ z => z)
      (fun h' t tk k => ⟨_, _, rfl, fin _ (by simp only [PyData.shown, PyData.shownKv]) _ _ _ k⟩) (by simpa only [PyData.shown, PyData.shownKv] using hz)
end
end Jg
namespace Jg
open PySem PySem.Spec PyProof.Rows L2
/-- a def's promise where no repr is under way around its call -/
def RunG (P : Program) (w : World) (K : PySem.W.Frag) (mg : Str → Option Value) (base : Heap) (k : Nat) (f : Addr) (fd : FuncData) (ps : List Str) (sp : Sp) : Prop :=
  ∀ (Ar : Around) (out : List Env) (s0 : Shared) (H : Hp) (ar : Args) (us : List Value) (vs : List V) (Q : VK) (E : XK), Ar.guards = some [] → Room k Ar → Env0 P w K mg base Ar out s0 H → BindsTo s0 fd ar (ps.zip us) → Vals vs us → sp vs H Q E →
    codeAny (model P w) Ar (.call (.ref f) ar) (CR CX0 out P w H s0 Q E) s0
theorem runG_of {P : Program} {w : World} {K : PySem.W.Frag} {mg : Str → Option Value} {base : Heap} {k : Nat} {x qual : Str} {st : Stmt} {f : Addr} {fd : FuncData} {N ps : List Str} {sp : Sp} (F : Fun K x qual st f fd) (S : FnScope N ps (defScope st)) (len : ∀ vs H Q E, sp vs H Q E → vs.length = ps.length)
    (hb : ∀ (cdv : Value) (Ar : Around) (out : List Env) (s0 : Shared) (H : Hp) (vs : List V) (Q : VK) (E : XK), (Ar.deeper (envOfC qual (defScope st) s0.heap.objs.size f cdv)).guards = some [] → Room k (Ar.deeper (envOfC qual (defScope st) s0.heap.objs.size f cdv)) → sp vs H Q E →
      ∃ t, PSs (cxOf CX0 P w K mg base N qual (defScope st) f cdv Ar out s0 H E).nox (defBody st) t ∧ t { nx := fun _ H1 => Q .non H1, rt := Q } (start N vs) H) : RunG P w K mg base (k + 1) f fd ps sp := by
  obtain ⟨oc, od, kV, doc, pm, an, cdv, ct, osl, rfl, lk, hcd⟩ := F.ex
  intro Ar out s0 H ar us vs Q E hg hr e0 bd rv hsp
  have KX : K.In s0.heap := e0.mod.kin.keeps fun b o z => (e0.bs b o z).1
  have NL : s0.heap.NoLimit := e0.mod.nolimit.keeps fun b o z => (e0.bs b o z).1
  have kinds : ∀ y ∈ ps.zip us, (defScope st).names.lookup y.1 = some .local ∨ ((defScope st).names.lookup y.1 = some .cell ∧ ((cellsFrom (s0.heap.objs.size + 1) (defScope st).names []).lookup y.1).isSome = true) := by
    rintro ⟨n, v⟩ hy
    cases S.par n (List.of_mem_zip hy).1 with
    | inl q => exact .inl q
    | inr q => exact .inr ⟨q, PySem.W.cellsFrom_some _ _ _ (.inl q)⟩
  refine codeAny_call_function hr.depth (KX _ _ lk) rfl S.co S.gen rfl (PySem.W.codeRec_of KX hcd) (bd _ _ _ _ (wpAny_newFunctionEnv_cells S.kind kinds fun env he s1 ic => ?_))
  subst he
  refine ⟨NL.keeps ic.toInCall.keep, codeAny_func ?_⟩
  obtain ⟨t, ht, hq⟩ := hb cdv Ar out s0 H vs Q E hg (hr.deeper _) hsp
  have I0 : Inv (cxOf CX0 P w K mg base N qual (defScope st) f cdv Ar out s0 H E) [] (start N vs) H s1 := inv_start S hr.hd e0 (len _ _ _ _ hsp) rv ic
  refine wpAny_mono (ht.nox.run [] s1 (start N vs) H _ I0 hq) (fun fl s2 hs => ?_) fun e s2 hs => hs
  cases fl with
  | ret u =>
    obtain ⟨v, σ2, H2, J, ru, q⟩ := hs
    exact ⟨v, H2, J.os, J.bare, J.base, J.hok, ru, q⟩
  | next =>
    obtain ⟨σ2, H2, J, q⟩ := hs
    exact ⟨V.non, H2, J.os, J.bare, J.base, J.hok, rfl, q⟩
  | brk =>
    obtain ⟨_, _, _, q⟩ := hs
    exact False.elim q
  | cont =>
    obtain ⟨_, _, _, q⟩ := hs
    exact False.elim q
end Jg
namespace Jg
open PySem PySem.Spec PyProof.Rows L2
/-- the heap in which at most the script at a is told: a list of ns -/
def onlyAt (a : Addr) (o : Obj) (ns : List Int) : Hp := fun b => if b = a then some (.frz o (.lst (ns.map V.int))) else none
theorem law_runG {P : Program} {w : World} {K : PySem.W.Frag} {mg mb : Str → Option Value} {k : Nat} {fa a : Addr} {fd : FuncData} {x : Str} {sp : Sp} {s1 : Shared} {vs : List Value} {ns : List Int}
    (KX : K.In s1.heap) (hns : s1.heap.Ns mainGlobals mg) (hb : s1.heap.Ns builtinsNs mb) (hbb : ∀ x : Str, x ≠ "__name__" → mb x = bootBuiltins x) (hlim : s1.heap.NoLimit) (hg : s1.gens = #[])
    (ha : s1.heap.get? a = some { cls := .type "list", data := .seq vs.toArray }) (hi : IntsAre vs ns) (hl : ns.length ≤ sizeLine) (hr : Room k callerA)
    (F : ∀ base : Heap, K.In base → base.Ns mainGlobals mg → RunG P w K mg base k fa fd [x] sp) (hbind : ∀ (s : Shared) (u : Value), BindsTo s fd ⟨[u], []⟩ [(x, u)])
    (hsp : ∀ H : Hp, Only H → SqL K H a (ns.map V.int) → sp [.ref a] H (fun v _ => v = .bl true) fun _ _ _ => False) :
    codeAny (model P w) callerA (.call (.ref fa) ⟨[.ref a], []⟩) (fun r s' => r = .ok (.ret (.bool true)) ∧ OldK s1.heap s'.heap ∧ s'.os = s1.os ∧ AllBare s'.gens) s1 := by
  have rv := vals_ints hi
  have nV := hi.length
  have main : ∀ H : Hp, Only H → SqL K H a (ns.map V.int) → HOk P w H s1.heap → (∀ b, H b ≠ none → b = a) → (H a ≠ none → K.lookup a = none) →
      codeAny (model P w) callerA (.call (.ref fa) ⟨[.ref a], []⟩) (fun r s' => r = .ok (.ret (.bool true)) ∧ OldK s1.heap s'.heap ∧ s'.os = s1.os ∧ AllBare s'.gens) s1 := by
    intro H hO hS hok hA hK
    have here : ∀ {b : Addr} {o : Obj}, s1.heap.get? b = some o → H b = none → (hidT s1.heap H).get? b = some o := fun e n => hidT_get e n
    have free_of : ∀ {b : Addr}, (b = a → False) → H b = none := fun {b} nb => by
      cases q : H b with
      | none => rfl
      | some u => exact (nb (hA b (by rw [q]; simp))).elim
    have nsK : ∀ {b : Addr} {m : Str → Option Value}, s1.heap.Ns b m → (hidT s1.heap H).Ns b m := by
      rintro b m ⟨o, es, ep, e, d, r⟩
      refine ⟨o, es, ep, here e (free_of fun z => ?_), d, r⟩
      subst z
      rw [ha] at e
      cases e
      cases d
    have hKb : K.In (hidT s1.heap H) := by
      intro b o e
      refine here (KX b o e) ?_
      cases q : H b with
      | none => rfl
      | some u =>
        have z := hA b (by rw [q]; simp)
        subst z
        rw [hK (by rw [q]; simp)] at e
        cases e
    obtain ⟨mc, l1, l2⟩ := hlim
    have e0 : Env0 P w K mg (hidT s1.heap H) callerA [] s1 H :=
      ⟨rfl, ⟨hKb, nsK hns, ⟨mb, nsK hb, hbb⟩, ⟨mc, nsK l1, l2⟩⟩, fun b o e => of_hidT e, Nat.le_of_eq (hidT_size _ _), trivial, fun b hb => absurd (show b ∈ ([] : List Addr) from hb) (by simp), hok, .of_eq hg⟩
    refine codeAny_mono (F _ hKb (nsK hns) callerA [] s1 H ⟨[.ref a], []⟩ [.ref a] [.ref a] _ _ rfl hr e0 (hbind s1 (.ref a)) (.cons rfl .nil) (hsp H hO hS)) fun r s2 h => ?_
    cases r with
    | error e => exact False.elim h
    | ok fl =>
      cases fl with
      | next => exact False.elim h
      | brk => exact False.elim h
      | cont => exact False.elim h
      | ret u =>
        obtain ⟨v, H2, os, bare, un, hok2, ru, q⟩ := h
        have qv : v = .bl true := q
        subst qv
        have ru2 : u = Value.bool true := ru
        subst ru2
        refine ⟨rfl, OldK.of_keep fun b o e => ?_, os, bare⟩
        cases q : H b with
        | none => exact un.keep b o e q (fun z => absurd (show b ∈ ([] : List Addr) from z) (by simp)) (by simp)
        | some u =>
          cases hO b with
          | inl z =>
            rw [q] at z
            cases z
          | inr z =>
            obtain ⟨ob, xs, z⟩ := z
            obtain ⟨e1, _⟩ := hok b _ z
            obtain ⟨e2, _⟩ := hok2 b _ (un.frzs b ob _ z)
            rw [e] at e1
            cases e1
            exact e2
  cases hk : K.lookup a with
  | some o =>
    have e := KX a o hk
    rw [ha] at e
    cases e
    exact main (fun _ => none) (fun _ => .inl rfl) (.inr ⟨_, vs.toArray, _, hk, rfl, rfl, rfl, by rw [List.size_toArray, nV]; exact hl, by simpa using rv⟩) (fun b u z => absurd (show (none : Option HO) = some u from z) (by simp)) (fun b z => absurd rfl z) fun z => absurd rfl z
  | none =>
    refine main (onlyAt a { cls := .type "list", data := .seq vs.toArray } ns) (fun b => ?_) (.inl (.inr ⟨_, if_pos rfl⟩)) (fun b u z => ?_) (fun b z => ?_) fun _ => hk
    · by_cases hb : b = a
      · exact .inr ⟨_, _, if_pos hb⟩
      · exact .inl (if_neg hb)
    · by_cases hb : b = a
      · have z2 := (show some _ = some u from (if_pos hb).symm.trans z)
        cases z2
        subst hb
        exact ⟨ha, by rw [List.length_map]; exact hl, vs, _, rv, ha⟩
      · exact absurd ((if_neg hb).symm.trans z) (by simp)
    · by_cases hb : b = a
      · exact hb
      · exact absurd (if_neg hb) z
theorem walk_ofG {l : PySem.W.OpenLaw} {n k : Nat} {q : Program} {loose : List Str} {XP : (Str → Option Value) → Heap → Prop} {YP : World → Heap → Prop} {d : DefRec} {K : Params → PySem.W.Frag} {sp : World → Sp} {x : Str}
    (hn : l.most = some n) (hn2 : n ≤ sizeLine) (hdf : d.params.defaults = []) (hr : Room k callerA) (hY : ∀ (w : World) (h : Heap), YP w h → (K w.params).In h)
    (F : ∀ (w : World) (mg : Str → Option Value) (fa : Addr) (h : Heap), (K w.params).In h → h.Ns mainGlobals mg → mg d.name = some (.ref fa) →
      ∃ fd : FuncData, (∀ (s : Shared) (u : Value), BindsTo s fd ⟨[u], []⟩ [(x, u)]) ∧ ∀ base : Heap, (K w.params).In base → base.Ns mainGlobals mg → RunG l.prog w (K w.params) mg base k fa fd [x] (sp w))
    (hsp : ∀ (w : World) (H : Hp) (a : Addr) (ns : List Int), ns.length ≤ n → Only H → SqL (K w.params) H a (ns.map V.int) → sp w [.ref a] H (fun v _ => v = .bl true) fun _ _ _ => False) :
    PySem.W.WalkO q loose XP YP l.row.toRowW d [] (fun f vs => PySem.call f vs) := by
  refine Att.attach_call hn hdf fun w s0 s1 mg mb fa o pm cd doc a vs ns G Y ho hd hcd hmg hobj hints hlen hg => ?_
  obtain ⟨fd, hb, hF⟩ := F w mg fa _ (hY w _ Y) G.T.g hmg
  exact law_runG (hY w _ Y) G.T.g G.T.b G.T.builtins G.T.nolimit hg hobj hints (Nat.le_trans hlen hn2) hr hF hb fun H hO hS => hsp w H a ns hlen hO hS
end Jg
namespace Jg
open PySem PySem.Spec PyProof.Rows L2
/-! ### t[::-1], t a tuple -/
theorem adjust_back (n : Nat) : Builtin.Slice.sliceAdjust none none (-1) (n : Int) = ((n : Int) - 1, -1) := by
  unfold Builtin.Slice.sliceAdjust
  simp
theorem places_back (n : Nat) : Builtin.Slice.slicePlaces ((n : Int) - 1) (-1) (-1) = n := by
  unfold Builtin.Slice.slicePlaces
  have h1 : ¬ ((-1 : Int) > 0) := by decide
  simp only [h1, if_false]
  split
  · rw [show (- -1 : Int) = 1 by decide, Int.ediv_one]
    omega
  · omega
theorem fm_congr {α β : Type} {f g : α → Option β} : ∀ l : List α, (∀ m ∈ l, f m = g m) → l.filterMap f = l.filterMap g
  | [], _ => rfl
  | a :: l, h => by
    have e := fm_congr l fun m hm => h m (List.mem_cons_of_mem _ hm)
    simp only [List.filterMap_cons, h a List.mem_cons_self, e]
theorem pick_back {α : Type} (xs : Array α) : ((List.range xs.size).filterMap fun (m : Nat) => xs[(((xs.size : Nat) : Int) - 1 + (m : Int) * (-1)).toNat]?).toArray = xs.toList.reverse.toArray := by
  have e : (List.range xs.size).filterMap (fun (m : Nat) => xs[(((xs.size : Nat) : Int) - 1 + (m : Int) * (-1)).toNat]?) = ((List.range xs.size).map fun k => xs.size - 1 - k).filterMap (xs[·]?) := by
    rw [List.filterMap_map]
    refine fm_congr _ fun m hm => ?_
    have hl := List.mem_range.mp hm
    show xs[(((xs.size : Nat) : Int) - 1 + (m : Int) * (-1)).toNat]? = xs[xs.size - 1 - m]?
    rw [show (((xs.size : Nat) : Int) - 1 + (m : Int) * (-1)).toNat = xs.size - 1 - m by omega]
  rw [e, PySem.W.krv_range, List.filterMap_reverse, PySem.W.krv_all]
section
variable {prog : Program} {w : World} {A : Around} {E : Value → Shared → Prop} {s : Shared}
theorem applied_back {sl : Addr} {va vb vc : Value} {n : Nat} {Q : Int × Int × Nat → Shared → Prop} (hs : s.heap.IsSliceOf sl va vb vc) (pa : IsPart va none) (pb : IsPart vb none) (pc : IsPart vc (some (-1)))
    (h : Q ((n : Int) - 1, -1, n) s) : wpAny (model prog w) A (Builtin.Slice.sliceApplied (.ref sl) (pure (n : Int))) Q E s := by
  obtain ⟨os, hos, hcs, hds⟩ := id hs
  unfold Builtin.Slice.sliceApplied Builtin.Slice.sliceFields
  refine wpAny_bind (wpAny_bind (wpAny_field hos hds (x := va) rfl (wpAny_bind (wpAny_field hos hds (x := vb) rfl (wpAny_bind (wpAny_field hos hds (x := vc) rfl (wpAny_pure ?_)))))))
  refine wpAny_bind (HT.slicePart_ pc ?_)
  show wpAny _ _ (if ((-1 : Int) == 0) = true then _ else _) _ _ s
  rw [if_neg (by decide)]
  refine wpAny_bind (HT.slicePart_ pa (wpAny_bind (HT.slicePart_ pb (wpAny_bind (wpAny_pure ?_)))))
  show wpAny _ _ (match Builtin.Slice.sliceAdjust none none (-1) (n : Int) with | (lo, hi) => pure (lo, (-1 : Int), Builtin.Slice.slicePlaces lo hi (-1))) _ _ s
  rw [adjust_back n]
  show wpAny _ _ (pure ((n : Int) - 1, (-1 : Int), Builtin.Slice.slicePlaces ((n : Int) - 1) (-1) (-1))) _ _ s
  rw [places_back]
  exact wpAny_pure h
theorem getItem_back {t sl : Addr} {its : Array Value} {va vb vc : Value} {Q : Value → Shared → Prop} (ht : IsTup s.heap t its) (hs : s.heap.IsSliceOf sl va vb vc) (pa : IsPart va none) (pb : IsPart vb none) (pc : IsPart vc (some (-1)))
    (h : Q (.ref s.heap.objs.size) { s with heap := s.heap.push { cls := .type "tuple", data := .seq its.toList.reverse.toArray } }) (hz : its.size ≤ sizeLine) : wpAny (model prog w) A (getItem (.ref t) (.ref sl)) Q E s := by
  have ok : sizeOk (.seq its.toList.reverse.toArray) := by
    show its.toList.reverse.toArray.size ≤ sizeLine
    rw [List.size_toArray, List.length_reverse, Array.length_toList]
    exact hz
  obtain ⟨os, hos, hcs, hds⟩ := id hs
  have hTs : s.TypeIs (.ref sl) "slice" := ⟨os, hos, hcs⟩
  unfold getItem
  first | (with_reducible refine wpAny_holding ?_) | skip
  first | refine wpAny_bind (wpAny_pure ?_) | skip
  refine wpAny_bind (wpAny_sequenceKey ht.typeIs (by decide) (wpAny_bind (wpAny_callSpecial?_slot (name := Str.ofString "__getitem__") ht.typeIs PyProof.Rows.slot_tuple_getitem (wpAny_call_entry PyProof.Rows.slot_tuple_getitem ht.typeIs entry_tuple_getitem ?_ (args_tuple_getitem _ _)))))
  show wpAny _ _ (Builtin.Tuple.tupleItemsOf (.ref t) >>= _) _ _ s
  refine wpAny_bind (tupleItemsOf_ ht (wpAny_bind (wpAny_typeOf hTs ?_)))
  rw [if_pos (by decide)]
  refine wpAny_bind (applied_back hs pa pb pc ?_)
  have no : ¬ ((((its.size : Nat) : Int) - 1 == 0 && (-1 : Int) == 1 && its.size == its.size) = true) := by
    intro q
    rw [Bool.and_eq_true, Bool.and_eq_true] at q
    exact absurd q.1.2 (by decide)
  show wpAny _ _ (if (((its.size : Nat) : Int) - 1 == 0 && (-1 : Int) == 1 && its.size == its.size) = true then _ else _) _ _ s
  rw [if_neg no, pick_back]
  first
    | exact wpAny_bind (m := Builtin.Tuple.tupleExact _) (wpAny_newObj_type (wpAny_pure ⟨_, rfl, wpAny_pure h⟩) ok)
    | exact wpAny_bind (wpAny_bind (m := Builtin.Tuple.tupleExact _) (wpAny_newObj_type (wpAny_pure (wpAny_pure ⟨_, rfl, wpAny_pure h⟩)) ok))
    | exact wpAny_bind (m := Builtin.Tuple.tupleExact _) (wpAny_newObj_type (wpAny_bind (wpAny_pure (wpAny_pure ⟨_, rfl, wpAny_pure h⟩))) ok)
end
section
variable {X : Cx}
def tRevT (K : PySem.W.Frag) (te : TE) : TE := fun σ H Q => te σ H fun x H1 => ∃ a xs, x = .ref a ∧ SqT K H1 a xs ∧ ∀ p, H1 p = none → Q (.ref p) (upd H1 p (.tup xs.reverse))
theorem pe_revT {e : Expr} {te : TE} {k : Nat} {p1 p2 p3 pos : Pos} (he : PE X e te) : PE X (.Subscript e (.Slice none none (some (.UnaryOp .USub (.Constant (.int 1) k p1) p2)) p3) pos) (tRevT X.K te) := by
  refine ⟨fun pins s σ H Q I h => Subscript_ (thn (he.run pins s σ H _ I h) fun v s1 ⟨x, H1, I1, r1, a, xs, ex, hx, q⟩ => ?_)⟩
  subst ex
  cases r1
  have hst : PO X (some (.UnaryOp .USub (.Constant (.int 1) k p1) p2)) (tPart (tUn (rU fun i => .int (-i)) (tC (.int 1)))) := po_some (pe_un un_neg pe_int)
  refine wpAny_Slice (thn (po_none.run pins s1 σ H1 (fun o G => o = none ∧ G = H1) I1 ⟨rfl, rfl⟩) fun va s2 ⟨l, H2, I2, pa, el, e2⟩ => ?_)
  subst el e2
  refine thn (po_none.run pins s2 σ H2 (fun o G => o = none ∧ G = H2) I2 ⟨rfl, rfl⟩) fun vb s3 ⟨u, H3, I3, pb, eu, e3⟩ => ?_
  subst eu e3
  refine thn (hst.run pins s3 σ H3 (fun o G => o = some (-1) ∧ G = H3) I3 ⟨1, rfl, -1, rfl, rfl, rfl⟩) fun vc s4 ⟨o, H4, I4, pc, eo, e4⟩ => ?_
  subst eo e4
  have I5 : Inv X pins σ H4 { s4 with heap := s4.heap.push { cls := .type "slice", data := .fields #[va, vb, vc] } } := I4.kept (t' := s4.toks) fun b ob z => Heap.get?_push_of_some _ z
  obtain ⟨its, r, ht, hz⟩ := I5.tuple hx
  have hl := r.length
  show wpAny (model X.prog X.w) X.A (subscriptTail e (.Slice none none (some (.UnaryOp .USub (.Constant (.int 1) k p1) p2)) p3) (.ref a) (.ref s4.heap.objs.size)) (EP X pins σ Q) X.xe { s4 with heap := s4.heap.push { cls := .type "slice", data := .fields #[va, vb, vc] } }
  refine tail_any (ops := [.ref a, .ref s4.heap.objs.size]) ht.typeIs (PyProof.Rows.slot_tuple_getitem.lookup) ?_ (by with_unfolding_all rfl)
  refine getItem_back ht (Heap.IsSliceOf.new _ va vb vc) pa pb pc ?_ (by rw [List.size_toArray]; omega)
  refine ⟨.ref _, _, I5.laid (t' := s4.toks) (o := .tup xs.reverse) (fun b ob z => Heap.get?_push_of_some _ z) (Nat.le_refl _) ?_, rfl, q _ (I5.hok.fresh (Nat.le_refl _))⟩
  exact ⟨by rw [List.length_reverse]; exact hz, _, r.reverse, IsTup.new _ _⟩
end
end Jg
namespace Jg
open PySem PySem.Spec PyProof.Rows L2
abbrev sDeck : Stmt := topS 13
abbrev sDraw : Stmt := topS 14
abbrev sOne : Stmt := topS 15
abbrev nDeck : List Str := ["_law_script", "_law_cells", "_law_cell"]
abbrev nDraw : List Str := ["_law_deck_here", "_law_many", "_law_rest", "_law_cell", "_law_mixed_here"]
abbrev nOne : List Str := ["_law_deck_here", "_law_items"]
theorem scDeck : FnScope nDeck ["_law_script"] (defScope sDeck) := ⟨rfl, rfl, rfl, by decide +kernel, rfl, by decide +kernel, by decide +kernel⟩
theorem scDraw : FnScope nDraw ["_law_deck_here", "_law_many"] (defScope sDraw) := ⟨rfl, rfl, rfl, by decide +kernel, rfl, by decide +kernel, by decide +kernel⟩
theorem scOne : FnScope nOne ["_law_deck_here", "_law_items"] (defScope sOne) := ⟨rfl, rfl, rfl, by decide +kernel, rfl, by decide +kernel, by decide +kernel⟩
/-! ### data of ints -/
theorem lay_ints : ∀ ns : List Int, PyData.canLayAll0 (ns.map PyData.int) = true
  | [] => by simp [PyData.canLayAll0]
  | n :: ns => by simp [PyData.canLayAll0, PyData.canLay0, lay_ints ns]
theorem dep_ints : ∀ ns : List Int, PyData.depthAll (ns.map PyData.int) ≤ 1
  | [] => by simp [PyData.depthAll]
  | n :: ns => by
    have h := dep_ints ns
    simp only [List.map_cons, PyData.depthAll, PyData.depth]
    omega
theorem shaped_ints (ns : List Int) : SeqAt.shaped (.list (ns.map PyData.int)) = true := by
  have h1 := dep_ints ns
  have h2 : PyData.depth (.list (ns.map PyData.int)) ≤ 64 := by
    simp only [PyData.depth]
    omega
  show (PyData.canLay0 (.list (ns.map PyData.int)) && decide (PyData.depth (.list (ns.map PyData.int)) ≤ 64)) = true
  rw [Bool.and_eq_true]
  exact ⟨by simp only [PyData.canLay0]; exact lay_ints ns, decide_eq_true h2⟩
theorem dp_ints {K : PySem.W.Frag} {H : Hp} : ∀ ns : List Int, DpAll K H (ns.map V.int) (ns.map PyData.int)
  | [] => .nil
  | n :: ns => .cons (.int n) (dp_ints ns)
/-! ### the deck -/
/-- the deck at D: its great cells at B, its cells at C, a count -/
structure DeckAt (D B C : Addr) (cells : List Int) (H : Hp) : Prop where
  db : D ≠ B
  dc : D ≠ C
  bc : B ≠ C
  ne : cells ≠ []
  len : cells.length ≤ 64
  top : ∃ n : Int, H D = some (.lst [.ref B, .ref C, .int n])
  big : ∃ bigs : List Int, bigs.length ≤ 63 ∧ H B = some (.lst (bigs.map V.int))
  cel : H C = some (.lst (cells.map V.int))
theorem Fr.refl (D B : Addr) (H : Hp) : Fr D B H H := fun _ _ _ _ h => h
theorem Fr.trans {D B : Addr} {H H1 H2 : Hp} (a : Fr D B H H1) (b : Fr D B H1 H2) : Fr D B H H2 := fun c o h1 h2 h => b c o h1 h2 (a c o h1 h2 h)
theorem Fr.of_same {D B : Addr} {H H' : Hp} (s : Same H H') : Fr D B H H' := fun b o _ _ h => s b o h
theorem same_upd {H : Hp} {p : Addr} {o : HO} (h : H p = none) : Same H (upd H p o) := fun b x e => by
  rw [upd_ne (ne_of_none e h)]
  exact e
theorem DeckAt.same {D B C : Addr} {cells : List Int} {H H' : Hp} (d : DeckAt D B C cells H) (s : Same H H') : DeckAt D B C cells H' := by
  obtain ⟨n, hn⟩ := d.top
  obtain ⟨bs, hl, hb⟩ := d.big
  exact ⟨d.db, d.dc, d.bc, d.ne, d.len, ⟨n, s _ _ hn⟩, ⟨bs, hl, s _ _ hb⟩, s _ _ d.cel⟩
def spDraw : Sp := fun vs H Q _ => ∃ (D B C : Addr) (cells : List Int) (m : Int), vs = [.ref D, .int m] ∧ DeckAt D B C cells H ∧ 0 < m ∧ m < 1073741824 ∧
  ∀ (i : Int) (H' : Hp), 0 ≤ i → i < m → DeckAt D B C cells H' → Fr D B H H' → Q (.int i) H'
section
variable {P : Program} {w : World} {K : PySem.W.Frag} {mg : Str → Option Value} {base : Heap}
theorem ok_draw {f : Addr} {fd : FuncData} (F : Fun K "_law_draw" "_law_draw" sDraw f fd) (mi : mg "int" = none) (ml : mg "len" = none) : FnOk P w K mg base CX0 1 f fd ["_law_deck_here", "_law_many"] spDraw := by
  refine F.ok scDraw (fun vs H Q E h => ?_) (fun cdv A outer s H vs Q E hr h => ?_)
  · obtain ⟨D, B, C, cells, m, rfl, _⟩ := h
    rfl
  · obtain ⟨D, B, C, cells, m, rfl, dk, hm0, hm1, q⟩ := h
    have hu := hr.units
    refine ⟨_, pss_cons (ps_if (pt_cmpR (op_neD hu) (pe_ix ix_list (pv 0) pe_int (fun _ _ => rfl)) (pe_lst pa_nil) (nomark _))
        (pss_cons (ps_set (i := 2) scDraw.nd rfl (.inl rfl) (pe_ix ix_list (pe_ix ix_list (pv 0) pe_int (fun _ _ => rfl)) pe_int (fun _ _ => rfl)))
        (pss_cons (ps_asg (pe_op op_fdiv (pv 2) (pv 1)) (pg_sub (pe_ix ix_list (pv 0) pe_int (fun _ _ => rfl)) pe_int set_list))
        (pss_cons (ps_if (pt_cmpR op_eq (pe_ix ix_list (pe_ix ix_list (pv 0) pe_int (fun _ _ => rfl)) pe_int (fun _ _ => rfl)) pe_int (nomark _))
          (pss_one (ps_expr (pe_bm PySem.F.plainAttrs_list PySem.F.slot_list_pop PySem.F.type_list_pop mt_popAt (pe_ix ix_list (pv 0) pe_int (fun _ _ => rfl)) (pa_cons pe_int pa_nil)))) pss_nil)
        (pss_one (ps_ret (pe_op op_mod (pe_callTy call_int1 (by rfl) mi PyProof.Rows.boot_int (pa_cons (pv 2) pa_nil)) (pv 1))))))) pss_nil)
      (pss_cons (ps_asg (pe_op op_add (pe_ix ix_list (pv 0) pe_int (fun _ _ => rfl)) pe_int) (pg_sub (pv 0) pe_int set_list))
      (pss_cons (ps_set (i := 3) scDraw.nd rfl (.inl rfl) (pe_ix ix_list (pe_ix ix_list (pv 0) pe_int (fun _ _ => rfl)) (pe_op op_mod (pe_callTy call_int1 (by rfl) mi PyProof.Rows.boot_int (pa_cons (pe_ix ix_list (pv 0) pe_int (fun _ _ => rfl)) pa_nil)) (pe_callB call_len_seq (by rfl) ml PySem.boot_len (pa_cons (pe_ix ix_list (pv 0) pe_int (fun _ _ => rfl)) pa_nil))) (fun _ _ => rfl)))
      (pss_cons (ps_set (i := 4) scDraw.nd rfl (.inl rfl) (pe_op op_mod (pe_callTy call_int1 (by rfl) mi PyProof.Rows.boot_int (pa_cons (pe_op op_add (pe_op op_mod (pe_callTy call_int1 (by rfl) mi PyProof.Rows.boot_int (pa_cons (pv 3) pa_nil)) pe_int) (pe_op op_mul pe_int (pe_ix ix_list (pv 0) pe_int (fun _ _ => rfl)))) pa_nil)) pe_int))
      (pss_cons (ps_set (i := 4) scDraw.nd rfl (.inl rfl) (pe_op op_mod (pe_callTy call_int1 (by rfl) mi PyProof.Rows.boot_int (pa_cons (pe_op op_add (pe_op op_mul (pv 4) (pv 4)) (pe_op op_mul pe_int (pe_ix ix_list (pv 0) pe_int (fun _ _ => rfl)))) pa_nil)) pe_int))
      (pss_one (ps_ret (pe_op op_mod (pe_op op_fdiv (pe_op op_mod (pe_callTy call_int1 (by rfl) mi PyProof.Rows.boot_int (pa_cons (pe_op op_mul (pv 4) (pv 4)) pa_nil)) pe_int) pe_int) (pv 1)))))))), ?_⟩
    obtain ⟨n, hD⟩ := dk.top
    obtain ⟨bigs, hbl, hB⟩ := dk.big
    have hC := dk.cel
    -- if deck[0] != []
    refine ⟨.ref D, rfl, D, _, 0, .ref B, rfl, rfl, SqL.of hD, atI_nat (j := 0) rfl, Nat.zero_le _, fun e ne => ?_⟩
    have s1 : Same H (upd H e (.lst [])) := same_upd ne
    have hD1 := s1 _ _ hD
    have hB1 := s1 _ _ hB
    have hC1 := s1 _ _ hC
    refine ⟨.list (bigs.map PyData.int), .list [], .lst (SqL.of hB1) (dp_ints bigs), .lst (SqL.of upd_same) .nil, shaped_ints bigs, shaped_ints [], _, rfl, ?_⟩
    cases bigs with
    | cons b0 bs =>
      refine iteT ?_
      -- rest = deck[0][0]
      refine ⟨.ref D, rfl, D, _, 0, .ref B, rfl, rfl, SqL.of hD1, atI_nat (j := 0) rfl, B, _, 0, .int b0, rfl, rfl, SqL.of hB1, atI_nat (j := 0) rfl, ?_⟩
      -- deck[0][0] = rest // many
      refine ⟨.int b0, rfl, .int m, rfl, _, _, rfl, rfl, ⟨hm0, hm1⟩, .ref D, rfl, D, _, 0, .ref B, rfl, rfl, SqL.of hD1, atI_nat (j := 0) rfl, B, _, 0, 0, rfl, rfl, hB1, by simp [ixN], ?_⟩
      have hB2 : (upd (upd H e (.lst [])) B (.lst (List.set ((b0 :: bs).map V.int) 0 (.int (b0 / m))))) B = some (.lst ((b0 / m :: bs).map V.int)) := upd_same
      have hD2 : (upd (upd H e (.lst [])) B (.lst (List.set ((b0 :: bs).map V.int) 0 (.int (b0 / m))))) D = some (.lst [.ref B, .ref C, .int n]) := by
        rw [upd_ne dk.db]
        exact hD1
      have hC2 : (upd (upd H e (.lst [])) B (.lst (List.set ((b0 :: bs).map V.int) 0 (.int (b0 / m))))) C = some (.lst (cells.map V.int)) := by
        rw [upd_ne dk.bc.symm]
        exact hC1
      have f2 : Fr D B H (upd (upd H e (.lst [])) B (.lst (List.set ((b0 :: bs).map V.int) 0 (.int (b0 / m))))) := fun b o h1 h2 h => by
        rw [upd_ne h2]
        exact s1 _ _ h
      have q0 : (0 : Int) ≤ b0 % m := Int.emod_nonneg _ (by omega)
      have q1 : b0 % m < m := Int.emod_lt_of_pos _ hm0
      generalize (upd (upd H e (.lst [])) B (.lst (List.set ((b0 :: bs).map V.int) 0 (.int (b0 / m))))) = H2 at hB2 hD2 hC2 f2 ⊢
      -- if deck[0][0] == 0
      refine ⟨.ref D, rfl, D, _, 0, .ref B, rfl, rfl, SqL.of hD2, atI_nat (j := 0) rfl, B, _, 0, .int (b0 / m), rfl, rfl, SqL.of hB2, atI_nat (j := 0) rfl, rfl, _, rfl, ite2 (fun _ => ?_) (fun _ => ?_)⟩
      · refine ⟨.ref D, rfl, D, _, 0, .ref B, rfl, rfl, SqL.of hD2, atI_nat (j := 0) rfl, .inl ⟨rfl, _, SqL.of hB2⟩, B, _, 0, 0, .int (b0 / m), rfl, rfl, hB2, by decide, by decide, by simp [seqIndex?], rfl, ?_⟩
        refine ⟨.int b0, rfl, .inl ⟨b0, rfl, .int m, rfl, _, _, rfl, rfl, hm0, q _ _ q0 q1 ⟨dk.db, dk.dc, dk.bc, dk.ne, dk.len, ⟨n, ?_⟩, ⟨bs, ?_, upd_same⟩, ?_⟩ fun b o h1 h2 h => ?_⟩⟩
        · rw [upd_ne dk.db]
          exact hD2
        · simp only [List.length_cons] at hbl
          omega
        · rw [upd_ne dk.bc.symm]
          exact hC2
        · rw [upd_ne h2]
          exact f2 b o h1 h2 h
      · exact ⟨.int b0, rfl, .inl ⟨b0, rfl, .int m, rfl, _, _, rfl, rfl, hm0, q _ _ q0 q1 ⟨dk.db, dk.dc, dk.bc, dk.ne, dk.len, ⟨n, hD2⟩, ⟨b0 / m :: bs, hbl, hB2⟩, hC2⟩ f2⟩⟩
    | nil =>
      refine iteF ?_
      -- deck[2] = deck[2] + 1
      refine ⟨.ref D, rfl, D, _, 2, .int n, rfl, rfl, SqL.of hD1, atI_nat (j := 2) rfl, _, _, rfl, rfl, .ref D, rfl, D, _, 2, 2, rfl, rfl, hD1, rfl, ?_⟩
      have hD2 : (upd (upd H e (.lst [])) D (.lst (List.set [.ref B, .ref C, .int n] 2 (.int (n + 1))))) D = some (.lst [.ref B, .ref C, .int (n + 1)]) := upd_same
      have hB2 : (upd (upd H e (.lst [])) D (.lst (List.set [.ref B, .ref C, .int n] 2 (.int (n + 1))))) B = some (.lst []) := by
        rw [upd_ne dk.db.symm]
        exact hB1
      have hC2 : (upd (upd H e (.lst [])) D (.lst (List.set [.ref B, .ref C, .int n] 2 (.int (n + 1))))) C = some (.lst (cells.map V.int)) := by
        rw [upd_ne dk.dc.symm]
        exact hC1
      have f2 : Fr D B H (upd (upd H e (.lst [])) D (.lst (List.set [.ref B, .ref C, .int n] 2 (.int (n + 1))))) := fun b o h1 h2 h => by
        rw [upd_ne h1]
        exact s1 _ _ h
      generalize (upd (upd H e (.lst [])) D (.lst (List.set [.ref B, .ref C, .int n] 2 (.int (n + 1))))) = H2 at hB2 hD2 hC2 f2 ⊢
      have dk2 : DeckAt D B C cells H2 := ⟨dk.db, dk.dc, dk.bc, dk.ne, dk.len, ⟨_, hD2⟩, ⟨[], by decide, hB2⟩, hC2⟩
      -- cell = deck[1][deck[2] % len(deck[1])]
      have hl0 : 0 < cells.length := List.length_pos_iff.mpr dk.ne
      have hlm : (((cells.map V.int).length : Nat) : Int) = (cells.length : Int) := by rw [List.length_map]
      have i0 : 0 ≤ (n + 1) % (cells.length : Int) := Int.emod_nonneg _ (by omega)
      have i1 : (n + 1) % (cells.length : Int) < (cells.length : Int) := Int.emod_lt_of_pos _ (by omega)
      obtain ⟨j, hj⟩ : ∃ j : Nat, (n + 1) % (cells.length : Int) = (j : Int) := ⟨((n + 1) % (cells.length : Int)).toNat, by omega⟩
      have hjl : j < cells.length := by omega
      have hget : (cells.map V.int)[j]? = some (.int cells[j]) := by
        rw [List.getElem?_map, List.getElem?_eq_getElem hjl]
        rfl
      have hix : atI (cells.map V.int) ((n + 1) % (((cells.map V.int).length : Nat) : Int)) = some (.int cells[j]) := by
        rw [hlm, hj]
        exact atI_nat hget
      refine ⟨.ref D, rfl, D, _, 1, .ref C, rfl, rfl, SqL.of hD2, atI_nat (j := 1) rfl, .ref D, rfl, D, _, 2, .int (n + 1), rfl, rfl, SqL.of hD2, atI_nat (j := 2) rfl, .inl ⟨n + 1, rfl, .ref D, rfl, D, _, 1, .ref C, rfl, rfl, SqL.of hD2, atI_nat (j := 1) rfl, C, _, rfl, .inl (SqL.of hC2), _, _, rfl, rfl, by rw [hlm]; omega, C, _, _, .int cells[j], rfl, rfl, SqL.of hC2, hix, ?_⟩⟩
      -- mixed
      refine ⟨.int cells[j], rfl, .inl ⟨cells[j], rfl, _, _, rfl, rfl, (by show (0 : Int) < 4294966297; decide), .ref D, rfl, D, _, 2, .int (n + 1), rfl, rfl, SqL.of hD2, atI_nat (j := 2) rfl, _, _, rfl, rfl, .inl ⟨by decide, by decide⟩, _, _, rfl, rfl, .inl ⟨_, rfl, _, _, rfl, rfl, (by show (0 : Int) < 4294966297; decide), ?_⟩⟩⟩
      have x0 : 0 ≤ (cells[j] % 4294966297 + 1640531527 * (n + 1)) % 4294966297 := Int.emod_nonneg _ (by decide)
      have x1 : (cells[j] % 4294966297 + 1640531527 * (n + 1)) % 4294966297 < 4294966297 := Int.emod_lt_of_pos _ (by decide)
      refine ⟨_, rfl, _, rfl, _, _, rfl, rfl, .inl ⟨Int.lt_of_lt_of_le (by decide) x0, Int.lt_trans x1 (by decide)⟩, .ref D, rfl, D, _, 2, .int (n + 1), rfl, rfl, SqL.of hD2, atI_nat (j := 2) rfl, _, _, rfl, rfl, .inl ⟨by decide, by decide⟩, _, _, rfl, rfl, .inl ⟨_, rfl, _, _, rfl, rfl, (by show (0 : Int) < 4294966237; decide), ?_⟩⟩
      have y0 : 0 ≤ ((cells[j] % 4294966297 + 1640531527 * (n + 1)) % 4294966297 * ((cells[j] % 4294966297 + 1640531527 * (n + 1)) % 4294966297) + 122949823 * (n + 1)) % 4294966237 := Int.emod_nonneg _ (by decide)
      have y1 : ((cells[j] % 4294966297 + 1640531527 * (n + 1)) % 4294966297 * ((cells[j] % 4294966297 + 1640531527 * (n + 1)) % 4294966297) + 122949823 * (n + 1)) % 4294966237 < 4294966237 := Int.emod_lt_of_pos _ (by decide)
      refine ⟨_, rfl, _, rfl, _, _, rfl, rfl, .inl ⟨Int.lt_of_lt_of_le (by decide) y0, Int.lt_trans y1 (by decide)⟩, .inl ⟨_, rfl, _, _, rfl, rfl, (by show (0 : Int) < 4294966187; decide), _, _, rfl, rfl, ⟨by decide, by decide⟩, .int m, rfl, _, _, rfl, rfl, hm0, q _ _ (Int.emod_nonneg _ (by omega)) (Int.emod_lt_of_pos _ hm0) dk2 f2⟩⟩
theorem sz1 {α : Type} {l : List α} (h : Nat.ble l.length 1000 = true) : l.length ≤ sizeLine := Nat.le_of_lt (small1000 (Nat.le_of_ble_eq_true h))
theorem tYes_if {σ : L2.St} {H : Hp} {T E : Hp → Prop} (h : T H) : tYes σ H (fun b H1 => if b = true then T H1 else E H1) := by
  show (if true = true then T H else E H)
  rw [if_pos rfl]
  exact h
def absI (i : Int) : Int := if i < 0 then -i else i
/-- law: the deck is made -/
def spDeck (K : PySem.W.Frag) : Sp := fun vs H Q _ => ∃ (a : Addr) (ns : List Int), vs = [.ref a] ∧ SqL K H a (ns.map V.int) ∧ ns.length ≤ 63 ∧
  ∀ (H' : Hp) (D B C : Addr) (cells : List Int), Same H H' → H D = none → H B = none → H C = none → DeckAt D B C cells H' → Q (.ref D) H'
theorem cut_ints (ns : List Int) (lo hi : Option Int) : ∃ ms : List Int, cutV (ns.map V.int) lo hi = ms.map V.int ∧ ms.length ≤ ns.length := by
  unfold cutV
  refine ⟨(ns.drop _).take _, by rw [List.map_take, List.map_drop], ?_⟩
  rw [List.length_take, List.length_drop]
  omega
theorem ok_deck {f : Addr} {fd : FuncData} (F : Fun K "_law_deck" "_law_deck" sDeck f fd) (ma : mg "abs" = none) (ml : mg "len" = none) : FnOk P w K mg base CX0 1 f fd ["_law_script"] (spDeck K) := by
  refine F.ok scDeck (fun vs H Q E h => ?_) (fun cdv A outer s H vs Q E hr h => ?_)
  · obtain ⟨a, ns, rfl, _⟩ := h
    rfl
  · obtain ⟨a, ns, rfl, hS, hn, q⟩ := h
    refine ⟨_, pss_cons (ps_setLc (i := 1) (own := [("_law_cell", 2)]) (g := gName 2) (tt := tYes) rfl scDeck.nd rfl rfl (sw_true rfl rfl rfl (by decide +kernel)) (pi_list (pe_slice sl_list (pv 0) po_none (po_some pe_int))) (blkOk_by (N := nDeck) (sc := defScope sDeck) (by decide +kernel))
        (fun _ _ _ _ _ => pg_name (i := 2) scDeck.nd rfl (.inl rfl)) (fun _ _ _ _ _ => pts_nil) (fun _ _ _ _ _ => pe_callB call_abs (by rfl) ma PyProof.Rows.boot_abs (pa_cons (pv 2) pa_nil)))
      (pss_one (ps_ret (pe_lst (pa_cons (pe_lc (own := [("_law_cell", 2)]) (g := gName 2) rfl scDeck.nd (pi_list (pv 1)) (blkOk_by (N := nDeck) (sc := defScope sDeck) (by decide +kernel))
          (fun _ _ _ _ _ => pg_name (i := 2) scDeck.nd rfl (.inl rfl)) (fun _ _ _ _ _ => pts_one (pt_cmpR op_ge (pv 2) (pe_op op_pow pe_int pe_int) (nomark _))) (fun _ _ _ _ _ => pv 2))
        (pa_cons (pe_op op_cat (pv 1) (pe_lst (pa_cons (pe_op op_add pe_int (pe_callB call_len_seq (by rfl) ml PySem.boot_len (pa_cons (pv 1) pa_nil))) pa_nil)))
        (pa_cons pe_int pa_nil)))))), ?_⟩
    obtain ⟨ms, hms, hml⟩ := cut_ints ns none (some 63)
    refine ⟨.ref a, rfl, 63, rfl, a, ns.map V.int, rfl, hS, fun c nc => ⟨c, rfl, ⟨_, SqL.of upd_same⟩, fun D1 nD1 => ?_⟩⟩
    rw [hms] at nD1 ⊢
    have s1 : Same H (upd H c (.lst (ms.map V.int))) := same_upd nc
    have s2 : Same (upd H c (.lst (ms.map V.int))) (upd (upd H c (.lst (ms.map V.int))) D1 (.lst [])) := same_upd nD1
    have nD1' : H D1 = none := s1.free nD1
    have nDc : D1 ≠ c := fun e => by
      rw [e, upd_same] at nD1
      cases nD1
    refine lc_list (K := K) (a := c) (xs := ms.map V.int) (fun i H3 => H3 D1 = some (.lst (((ms.take i).map absI).map V.int)) ∧ H3 c = some (.lst (ms.map V.int)) ∧ Same H H3) ⟨upd_same, ?_, s1.trans s2⟩ (fun i H3 _ h => SqL.of h.2.1) ?_ ?_
    · rw [upd_ne nDc.symm]
      exact upd_same
    · rintro i x H3 hi ⟨e1, e2, e3⟩
      have hil : i < ms.length := by
        have := (List.getElem?_eq_some_iff.mp hi).1
        rw [List.length_map] at this
        exact this
      have ex : x = .int ms[i] := by
        rw [List.getElem?_map, List.getElem?_eq_getElem hil] at hi
        exact (Option.some.inj hi).symm
      subst ex
      refine ⟨rfl, tYes_if ?_⟩
      refine ⟨_, rfl, ms[i], rfl, _, e1, ?_, ?_, ?_, ?_⟩
      · simp only [List.length_map, List.length_take]
        exact Nat.lt_of_le_of_lt (Nat.min_le_left _ _) (small1000 (by omega))
      · rw [upd_same, List.take_add_one, List.getElem?_eq_getElem hil, List.map_append, List.map_append]
        rfl
      · rw [upd_ne nDc.symm]
        exact e2
      · intro b o hb
        rw [upd_ne (ne_of_none hb nD1')]
        exact e3 b o hb
    · rintro H3 ⟨e1, e2, e3⟩
      rw [List.length_map, List.take_length] at e1
      refine ⟨_, rfl, D1, rfl, ⟨_, SqL.of e1⟩, fun D2 nD2 => ?_⟩
      have nDD : D2 ≠ D1 := fun e => by
        rw [e, e1] at nD2
        cases nD2
      have sB : Same H3 (upd H3 D2 (.lst [])) := same_upd nD2
      refine lc_list (K := K) (a := D1) (xs := (ms.map absI).map V.int) (fun i H4 => ∃ bs : List Int, bs.length ≤ i ∧ H4 D2 = some (.lst (bs.map V.int)) ∧ H4 D1 = some (.lst ((ms.map absI).map V.int)) ∧ Same H3 H4) ⟨[], Nat.le_refl _, upd_same, ?_, sB⟩ (fun i H3 _ ⟨_, _, _, h, _⟩ => SqL.of h) ?_ ?_
      · rw [upd_ne nDD.symm]
        exact e1
      · rintro i x H4 hi ⟨bs, hb, g1, g2, g3⟩
        obtain ⟨z, rfl⟩ : ∃ z, x = V.int z := by
          rw [List.getElem?_map] at hi
          cases e : (ms.map absI)[i]? with
          | none =>
            rw [e] at hi
            cases hi
          | some z =>
            rw [e] at hi
            exact ⟨z, (Option.some.inj hi).symm⟩
        have hil : i < (ms.map absI).length := by
          have := (List.getElem?_eq_some_iff.mp hi).1
          rw [List.length_map] at this
          exact this
        rw [List.length_map] at hil
        refine ⟨rfl, .int z, rfl, _, _, rfl, rfl, ⟨by decide, by decide, by decide⟩, _, _, rfl, rfl, _, rfl, ite2 (fun _ => ?_) (fun _ => ?_)⟩
        · refine ⟨_, rfl, _, g1, ?_, bs ++ [z], ?_, ?_, ?_, ?_⟩
          · rw [List.length_map]
            exact small1000 (by omega)
          · rw [List.length_append]
            show bs.length + 1 ≤ i + 1
            omega
          · rw [upd_same, List.map_append]
            rfl
          · rw [upd_ne nDD.symm]
            exact g2
          · intro b o hb
            rw [upd_ne (ne_of_none hb nD2)]
            exact g3 b o hb
        · exact ⟨bs, by omega, g1, g2, g3⟩
      · rintro H4 ⟨bs, hb, g1, g2, g3⟩
        rw [List.length_map, List.length_map] at hb
        refine ⟨_, rfl, _, rfl, D1, _, rfl, .inl (SqL.of g2), _, _, rfl, rfl, sz1 rfl, fun e ne => ?_⟩
        have s4 : Same H4 (upd H4 e (.lst [.int (11246 + (((ms.map absI).map V.int).length : Nat))])) := same_upd ne
        refine ⟨D1, e, _, _, rfl, rfl, s4 _ _ g2, upd_same, ?_, fun C nC => ?_⟩
        · rw [List.length_map, List.length_map]
          exact Nat.le_of_lt (small1000 (by simp only [List.length_singleton]; omega))
        refine ⟨sz1 rfl, fun D nD => ?_⟩
        have s5 := same_upd (o := .lst ((ms.map absI).map V.int ++ [.int (11246 + (((ms.map absI).map V.int).length : Nat))])) nC
        have s6 := same_upd (o := .lst [.ref D2, .ref C, .int 0]) nD
        have sE : Same H _ := e3.trans (g3.trans (s4.trans (s5.trans s6)))
        have n4 : H4 D = none := s4.free (s5.free nD)
        have n4C : H4 C = none := s4.free nC
        have hD2 : D2 ≠ D := ne_of_none g1 n4
        have hD2C : D2 ≠ C := ne_of_none g1 n4C
        have hDC : D ≠ C := fun z => by
          rw [z, upd_same] at nD
          cases nD
        refine q _ D D2 C ((ms.map absI) ++ [(11246 : Int) + ((((ms.map absI).map V.int).length : Nat) : Int)]) sE (e3.free (g3.free n4)) (e3.free nD2) (e3.free (g3.free n4C)) ⟨hD2.symm, hDC, hD2C, by simp, ?_, ⟨0, upd_same⟩, ⟨bs, by omega, s6 _ _ (s5 _ _ (s4 _ _ g1))⟩, ?_⟩
        · rw [List.length_append, List.length_map]
          show ms.length + 1 ≤ 64
          omega
        · rw [upd_ne hDC.symm, upd_same, List.map_append]
          rfl

theorem DeckAt.isD {D B C : Addr} {cells : List Int} {H : Hp} (d : DeckAt D B C cells H) : ∃ xs, H D = some (.lst xs) := by
  obtain ⟨n, hn⟩ := d.top
  exact ⟨_, hn⟩
theorem DeckAt.isB {D B C : Addr} {cells : List Int} {H : Hp} (d : DeckAt D B C cells H) : ∃ xs, H B = some (.lst xs) := by
  obtain ⟨bs, _, hb⟩ := d.big
  exact ⟨_, hb⟩
theorem DeckAt.data {D B C : Addr} {cells : List Int} {H H' : Hp} {v : V} {d : PyData} (k : DeckAt D B C cells H) (f : Fr D B H H') (h : Dq D B H v d) : Dq D B H' v d := Dq.keep k.isD k.isB f d v h
theorem DeckAt.dataAll {D B C : Addr} {cells : List Int} {H H' : Hp} {v : List V} {d : List PyData} (k : DeckAt D B C cells H) (f : Fr D B H H') (h : DqAll D B H v d) : DqAll D B H' v d := DqAll.keep k.isD k.isB f d v h
/-- one of the items of a list that is not the deck's -/
def spOne : Sp := fun vs H Q _ => ∃ (D B C : Addr) (cells : List Int) (L : Addr) (xs : List V), vs = [.ref D, .ref L] ∧ DeckAt D B C cells H ∧ H L = some (.lst xs) ∧ L ≠ D ∧ L ≠ B ∧ 0 < xs.length ∧ xs.length < 1073741824 ∧
  ∀ (i : Nat) (v : V) (H' : Hp), xs[i]? = some v → DeckAt D B C cells H' → Fr D B H H' → Q v H'
theorem ok_one {f fd' : Addr} {fd fdD : FuncData} (F : Fun K "_law_one" "_law_one" sOne f fd) (FD : Fun K "_law_draw" "_law_draw" sDraw fd' fdD) (bD : Binds K fdD ["_law_deck_here", "_law_many"] []) (gD : mg "_law_draw" = some (.ref fd')) (mi : mg "int" = none) (ml : mg "len" = none) :
    FnOk P w K mg base CX0 2 f fd ["_law_deck_here", "_law_items"] spOne := by
  have GD : FnOk P w K mg base CX0 1 fd' fdD ["_law_deck_here", "_law_many"] spDraw := ok_draw FD mi ml
  refine F.ok scOne (fun vs H Q E h => ?_) (fun cdv A outer s H vs Q E hr h => ?_)
  · obtain ⟨D, B, C, cells, L, xs, rfl, _⟩ := h
    rfl
  · obtain ⟨D, B, C, cells, L, xs, rfl, dk, hL, nD, nB, h0, h1, q⟩ := h
    refine ⟨_, pss_one (ps_ret (pe_ix ix_list (pv 1) (pe_call GD hr (by rfl) gD FD.kp bD .nil pass0 (pa_cons (pv 0) (pa_cons (pe_callB call_len_seq (by rfl) ml PySem.boot_len (pa_cons (pv 1) pa_nil)) pa_nil))) (fun _ _ => rfl))), ?_⟩
    refine ⟨_, rfl, _, rfl, _, rfl, L, xs, rfl, .inl (SqL.of hL), D, B, C, cells, _, rfl, dk, by omega, by omega, fun i H' i0 i1 dk' f' => ?_⟩
    have hL' := f' _ _ nD nB hL
    obtain ⟨j, rfl⟩ : ∃ j : Nat, i = (j : Int) := ⟨i.toNat, by omega⟩
    have hj : j < xs.length := by omega
    have hg : xs[j]? = some xs[j] := List.getElem?_eq_getElem hj
    exact ⟨L, xs, _, _, rfl, rfl, SqL.of hL', atI_nat hg, q j _ H' hg dk' f'⟩
end
end Jg
namespace Jg
open PySem PySem.Spec PyProof.Rows L2
/-! ### looks at data -/
def tyN : PyData → String
  | .none => "NoneType" | .bool _ => "bool" | .int _ => "int" | .str _ => "str" | .list _ => "list" | .tuple _ => "tuple" | .dict _ => "dict"
def isIB : PyData → Bool
  | .int _ => true | .bool _ => true | _ => false
def isBo : PyData → Bool
  | .bool _ => true | _ => false
def isIn : PyData → Bool
  | .int _ => true | _ => false
def isTu : PyData → Bool
  | .tuple _ => true | _ => false
def within (lo hi : Int) : PyData → Bool
  | .int i => decide (lo ≤ i) && decide (i ≤ hi) | _ => false
def tupOf (n : Int) : PyData → Bool
  | .tuple ds => decide ((ds.length : Int) = n) | _ => false
abbrev M20 : Int := 10 ^ 20
theorem Dq.ty {K : PySem.W.Frag} {D B : Addr} {H : Hp} {v : V} {d : PyData} (h : Dq D B H v d) : TyX K H v (.type (tyN d)) := by
  cases h with
  | non => exact .base .non
  | bl b => exact .base (.bl b)
  | int i => exact .base (.int i)
  | str x => exact .base (.str x)
  | lst _ _ e _ => exact .base (.lst e)
  | tup e _ => exact .base (.tup e)
  | dct e => exact .base (.dK e)
theorem kInt {K : PySem.W.Frag} : ∀ d : PyData, PySem.W.kitOne K (.type (tyN d)) (.type "int") = some (isIB d)
  | .none => kit_ty (a := "NoneType") (by show kitB "NoneType" "int" = some false; decide +kernel)
  | .bool _ => kit_ty (a := "bool") (by show kitB "bool" "int" = some true; decide +kernel)
  | .int _ => kit_ty (a := "int") (by show kitB "int" "int" = some true; decide +kernel)
  | .str _ => kit_ty (a := "str") (by show kitB "str" "int" = some false; decide +kernel)
  | .list _ => kit_ty (a := "list") (by show kitB "list" "int" = some false; decide +kernel)
  | .tuple _ => kit_ty (a := "tuple") (by show kitB "tuple" "int" = some false; decide +kernel)
  | .dict _ => kit_ty (a := "dict") (by show kitB "dict" "int" = some false; decide +kernel)
theorem kBool {K : PySem.W.Frag} : ∀ d : PyData, PySem.W.kitOne K (.type (tyN d)) (.type "bool") = some (isBo d)
  | .none => kit_ty (a := "NoneType") (by show kitB "NoneType" "bool" = some false; decide +kernel)
  | .bool _ => kit_ty (a := "bool") (by show kitB "bool" "bool" = some true; decide +kernel)
  | .int _ => kit_ty (a := "int") (by show kitB "int" "bool" = some false; decide +kernel)
  | .str _ => kit_ty (a := "str") (by show kitB "str" "bool" = some false; decide +kernel)
  | .list _ => kit_ty (a := "list") (by show kitB "list" "bool" = some false; decide +kernel)
  | .tuple _ => kit_ty (a := "tuple") (by show kitB "tuple" "bool" = some false; decide +kernel)
  | .dict _ => kit_ty (a := "dict") (by show kitB "dict" "bool" = some false; decide +kernel)
theorem kTup {K : PySem.W.Frag} : ∀ d : PyData, PySem.W.kitOne K (.type (tyN d)) (.type "tuple") = some (isTu d)
  | .none => kit_ty (a := "NoneType") (by show kitB "NoneType" "tuple" = some false; decide +kernel)
  | .bool _ => kit_ty (a := "bool") (by show kitB "bool" "tuple" = some false; decide +kernel)
  | .int _ => kit_ty (a := "int") (by show kitB "int" "tuple" = some false; decide +kernel)
  | .str _ => kit_ty (a := "str") (by show kitB "str" "tuple" = some false; decide +kernel)
  | .list _ => kit_ty (a := "list") (by show kitB "list" "tuple" = some false; decide +kernel)
  | .tuple _ => kit_ty (a := "tuple") (by show kitB "tuple" "tuple" = some true; decide +kernel)
  | .dict _ => kit_ty (a := "dict") (by show kitB "dict" "tuple" = some false; decide +kernel)
/-- a look: a bool comes, nothing is changed -/
def spLook (n : Nat) (ok : PyData → List V → Prop) (b : PyData → List V → Bool) : Sp := fun vs H Q _ => ∃ (D B : Addr) (v : V) (d : PyData) (ws : List V), vs = v :: ws ∧ ws.length = n ∧ Dq D B H v d ∧ ok d ws ∧ Q (.bl (b d ws)) H
/-- the built-in names that no def of the text takes -/
structure Bn (mg : Str → Option Value) : Prop where
  isi : mg "isinstance" = none
  int : mg "int" = none
  bool : mg "bool" = none
  tup : mg "tuple" = none
  len : mg "len" = none
  all : mg "all" = none
  rng : mg "range" = none
  lst : mg "list" = none
  str : mg "str" = none
  min : mg "min" = none
  rep : mg "repr" = none
  abs : mg "abs" = none
  max : mg "max" = none
  sum : mg "sum" = none
  enu : mg "enumerate" = none
theorem dec_int2 {i j : Int} : decide (V.int i = V.int j) = decide (i = j) := by
  rw [dec_int]
  rfl
theorem boot_bool' : bootBuiltins "bool" = some (.type "bool") := by decide +kernel
theorem boot_tuple' : bootBuiltins "tuple" = some (.type "tuple") := by decide +kernel
theorem boot_all' : bootBuiltins "all" = some (.builtin "all") := by decide +kernel
theorem within_no {lo hi : Int} {d : PyData} (h : isIn d = false) : within lo hi d = false := by
  cases d <;> first | rfl | cases h
theorem isIn_of {D B : Addr} {H : Hp} {v : V} {d : PyData} (hd : Dq D B H v d) (h : isIn d = true) : ∃ i, d = .int i ∧ v = .int i := by
  cases hd <;> first | exact ⟨_, rfl, rfl⟩ | cases h
theorem isTu_of {D B : Addr} {H : Hp} {v : V} {d : PyData} (hd : Dq D B H v d) (h : isTu d = true) : ∃ a xs ds, d = .tuple ds ∧ v = .ref a ∧ H a = some (.tup xs) ∧ DqAll D B H xs ds := by
  cases hd with
  | tup e ha => exact ⟨_, _, _, rfl, rfl, e, ha⟩
  | _ => cases h
theorem tupOf_no {n : Int} {d : PyData} (h : isTu d = false) : tupOf n d = false := by
  cases d <;> first | rfl | cases h
end Jg
namespace Jg
open PySem PySem.Spec PyProof.Rows L2
theorem smallM {n : Nat} (h : n ≤ 1000000) : n < sizeLine := Nat.lt_of_le_of_lt h (by rw [sizeLine_eq]; decide)
theorem DqAll.at_ {D B : Addr} {H : Hp} : ∀ {xs : List V} {ds : List PyData}, DqAll D B H xs ds → ∀ (i : Nat) (x : V), xs[i]? = some x → ∃ d, ds[i]? = some d ∧ Dq D B H x d
  | _, _, .nil, _, _, e => by simp at e
  | _, _, .cons h _, 0, _, e => by
    simp at e
    subst e
    exact ⟨_, rfl, h⟩
  | _, _, .cons _ h, i + 1, x, e => by
    obtain ⟨d, e2, q⟩ := h.at_ i x (by simpa using e)
    exact ⟨d, by simpa using e2, q⟩
/-- data stays where all that was stays -/
theorem Dq.same {D B : Addr} {H H' : Hp} {v : V} {d : PyData} (s : Same H H') (h : Dq D B H v d) : Dq D B H' v d := by
  refine Dq.rec (D := D) (B := B) (H := H) (motive_1 := fun v d _ => Dq D B H' v d) (motive_2 := fun vs ds _ => DqAll D B H' vs ds) .non .bl .int .str ?_ ?_ ?_ .nil ?_ h
  · exact fun h1 h2 e _ k => .lst h1 h2 (s _ _ e) k
  · exact fun e _ k => .tup (s _ _ e) k
  · exact fun e => .dct (s _ _ e)
  · exact fun _ _ k1 k2 => .cons k1 k2
theorem DqAll.same {D B : Addr} {H H' : Hp} (s : Same H H') : ∀ {vs : List V} {ds : List PyData}, DqAll D B H vs ds → DqAll D B H' vs ds
  | _, _, .nil => .nil
  | _, _, .cons a b => .cons (a.same s) (b.same s)
theorem take_map_next {α β : Type} {f : α → β} {xs : List α} {i : Nat} {x : α} (h : xs[i]? = some x) : (xs.take (i + 1)).map f = (xs.take i).map f ++ [f x] := by
  rw [List.take_add_one, h, List.map_append]
  rfl
/-! ### tuples made of tuples, whatever is shared -/
theorem cut_whole {xs : List V} {lo hi : Option Int} (h : HT.sIx xs.length 0 lo = 0 ∧ HT.sIx xs.length xs.length hi = xs.length) : cutV xs lo hi = xs := by
  unfold cutV
  rw [h.1, h.2, List.drop_zero, Nat.sub_zero, List.take_length]
theorem sl_read {K : PySem.W.Frag} {H : Hp} {a : Addr} {xs : List V} {lo hi : Option Int} {Q : VK} (e : H a = some (.tup xs)) (q : ∀ b H', Same H H' → H' b = some (.tup (cutV xs lo hi)) → Q (.ref b) H') : rSlA K (.ref a) lo hi H Q :=
  ⟨a, xs, rfl, SqT.of e, fun z => q a H (Same.refl H) (by rw [cut_whole z]; exact e), fun _ p np => q p _ (same_upd np) upd_same⟩
theorem cat_read {K : PySem.W.Frag} {H : Hp} {a b : Addr} {xs ys : List V} {Q : VK} (e : H a = some (.tup xs)) (e2 : H b = some (.tup ys)) (hz : xs.length + ys.length ≤ 1000) (q : ∀ c H', Same H H' → H' c = some (.tup (xs ++ ys)) → Q (.ref c) H') : rCatA K (.ref a) (.ref b) H Q := by
  refine ⟨a, b, xs, ys, rfl, rfl, SqT.of e, SqT.of e2, Nat.le_of_lt (small1000 hz), fun z => q b H (Same.refl H) ?_, fun _ z => q a H (Same.refl H) ?_, fun _ _ p np => q p _ (same_upd np) upd_same⟩
  · rw [z, List.nil_append]
    exact e2
  · rw [z, List.append_nil]
    exact e
theorem cutV_from (xs : List V) (k : Nat) : cutV xs (some (k : Int)) none = xs.drop k := by
  unfold cutV
  rw [HT.sIx_nat, HT.sIx_none]
  by_cases h : k ≤ xs.length
  · rw [Nat.min_eq_left h, List.take_of_length_le (by rw [List.length_drop]; omega)]
  · rw [Nat.min_eq_right (by omega), List.drop_eq_nil_of_le (Nat.le_refl _), List.drop_eq_nil_of_le (by omega), List.take_nil]
theorem cutV_to (xs : List V) (k : Nat) : cutV xs none (some (k : Int)) = xs.take k := by
  unfold cutV
  rw [HT.sIx_nat, HT.sIx_none, List.drop_zero, Nat.sub_zero]
  by_cases h : k ≤ xs.length
  · rw [Nat.min_eq_left h]
  · rw [Nat.min_eq_right (by omega), List.take_length, List.take_of_length_le (by omega)]
theorem Dq.tupE {D B : Addr} {H : Hp} {v : V} {ds : List PyData} (h : Dq D B H v (.tuple ds)) : ∃ a xs, v = .ref a ∧ H a = some (.tup xs) ∧ DqAll D B H xs ds := by
  cases h with
  | tup e ha => exact ⟨_, _, rfl, e, ha⟩
theorem Dq.intE {D B : Addr} {H : Hp} {v : V} {i : Int} (h : Dq D B H v (.int i)) : v = .int i := by
  cases h
  rfl
theorem DqAll.take {D B : Addr} {H : Hp} : ∀ {xs : List V} {ds : List PyData} (k : Nat), DqAll D B H xs ds → DqAll D B H (xs.take k) (ds.take k)
  | _, _, 0, _ => by
    rw [List.take_zero, List.take_zero]
    exact .nil
  | _, _, _ + 1, .nil => .nil
  | _, _, k + 1, .cons a b => .cons a (b.take k)
theorem DqAll.drop {D B : Addr} {H : Hp} : ∀ {xs : List V} {ds : List PyData} (k : Nat), DqAll D B H xs ds → DqAll D B H (xs.drop k) (ds.drop k)
  | _, _, 0, h => h
  | _, _, _ + 1, .nil => .nil
  | _, _, k + 1, .cons _ b => b.drop k
theorem DqAll.append {D B : Addr} {H : Hp} {ys : List V} {es : List PyData} (h2 : DqAll D B H ys es) : ∀ {xs : List V} {ds : List PyData}, DqAll D B H xs ds → DqAll D B H (xs ++ ys) (ds ++ es)
  | _, _, .nil => h2
  | _, _, .cons a b => .cons a (DqAll.append h2 b)
/-- the defs that draw -/
structure Dr (K : PySem.W.Frag) (mg : Str → Option Value) (fD : Addr) (fdD : FuncData) : Prop where
  F : Fun K "_law_draw" "_law_draw" sDraw fD fdD
  b : Binds K fdD ["_law_deck_here", "_law_many"] []
  g : mg "_law_draw" = some (.ref fD)
structure On (K : PySem.W.Frag) (mg : Str → Option Value) (fO : Addr) (fdO : FuncData) : Prop where
  F : Fun K "_law_one" "_law_one" sOne fO fdO
  b : Binds K fdO ["_law_deck_here", "_law_items"] []
  g : mg "_law_one" = some (.ref fO)
theorem tupOf_yes {D B : Addr} {H : Hp} {v : V} {d : PyData} {n : Int} (hd : Dq D B H v d) (h : tupOf n d = true) : ∃ a xs ds, d = .tuple ds ∧ v = .ref a ∧ H a = some (.tup xs) ∧ DqAll D B H xs ds ∧ (ds.length : Int) = n := by
  cases hd with
  | tup e ha => exact ⟨_, _, _, rfl, rfl, e, ha, of_decide_eq_true h⟩
  | _ => cases h
end Jg
namespace Jg
open PySem PySem.Spec PyProof.Rows L2
/-! ### t * 1 is t, t * 0 is () -/
theorem tmul_one (l : Addr) (its : Array Value) (n : Nat) (dd : Option Addr) (sl : Array (Option Value)) (u : Tok) :
    Meets (Builtin.«tuple.__mul__» ⟨[.ref l, .int 1 u], []⟩) (fun _ R s => s.heap.get? l = some { cls := .type "tuple", dict := dd, data := .seq its n, slots := sl } ∧ R (.ok (.ret (Value.ref l))) s) := by
  refine .of_wp fun prog w A R s h => ?_
  obtain ⟨hp, g, d, tk, os⟩ := s
  obtain ⟨hl, h⟩ := h
  have f1 := AutoSeq1.idx_int
  have c1 : (its.isEmpty || (1 : Int) == 1) = true := by simp
  wp_walk using AutoSeq1.wpAny_loadPart' hl
  exact ⟨_, rfl, h⟩
theorem tmul_nought (l : Addr) (its : Array Value) (n : Nat) (dd : Option Addr) (sl : Array (Option Value)) (u : Tok) (hi : its.isEmpty = false) :
    Meets (Builtin.«tuple.__mul__» ⟨[.ref l, .int 0 u], []⟩) (fun _ R s => s.heap.get? l = some { cls := .type "tuple", dict := dd, data := .seq its n, slots := sl } ∧
      R (.ok (.ret (Value.ref s.heap.objs.size))) { s with heap := s.heap.push { cls := Value.type "tuple", data := Data.seq #[] }, toks := s.toks }) := by
  refine .of_wp fun prog w A R s h => ?_
  obtain ⟨hp, g, d, tk, os⟩ := s
  obtain ⟨hl, h⟩ := h
  have f1 := AutoSeq1.idx_int
  have c1 : (its.isEmpty || (0 : Int) == 1) = false := by rw [hi]; rfl
  wp_walk using AutoSeq1.wpAny_loadPart' hl
  first
    | exact ⟨_, rfl, h⟩
    | (refine wpAny_ite_false (decide_eq_false (by rw [c1]; exact Bool.false_ne_true)) ?_
       wp_walk using AutoSeq1.wpAny_loadPart' hl
       exact ⟨_, rfl, h⟩)
section
variable {X : Cx}
/-- t * k, k from 0 to 8 -/
def rRepA : R2 := fun x y H Q => ∃ (l : Addr) (k : Nat) (xs : List V), x = .ref l ∧ y = .int (k : Int) ∧ H l = some (.tup xs) ∧ xs ≠ [] ∧ k ≤ 8 ∧ xs.length ≤ 100 ∧ ∀ p H', Same H H' → H' p = some (.tup (List.replicate k xs).flatten) → Q (.ref p) H'
theorem op_repA : OpR X (binaryOp .Mult) rRepA := by
  intro pins s σ H x y v u Q I rx ry h
  obtain ⟨l, k, xs, rfl, rfl, hT, hne, hk, hz, q⟩ := h
  by_cases h2 : 2 ≤ k
  · refine op_repT pins s σ H _ _ v u Q I rx ry ⟨l, (k : Int), xs, rfl, rfl, SqT.of hT, hne, by omega, by omega, by omega, fun p np => q p _ (same_upd np) ?_⟩
    rw [upd_same]
    rfl
  · cases rx
    obtain ⟨t, rfl⟩ := ry
    obtain ⟨its, r, ⟨⟨cls, dd, data, sl⟩, ho, hc, n, hd⟩, hs⟩ := I.tuple (SqT.of hT)
    simp only at hc hd
    subst hc hd
    have hi : its.toArray.isEmpty = false := by
      cases its with
      | nil =>
        cases r
        exact absurd rfl hne
      | cons a b => rfl
    have two : k = 0 ∨ k = 1 := by omega
    rcases two with rfl | rfl
    · refine wpAny_binaryOp_repeat_ref (T := "tuple") (U := "int") (by decide) ⟨_, ho, rfl⟩ (fun s' => typeIs_int s' _ t) noFill_tuple_mul F.fills_int_mul F.slot_int_rmul repeat_tuple F.slot_int_index.lookup
        (call_meets F.slot_int_rmul (typeIs_int s _ t) F.entry_int_rmul (F.args_int_rmul_2 _ _) (int_rmul_tuple _ t l its.toArray n dd sl) ⟨ho, rfl, ⟨_, ho, rfl⟩, call_meets F.slot_tuple_mul ⟨_, ho, rfl⟩ F.entry_tuple_mul (F.args_tuple_mul_2 _ _) (tmul_nought l its.toArray n dd sl t hi) ⟨ho, ?_⟩⟩)
      have nf : H s.heap.objs.size = none := I.hok.fresh (Nat.le_refl _)
      refine ⟨.ref s.heap.objs.size, _, I.laid (t' := s.toks) (o := .tup []) (fun b ob z => Heap.get?_push_of_some _ z) (Nat.le_refl _) ?_, rfl, q _ _ (same_upd nf) upd_same⟩
      exact ⟨Nat.zero_le _, [], .nil, IsTup.new _ _⟩
    · refine wpAny_binaryOp_repeat_ref (T := "tuple") (U := "int") (by decide) ⟨_, ho, rfl⟩ (fun s' => typeIs_int s' _ t) noFill_tuple_mul F.fills_int_mul F.slot_int_rmul repeat_tuple F.slot_int_index.lookup
        (call_meets F.slot_int_rmul (typeIs_int s _ t) F.entry_int_rmul (F.args_int_rmul_2 _ _) (int_rmul_tuple _ t l its.toArray n dd sl) ⟨ho, rfl, ⟨_, ho, rfl⟩, call_meets F.slot_tuple_mul ⟨_, ho, rfl⟩ F.entry_tuple_mul (F.args_tuple_mul_2 _ _) (tmul_one l its.toArray n dd sl t) ⟨ho, ?_⟩⟩)
      exact ⟨.ref l, H, I, rfl, q l H (Same.refl H) (by rw [hT, List.replicate_one, List.flatten_cons, List.flatten_nil, List.append_nil])⟩
end
end Jg
namespace Jg
open PySem PySem.Spec PyProof.Rows L2
/-! ### written data -/
theorem pe_imp {X : Cx} {e : Expr} {t t' : TE} (h : PE X e t) (k : ∀ σ H Q, t' σ H Q → t σ H Q) : PE X e t' := ⟨fun pins s σ H Q I q => h.run pins s σ H Q I (k σ H Q q)⟩
theorem pa_imp {X : Cx} {es : List Expr} {t t' : TA} (h : PA X es t) (k : ∀ σ H Q, t' σ H Q → t σ H Q) : PA X es t' := ⟨fun pos pins s σ H Q I q => h.run pos pins s σ H Q I (k σ H Q q)⟩
def tLit (d : PyData) : TE := fun σ H Q => ∀ v H', Same H H' → (∀ D B, H D ≠ none → H B ≠ none → Dq D B H' v d) → Q v H'
def tLits (ds : List PyData) : TA := fun σ H Q => ∀ vs H', Same H H' → vs.length = ds.length → (∀ D B, H D ≠ none → H B ≠ none → DqAll D B H' vs ds) → Q vs H'
theorem Same.some {H H' : Hp} (s : Same H H') {a : Addr} (h : H a ≠ none) : H' a ≠ none := by
  cases e : H a with
  | none => exact absurd e h
  | some o =>
    rw [s a o e]
    exact fun z => nomatch z
section
variable {X : Cx} {pos : Pos}
theorem lit_int {i : Int} {j} : PE X (.Constant (.int i) j pos) (tLit (.int i)) := pe_imp pe_int fun σ H Q q => q (.int i) H (Same.refl H) fun _ _ _ _ => .int i
theorem lit_bl {b : Bool} {j} : PE X (.Constant (.bool b) j pos) (tLit (.bool b)) := pe_imp pe_bl fun σ H Q q => q (.bl b) H (Same.refl H) fun _ _ _ _ => .bl b
theorem lit_non {j} : PE X (.Constant .none j pos) (tLit .none) := pe_imp pe_non fun σ H Q q => q .non H (Same.refl H) fun _ _ _ _ => .non
theorem lit_str {x : Str} {j} : PE X (.Constant (.str x) j pos) (tLit (.str x)) := pe_imp pe_str fun σ H Q q => q (.str x) H (Same.refl H) fun _ _ _ _ => .str x
theorem lit_neg {i : Int} {j} {p : Pos} : PE X (.UnaryOp .USub (.Constant (.int i) j p) pos) (tLit (.int (-i))) := pe_imp (pe_un un_neg pe_int) fun σ H Q q => ⟨i, rfl, q (.int (-i)) H (Same.refl H) fun _ _ _ _ => .int (-i)⟩
theorem lit_pow {i j : Int} {a b} {p1 p2 : Pos} (h : CPow i j) : PE X (.BinOp (.Constant (.int i) a p1) .Pow (.Constant (.int j) b p2) pos) (tLit (.int (i ^ j.toNat))) := pe_imp (pe_op op_pow pe_int pe_int) fun σ H Q q => ⟨i, j, rfl, rfl, h, q _ H (Same.refl H) fun _ _ _ _ => .int _⟩
theorem lits_nil : PA X [] (tLits []) := pa_imp pa_nil fun σ H Q q => q [] H (Same.refl H) rfl fun _ _ _ _ => .nil
theorem lits_cons {e : Expr} {es : List Expr} {d : PyData} {ds : List PyData} (h : PE X e (tLit d)) (hr : PA X es (tLits ds)) (hs : starEach (e :: es) X.env = (false, eval e X.env) :: starEach es X.env := by rfl) : PA X (e :: es) (tLits (d :: ds)) :=
  pa_imp (pa_cons h hr hs) fun σ H Q q v H1 s1 h1 vs H2 s2 l2 h2 => q (v :: vs) H2 (s1.trans s2) (congrArg Nat.succ l2) fun D B nD nB => .cons ((h1 D B nD nB).same s2) (h2 D B (Same.some s1 nD) (Same.some s1 nB))
theorem lit_tup {es : List Expr} {ds : List PyData} {k} (h : PA X es (tLits ds)) (hz : Nat.ble ds.length 1000 = true := by rfl) : PE X (.Tuple es k pos) (tLit (.tuple ds)) :=
  pe_imp (pe_tup h) fun σ H Q q vs H1 s1 l1 h1 => ⟨by rw [l1]; exact sz1 hz, fun p np => q (.ref p) _ (s1.trans (same_upd np)) fun D B nD nB => .tup upd_same ((h1 D B nD nB).same (same_upd np))⟩
theorem lit_lst {es : List Expr} {ds : List PyData} (h : PA X es (tLits ds)) (hz : Nat.ble ds.length 1000 = true := by rfl) : PE X (.List es pos) (tLit (.list ds)) :=
  pe_imp (pe_lst h) fun σ H Q q vs H1 s1 l1 h1 => ⟨by rw [l1]; exact sz1 hz, fun p np => q (.ref p) _ (s1.trans (same_upd np)) fun D B nD nB =>
    .lst (fun z => Same.some s1 nD (by rw [← z]; exact np)) (fun z => Same.some s1 nB (by rw [← z]; exact np)) upd_same ((h1 D B nD nB).same (same_upd np))⟩
theorem lit_dct : PE X (.Dict [] [] pos) (tLit (.dict [])) := pe_imp pe_dnewK fun σ H Q q p np => q (.ref p) _ (same_upd np) fun _ _ _ _ => .dct upd_same
/-- a list display of written data, as a list -/
theorem lit_list {es : List Expr} {ds : List PyData} (h : PA X es (tLits ds)) (hz : Nat.ble ds.length 1000 = true := by rfl) :
    PE X (.List es pos) (fun σ H Q => ∀ p vs H', Same H H' → H p = none → H' p = some (.lst vs) → vs.length = ds.length → (∀ D B, H D ≠ none → H B ≠ none → DqAll D B H' vs ds) → Q (.ref p) H') :=
  pe_imp (pe_lst h) fun σ H Q q vs H1 s1 l1 h1 => ⟨by rw [l1]; exact sz1 hz, fun p np => q p vs _ (s1.trans (same_upd np)) (s1.free np) upd_same l1 fun D B nD nB => (h1 D B nD nB).same (same_upd np)⟩
end
def S (x : String) : Str := Str.ofString x
theorem DeckAt.nD {D B C : Addr} {cells : List Int} {H : Hp} (d : DeckAt D B C cells H) : H D ≠ none := by
  obtain ⟨xs, h⟩ := d.isD
  rw [h]
  exact fun z => nomatch z
theorem DeckAt.nB {D B C : Addr} {cells : List Int} {H : Hp} (d : DeckAt D B C cells H) : H B ≠ none := by
  obtain ⟨xs, h⟩ := d.isB
  rw [h]
  exact fun z => nomatch z
theorem DeckAt.neD {D B C : Addr} {cells : List Int} {H : Hp} (d : DeckAt D B C cells H) {p : Addr} (h : H p = none) : p ≠ D := fun z => d.nD (by rw [← z]; exact h)
theorem DeckAt.neB {D B C : Addr} {cells : List Int} {H : Hp} (d : DeckAt D B C cells H) {p : Addr} (h : H p = none) : p ≠ B := fun z => d.nB (by rw [← z]; exact h)
mutual
/-- what lies at neither D nor B stays, said of any two others -/
theorem Dq.two {D B Z Y : Addr} {H H' : Hp} (hD : ∃ xs, H D = some (.lst xs)) (hB : ∃ xs, H B = some (.lst xs)) (f : Fr D B H H') : ∀ (d : PyData) (v : V), Dq D B H v d → Dq Z Y H v d → Dq Z Y H' v d
  | .none, _, _, h => by
    cases h
    exact .non
  | .bool _, _, _, h => by
    cases h
    exact .bl _
  | .int _, _, _, h => by
    cases h
    exact .int _
  | .str _, _, _, h => by
    cases h
    exact .str _
  | .list ds, _, k, h => by
    cases k with
    | lst k1 k2 k3 k4 =>
      cases h with
      | lst h1 h2 h3 h4 =>
        rw [k3] at h3
        cases h3
        exact .lst h1 h2 (f _ _ k1 k2 k3) (DqAll.two hD hB f ds _ k4 h4)
  | .tuple ds, _, k, h => by
    obtain ⟨xD, eD⟩ := hD
    obtain ⟨xB, eB⟩ := hB
    cases k with
    | tup k3 k4 =>
      cases h with
      | tup h3 h4 =>
        rw [k3] at h3
        cases h3
        refine .tup (f _ _ (fun z => ?_) (fun z => ?_) k3) (DqAll.two ⟨xD, eD⟩ ⟨xB, eB⟩ f ds _ k4 h4)
        · rw [z, eD] at k3
          cases k3
        · rw [z, eB] at k3
          cases k3
  | .dict ds, _, k, h => by
    obtain ⟨xD, eD⟩ := hD
    obtain ⟨xB, eB⟩ := hB
    cases h with
    | dct h3 =>
      refine .dct (f _ _ (fun z => ?_) (fun z => ?_) h3)
      · rw [z, eD] at h3
        cases h3
      · rw [z, eB] at h3
        cases h3
theorem DqAll.two {D B Z Y : Addr} {H H' : Hp} (hD : ∃ xs, H D = some (.lst xs)) (hB : ∃ xs, H B = some (.lst xs)) (f : Fr D B H H') : ∀ (ds : List PyData) (vs : List V), DqAll D B H vs ds → DqAll Z Y H vs ds → DqAll Z Y H' vs ds
  | [], _, _, h => by
    cases h
    exact .nil
  | d :: ds, _, k, h => by
    cases k with
    | cons k1 k2 =>
      cases h with
      | cons h1 h2 => exact .cons (Dq.two hD hB f d _ k1 h1) (DqAll.two hD hB f ds _ k2 h2)
end
theorem DeckAt.two {D B C Z Y : Addr} {cells : List Int} {H H' : Hp} {v : V} {d : PyData} (k : DeckAt D B C cells H) (f : Fr D B H H') (h : Dq D B H v d) (z : Dq Z Y H v d) : Dq Z Y H' v d := Dq.two k.isD k.isB f d v h z
theorem DeckAt.alive {D B C Z : Addr} {cells : List Int} {H H' : Hp} (k : DeckAt D B C cells H') (f : Fr D B H H') (h : H Z ≠ none) : H' Z ≠ none := by
  by_cases hD : Z = D
  · rw [hD]
    exact k.nD
  · by_cases hB : Z = B
    · rw [hB]
      exact k.nB
    · cases e : H Z with
      | none => exact absurd e h
      | some o =>
        rw [f Z o hD hB e]
        exact fun z => nomatch z
end Jg
namespace Jg
open PySem PySem.Spec PyProof.Rows L2
/-! ### how long what is shown may be -/
structure Ok (k c : Nat) (d : PyData) : Prop where
  sh : d.showable = true
  dp : d.depth ≤ k
  ln : d.shown.length ≤ c
theorem Ok.mono {k c k' c' : Nat} {d : PyData} (h : Ok k c d) (hk : k ≤ k') (hc : c ≤ c') : Ok k' c' d := ⟨h.sh, Nat.le_trans h.dp hk, Nat.le_trans h.ln hc⟩
theorem ok_all {k c : Nat} : ∀ {ds : List PyData}, (∀ d ∈ ds, Ok k c d) → PyData.showableAll ds = true ∧ PyData.depthAll ds ≤ k ∧ ((PyData.shownAll ds).map (·.length)).sum ≤ c * ds.length ∧ (PyData.shownAll ds).length = ds.length
  | [], _ => by simp [PyData.showableAll, PyData.depthAll, PyData.shownAll]
  | d :: ds, h => by
    have h1 := h d List.mem_cons_self
    obtain ⟨a, b, e, f⟩ := ok_all (ds := ds) fun x hx => h x (List.mem_cons_of_mem _ hx)
    refine ⟨?_, ?_, ?_, ?_⟩
    · simp only [PyData.showableAll, h1.sh, a, Bool.and_self]
    · simp only [PyData.depthAll]
      exact Nat.max_le.mpr ⟨h1.dp, b⟩
    · simp only [PyData.shownAll, List.map_cons, List.sum_cons, List.length_cons, Nat.mul_succ]
      have := h1.ln
      omega
    · simp only [PyData.shownAll, List.length_cons, f]
theorem ok_bound {k c n : Nat} {ds : List PyData} (h : ∀ d ∈ ds, Ok k c d) (hn : ds.length ≤ n) : ((PyData.shownAll ds).map (·.length)).sum + 2 * (PyData.shownAll ds).length + 3 ≤ n * (c + 2) + 3 := by
  obtain ⟨_, _, e, f⟩ := ok_all h
  rw [f]
  have h1 : c * ds.length ≤ c * n := Nat.mul_le_mul_left c hn
  have h2 : n * (c + 2) = c * n + 2 * n := by rw [Nat.mul_add, Nat.mul_comm n c, Nat.mul_comm n 2]
  omega
theorem ok_tup {k c n : Nat} {ds : List PyData} (h : ∀ d ∈ ds, Ok k c d) (hn : ds.length ≤ n) : Ok (k + 1) (n * (c + 2) + 3) (.tuple ds) := by
  obtain ⟨a, b, _, _⟩ := ok_all h
  refine ⟨by simpa only [PyData.showable] using a, by simp only [PyData.depth]; omega, ?_⟩
  simp only [PyData.shown]
  exact Nat.le_trans (tupleText_len_le _) (ok_bound h hn)
theorem ok_lst {k c n : Nat} {ds : List PyData} (h : ∀ d ∈ ds, Ok k c d) (hn : ds.length ≤ n) : Ok (k + 1) (n * (c + 2) + 3) (.list ds) := by
  obtain ⟨a, b, _, _⟩ := ok_all h
  refine ⟨by simpa only [PyData.showable] using a, by simp only [PyData.depth]; omega, ?_⟩
  simp only [PyData.shown]
  exact Nat.le_trans (listText_len_le _) (ok_bound h hn)
theorem ok_intW {i : Int} {k : Nat} (hk : 0 < k) (hk2 : k ≤ 1920) (h : i.natAbs < 2 ^ k) : Ok 0 (k + 1) (.int i) := by
  have hl : i.natAbs.log2 < k := PySem.Flt.log2_lt_of hk h
  refine ⟨?_, Nat.le_of_eq (by simp only [PyData.depth]), ?_⟩
  · simp only [PyData.showable]
    exact decide_eq_true (by omega)
  · simp only [PyData.shown]
    rw [PySem.ofString_length]
    exact int_text_length_le hk hl
theorem ok_int25 {i : Int} (h : i.natAbs < 10 ^ 25) : Ok 0 26 (.int i) := by
  have h2 : i.natAbs < 2 ^ 90 := Nat.lt_trans h (by decide)
  refine ⟨(ok_intW (k := 90) (by decide) (by decide) h2).sh, (ok_intW (k := 90) (by decide) (by decide) h2).dp, ?_⟩
  simp only [PyData.shown]
  rw [PySem.ofString_length]
  exact int_text_length_le10 (by decide) h
theorem ok_bl (b : Bool) : Ok 0 26 (.bool b) := by
  refine ⟨by simp only [PyData.showable], Nat.le_of_eq (by simp only [PyData.depth]), ?_⟩
  simp only [PyData.shown]
  cases b <;> decide
theorem ok_non : Ok 0 26 .none := by
  refine ⟨by simp only [PyData.showable], Nat.le_of_eq (by simp only [PyData.depth]), ?_⟩
  simp only [PyData.shown]
  decide
theorem ok_str {x : Str} (h : (reprText x).length ≤ 40) : Ok 0 40 (.str x) := by
  refine ⟨by simp only [PyData.showable], Nat.le_of_eq (by simp only [PyData.depth]), ?_⟩
  simp only [PyData.shown]
  exact h
theorem ok_dct : Ok 1 26 (.dict []) := by
  refine ⟨by simp only [PyData.showable, PyData.showableKv], by simp only [PyData.depth, PyData.depthKv]; decide, ?_⟩
  simp only [PyData.shown, PyData.shownKv]
  decide
end Jg
namespace Jg
open PySem PySem.Spec PyProof.Rows L2
/-! ### bent values -/
theorem cps_lt (s : String) : ∀ c ∈ (Str.ofString s).cps.toList, c < 16 ^ 8 := by
  intro c hc
  rw [Str.ofString_eq_toList] at hc
  simp at hc
  obtain ⟨a, _, rfl⟩ := hc
  exact a.val.toNat_lt
theorem ok_text {i : Int} (h : i.natAbs < 10 ^ 25) : Ok 3 1200 (.str (toString i)) := by
  refine ⟨by simp only [PyData.showable], by simp only [PyData.depth]; omega, ?_⟩
  simp only [PyData.shown]
  refine Nat.le_trans (PySem.StrLaws.reprText_len _ (cps_lt _)) ?_
  rw [PySem.ofString_length]
  have := int_text_length_le10 (k := 25) (by decide) h
  omega
/-- how wide a tuple may be, so many levels above the last -/
def wd : Nat → Nat
  | 2 => 5 | 3 => 101 | 4 => 3 | _ => 0
theorem wd_le : ∀ n, wd n ≤ 101
  | 0 => by decide | 1 => by decide | 2 => by decide | 3 => by decide | 4 => by decide | _ + 5 => Nat.zero_le _
def Leaf (d : PyData) : Prop := (∃ i : Int, d = .int i ∧ i.natAbs ≤ 10 ^ 20) ∨ (∃ x : Str, d = .str x ∧ (reprText x).length ≤ 40 ∧ PyData.strOk x = true)
def Plain : Nat → PyData → Prop
  | 0, d => Leaf d
  | n + 1, d => Leaf d ∨ ∃ ds, d = .tuple ds ∧ ds.length ≤ wd (n + 1) ∧ ∀ x ∈ ds, Plain n x
theorem Leaf.plain {d : PyData} (h : Leaf d) : ∀ n, Plain n d
  | 0 => h
  | _ + 1 => .inl h
theorem Leaf.no {d : PyData} (h : Leaf d) : isTu d = false := by
  rcases h with ⟨i, rfl, _⟩ | ⟨x, rfl, _⟩ <;> rfl
theorem plain_leaf : ∀ {n : Nat} {d : PyData}, Plain n d → isTu d = false → Leaf d
  | 0, _, h, _ => h
  | _ + 1, _, .inl h, _ => h
  | _ + 1, _, .inr ⟨_, e, _⟩, hb => by
    rw [e] at hb
    cases hb
theorem plain_no {d : PyData} (h : Plain 0 d) (hb : isTu d = true) : False := by
  rw [Leaf.no h] at hb
  cases hb
theorem plain_tup {n : Nat} {d : PyData} (h : Plain (n + 1) d) (hb : isTu d = true) : ∃ ds, d = .tuple ds ∧ ds.length ≤ wd (n + 1) ∧ ∀ x ∈ ds, Plain n x := by
  rcases h with h | h
  · rw [h.no] at hb
    cases hb
  · exact h
def cB : Nat → Nat
  | 0 => 1200 | n + 1 => (2 * wd (n + 1) + 1) * (cB n + 2) + 3
theorem cB_up (n : Nat) : cB n ≤ cB (n + 1) := by
  show cB n ≤ (2 * wd (n + 1) + 1) * (cB n + 2) + 3
  have h : 1 * (cB n + 2) ≤ (2 * wd (n + 1) + 1) * (cB n + 2) := Nat.mul_le_mul_right _ (by omega)
  omega
theorem cB_le : ∀ n, 1200 ≤ cB n
  | 0 => Nat.le_refl _
  | n + 1 => Nat.le_trans (cB_le n) (cB_up n)
theorem leaf_ok {d : PyData} (h : Leaf d) : Ok 3 1200 d := by
  rcases h with ⟨i, rfl, hi⟩ | ⟨x, rfl, hx⟩
  · exact (ok_int25 (Nat.lt_of_le_of_lt hi (by decide))).mono (by decide) (by decide)
  · exact (ok_str hx.1).mono (by decide) (by decide)
theorem plain_ok : ∀ (n : Nat) (d : PyData), Plain n d → Ok (3 + n) (cB n) d
  | 0, d, h => leaf_ok h
  | n + 1, d, h => by
    rcases h with h | ⟨ds, rfl, hl, hx⟩
    · exact (leaf_ok h).mono (by omega) (cB_le _)
    · exact ok_tup (fun x hm => plain_ok n x (hx x hm)) (Nat.le_trans hl (by omega))
theorem leaf_lay {d : PyData} (h : Leaf d) : d.canLay0 = true ∧ d.depth ≤ 0 := by
  rcases h with ⟨i, rfl, _⟩ | ⟨x, rfl, _, hs⟩
  · exact ⟨by simp only [PyData.canLay0], by simp only [PyData.depth]; exact Nat.le_refl _⟩
  · exact ⟨by simp only [PyData.canLay0]; exact hs, by simp only [PyData.depth]; exact Nat.le_refl _⟩
theorem plain_lay : ∀ (n : Nat) (d : PyData), Plain n d → d.canLay0 = true ∧ d.depth ≤ n
  | 0, d, h => leaf_lay h
  | n + 1, d, h => by
    rcases h with h | ⟨ds, rfl, hl, hx⟩
    · exact ⟨(leaf_lay h).1, Nat.le_trans (leaf_lay h).2 (Nat.zero_le _)⟩
    · have key : ∀ l : List PyData, (∀ x ∈ l, Plain n x) → PyData.canLayAll0 l = true ∧ PyData.depthAll l ≤ n := by
        intro l
        induction l with
        | nil => intro _; exact ⟨by simp only [PyData.canLayAll0], by simp only [PyData.depthAll]; omega⟩
        | cons y r ih =>
          intro hy
          obtain ⟨a, b⟩ := plain_lay n y (hy y List.mem_cons_self)
          obtain ⟨c, e⟩ := ih fun x hm => hy x (List.mem_cons_of_mem _ hm)
          exact ⟨by simp only [PyData.canLayAll0, a, c, Bool.and_self], by simp only [PyData.depthAll]; exact Nat.max_le.mpr ⟨b, e⟩⟩
      obtain ⟨a, b⟩ := key ds hx
      exact ⟨by simpa only [PyData.canLay0] using a, by simp only [PyData.depth]; omega⟩
theorem leaf_dp {K : PySem.W.Frag} {D B : Addr} {H : Hp} {d : PyData} {v : V} (h : Leaf d) (hd : Dq D B H v d) : Dp K H v d := by
  rcases h with ⟨i, rfl, _⟩ | ⟨x, rfl, _⟩
  · cases hd
    exact .int i
  · cases hd
    exact .str x
theorem leaf_any {D B Z Y : Addr} {H : Hp} {d : PyData} {v : V} (h : Leaf d) (hd : Dq D B H v d) : Dq Z Y H v d := by
  rcases h with ⟨i, rfl, _⟩ | ⟨x, rfl, _⟩
  · cases hd
    exact .int i
  · cases hd
    exact .str x
theorem plain_dp {K : PySem.W.Frag} {D B : Addr} {H : Hp} : ∀ (n : Nat) (d : PyData) (v : V), Plain n d → Dq D B H v d → Dp K H v d
  | 0, d, v, h, hd => leaf_dp h hd
  | n + 1, d, v, h, hd => by
    rcases h with h | ⟨ds, rfl, hl, hx⟩
    · exact leaf_dp h hd
    · obtain ⟨a, xs, rfl, e, ha⟩ := hd.tupE
      refine .tup (SqT.of e) ?_
      clear e hl hd
      induction ha using DqAll.rec (motive_1 := fun _ _ _ => True) with
      | nil => exact .nil
      | cons h1 h2 _ ih => exact .cons (plain_dp n _ _ (hx _ List.mem_cons_self) h1) (ih fun x hm => hx x (List.mem_cons_of_mem _ hm))
      | _ => trivial
theorem plain_any {D B Z Y : Addr} {H : Hp} : ∀ (n : Nat) (d : PyData) (v : V), Plain n d → Dq D B H v d → Dq Z Y H v d
  | 0, d, v, h, hd => leaf_any h hd
  | n + 1, d, v, h, hd => by
    rcases h with h | ⟨ds, rfl, hl, hx⟩
    · exact leaf_any h hd
    · obtain ⟨a, xs, rfl, e, ha⟩ := hd.tupE
      refine .tup e ?_
      clear e hl hd
      induction ha using DqAll.rec (motive_1 := fun _ _ _ => True) with
      | nil => exact .nil
      | cons h1 h2 _ ih => exact .cons (plain_any n _ _ (hx _ List.mem_cons_self) h1) (ih fun x hm => hx x (List.mem_cons_of_mem _ hm))
      | _ => trivial
theorem plain_anyAll {D B Z Y : Addr} {H : Hp} {n : Nat} : ∀ {xs : List V} {ds : List PyData}, (∀ x ∈ ds, Plain n x) → DqAll D B H xs ds → DqAll Z Y H xs ds
  | _, _, _, .nil => .nil
  | _, _, hx, .cons a b => .cons (plain_any n _ _ (hx _ List.mem_cons_self) a) (plain_anyAll (fun x hm => hx x (List.mem_cons_of_mem _ hm)) b)
theorem plain_shaped {n : Nat} {d : PyData} (h : Plain n d) (hn : n ≤ 64) : SeqAt.shaped d = true := by
  obtain ⟨a, b⟩ := plain_lay n d h
  show (d.canLay0 && decide (d.depth ≤ 64)) = true
  rw [a, decide_eq_true (Nat.le_trans b hn)]
  rfl
theorem eqv_empty (ds : List PyData) : PyData.eqv (.tuple ds) (.tuple []) = ds.isEmpty := by
  cases ds with
  | nil => simp [PyData.eqv, PyData.eqvAll]
  | cons d ds => simp [PyData.eqv, PyData.eqvAll]
theorem pt_imp {X : Cx} {e : Expr} {t t' : TT} (h : PT X e t) (k : ∀ σ H Q, t' σ H Q → t σ H Q) : PT X e t' := ⟨fun pins s σ H Q I q => h.run pins s σ H Q I (k σ H Q q)⟩
/-- the first test of a bent tuple -/
def tBent : TT := fun σ H Q => ∃ (D B C : Addr) (cells : List Int) (v : V) (d : PyData) (n : Nat), σ[0]? = some (some (.ref D)) ∧ σ[1]? = some (some v) ∧ σ[2]? = some (some (.int (n : Int))) ∧ DeckAt D B C cells H ∧ Dq D B H v d ∧ Plain n d ∧ n ≤ 60 ∧
  (∀ H2, DeckAt D B C cells H2 → Fr D B H H2 → isTu d = true → 0 < n → d ≠ .tuple [] → Q true H2) ∧ (∀ H2, DeckAt D B C cells H2 → Fr D B H H2 → Q false H2)
theorem boot_list' : bootBuiltins "list" = some (.type "list") := by decide +kernel
theorem boot_str' : bootBuiltins "str" = some (.type "str") := by decide +kernel
theorem cut_data {D B : Addr} {H : Hp} {xs : List V} {ds : List PyData} (h : DqAll D B H xs ds) (lo hi : Option Int) : ∃ es, DqAll D B H (cutV xs lo hi) es ∧ (∀ e ∈ es, e ∈ ds) ∧ es.length ≤ ds.length := by
  unfold cutV
  refine ⟨(ds.drop _).take _, (h.drop _).take _, fun e he => List.mem_of_mem_drop (List.mem_of_mem_take he), ?_⟩
  rw [List.length_take, List.length_drop]
  omega
theorem DqAll.rev {D B : Addr} {H : Hp} : ∀ {xs : List V} {ds : List PyData}, DqAll D B H xs ds → DqAll D B H xs.reverse ds.reverse
  | _, _, .nil => .nil
  | _, _, .cons a b => by
    rw [List.reverse_cons, List.reverse_cons]
    exact DqAll.append (.cons a .nil) b.rev
end Jg
namespace Jg
open PySem PySem.Spec PyProof.Rows L2
open Sem (wp)
/-! ### enumerate of a tuple -/
def enumObj (i : Addr) : Obj := { cls := .type "enumerate", data := .fields #[.none, .bool false, .ref i, rawInt 0, .none, .none] }
set_option maxHeartbeats 1000000 in
theorem enumBorn {v : Value} {ob : Obj} {Z : Heap → Prop} (bg : Begins v ob Z) :
    Meets (Builtin.«enumerate.__new__» ⟨[.type "enumerate", v], []⟩) (fun _ R z => Z z.heap ∧
      R (.ok (.ret (.ref (z.heap.push ob).objs.size))) { z with heap := (z.heap.push ob).push (enumObj z.heap.objs.size) }) :=
  .of_wp fun prog w A R z hz => by
    obtain ⟨hp, g, d, tk, os⟩ := z
    obtain ⟨hz1, hz2⟩ := hz
    have hsub := sub_enumerate
    have goB : ∀ {A' : Around} {E : Value → Shared → Prop} {Q : Value → Shared → Prop}, Q (.ref hp.objs.size) ⟨hp.push ob, g, d, tk, os⟩ → wpAny (model prog w) A' (pyIter v) Q E ⟨hp, g, d, tk, os⟩ := fun q => bg.iter prog w _ _ ⟨hp, g, d, tk, os⟩ _ hz1 q
    wp_walk using goB
    refine wpAny_stack_any fun st => wpAny_pure ?_
    split
    · rename_i c _ _ _ _ _
      cases (c == Value.type "enumerate") <;> (wp_walk using goB) <;> exact ⟨_, rfl, hz2⟩
    · wp_walk using goB
      exact ⟨_, rfl, hz2⟩
theorem enumMade {prog : Program} {w : World} {A : Around} {E : Value → Shared → Prop} {z : Shared} {v : Value} {ob : Obj} {Z : Heap → Prop} {Q : Value → Shared → Prop} (bg : Begins v ob Z) (hz : Z z.heap)
    (h : ∀ h', IsEnum h' (z.heap.objs.size + 1) z.heap.objs.size 0 .none → h'.get? z.heap.objs.size = some ob → (∀ b o, z.heap.get? b = some o → h'.get? b = some o) → Q (.ref (z.heap.objs.size + 1)) { z with heap := h' }) :
    wpAny (model prog w) A (call (.type "enumerate") [v]) Q E z := by
  refine callType_new F.called_enumerate (by decide) (F.typeCall_enumerate_1 _) (F.newCall_enumerate_1 _) (fun obj => F.args_object_init_2 obj _) F.entry_enumerate_new (enumBorn bg) ⟨hz, ?_⟩
  have sz1 : (z.heap.push ob).objs.size = z.heap.objs.size + 1 := Heap.size_push ..
  have born : IsEnum ((z.heap.push ob).push (enumObj z.heap.objs.size)) (z.heap.objs.size + 1) z.heap.objs.size 0 .none := sz1 ▸ Heap.get?_push_size (z.heap.push ob) (o := enumObj z.heap.objs.size) rfl
  show _ ∧ _
  rw [sz1]
  exact ⟨⟨_, born, rfl⟩, h _ born (Heap.get?_push_of_some _ (Heap.get?_push_size _ bg.free)) fun b o x => Heap.get?_push_of_some _ (Heap.get?_push_of_some _ x)⟩
/-- the tuple at a, each item in a new pair with its number -/
def IteT (K : PySem.W.Frag) (a : Addr) : It where
  go := fun i H => ∃ (xs : List V) (x : V), SqT K H a xs ∧ xs[i]? = some x
  yld := fun i H v H' => ∃ T x, v = .ref T ∧ H T = none ∧ H' = upd H T (.tup [.int (i : Nat), x]) ∧ ∀ xs, SqT K H a xs → xs[i]? = some x
  stop := fun i H => ∃ xs : List V, SqT K H a xs ∧ xs.length ≤ i
theorem turn_enumT {P : Program} {w : World} {K : PySem.W.Frag} {elts : List Expr} {kk : Nat} {tpos : Pos} (a e it : Addr) :
    Turn P w K (.Tuple elts kk tpos) (IteT K a) [e, it] e (fun i h => (∃ old, IsEnum h e it ((i : Nat) : Int) old) ∧ h.IsTupleIter it a i ∧ e ≠ it) where
  mem := List.mem_cons_self ..
  obj := fun i h ⟨⟨old, he⟩, ⟨o, ho, _, hd⟩, _⟩ b hb => by
    rcases List.mem_cons.mp hb with z | z
    · subst z
      exact ⟨_, he, fun v q => nomatch q⟩
    · exact ⟨o, List.mem_singleton.mp z ▸ ho, fun v q => by rw [hd] at q; cases q⟩
  keep := fun i h h' ⟨⟨old, he⟩, hi, hne⟩ k => ⟨⟨old, k e (by simp) _ he⟩, hi.at fun o q => k it (by simp) o q, hne⟩
  item := by
    intro X hP hw hK hc i pins s σ H E I hf st hg
    subst hP hw hK
    obtain ⟨⟨old, he⟩, hit, hne⟩ := st
    obtain ⟨xs, x, hq, hx⟩ := hg
    obtain ⟨its, rv, p, hz⟩ := I.tuple hq
    have pT : s.heap.IsTuple a its.toArray := p
    have e_a : e ≠ a := fun z => by
      obtain ⟨o, ho, hcl, _⟩ := pT
      rw [← z, he] at ho
      cases ho
      exact absurd (Value.type.inj hcl) (by decide)
    have it_a : a ≠ it := fun z => by
      obtain ⟨o, ho, hcl, _⟩ := pT
      obtain ⟨o2, ho2, hcl2, _⟩ := hit
      rw [z, ho2] at ho
      cases ho
      rw [hcl] at hcl2
      exact absurd (Value.type.inj hcl2) (by decide)
    obtain ⟨u, hu, ru⟩ := rv.get hx
    have hel : e < s.heap.objs.size := Heap.lt_size he
    have hil : it < s.heap.objs.size := by
      obtain ⟨_, q, _⟩ := hit
      exact Heap.lt_size q
    have hlt : i < its.toArray.size := by
      obtain ⟨hh, _⟩ := List.getElem?_eq_some_iff.mp hu
      simpa using hh
    refine wpAny_pyNext_enum_itemD (Draws.tuple (A := X.A.in1) (I.ok.hd hc) it a it_a its.toArray) he ⟨hit, pT⟩ hlt hne (by simp [hne, e_a]) fun x' h1 tk hx' ho hs' hT hsz hk => ?_
    have hxu : x' = u := by
      have q1 : its.toArray[i]? = some x' := hx'
      have q2 : its.toArray[i]? = some u := by simpa using hu
      exact Option.some.inj (q1.symm.trans q2)
    subst hxu
    refine ⟨_, rfl, wpAny_letOwnedTupleGo_enum (s := { s with heap := h1, toks := tk + 1 }) ho fun h2 he2 sb => ?_⟩
    have hT2 : h2.get? s.heap.objs.size = some { cls := .type "tuple", data := .seq #[.int i tk, x'] } := (sb.2 _ (Nat.ne_of_gt hel)).trans hT
    have fresh : ObjOk X.prog X.w (upd H s.heap.objs.size (.tup [.int (i : Nat), x])) h2 s.heap.objs.size (.tup [.int (i : Nat), x]) := ⟨by show 2 ≤ sizeLine; decide, [.int i tk, x'], .cons ⟨_, rfl⟩ (.cons ru .nil), ⟨_, hT2, rfl, _, rfl⟩⟩
    have I1 : Inv X pins σ (upd H s.heap.objs.size (.tup [.int (i : Nat), x])) { s with heap := h2, toks := tk + 1 } := I.turnedNew (ch := [e, it]) (fun b ob hb q => (sb.2 b (fun z => hb (by simp [z]))).trans (hk b ob (fun z => hb (by simp [z])) (fun z => hb (by simp [z])) q)) hf (Nat.le_refl _) fresh
    have e1 : ((i + 1 : Nat) : Int) = (i : Int) + 1 := by omega
    refine ⟨.ref s.heap.objs.size, _, I1, rfl, ⟨_, x, rfl, I.hok.fresh (Nat.le_refl _), rfl, fun ys hy => I.tuple_inj hy hq ▸ hx⟩, ⟨⟨x', e1 ▸ he2⟩, hs'.1.at fun o q => (sb.2 it (Ne.symm hne)).trans q, hne⟩, fun b hb => ?_⟩
    have hb2 : b < s.heap.objs.size := by
      rcases List.mem_cons.mp hb with z | z
      · exact z ▸ hel
      · exact List.mem_singleton.mp z ▸ hil
    rw [upd_ne (Nat.ne_of_lt hb2)]
    exact (hf b hb).1
  done := by
    intro X hP hw hK hc i pins s σ H E I hf st hg
    subst hP hw hK
    obtain ⟨⟨old, he⟩, hit, hne⟩ := st
    obtain ⟨xs, hq, hx⟩ := hg
    obtain ⟨its, rv, p, hz⟩ := I.tuple hq
    have pT : s.heap.IsTuple a its.toArray := p
    obtain ⟨f0, f1, f2, f3, f4, f5⟩ := hf it (by simp)
    have hl := rv.length
    have hT : s.TypeIs (.ref e) "enumerate" := ⟨_, he, rfl⟩
    unfold pyNext
    refine wpAny_bind (wpAny_attempt (wpAny_callSpecial?_slot (name := Str.ofString "__next__") hT F.slot_enumerate_next (wpAny_call_entry F.slot_enumerate_next hT F.entry_enumerate_next ?_ (F.args_enumerate_next_1 _))))
    show wpAny _ _ (field (.ref e) 2 >>= _) _ _ _
    refine wpAny_bind (wpAny_field he rfl (x := .ref it) rfl (wpAny_bind (wpAny_nextOf_tuple_end (I.ok.hd hc) hit pT (by simp; omega) fun h2 y he2 ⟨o, ho, hcl⟩ => ?_)))
    refine wpAny_bind (wpAny_isInstance (T := "StopIteration") (b := true) ⟨o, ho, hcl⟩ isSubtype_stop (wpAny_pure ⟨rfl, ?_⟩))
    exact I.turned (t' := s.toks) (fun b ob hb q => he2 b ob hb q) f0 f1 f3 f4 f5
  self := fun A i s Q E ⟨⟨_, he⟩, _⟩ h => wpAny_pyIter_enum he h
def iEnumT (K : PySem.W.Frag) (ta : TA) : TI := fun σ H R => ta σ H fun vs H1 => ∃ a xs, vs = [.ref a] ∧ SqT K H1 a xs ∧ R (IteT K a) H1
theorem pi_enumT {X : Cx} {e : Expr} {ta : TA} {p pos tpos : Pos} {elts : List Expr} {kk : Nat} (gl : Gl X "enumerate") (no : X.mg "enumerate" = none) (pa : PA X [e] ta) (hs : starEach [e] X.env = [(false, eval e X.env)] := by rfl) :
    PI X (.Tuple elts kk tpos) (.Call (.Name "enumerate" p) [e] [] pos) (iEnumT X.K ta) := by
  refine ⟨fun pins s σ H R I h => Call_ (ld_blt I gl no boot_enumerate (PyProof.Rows.callWith_type1 (thn (pa.run pos pins s σ H _ I h) fun us s1 ⟨vs, H1, I1, r1, a, xs, ex, hq, q⟩ => ?_) hs rfl))⟩
  subst ex
  cases r1 with
  | cons r rr =>
    cases rr
    cases r
    obtain ⟨its, rv, pp, hz⟩ := I1.tuple hq
    have pT : s1.heap.IsTuple a its.toArray := pp
    refine enumMade (begins_tuple a its.toArray) pT fun h1 he hi hk => wpAny_pyIter_enum he ?_
    have I2 : Inv X pins σ H1 { s1 with heap := h1 } := I1.kept (t' := s1.toks) hk
    refine ⟨s1.heap.objs.size + 1, [s1.heap.objs.size + 1, s1.heap.objs.size], _, _, H1, rfl, I2, turn_enumT a (s1.heap.objs.size + 1) s1.heap.objs.size, ⟨⟨.none, he⟩, ⟨_, hi, rfl, rfl⟩, Nat.succ_ne_self _⟩, fun b hb => ?_, q⟩
    have hle : s1.heap.objs.size ≤ b := by
      rcases List.mem_cons.mp hb with z | z
      · exact z ▸ Nat.le_add_right _ _
      · exact List.mem_singleton.mp z ▸ Nat.le_refl _
    exact I1.fpOk hle (I1.hok.fresh hle)
end Jg
namespace Jg
open PySem PySem.Spec PyProof.Rows L2
def isSt : PyData → Bool
  | .str _ => true | _ => false
theorem kStr {K : PySem.W.Frag} : ∀ d : PyData, PySem.W.kitOne K (.type (tyN d)) (.type "str") = some (isSt d)
  | .none => kit_ty (a := "NoneType") (by show kitB "NoneType" "str" = some false; decide +kernel)
  | .bool _ => kit_ty (a := "bool") (by show kitB "bool" "str" = some false; decide +kernel)
  | .int _ => kit_ty (a := "int") (by show kitB "int" "str" = some false; decide +kernel)
  | .str _ => kit_ty (a := "str") (by show kitB "str" "str" = some true; decide +kernel)
  | .list _ => kit_ty (a := "list") (by show kitB "list" "str" = some false; decide +kernel)
  | .tuple _ => kit_ty (a := "tuple") (by show kitB "tuple" "str" = some false; decide +kernel)
  | .dict _ => kit_ty (a := "dict") (by show kitB "dict" "str" = some false; decide +kernel)
theorem isSt_of {D B : Addr} {H : Hp} {v : V} {d : PyData} (hd : Dq D B H v d) (h : isSt d = true) : ∃ x, d = .str x ∧ v = .str x := by
  cases hd <;> first | exact ⟨_, rfl, rfl⟩ | cases h
theorem inV3 (x a b c : Str) : inV (.str x) [.str a, .str b, .str c] = (decide (x = a) || decide (x = b) || decide (x = c)) := by
  have h : ∀ k : Str, eqV (.str k) (.str x) = decide (x = k) := fun k => by
    show decide (k = x) = decide (x = k)
    by_cases e : x = k
    · rw [decide_eq_true e, decide_eq_true e.symm]
    · rw [decide_eq_false e, decide_eq_false fun z => e z.symm]
  show (eqV (.str a) (.str x) || (eqV (.str b) (.str x) || (eqV (.str c) (.str x) || false))) = _
  rw [h, h, h, Bool.or_false, Bool.or_assoc]
theorem ones_eqv (m : Nat) : PyData.eqv (.list ((List.replicate m (1 : Int)).map PyData.int)) (.list []) = decide (m = 0) := by
  cases m with
  | zero => simp [PyData.eqv, PyData.eqvAll]
  | succ m => simp [PyData.eqv, PyData.eqvAll, List.replicate_succ]
theorem dq_one {D B : Addr} {H : Hp} {xs : List V} {d : PyData} (h : DqAll D B H xs [d]) : ∃ x, xs = [x] ∧ Dq D B H x d := by
  cases h with
  | cons a h =>
    cases h
    exact ⟨_, rfl, a⟩
theorem dq_two {D B : Addr} {H : Hp} {xs : List V} {d e : PyData} (h : DqAll D B H xs [d, e]) : ∃ x y, xs = [x, y] ∧ Dq D B H x d ∧ Dq D B H y e := by
  cases h with
  | cons a h =>
    cases h with
    | cons b h =>
      cases h
      exact ⟨_, _, rfl, a, b⟩
theorem within_is {lo hi : Int} {d : PyData} (h : within lo hi d = true) : ∃ i, d = .int i ∧ lo ≤ i ∧ i ≤ hi := by
  cases d <;> first | cases h | skip
  rename_i i
  have h2 : (decide (lo ≤ i) && decide (i ≤ hi)) = true := h
  rw [Bool.and_eq_true] at h2
  exact ⟨i, rfl, of_decide_eq_true h2.1, of_decide_eq_true h2.2⟩
theorem inV2 (x a b : Str) : inV (.str x) [.str a, .str b] = (decide (x = a) || decide (x = b)) := by
  have h : ∀ k : Str, eqV (.str k) (.str x) = decide (x = k) := fun k => by
    show decide (k = x) = decide (x = k)
    by_cases e : x = k
    · rw [decide_eq_true e, decide_eq_true e.symm]
    · rw [decide_eq_false e, decide_eq_false fun z => e z.symm]
  show (eqV (.str a) (.str x) || (eqV (.str b) (.str x) || false)) = _
  rw [h, h, Bool.or_false]
theorem boot_max' : bootBuiltins "max" = some (.builtin "max") := by decide +kernel
theorem boot_sum' : bootBuiltins "sum" = some (.builtin "sum") := by decide +kernel
def wr (x : Str) : PyData := .tuple [.none, .str x]
theorem dq_three {D B : Addr} {H : Hp} {xs : List V} {d e f : PyData} (h : DqAll D B H xs [d, e, f]) : ∃ x y z, xs = [x, y, z] ∧ Dq D B H x d ∧ Dq D B H y e ∧ Dq D B H z f := by
  cases h with
  | cons a h =>
    obtain ⟨y, z, rfl, h1, h2⟩ := dq_two h
    exact ⟨_, _, _, rfl, a, h1, h2⟩
theorem three_of {ds : List PyData} (h : ds.length = 3) : ∃ a b c, ds = [a, b, c] := by
  match ds, h with
  | [a, b, c], _ => exact ⟨a, b, c, rfl⟩
theorem dq_wr {D B p : Addr} {H : Hp} {x : Str} (e : H p = some (.tup [.non, .str x])) : Dq D B H (.ref p) (wr x) := .tup e (.cons .non (.cons (.str _) .nil))
theorem dq_nr {D B p : Addr} {H : Hp} {i : Int} {x : Str} (e : H p = some (.tup [.int i, .str x])) : Dq D B H (.ref p) (.tuple [.int i, .str x]) := .tup e (.cons (.int _) (.cons (.str _) .nil))
theorem ix_tupK {X : Cx} {K : PySem.W.Frag} (h : X.K = K) : IxR X (rIxT K) := h ▸ ix_tup
def rLenQ (K : PySem.W.Frag) : List V → Hp → VK → Prop := fun zs H Q => ∃ p ys, zs = [.ref p] ∧ (SqL K H p ys ∨ SqT K H p ys) ∧ Q (.int ys.length) H
theorem call_lenK {X : Cx} {K : PySem.W.Frag} (h : X.K = K) : CallR X (.builtin "len") (rLenQ K) := h ▸ call_len_seq
theorem for_enumT {K : PySem.W.Frag} {a : Addr} {xs : List V} {g : TG} {tb : TS} {D : Ends} {σ : L2.St} {H : Hp} (Pv : Nat → L2.St → Hp → Prop) (h0 : Pv 0 σ H) (hl : ∀ i σ H, i ≤ xs.length → Pv i σ H → SqT K H a xs)
    (hs : ∀ i x T σ H, xs[i]? = some x → Pv i σ H → H T = none → g (.ref T) σ (upd H T (.tup [.int (i : Nat), x])) fun σ2 H2 => tb { D with nx := Pv (i + 1), ct := Pv (i + 1), bk := D.nx } σ2 H2) (hd : ∀ σ H, Pv xs.length σ H → D.nx σ H) :
    ∃ W : Nat → Nat → L2.St → Hp → Prop, (∃ m, W 0 m σ H) ∧ ∀ i m σ H, W i m σ H →
      ((IteT K a).stop i H ∧ D.nx σ H) ∨ ((IteT K a).go i H ∧ ∃ N : L2.St → Hp → Prop, (∀ σ' H', N σ' H' → ∃ m', m' < m ∧ W (i + 1) m' σ' H') ∧ ∀ x H', (IteT K a).yld i H x H' → g x σ H' fun σ2 H2 => tb { D with nx := N, ct := N, bk := D.nx } σ2 H2) := by
  refine ⟨fun i m σ H => m = xs.length - i ∧ i ≤ xs.length ∧ Pv i σ H, ⟨xs.length, rfl, Nat.zero_le _, h0⟩, ?_⟩
  rintro i m σ H ⟨rfl, hi, p⟩
  have q := hl i σ H hi p
  by_cases lt : i < xs.length
  · refine .inr ⟨⟨xs, xs[i], q, List.getElem?_eq_getElem lt⟩, Pv (i + 1), fun σ' H' p' => ⟨xs.length - (i + 1), by omega, rfl, lt, p'⟩, fun x H' y => ?_⟩
    obtain ⟨T, z, rfl, hT, rfl, hz⟩ := y
    exact hs i z T σ H (hz xs q) p hT
  · obtain rfl : i = xs.length := by omega
    exact .inl ⟨⟨xs, q, Nat.le_refl _⟩, hd σ H p⟩
structure Nm (K : PySem.W.Frag) (mg : Str → Option Value) (x : Str) (st : Stmt) (ps : List Str) (f : Addr) (fd : FuncData) : Prop where
  F : Fun K x x st f fd
  b : Binds K fd ps []
  g : mg x = some (.ref f)
def isNo : PyData → Bool
  | .none => true | _ => false
theorem dq_isN {D B : Addr} {H : Hp} {v : V} {d : PyData} (h : Dq D B H v d) : decide (v = .non) = isNo d := by
  cases h <;> rfl
section
variable {X : Cx} {CX : CXT} {k : Nat} {f : Addr} {fd : FuncData} {ps ks : List Str} {sp : Sp} {E : XK} {x : Str} {p pos : Pos} {kws : List Keyword} {tk : TA} {g : List Value → List Value → List Value} {gV : List V → List V → List V}
/-- f(k = v, ..), keywords alone -/
theorem pe_callKO (F : FnOk X.prog X.w X.K X.mg X.base CX k f fd ps sp) (hr : Room k X.A) (hg : Gl X x) (hm : X.mg x = some (.ref f)) (hk : PySem.W.keepIn X.K (.ref f) = true) (hb : KBinds X.K fd ps ks g gV) (hx : Passes CX X E) (hkw : PK X kws tk)
    (hall : (backToKw pos (keywordEach kws X.env)).all (·.1.isSome) = true := by rfl) (hks : (backToKw pos (keywordEach kws X.env)).filterMap (·.1) = ks := by rfl) (hdb : (x == ("__debug__" : Str)) = false := by decide)
    (hpl : ((backTo pos (starEach [] X.env)).any (·.1) || (backToKw pos (keywordEach kws X.env)).any (·.1.isNone)) = false := by rfl) : PE X (.Call (.Name x p) [] kws pos) (tCallK sp gV E tNil tk) := by
  refine ⟨fun pins s σ H Q I h => wpAny_Call_Name_kw (ld_glob I hg hm (PySem.W.callWith_KW0 (h₀ := X.base) I.ok.mod.kin hk hall ?_ hpl) hdb)⟩
  refine thn (hkw.run pos pins s σ H _ I h) fun ws s2 ⟨zs, H2, I2, rz, q2⟩ => ⟨I2.kIn, ?_⟩
  rw [hks]
  exact run_fnk (us := []) (vs := []) F hr hb hx I2 .nil rz q2
end
theorem ps_imp {X : Cx} {st : Stmt} {t t' : TS} (h : PS X st t) (k : ∀ D σ H, t' D σ H → t D σ H) : PS X st t' := ⟨fun pins s σ H D I q => h.run pins s σ H D I (k D σ H q)⟩
def fnd (ns : List Int) (i : Int) : Int := ns.getD i.toNat 0
theorem fnd_at {ns : List Int} {i : Int} (h0 : 0 ≤ i) (h1 : i < (ns.length : Int)) : atI (ns.map V.int) i = some (.int (fnd ns i)) := by
  obtain ⟨j, rfl⟩ : ∃ j : Nat, i = (j : Int) := ⟨i.toNat, by omega⟩
  have hj : j < ns.length := by omega
  refine atI_nat ?_
  rw [List.getElem?_map, List.getElem?_eq_getElem hj]
  show some (V.int ns[j]) = some (V.int (ns.getD j 0))
  rw [List.getD_eq_getElem?_getD, List.getElem?_eq_getElem hj]
  rfl
/-- a def that is called -/
structure Cal (P : Program) (w : World) (K : PySem.W.Frag) (mg : Str → Option Value) (base : Heap) (x : Str) (k : Nat) (ps : List Str) (sp : Sp) (f : Addr) (fd : FuncData) : Prop where
  F : FnOk P w K mg base CX0 k f fd ps sp
  g : mg x = some (.ref f)
  kp : PySem.W.keepIn K (.ref f) = true
  b : Binds K fd ps []
def kwOne : List Value → List Value → List Value
  | [], [v] => [v] | _, _ => []
def kwOneV : List V → List V → List V
  | [], [v] => [v] | _, _ => []
def forBody : Stmt → List Stmt
  | .For _ _ b _ _ => b | _ => []
theorem tup_ne {D B C : Addr} {cells : List Int} {H : Hp} {xs : List V} {b : Addr} (k : DeckAt D B C cells H) (e : H b = some (.tup xs)) : b ≠ D ∧ b ≠ B := by
  obtain ⟨x1, g1⟩ := k.isD
  obtain ⟨x2, g2⟩ := k.isB
  exact ⟨(fun z => by rw [z, g1] at e; cases e), (fun z => by rw [z, g2] at e; cases e)⟩
section
variable {σ : L2.St} {v : Option V}
theorem get_set_ne {i j : Nat} (h : i ≠ j) : (σ.set i v)[j]? = σ[j]? := List.getElem?_set_ne h
theorem get_set_eq {i : Nat} (h : i < σ.length) : (σ.set i v)[i]? = some v := by
  rw [List.getElem?_set_self h]
end
section
variable {σ : L2.St} {i j k : Nat} {x y : Option V}
theorem wipe1 : wipe ((wipe σ [i]).set i x) [i] = wipe σ [i] := by
  show ((σ.set i none).set i x).set i none = σ.set i none
  rw [List.set_set, List.set_set]
theorem wipe2 (h : i ≠ j) : wipe (((wipe σ [i, j]).set i x).set j y) [i, j] = wipe σ [i, j] := by
  show (((((σ.set j none).set i none).set i x).set j y).set j none).set i none = (σ.set j none).set i none
  rw [List.set_set, List.set_set, List.set_comm _ _ h, List.set_set, List.set_set]
theorem w1_own (h : i < σ.length) : ((wipe σ [i]).set i x)[i]? = some x := get_set_eq (by rw [wipe_length]; exact h)
theorem w1_out (h : i ≠ k) : ((wipe σ [i]).set i x)[k]? = σ[k]? := by
  rw [get_set_ne h]
  exact get_set_ne h
theorem w2_one (h : i < σ.length) (hij : i ≠ j) : (((wipe σ [i, j]).set i x).set j y)[i]? = some x := by
  rw [get_set_ne hij.symm]
  exact get_set_eq (by rw [wipe_length]; exact h)
theorem w2_two (h : j < σ.length) : (((wipe σ [i, j]).set i x).set j y)[j]? = some y := get_set_eq (by rw [List.length_set, wipe_length]; exact h)
theorem w2_out (h1 : i ≠ k) (h2 : j ≠ k) : (((wipe σ [i, j]).set i x).set j y)[k]? = σ[k]? := by
  rw [get_set_ne h2, get_set_ne h1]
  show ((σ.set j none).set i none)[k]? = σ[k]?
  rw [get_set_ne h1, get_set_ne h2]
end
theorem DeckAt.but {D B C L : Addr} {cells : List Int} {H H' : Hp} (d : DeckAt D B C cells H) (f : ∀ b o, b ≠ L → H b = some o → H' b = some o) (hD : D ≠ L) (hB : B ≠ L) (hC : C ≠ L) : DeckAt D B C cells H' := by
  obtain ⟨n, hn⟩ := d.top
  obtain ⟨bs, hl, hb⟩ := d.big
  exact ⟨d.db, d.dc, d.bc, d.ne, d.len, ⟨n, f _ _ hD hn⟩, ⟨bs, hl, f _ _ hB hb⟩, f _ _ hC d.cel⟩
/-- plain data stays where all but one list stays -/
theorem plain_keep {D B L : Addr} {H H' : Hp} {ys : List V} (eL : H L = some (.lst ys)) (f : ∀ b o, b ≠ L → H b = some o → H' b = some o) : ∀ (n : Nat) (d : PyData) (v : V), Plain n d → Dq D B H v d → Dq D B H' v d
  | 0, d, v, h, hd => by
    rcases h with ⟨i, rfl, _⟩ | ⟨x, rfl, _⟩
    · cases hd
      exact .int i
    · cases hd
      exact .str x
  | n + 1, d, v, h, hd => by
    rcases h with h | ⟨ds, rfl, hl, hx⟩
    · rcases h with ⟨i, rfl, _⟩ | ⟨x, rfl, _⟩
      · cases hd
        exact .int i
      · cases hd
        exact .str x
    · obtain ⟨a, xs, rfl, e, ha⟩ := hd.tupE
      refine .tup (f _ _ (fun z => by rw [z, eL] at e; cases e) e) ?_
      clear e hl hd
      induction ha using DqAll.rec (motive_1 := fun _ _ _ => True) with
      | nil => exact .nil
      | cons h1 h2 _ ih => exact .cons (plain_keep eL f n _ _ (hx _ List.mem_cons_self) h1) (ih fun x hm => hx x (List.mem_cons_of_mem _ hm))
      | _ => trivial
theorem plain_keepAll {D B L : Addr} {H H' : Hp} {ys : List V} (eL : H L = some (.lst ys)) (f : ∀ b o, b ≠ L → H b = some o → H' b = some o) {n : Nat} : ∀ {xs : List V} {ds : List PyData}, (∀ x ∈ ds, Plain n x) → DqAll D B H xs ds → DqAll D B H' xs ds
  | _, _, _, .nil => .nil
  | _, _, hx, .cons a b => .cons (plain_keep eL f n _ _ (hx _ List.mem_cons_self) a) (plain_keepAll eL f (fun x hm => hx x (List.mem_cons_of_mem _ hm)) b)
abbrev sFar : Stmt := topS 17
abbrev sNum : Stmt := topS 18
theorem scFar : FnScope ["_law_deck_here", "_law_many", "_law_found", "_law_turn"] ["_law_deck_here", "_law_many"] (defScope sFar) := ⟨rfl, rfl, rfl, by decide +kernel, rfl, by decide +kernel, by decide +kernel⟩
theorem scNum : FnScope ["_law_deck_here", "_law_most"] ["_law_deck_here"] (defScope sNum) := ⟨rfl, rfl, rfl, by decide +kernel, rfl, by decide +kernel, by decide +kernel⟩
structure Fa (K : PySem.W.Frag) (mg : Str → Option Value) (f : Addr) (fd : FuncData) : Prop where
  F : Fun K "_law_far" "_law_far" sFar f fd
  b : Binds K fd ["_law_deck_here", "_law_many"] []
  g : mg "_law_far" = some (.ref f)
structure Nu (K : PySem.W.Frag) (mg : Str → Option Value) (f : Addr) (fd : FuncData) : Prop where
  F : Fun K "_law_number" "_law_number" sNum f fd
  b : Binds K fd ["_law_deck_here"] []
  g : mg "_law_number" = some (.ref f)
def spFar : Sp := fun vs H Q _ => ∃ (D B C : Addr) (cells : List Int) (m : Int), vs = [.ref D, .int m] ∧ DeckAt D B C cells H ∧ 0 < m ∧
  ∀ (i : Int) (H' : Hp), 0 ≤ i → i < m → DeckAt D B C cells H' → Fr D B H H' → Q (.int i) H'
def spNum : Sp := fun vs H Q _ => ∃ (D B C : Addr) (cells : List Int), vs = [.ref D] ∧ DeckAt D B C cells H ∧
  ∀ (i : Int) (H' : Hp), -M20 ≤ i → i ≤ M20 → DeckAt D B C cells H' → Fr D B H H' → Q (.int i) H'
section
variable {P : Program} {w : World} {K : PySem.W.Frag} {mg : Str → Option Value} {base : Heap}
theorem ok_far {f fD : Addr} {fd fdD : FuncData} (F : Fa K mg f fd) (FD : Dr K mg fD fdD) (T : Bn mg) : FnOk P w K mg base CX0 2 f fd ["_law_deck_here", "_law_many"] spFar := by
  have GD : FnOk P w K mg base CX0 1 fD fdD ["_law_deck_here", "_law_many"] spDraw := ok_draw FD.F T.int T.len
  refine F.F.ok scFar (fun vs H Q E h => ?_) (fun cdv A outer s H vs Q E hr h => ?_)
  · obtain ⟨D, B, C, cells, m, rfl, _⟩ := h
    rfl
  · obtain ⟨D, B, C, cells, m, rfl, dk, hm, q⟩ := h
    refine ⟨_, pss_cons (ps_set (i := 2) scFar.nd rfl (.inl rfl) pe_int)
      (pss_cons (ps_for PassesOwn.never rfl (pi_range1 rfl T.rng (pa_cons pe_int pa_nil)) (pg_name (i := 3) scFar.nd rfl (.inl rfl))
        (pss_one (ps_set (i := 2) scFar.nd rfl (.inl rfl) (pe_op op_add (pe_op op_mul (pv 2) pe_int) (pe_call GD hr (by rfl) FD.g FD.F.kp FD.b .nil pass0 (pa_cons (pv 0) (pa_cons pe_int pa_nil)))))))
      (pss_one (ps_ret (pe_op op_mod (pe_callTy call_int1 (by rfl) T.int PyProof.Rows.boot_int (pa_cons (pv 2) pa_nil)) (pv 1))))), ?_⟩
    refine ⟨12, rfl, by decide, by decide, for_range (n := 12) (fun i σ H3 => ∃ (y : Int) (y3 : Option V), σ = [some (.ref D), some (.int m), some (.int y), y3] ∧ DeckAt D B C cells H3 ∧ Fr D B H H3) ⟨0, none, rfl, dk, Fr.refl D B H⟩ ?_ ?_⟩
    · rintro i σ H3 hi ⟨y, y3, rfl, dk3, f3⟩
      refine ⟨_, rfl, _, _, rfl, rfl, .inr ⟨by decide, by decide⟩, _, rfl, D, B, C, cells, 1000, rfl, dk3, by decide, by decide, fun j H4 j0 j1 dk4 f4 => ⟨_, _, rfl, rfl, _, _, rfl, dk4, f3.trans f4⟩⟩
    · rintro σ H3 ⟨y, y3, rfl, dk3, f3⟩
      exact ⟨_, rfl, .inl ⟨y, rfl, _, rfl, _, _, rfl, rfl, hm, q _ _ (Int.emod_nonneg _ (by omega)) (Int.emod_lt_of_pos _ hm) dk3 f3⟩⟩
theorem ok_num {f fO fD fF : Addr} {fd fdO fdD fdF : FuncData} (F : Nu K mg f fd) (FF : Fa K mg fF fdF) (FO : On K mg fO fdO) (FD : Dr K mg fD fdD) (T : Bn mg) : FnOk P w K mg base CX0 3 f fd ["_law_deck_here"] spNum := by
  have GO : FnOk P w K mg base CX0 2 fO fdO ["_law_deck_here", "_law_items"] spOne := ok_one FO.F FD.F FD.b FD.g T.int T.len
  have GF : FnOk P w K mg base CX0 2 fF fdF ["_law_deck_here", "_law_many"] spFar := ok_far FF FD T
  refine F.F.ok scNum (fun vs H Q E h => ?_) (fun cdv A outer s H vs Q E hr h => ?_)
  · obtain ⟨D, B, C, cells, rfl, _⟩ := h
    rfl
  · obtain ⟨D, B, C, cells, rfl, dk, q⟩ := h
    refine ⟨_, pss_cons (ps_set (i := 1) scNum.nd rfl (.inl rfl) (pe_call GO hr (by rfl) FO.g FO.F.kp FO.b .nil pass0 (pa_cons (pv 0) (pa_cons (pe_lst (pa_cons pe_int (pa_cons pe_int (pa_cons pe_int (pa_cons (pe_op op_pow pe_int pe_int) (pa_cons (pe_op op_pow pe_int pe_int) pa_nil)))))) pa_nil))))
      (pss_one (ps_ret (pe_op op_mul (pe_call GO hr (by rfl) FO.g FO.F.kp FO.b .nil pass0 (pa_cons (pv 0) (pa_cons (pe_lst (pa_cons pe_int (pa_cons (pe_un un_neg pe_int) pa_nil))) pa_nil)))
        (pe_call GF hr (by rfl) FF.g FF.F.kp FF.b .nil pass0 (pa_cons (pv 0) (pa_cons (pe_op op_add (pv 1) pe_int) pa_nil)))))), ?_⟩
    refine ⟨_, rfl, _, _, rfl, rfl, ⟨by decide, by decide, by decide⟩, _, _, rfl, rfl, ⟨by decide, by decide, by decide⟩, sz1 rfl, fun p1 n1 => ?_⟩
    have s1 := same_upd (o := .lst [.int 3, .int 10, .int 1000, .int (10 ^ (9 : Int).toNat), .int (10 ^ (20 : Int).toNat)]) n1
    refine ⟨D, B, C, cells, p1, _, rfl, dk.same s1, upd_same, dk.neD n1, dk.neB n1, by show 0 < 5; decide, by show 5 < 1073741824; decide, fun i v H2 hv dk2 f2 => ?_⟩
    obtain ⟨m, rfl, m0, m1⟩ : ∃ m : Int, v = .int m ∧ 0 ≤ m ∧ m ≤ M20 := by
      match i, hv with
      | 0, hv => exact ⟨3, (Option.some.inj hv).symm, by decide, by decide⟩
      | 1, hv => exact ⟨10, (Option.some.inj hv).symm, by decide, by decide⟩
      | 2, hv => exact ⟨1000, (Option.some.inj hv).symm, by decide, by decide⟩
      | 3, hv => exact ⟨_, (Option.some.inj hv).symm, by decide, by decide⟩
      | 4, hv => exact ⟨_, (Option.some.inj hv).symm, by decide, by decide⟩
      | n + 5, hv => cases hv
    refine ⟨_, rfl, _, rfl, sz1 rfl, fun p3 n3 => ?_⟩
    have s3 := same_upd (o := .lst [.int 1, .int (-1)]) n3
    refine ⟨D, B, C, cells, p3, _, rfl, dk2.same s3, upd_same, dk2.neD n3, dk2.neB n3, by show 0 < 2; decide, by show 2 < 1073741824; decide, fun i4 v4 H4 hv4 dk4 f4 => ?_⟩
    refine ⟨_, rfl, _, rfl, _, _, rfl, rfl, D, B, C, cells, m + 1, rfl, dk4, by omega, fun j H5 j0 j1 dk5 f5 => ?_⟩
    have fAll : Fr D B H H5 := ((Fr.of_same s1).trans f2).trans (((Fr.of_same s3).trans f4).trans f5)
    match i4, hv4 with
    | 0, hv4 =>
      have e : v4 = .int 1 := (Option.some.inj hv4).symm
      subst e
      refine ⟨1, j, rfl, rfl, .inl ⟨by decide, by decide⟩, q (1 * j) H5 ?_ ?_ dk5 fAll⟩
      · have e : (M20 : Int) = 100000000000000000000 := by decide
        omega
      · omega
    | 1, hv4 =>
      have e : v4 = .int (-1) := (Option.some.inj hv4).symm
      subst e
      refine ⟨-1, j, rfl, rfl, .inl ⟨by decide, by decide⟩, q (-1 * j) H5 ?_ ?_ dk5 fAll⟩
      · omega
      · have e : (M20 : Int) = 100000000000000000000 := by decide
        omega
    | n + 2, hv4 => cases hv4
end
end Jg
namespace Jg
open PySem PySem.Spec PyProof.Rows L2
/-! ### moves and degrees -/
def spotsOf (x : Str) : Option (Nat × Bool) := if x = Str.ofString "gain" then some (2, true) else if x = Str.ofString "add" then some (3, true) else if x = Str.ofString "swap" then some (2, false) else if x = Str.ofString "turn" then some (1, false) else if x = Str.ofString "more" then some (1, true) else none
def eqI (i : Int) : PyData → Bool
  | .int j => decide (j = i) | _ => false
def apart : List PyData → Bool
  | .int i :: r => !r.any (eqI i) | _ => true
def isMv (pl : Int) : PyData → Bool
  | .tuple (.str x :: ds) => match spotsOf x with
    | some (k, b) => decide (ds.length = k + b.toNat) && ((ds.take k).all (within 0 (pl - 1)) && (apart (ds.take k) && (ds.drop k).all isIn))
    | none => false
  | _ => false
theorem isIn_is {d : PyData} (h : isIn d = true) : ∃ i, d = .int i := by
  cases d <;> first | exact ⟨_, rfl⟩ | cases h
theorem spots_is {x : Str} {k : Nat} {b : Bool} (h : spotsOf x = some (k, b)) : (x = Str.ofString "gain" ∧ k = 2 ∧ b = true) ∨ (x = Str.ofString "add" ∧ k = 3 ∧ b = true) ∨ (x = Str.ofString "swap" ∧ k = 2 ∧ b = false) ∨ (x = Str.ofString "turn" ∧ k = 1 ∧ b = false) ∨ (x = Str.ofString "more" ∧ k = 1 ∧ b = true) := by
  unfold spotsOf at h
  split at h
  · cases h
    exact .inl ⟨‹_›, rfl, rfl⟩
  · split at h
    · cases h
      exact .inr (.inl ⟨‹_›, rfl, rfl⟩)
    · split at h
      · cases h
        exact .inr (.inr (.inl ⟨‹_›, rfl, rfl⟩))
      · split at h
        · cases h
          exact .inr (.inr (.inr (.inl ⟨‹_›, rfl, rfl⟩)))
        · split at h
          · cases h
            exact .inr (.inr (.inr (.inr ⟨‹_›, rfl, rfl⟩)))
          · cases h
theorem isMv_parts {pl : Int} {d : PyData} (h : isMv pl d = true) : ∃ x ds k b, d = .tuple (.str x :: ds) ∧ spotsOf x = some (k, b) ∧ ds.length = k + b.toNat ∧ (ds.take k).all (within 0 (pl - 1)) = true ∧ apart (ds.take k) = true ∧ (ds.drop k).all isIn = true := by
  unfold isMv at h
  split at h
  · rename_i x ds
    split at h
    · rename_i k b hs
      rw [Bool.and_eq_true, Bool.and_eq_true, Bool.and_eq_true] at h
      exact ⟨x, ds, k, b, rfl, hs, of_decide_eq_true h.1, h.2.1, h.2.2.1, h.2.2.2⟩
    · cases h
  · cases h
/-- the five moves -/
inductive Mv (pl : Int) : PyData → Prop
  | gain {i j c : Int} : 0 ≤ i → i < pl → 0 ≤ j → j < pl → Mv pl (.tuple [.str (Str.ofString "gain"), .int i, .int j, .int c])
  | add {i j k c : Int} : 0 ≤ i → i < pl → 0 ≤ j → j < pl → 0 ≤ k → k < pl → Mv pl (.tuple [.str (Str.ofString "add"), .int i, .int j, .int k, .int c])
  | swap {i j : Int} : 0 ≤ i → i < pl → 0 ≤ j → j < pl → Mv pl (.tuple [.str (Str.ofString "swap"), .int i, .int j])
  | turn {i : Int} : 0 ≤ i → i < pl → Mv pl (.tuple [.str (Str.ofString "turn"), .int i])
  | more {i c : Int} : 0 ≤ i → i < pl → Mv pl (.tuple [.str (Str.ofString "more"), .int i, .int c])
theorem all1 {f : PyData → Bool} {a : PyData} (h : [a].all f = true) : f a = true := by simpa using h
theorem all2 {f : PyData → Bool} {a b : PyData} (h : [a, b].all f = true) : f a = true ∧ f b = true := by simpa using h
theorem all3 {f : PyData → Bool} {a b c : PyData} (h : [a, b, c].all f = true) : f a = true ∧ f b = true ∧ f c = true := by simpa using h
theorem mv_of {pl : Int} {d : PyData} (h : isMv pl d = true) : Mv pl d := by
  obtain ⟨x, ds, k, b, rfl, hs, hl, h1, _, h2⟩ := isMv_parts h
  rcases spots_is hs with ⟨rfl, rfl, rfl⟩ | ⟨rfl, rfl, rfl⟩ | ⟨rfl, rfl, rfl⟩ | ⟨rfl, rfl, rfl⟩ | ⟨rfl, rfl, rfl⟩
  · match ds, hl with
    | [a, b, c], _ =>
      obtain ⟨w1, w2⟩ := all2 h1
      obtain ⟨i, rfl, i0, i1⟩ := within_is w1
      obtain ⟨j, rfl, j0, j1⟩ := within_is w2
      obtain ⟨c, rfl⟩ := isIn_is (all1 h2)
      exact .gain i0 (by omega) j0 (by omega)
  · match ds, hl with
    | [a, b, c, e], _ =>
      obtain ⟨w1, w2, w3⟩ := all3 h1
      obtain ⟨i, rfl, i0, i1⟩ := within_is w1
      obtain ⟨j, rfl, j0, j1⟩ := within_is w2
      obtain ⟨k, rfl, k0, k1⟩ := within_is w3
      obtain ⟨c, rfl⟩ := isIn_is (all1 h2)
      exact .add i0 (by omega) j0 (by omega) k0 (by omega)
  · match ds, hl with
    | [a, b], _ =>
      obtain ⟨w1, w2⟩ := all2 h1
      obtain ⟨i, rfl, i0, i1⟩ := within_is w1
      obtain ⟨j, rfl, j0, j1⟩ := within_is w2
      exact .swap i0 (by omega) j0 (by omega)
  · match ds, hl with
    | [a], _ =>
      obtain ⟨i, rfl, i0, i1⟩ := within_is (all1 h1)
      exact .turn i0 (by omega)
  · match ds, hl with
    | [a, c], _ =>
      obtain ⟨i, rfl, i0, i1⟩ := within_is (all1 h1)
      obtain ⟨c, rfl⟩ := isIn_is (all1 h2)
      exact .more i0 (by omega)
def mx (a b : Int) : Int := if b > a then b else a
def degD (dg : List Int) : PyData → List Int
  | .tuple [.str x, .int i, .int j] => if x = Str.ofString "swap" then (dg.set i.toNat (fnd dg j)).set j.toNat (fnd dg i) else dg
  | .tuple [.str x, .int i, .int j, .int _] => if x = Str.ofString "gain" then dg.set i.toNat (mx (fnd dg i) (fnd dg j)) else dg
  | .tuple [.str x, .int i, .int j, .int k, .int _] => if x = Str.ofString "add" then dg.set i.toNat (mx (fnd dg i) (fnd dg j + fnd dg k)) else dg
  | _ => dg
def plc : PyData → Int
  | .tuple (_ :: .int i :: _) => i | _ => 0
theorem degD_3 {dg : List Int} {x : Str} {i j : Int} : degD dg (.tuple [.str x, .int i, .int j]) = if x = Str.ofString "swap" then (dg.set i.toNat (fnd dg j)).set j.toNat (fnd dg i) else dg := rfl
theorem degD_4 {dg : List Int} {x : Str} {i j c : Int} : degD dg (.tuple [.str x, .int i, .int j, .int c]) = if x = Str.ofString "gain" then dg.set i.toNat (mx (fnd dg i) (fnd dg j)) else dg := rfl
theorem degD_5 {dg : List Int} {x : Str} {i j k c : Int} : degD dg (.tuple [.str x, .int i, .int j, .int k, .int c]) = if x = Str.ofString "add" then dg.set i.toNat (mx (fnd dg i) (fnd dg j + fnd dg k)) else dg := rfl
theorem degD_gain {dg : List Int} {i j c : Int} : degD dg (.tuple [.str (Str.ofString "gain"), .int i, .int j, .int c]) = dg.set i.toNat (mx (fnd dg i) (fnd dg j)) := by rw [degD_4, if_pos rfl]
theorem degD_add {dg : List Int} {i j k c : Int} : degD dg (.tuple [.str (Str.ofString "add"), .int i, .int j, .int k, .int c]) = dg.set i.toNat (mx (fnd dg i) (fnd dg j + fnd dg k)) := by rw [degD_5, if_pos rfl]
theorem degD_swap {dg : List Int} {i j : Int} : degD dg (.tuple [.str (Str.ofString "swap"), .int i, .int j]) = (dg.set i.toNat (fnd dg j)).set j.toNat (fnd dg i) := by rw [degD_3, if_pos rfl]
theorem degD_more {dg : List Int} {i c : Int} : degD dg (.tuple [.str (Str.ofString "more"), .int i, .int c]) = dg := by
  have h : ¬ Str.ofString "more" = Str.ofString "swap" := by decide +kernel
  have e : degD dg (.tuple [.str (Str.ofString "more"), .int i, .int c]) = if Str.ofString "more" = Str.ofString "swap" then (dg.set i.toNat (fnd dg c)).set c.toNat (fnd dg i) else dg := rfl
  rw [e, if_neg h]
theorem degD_len {pl : Int} {dg : List Int} {d : PyData} (m : Mv pl d) : (degD dg d).length = dg.length := by
  cases m with
  | gain => rw [degD_gain, List.length_set]
  | add => rw [degD_add, List.length_set]
  | swap => rw [degD_swap, List.length_set, List.length_set]
  | turn => rfl
  | more => rw [degD_more]
theorem ixN_at {n : Nat} {i : Int} (h0 : 0 ≤ i) (h1 : i < (n : Int)) : ixN n i = some i.toNat := by
  unfold ixN
  rw [if_pos h0, if_pos (by omega)]
theorem map_set {dg : List Int} {n : Nat} {v : Int} : (dg.map V.int).set n (.int v) = (dg.set n v).map V.int := by
  rw [List.map_set]
theorem fnd_le {ns : List Int} (h : ∀ n ∈ ns, n ≤ 64) (i : Int) : fnd ns i ≤ 64 := by
  show ns.getD i.toNat 0 ≤ 64
  rw [List.getD_eq_getElem?_getD]
  cases hq : ns[i.toNat]? with
  | none => decide
  | some x => exact h x (List.mem_of_getElem? hq)
theorem fnd_set {ns : List Int} {i j v : Int} (h0 : 0 ≤ i) (h1 : i < (ns.length : Int)) (j0 : 0 ≤ j) : fnd (ns.set i.toNat v) j = if i = j then v else fnd ns j := by
  show (ns.set i.toNat v).getD j.toNat 0 = if i = j then v else ns.getD j.toNat 0
  rw [List.getD_eq_getElem?_getD, List.getD_eq_getElem?_getD]
  by_cases e : i = j
  · subst e
    rw [List.getElem?_set_self (by omega), if_pos rfl]
    rfl
  · rw [List.getElem?_set_ne (by omega), if_neg e]
theorem mem_set {ns : List Int} {k : Nat} {v n : Int} (h : n ∈ ns.set k v) : n ∈ ns ∨ n = v := List.mem_or_eq_of_mem_set h
/-- a degree too great behind a move is that of its place -/
theorem deg_small {pl : Int} {dg : List Int} {d : PyData} (m : Mv pl d) (hl : (dg.length : Int) = pl) (h : ∀ n ∈ dg, n ≤ 64) (hs : fnd (degD dg d) (plc d) ≤ 64) : ∀ n ∈ degD dg d, n ≤ 64 := by
  cases m with
  | @gain i j c i0 i1 j0 j1 =>
    rw [degD_gain] at hs ⊢
    have hs2 : fnd (dg.set i.toNat (mx (fnd dg i) (fnd dg j))) i ≤ 64 := hs
    rw [fnd_set i0 (by omega) i0, if_pos rfl] at hs2
    intro n hn
    rcases mem_set hn with hn | rfl
    · exact h n hn
    · exact hs2
  | @add i j k c i0 i1 j0 j1 k0 k1 =>
    rw [degD_add] at hs ⊢
    have hs2 : fnd (dg.set i.toNat (mx (fnd dg i) (fnd dg j + fnd dg k))) i ≤ 64 := hs
    rw [fnd_set i0 (by omega) i0, if_pos rfl] at hs2
    intro n hn
    rcases mem_set hn with hn | rfl
    · exact h n hn
    · exact hs2
  | swap i0 i1 j0 j1 =>
    rw [degD_swap]
    intro n hn
    rcases mem_set hn with hn | rfl
    · rcases mem_set hn with hn | rfl
      · exact h n hn
      · exact fnd_le h _
    · exact fnd_le h _
  | turn => exact h
  | more =>
    rw [degD_more]
    exact h
theorem deg_big {pl : Int} {dg : List Int} {d : PyData} (m : Mv pl d) (hl : (dg.length : Int) = pl) : fnd (degD dg d) (plc d) ∈ degD dg d := by
  have hl2 := degD_len (dg := dg) m
  have key : ∀ i : Int, 0 ≤ i → i < pl → fnd (degD dg d) i ∈ degD dg d := fun i i0 i1 => by
    show (degD dg d).getD i.toNat 0 ∈ _
    rw [List.getD_eq_getElem?_getD, List.getElem?_eq_getElem (by omega)]
    exact List.getElem_mem _
  cases m with
  | gain i0 i1 => exact key _ i0 i1
  | add i0 i1 => exact key _ i0 i1
  | swap i0 i1 => exact key _ i0 i1
  | turn i0 i1 => exact key _ i0 i1
  | more i0 i1 => exact key _ i0 i1
abbrev sDeepen : Stmt := topS 6
theorem scDeepen : FnScope ["degrees", "move", "word", "place"] ["degrees", "move"] (defScope sDeepen) := ⟨rfl, rfl, rfl, by decide +kernel, rfl, by decide +kernel, by decide +kernel⟩
abbrev sDegs : Stmt := topS 22
abbrev nDegs : List Str := ["_law_degrees_here", "_law_move_here", "_law_found", "_law_first", "_law_second"]
theorem scDegs : FnScope nDegs ["_law_degrees_here", "_law_move_here"] (defScope sDegs) := ⟨rfl, rfl, rfl, by decide +kernel, rfl, by decide +kernel, by decide +kernel⟩
theorem w_ne : ¬ Str.ofString "add" = Str.ofString "gain" ∧ ¬ Str.ofString "swap" = Str.ofString "gain" ∧ ¬ Str.ofString "swap" = Str.ofString "add" ∧ ¬ Str.ofString "turn" = Str.ofString "gain" ∧ ¬ Str.ofString "turn" = Str.ofString "add" ∧ ¬ Str.ofString "turn" = Str.ofString "swap" ∧
    ¬ Str.ofString "more" = Str.ofString "gain" ∧ ¬ Str.ofString "more" = Str.ofString "add" ∧ ¬ Str.ofString "more" = Str.ofString "swap" ∧ ¬ Str.ofString "more" = Str.ofString "turn" := by decide +kernel
theorem dqInts {D B : Addr} {H : Hp} {x : Str} : ∀ {xs : List V} {ns : List Int}, DqAll D B H xs (.str x :: ns.map PyData.int) → xs = .str x :: ns.map V.int := by
  intro xs ns h
  cases h with
  | cons a r =>
    cases a
    have key : ∀ {zs : List V} {ms : List Int}, DqAll D B H zs (ms.map PyData.int) → zs = ms.map V.int := by
      intro zs ms
      induction ms generalizing zs with
      | nil =>
        intro h
        cases h
        rfl
      | cons m ms ih =>
        intro h
        cases h with
        | cons a r =>
          cases a
          rw [ih r]
          rfl
    rw [key r]
section
variable {P : Program} {w : World} {K : PySem.W.Frag} {mg : Str → Option Value} {base : Heap}
def spDeepen : Sp := fun vs H Q _ => ∃ (D B L : Addr) (v : V) (d : PyData) (pl : Int) (dg : List Int), vs = [.ref L, v] ∧ Dq D B H v d ∧ Mv pl d ∧ H L = some (.lst (dg.map V.int)) ∧ (dg.length : Int) = pl ∧
  ∀ H', H' L = some (.lst ((degD dg d).map V.int)) → (∀ b o, b ≠ L → H b = some o → H' b = some o) → Q (.bl (decide (fnd (degD dg d) (plc d) ≤ 64))) H'
set_option maxHeartbeats 4000000 in
theorem ok_deepen {f : Addr} {fd : FuncData} {tk : Tok} (F : Nm K mg "_deepen" sDeepen ["degrees", "move"] f fd) (gS : mg "MAX_SIZE" = some (.int 64 tk)) (T : Bn mg) : FnOk P w K mg base CX0 1 f fd ["degrees", "move"] spDeepen := by
  refine F.F.ok scDeepen (fun vs H Q E h => ?_) (fun cdv A outer s H vs Q E hr h => ?_)
  · obtain ⟨D, B, L, v, d, pl, dg, rfl, _⟩ := h
    rfl
  · obtain ⟨D, B, L, v, d, pl, dg, rfl, hd, m, eL, hl, q⟩ := h
    refine ⟨_, pss_cons (ps_par (i := 2) (j := 3) rfl scDeepen.nd rfl rfl (by decide) rfl rfl (pa_cons (pe_ix ix_tup (pv 1) pe_int (fun _ _ => rfl)) (pa_cons (pe_ix ix_tup (pv 1) pe_int (fun _ _ => rfl)) pa_nil)) rfl)
      (pss_cons (ps_if (pt_cmpR op_eq (pv 2) pe_str (nomark _)) (pss_one (ps_asg (pe_callB (call_max2 rfl) (by rfl) T.max boot_max' (pa_cons (pe_ix ix_list (pv 0) (pv 3) (fun _ _ => rfl)) (pa_cons (pe_ix ix_list (pv 0) (pe_ix ix_tup (pv 1) pe_int (fun _ _ => rfl)) (fun _ _ => rfl)) pa_nil))) (pg_sub (pv 0) (pv 3) set_list)))
        (pss_one (ps_if (pt_cmpR op_eq (pv 2) pe_str (nomark _)) (pss_one (ps_asg (pe_callB (call_max2 rfl) (by rfl) T.max boot_max' (pa_cons (pe_ix ix_list (pv 0) (pv 3) (fun _ _ => rfl)) (pa_cons (pe_op op_add (pe_ix ix_list (pv 0) (pe_ix ix_tup (pv 1) pe_int (fun _ _ => rfl)) (fun _ _ => rfl)) (pe_ix ix_list (pv 0) (pe_ix ix_tup (pv 1) pe_int (fun _ _ => rfl)) (fun _ _ => rfl))) pa_nil))) (pg_sub (pv 0) (pv 3) set_list)))
          (pss_one (ps_if (pt_cmpR op_eq (pv 2) pe_str (nomark _)) (pss_one (ps_asg (pe_tup (pa_cons (pe_ix ix_list (pv 0) (pe_ix ix_tup (pv 1) pe_int (fun _ _ => rfl)) (fun _ _ => rfl)) (pa_cons (pe_ix ix_list (pv 0) (pv 3) (fun _ _ => rfl)) pa_nil)))
            (pg_tup rfl (pgs_cons (pg_sub (pv 0) (pv 3) set_list) (pgs_cons (pg_sub (pv 0) (pe_ix ix_tup (pv 1) pe_int (fun _ _ => rfl)) set_list) pgs_nil))))) pss_nil)))))
      (pss_one (ps_ret (pe_cmpR op_le (pe_ix ix_list (pv 0) (pv 3) (fun _ _ => rfl)) (pe_glob (v := .int 64) rfl gS ⟨_, rfl⟩) (nomark _))))), ?_⟩
    obtain ⟨n1, n2, n3, n4, n5, n6, n7, n8, n9, _⟩ := w_ne
    have keep : ∀ {o : HO} (b : Addr) (o' : HO), b ≠ L → H b = some o' → (upd H L o) b = some o' := fun b o' hb h => by
      rw [upd_ne hb]
      exact h
    have fin : ∀ {i : Int} {dg' : List Int}, 0 ≤ i → i < pl → dg'.length = dg.length → atI (dg'.map V.int) i = some (.int (fnd dg' i)) := fun i0 i1 e => fnd_at i0 (by omega)
    cases m with
    | @gain i j c i0 i1 j0 j1 =>
      rw [degD_gain] at q
      obtain ⟨a, xs, rfl, e, ha⟩ := hd.tupE
      obtain rfl := dqInts (ns := [i, j, c]) ha
      refine ⟨_, rfl, a, _, 0, .str (Str.ofString "gain"), rfl, rfl, SqT.of e, atI_nat (j := 0) rfl, _, rfl, a, _, 1, .int i, rfl, rfl, SqT.of e, atI_nat (j := 1) rfl, _, _, rfl, ?_⟩
      refine ⟨_, rfl, rfl, _, rfl, ite2 (fun _ => ?_) (fun c => absurd (decide_eq_true rfl) c)⟩
      refine ⟨_, rfl, _, rfl, L, _, i, .int (fnd dg i), rfl, rfl, SqL.of eL, fin i0 i1 rfl, _, rfl, _, rfl, a, _, 2, .int j, rfl, rfl, SqT.of e, atI_nat (j := 2) rfl, L, _, j, .int (fnd dg j), rfl, rfl, SqL.of eL, fin j0 j1 rfl, _, _, rfl, ?_⟩
      refine ⟨_, rfl, _, rfl, L, _, i, i.toNat, rfl, rfl, eL, ixN_at i0 (by rw [List.length_map]; omega), ?_⟩
      refine ⟨_, rfl, _, rfl, L, _, i, .int (fnd (dg.set i.toNat (mx (fnd dg i) (fnd dg j))) i), rfl, rfl, SqL.of upd_same, ?_, _, _, rfl, rfl, q _ ?_ keep⟩
      · rw [show (if fnd dg j > fnd dg i then fnd dg j else fnd dg i) = mx (fnd dg i) (fnd dg j) from rfl, map_set]
        exact fin i0 i1 (by rw [List.length_set])
      · rw [upd_same, ← map_set]
        rfl
    | @add i j k c i0 i1 j0 j1 k0 k1 =>
      rw [degD_add] at q
      obtain ⟨a, xs, rfl, e, ha⟩ := hd.tupE
      obtain rfl := dqInts (ns := [i, j, k, c]) ha
      refine ⟨_, rfl, a, _, 0, .str (Str.ofString "add"), rfl, rfl, SqT.of e, atI_nat (j := 0) rfl, _, rfl, a, _, 1, .int i, rfl, rfl, SqT.of e, atI_nat (j := 1) rfl, _, _, rfl, ?_⟩
      refine ⟨_, rfl, rfl, _, rfl, ite2 (fun c => absurd (V.str.inj (of_decide_eq_true c)) n1) (fun _ => ?_)⟩
      refine ⟨_, rfl, rfl, _, rfl, ite2 (fun _ => ?_) (fun c => absurd (decide_eq_true rfl) c)⟩
      refine ⟨_, rfl, _, rfl, L, _, i, .int (fnd dg i), rfl, rfl, SqL.of eL, fin i0 i1 rfl, _, rfl, _, rfl, a, _, 2, .int j, rfl, rfl, SqT.of e, atI_nat (j := 2) rfl, L, _, j, .int (fnd dg j), rfl, rfl, SqL.of eL, fin j0 j1 rfl, _, rfl, _, rfl, a, _, 3, .int k, rfl, rfl, SqT.of e, atI_nat (j := 3) rfl, L, _, k, .int (fnd dg k), rfl, rfl, SqL.of eL, fin k0 k1 rfl, _, _, rfl, rfl, _, _, rfl, ?_⟩
      refine ⟨_, rfl, _, rfl, L, _, i, i.toNat, rfl, rfl, eL, ixN_at i0 (by rw [List.length_map]; omega), ?_⟩
      refine ⟨_, rfl, _, rfl, L, _, i, .int (fnd (dg.set i.toNat (mx (fnd dg i) (fnd dg j + fnd dg k))) i), rfl, rfl, SqL.of upd_same, ?_, _, _, rfl, rfl, q _ ?_ keep⟩
      · rw [show (if fnd dg j + fnd dg k > fnd dg i then fnd dg j + fnd dg k else fnd dg i) = mx (fnd dg i) (fnd dg j + fnd dg k) from rfl, map_set]
        exact fin i0 i1 (by rw [List.length_set])
      · rw [upd_same, ← map_set]
        rfl
    | @swap i j i0 i1 j0 j1 =>
      rw [degD_swap] at q
      obtain ⟨a, xs, rfl, e, ha⟩ := hd.tupE
      obtain rfl := dqInts (ns := [i, j]) ha
      refine ⟨_, rfl, a, _, 0, .str (Str.ofString "swap"), rfl, rfl, SqT.of e, atI_nat (j := 0) rfl, _, rfl, a, _, 1, .int i, rfl, rfl, SqT.of e, atI_nat (j := 1) rfl, _, _, rfl, ?_⟩
      refine ⟨_, rfl, rfl, _, rfl, ite2 (fun c => absurd (V.str.inj (of_decide_eq_true c)) n2) (fun _ => ?_)⟩
      refine ⟨_, rfl, rfl, _, rfl, ite2 (fun c => absurd (V.str.inj (of_decide_eq_true c)) n3) (fun _ => ?_)⟩
      refine ⟨_, rfl, rfl, _, rfl, ite2 (fun _ => ?_) (fun c => absurd (decide_eq_true rfl) c)⟩
      refine ⟨_, rfl, _, rfl, a, _, 2, .int j, rfl, rfl, SqT.of e, atI_nat (j := 2) rfl, L, _, j, .int (fnd dg j), rfl, rfl, SqL.of eL, fin j0 j1 rfl, _, rfl, _, rfl, L, _, i, .int (fnd dg i), rfl, rfl, SqL.of eL, fin i0 i1 rfl, sz1 rfl, fun t nt => ?_⟩
      have st := same_upd (o := .tup [.int (fnd dg j), .int (fnd dg i)]) nt
      have eLt := st _ _ eL
      have et := st _ _ e
      refine ⟨t, _, rfl, SqT.of upd_same, rfl, .int (fnd dg j), [.int (fnd dg i)], rfl, ?_⟩
      refine ⟨_, rfl, _, rfl, L, _, i, i.toNat, rfl, rfl, eLt, ixN_at i0 (by rw [List.length_map]; omega), ?_⟩
      have fL : ∀ b o, b ≠ L → (upd H t (.tup [.int (fnd dg j), .int (fnd dg i)])) b = some o → (upd (upd H t (.tup [.int (fnd dg j), .int (fnd dg i)])) L (.lst ((dg.map V.int).set i.toNat (.int (fnd dg j))))) b = some o := fun b o hb h => by
        rw [upd_ne hb]
        exact h
      have aL : a ≠ L := fun z => by
        rw [z, eL] at e
        cases e
      refine ⟨.int (fnd dg i), [], rfl, _, rfl, _, rfl, a, _, 2, .int j, rfl, rfl, SqT.of (fL _ _ aL et), atI_nat (j := 2) rfl, L, _, j, j.toNat, rfl, rfl, upd_same, ixN_at j0 (by rw [List.length_set, List.length_map]; omega), rfl, ?_⟩
      have kAll : ∀ b o, b ≠ L → H b = some o → (upd (upd (upd H t (.tup [.int (fnd dg j), .int (fnd dg i)])) L (.lst ((dg.map V.int).set i.toNat (.int (fnd dg j))))) L (.lst (((dg.map V.int).set i.toNat (.int (fnd dg j))).set j.toNat (.int (fnd dg i))))) b = some o := fun b o hb h => by
        rw [upd_ne hb]
        exact fL b o hb (st b o h)
      have eF : ((dg.map V.int).set i.toNat (.int (fnd dg j))).set j.toNat (.int (fnd dg i)) = ((dg.set i.toNat (fnd dg j)).set j.toNat (fnd dg i)).map V.int := by rw [map_set, map_set]
      refine ⟨_, rfl, _, rfl, L, _, i, .int (fnd ((dg.set i.toNat (fnd dg j)).set j.toNat (fnd dg i)) i), rfl, rfl, SqL.of upd_same, ?_, _, _, rfl, rfl, q _ ?_ kAll⟩
      · rw [eF]
        exact fin i0 i1 (by rw [List.length_set, List.length_set])
      · rw [upd_same, eF]
    | @turn i i0 i1 =>
      have q2 : ∀ H', H' L = some (.lst (dg.map V.int)) → (∀ b o, b ≠ L → H b = some o → H' b = some o) → Q (.bl (decide (fnd dg i ≤ 64))) H' := q
      obtain ⟨a, xs, rfl, e, ha⟩ := hd.tupE
      obtain rfl := dqInts (ns := [i]) ha
      refine ⟨_, rfl, a, _, 0, .str (Str.ofString "turn"), rfl, rfl, SqT.of e, atI_nat (j := 0) rfl, _, rfl, a, _, 1, .int i, rfl, rfl, SqT.of e, atI_nat (j := 1) rfl, _, _, rfl, ?_⟩
      refine ⟨_, rfl, rfl, _, rfl, ite2 (fun c => absurd (V.str.inj (of_decide_eq_true c)) n4) (fun _ => ?_)⟩
      refine ⟨_, rfl, rfl, _, rfl, ite2 (fun c => absurd (V.str.inj (of_decide_eq_true c)) n5) (fun _ => ?_)⟩
      refine ⟨_, rfl, rfl, _, rfl, ite2 (fun c => absurd (V.str.inj (of_decide_eq_true c)) n6) (fun _ => ?_)⟩
      exact ⟨_, rfl, _, rfl, L, _, i, .int (fnd dg i), rfl, rfl, SqL.of eL, fin i0 i1 rfl, _, _, rfl, rfl, q2 H eL (fun _ _ _ h => h)⟩
    | @more i c i0 i1 =>
      rw [degD_more] at q
      have q2 : ∀ H', H' L = some (.lst (dg.map V.int)) → (∀ b o, b ≠ L → H b = some o → H' b = some o) → Q (.bl (decide (fnd dg i ≤ 64))) H' := q
      obtain ⟨a, xs, rfl, e, ha⟩ := hd.tupE
      obtain rfl := dqInts (ns := [i, c]) ha
      refine ⟨_, rfl, a, _, 0, .str (Str.ofString "more"), rfl, rfl, SqT.of e, atI_nat (j := 0) rfl, _, rfl, a, _, 1, .int i, rfl, rfl, SqT.of e, atI_nat (j := 1) rfl, _, _, rfl, ?_⟩
      refine ⟨_, rfl, rfl, _, rfl, ite2 (fun c => absurd (V.str.inj (of_decide_eq_true c)) n7) (fun _ => ?_)⟩
      refine ⟨_, rfl, rfl, _, rfl, ite2 (fun c => absurd (V.str.inj (of_decide_eq_true c)) n8) (fun _ => ?_)⟩
      refine ⟨_, rfl, rfl, _, rfl, ite2 (fun c => absurd (V.str.inj (of_decide_eq_true c)) n9) (fun _ => ?_)⟩
      exact ⟨_, rfl, _, rfl, L, _, i, .int (fnd dg i), rfl, rfl, SqL.of eL, fin i0 i1 rfl, _, _, rfl, rfl, q2 H eL (fun _ _ _ h => h)⟩
end
end Jg
namespace Jg
open PySem PySem.Spec PyProof.Rows L2
/-! ### the program's judging of moves -/
def lookS (x : Str) : Option Int := (spotsOf x).map fun q => (q.1 : Int)
/-- the words with a number -/
structure Wn (K : PySem.W.Frag) (mg : Str → Option Value) (d : Addr) : Prop where
  g : mg "WITH_NUMBER" = some (.ref d)
  t : ∀ H, SqT K H d [.str (Str.ofString "gain"), .str (Str.ofString "add"), .str (Str.ofString "more")]
theorem isMv_no {pl : Int} {d : PyData} (h : isTu d = false) : isMv pl d = false := by
  cases d <;> first | rfl | cases h
theorem isMv_str {pl : Int} {a : PyData} {ds : List PyData} (h : isSt a = false) : isMv pl (.tuple (a :: ds)) = false := by
  cases a <;> first | rfl | cases h
theorem isMv_word {pl : Int} {x : Str} {ds : List PyData} (h : spotsOf x = none) : isMv pl (.tuple (.str x :: ds)) = false := by
  show (match spotsOf x with | some (k, b) => _ | none => false) = false
  rw [h]
theorem isMv_some {pl : Int} {x : Str} {ds : List PyData} {k : Nat} {b : Bool} (h : spotsOf x = some (k, b)) : isMv pl (.tuple (.str x :: ds)) = (decide (ds.length = k + b.toNat) && ((ds.take k).all (within 0 (pl - 1)) && (apart (ds.take k) && (ds.drop k).all isIn))) := by
  show (match spotsOf x with | some (k, b) => decide (ds.length = k + b.toNat) && ((ds.take k).all (within 0 (pl - 1)) && (apart (ds.take k) && (ds.drop k).all isIn)) | none => false) = _
  rw [h]
theorem spots_pos {x : Str} {k : Nat} {b : Bool} (h : spotsOf x = some (k, b)) : 1 ≤ k ∧ k ≤ 3 := by
  rcases spots_is h with ⟨_, rfl, _⟩ | ⟨_, rfl, _⟩ | ⟨_, rfl, _⟩ | ⟨_, rfl, _⟩ | ⟨_, rfl, _⟩ <;> decide
theorem spots_b {x : Str} {k : Nat} {b : Bool} (h : spotsOf x = some (k, b)) : (decide (x = Str.ofString "gain") || decide (x = Str.ofString "add") || decide (x = Str.ofString "more")) = b := by
  rcases spots_is h with ⟨rfl, _, rfl⟩ | ⟨rfl, _, rfl⟩ | ⟨rfl, _, rfl⟩ | ⟨rfl, _, rfl⟩ | ⟨rfl, _, rfl⟩ <;> decide +kernel
theorem cutV_mid (x : V) (ys : List V) (k : Nat) : cutV (x :: ys) (some 1) (some (1 + (k : Int))) = ys.take k := by
  have e : (1 : Int) + (k : Int) = ((1 + k : Nat) : Int) := by omega
  rw [e]
  unfold cutV
  rw [show (some (1 : Int)) = some ((1 : Nat) : Int) from rfl, HT.sIx_nat, HT.sIx_nat, List.length_cons]
  have h1 : min 1 (ys.length + 1) = 1 := by omega
  rw [h1, List.drop_succ_cons, List.drop_zero]
  by_cases h : k ≤ ys.length
  · rw [show min (1 + k) (ys.length + 1) - 1 = k by omega]
  · rw [show min (1 + k) (ys.length + 1) - 1 = ys.length by omega, List.take_length, List.take_of_length_le (by omega)]
theorem cutV_rest (x : V) (ys : List V) (k : Nat) : cutV (x :: ys) (some (1 + (k : Int))) none = ys.drop k := by
  have e : (1 : Int) + (k : Int) = ((1 + k : Nat) : Int) := by omega
  rw [e, cutV_from, Nat.add_comm, List.drop_succ_cons]
theorem ints_of {pl : Int} : ∀ {ds : List PyData}, ds.all (within 0 (pl - 1)) = true → ∃ ns : List Int, ds = ns.map PyData.int
  | [], _ => ⟨[], rfl⟩
  | d :: ds, h => by
    rw [List.all_cons, Bool.and_eq_true] at h
    obtain ⟨i, rfl, _, _⟩ := within_is h.1
    obtain ⟨ns, rfl⟩ := ints_of h.2
    exact ⟨i :: ns, rfl⟩
theorem dqI {D B : Addr} {H : Hp} : ∀ {xs : List V} {ms : List Int}, DqAll D B H xs (ms.map PyData.int) → xs = ms.map V.int
  | _, [], h => by
    cases h
    rfl
  | _, m :: ms, h => by
    cases h with
    | cons a r =>
      cases a
      rw [dqI r]
      rfl
theorem flat_ints (ms : List Int) : (ms.map V.int).all flatV = true := by
  rw [List.all_map, List.all_eq_true]
  intro _ _
  rfl
theorem inV_ints (i : Int) (ms : List Int) : inV (.int i) (ms.map V.int) = (ms.map PyData.int).any (eqI i) := by
  unfold inV
  rw [List.any_map, List.any_map]
  congr 1
theorem hw2 {pl : Int} {ds : List PyData} {ns : List Int} (h : ds = ns.map PyData.int) (hw : ds.all (within 0 (pl - 1)) = true) : (ns.map PyData.int).all (within 0 (pl - 1)) = true := h ▸ hw
def ones (pl : Int) : List Int := List.replicate pl.toNat 1
theorem ones_v (n : Nat) : (List.replicate n [V.int 1]).flatten = (List.replicate n (1 : Int)).map V.int := by
  induction n with
  | zero => rfl
  | succ n ih =>
    rw [List.replicate_succ, List.replicate_succ, List.flatten_cons, ih]
    rfl
theorem ones_len {pl : Int} (h : 0 ≤ pl) : ((ones pl).length : Int) = pl := by
  unfold ones
  rw [List.length_replicate]
  omega
theorem ones_64 {pl : Int} : ∀ n ∈ ones pl, n ≤ 64 := fun n hn => by
  rw [(List.mem_replicate.mp hn).2]
  decide
end Jg
namespace Jg
open PySem PySem.Spec PyProof.Rows L2
/-! ### the law's degrees, the law's judging of tapes -/
section
variable {P : Program} {w : World} {K : PySem.W.Frag} {mg : Str → Option Value} {base : Heap}
def spDegs : Sp := fun vs H Q _ => ∃ (D B L : Addr) (v : V) (d : PyData) (pl : Int) (dg : List Int), vs = [.ref L, v] ∧ Dq D B H v d ∧ Mv pl d ∧ H L = some (.lst (dg.map V.int)) ∧ (dg.length : Int) = pl ∧
  ∀ M H', H M = none → Same H H' → H' M = some (.lst ((degD dg d).map V.int)) → Q (.ref M) H'
set_option maxHeartbeats 4000000 in
theorem ok_degs {f : Addr} {fd : FuncData} (F : Nm K mg "_law_degrees" sDegs ["_law_degrees_here", "_law_move_here"] f fd) (T : Bn mg) : FnOk P w K mg base CX0 1 f fd ["_law_degrees_here", "_law_move_here"] spDegs := by
  refine F.F.ok scDegs (fun vs H Q E h => ?_) (fun cdv A outer s H vs Q E hr h => ?_)
  · obtain ⟨D, B, L, v, d, pl, dg, rfl, _⟩ := h
    rfl
  · obtain ⟨D, B, L, v, d, pl, dg, rfl, hd, m, eL, hl, q⟩ := h
    refine ⟨_, pss_cons (ps_set (i := 2) scDegs.nd rfl (.inl rfl) (pe_callTy call_list_of (by rfl) T.lst boot_list' (pa_cons (pv 0) pa_nil)))
      (pss_cons (ps_if (pt_cmpR op_eq (pe_ix ix_tup (pv 1) pe_int (fun _ _ => rfl)) pe_str (nomark _)) (pss_one (ps_asg (pe_callB (call_max2 rfl) (by rfl) T.max boot_max' (pa_cons (pe_callTy call_int1 (by rfl) T.int PyProof.Rows.boot_int (pa_cons (pe_ix ix_list (pv 0) (pe_ix ix_tup (pv 1) pe_int (fun _ _ => rfl)) (fun _ _ => rfl)) pa_nil))
            (pa_cons (pe_callTy call_int1 (by rfl) T.int PyProof.Rows.boot_int (pa_cons (pe_ix ix_list (pv 0) (pe_ix ix_tup (pv 1) pe_int (fun _ _ => rfl)) (fun _ _ => rfl)) pa_nil)) pa_nil))) (pg_sub (pv 2) (pe_ix ix_tup (pv 1) pe_int (fun _ _ => rfl)) set_list)))
        (pss_one (ps_if (pt_cmpR op_eq (pe_ix ix_tup (pv 1) pe_int (fun _ _ => rfl)) pe_str (nomark _)) (pss_one (ps_asg (pe_callB (call_max2 rfl) (by rfl) T.max boot_max' (pa_cons (pe_callTy call_int1 (by rfl) T.int PyProof.Rows.boot_int (pa_cons (pe_ix ix_list (pv 0) (pe_ix ix_tup (pv 1) pe_int (fun _ _ => rfl)) (fun _ _ => rfl)) pa_nil))
            (pa_cons (pe_callTy call_int1 (by rfl) T.int PyProof.Rows.boot_int (pa_cons (pe_op op_add (pe_ix ix_list (pv 0) (pe_ix ix_tup (pv 1) pe_int (fun _ _ => rfl)) (fun _ _ => rfl)) (pe_ix ix_list (pv 0) (pe_ix ix_tup (pv 1) pe_int (fun _ _ => rfl)) (fun _ _ => rfl))) pa_nil)) pa_nil))) (pg_sub (pv 2) (pe_ix ix_tup (pv 1) pe_int (fun _ _ => rfl)) set_list)))
          (pss_one (ps_if (pt_cmpR op_eq (pe_ix ix_tup (pv 1) pe_int (fun _ _ => rfl)) pe_str (nomark _)) (pss_cons (ps_par (i := 3) (j := 4) rfl scDegs.nd rfl rfl (by decide) rfl rfl (pa_cons (pe_ix ix_list (pv 0) (pe_ix ix_tup (pv 1) pe_int (fun _ _ => rfl)) (fun _ _ => rfl)) (pa_cons (pe_ix ix_list (pv 0) (pe_ix ix_tup (pv 1) pe_int (fun _ _ => rfl)) (fun _ _ => rfl)) pa_nil)) rfl)
            (pss_one (ps_asg (pe_tup (pa_cons (pv 4) (pa_cons (pv 3) pa_nil))) (pg_tup rfl (pgs_cons (pg_sub (pv 2) (pe_ix ix_tup (pv 1) pe_int (fun _ _ => rfl)) set_list) (pgs_cons (pg_sub (pv 2) (pe_ix ix_tup (pv 1) pe_int (fun _ _ => rfl)) set_list) pgs_nil)))))) pss_nil)))))
      (pss_one (ps_ret (pv 2)))), ?_⟩
    obtain ⟨n1, n2, n3, n4, n5, n6, n7, n8, n9, _⟩ := w_ne
    refine ⟨_, rfl, L, _, rfl, .inl (SqL.of eL), fun M nM => ?_⟩
    have sM := same_upd (o := .lst (dg.map V.int)) nM
    have eL1 := sM _ _ eL
    have fin : ∀ {i : Int}, 0 ≤ i → i < pl → atI (dg.map V.int) i = some (.int (fnd dg i)) := fun i0 i1 => fnd_at i0 (by omega)
    have put : ∀ {o : HO} {H1 : Hp}, Same H H1 → Same H (upd H1 M o) := fun s b o hb => by
      rw [upd_ne (ne_of_none hb nM)]
      exact s b o hb
    cases m with
    | @gain i j c i0 i1 j0 j1 =>
      rw [degD_gain] at q
      obtain ⟨a, xs, rfl, e, ha⟩ := hd.tupE
      obtain rfl := dqInts (ns := [i, j, c]) ha
      have e1 := sM _ _ e
      refine ⟨_, rfl, a, _, 0, .str (Str.ofString "gain"), rfl, rfl, SqT.of e1, atI_nat (j := 0) rfl, rfl, _, rfl, ite2 (fun _ => ?_) (fun c => absurd (decide_eq_true rfl) c)⟩
      refine ⟨_, rfl, _, rfl, a, _, 1, .int i, rfl, rfl, SqT.of e1, atI_nat (j := 1) rfl, L, _, i, .int (fnd dg i), rfl, rfl, SqL.of eL1, fin i0 i1, .inl ⟨_, rfl, ?_⟩⟩
      refine ⟨_, rfl, _, rfl, a, _, 2, .int j, rfl, rfl, SqT.of e1, atI_nat (j := 2) rfl, L, _, j, .int (fnd dg j), rfl, rfl, SqL.of eL1, fin j0 j1, .inl ⟨_, rfl, _, _, rfl, ?_⟩⟩
      refine ⟨_, rfl, _, rfl, a, _, 1, .int i, rfl, rfl, SqT.of e1, atI_nat (j := 1) rfl, M, _, i, i.toNat, rfl, rfl, upd_same, ixN_at i0 (by rw [List.length_map]; omega), ?_⟩
      refine ⟨_, rfl, q M _ nM (put sM) ?_⟩
      rw [upd_same, ← map_set]
      rfl
    | @add i j k c i0 i1 j0 j1 k0 k1 =>
      rw [degD_add] at q
      obtain ⟨a, xs, rfl, e, ha⟩ := hd.tupE
      obtain rfl := dqInts (ns := [i, j, k, c]) ha
      have e1 := sM _ _ e
      refine ⟨_, rfl, a, _, 0, .str (Str.ofString "add"), rfl, rfl, SqT.of e1, atI_nat (j := 0) rfl, rfl, _, rfl, ite2 (fun c => absurd (V.str.inj (of_decide_eq_true c)) n1) (fun _ => ?_)⟩
      refine ⟨_, rfl, a, _, 0, .str (Str.ofString "add"), rfl, rfl, SqT.of e1, atI_nat (j := 0) rfl, rfl, _, rfl, ite2 (fun _ => ?_) (fun c => absurd (decide_eq_true rfl) c)⟩
      refine ⟨_, rfl, _, rfl, a, _, 1, .int i, rfl, rfl, SqT.of e1, atI_nat (j := 1) rfl, L, _, i, .int (fnd dg i), rfl, rfl, SqL.of eL1, fin i0 i1, .inl ⟨_, rfl, ?_⟩⟩
      refine ⟨_, rfl, _, rfl, a, _, 2, .int j, rfl, rfl, SqT.of e1, atI_nat (j := 2) rfl, L, _, j, .int (fnd dg j), rfl, rfl, SqL.of eL1, fin j0 j1, ?_⟩
      refine ⟨_, rfl, _, rfl, a, _, 3, .int k, rfl, rfl, SqT.of e1, atI_nat (j := 3) rfl, L, _, k, .int (fnd dg k), rfl, rfl, SqL.of eL1, fin k0 k1, _, _, rfl, rfl, .inl ⟨_, rfl, _, _, rfl, ?_⟩⟩
      refine ⟨_, rfl, _, rfl, a, _, 1, .int i, rfl, rfl, SqT.of e1, atI_nat (j := 1) rfl, M, _, i, i.toNat, rfl, rfl, upd_same, ixN_at i0 (by rw [List.length_map]; omega), ?_⟩
      refine ⟨_, rfl, q M _ nM (put sM) ?_⟩
      rw [upd_same, ← map_set]
      rfl
    | @swap i j i0 i1 j0 j1 =>
      rw [degD_swap] at q
      obtain ⟨a, xs, rfl, e, ha⟩ := hd.tupE
      obtain rfl := dqInts (ns := [i, j]) ha
      have e1 := sM _ _ e
      refine ⟨_, rfl, a, _, 0, .str (Str.ofString "swap"), rfl, rfl, SqT.of e1, atI_nat (j := 0) rfl, rfl, _, rfl, ite2 (fun c => absurd (V.str.inj (of_decide_eq_true c)) n2) (fun _ => ?_)⟩
      refine ⟨_, rfl, a, _, 0, .str (Str.ofString "swap"), rfl, rfl, SqT.of e1, atI_nat (j := 0) rfl, rfl, _, rfl, ite2 (fun c => absurd (V.str.inj (of_decide_eq_true c)) n3) (fun _ => ?_)⟩
      refine ⟨_, rfl, a, _, 0, .str (Str.ofString "swap"), rfl, rfl, SqT.of e1, atI_nat (j := 0) rfl, rfl, _, rfl, ite2 (fun _ => ?_) (fun c => absurd (decide_eq_true rfl) c)⟩
      refine ⟨_, rfl, _, rfl, a, _, 1, .int i, rfl, rfl, SqT.of e1, atI_nat (j := 1) rfl, L, _, i, .int (fnd dg i), rfl, rfl, SqL.of eL1, fin i0 i1, ?_⟩
      refine ⟨_, rfl, _, rfl, a, _, 2, .int j, rfl, rfl, SqT.of e1, atI_nat (j := 2) rfl, L, _, j, .int (fnd dg j), rfl, rfl, SqL.of eL1, fin j0 j1, _, _, rfl, ?_⟩
      refine ⟨_, rfl, _, rfl, sz1 rfl, fun t nt => ?_⟩
      have st := same_upd (o := .tup [.int (fnd dg j), .int (fnd dg i)]) nt
      have et := st _ _ e1
      have tM := st _ _ (upd_same (H := H) (a := M) (o := .lst (dg.map V.int)))
      have aM : a ≠ M := ne_of_none e nM
      refine ⟨t, _, rfl, SqT.of upd_same, rfl, .int (fnd dg j), [.int (fnd dg i)], rfl, ?_⟩
      refine ⟨_, rfl, _, rfl, a, _, 1, .int i, rfl, rfl, SqT.of et, atI_nat (j := 1) rfl, M, _, i, i.toNat, rfl, rfl, tM, ixN_at i0 (by rw [List.length_map]; omega), ?_⟩
      refine ⟨.int (fnd dg i), [], rfl, _, rfl, _, rfl, a, _, 2, .int j, rfl, rfl, SqT.of ((upd_ne aM).trans et), atI_nat (j := 2) rfl, M, _, j, j.toNat, rfl, rfl, upd_same, ixN_at j0 (by rw [List.length_set, List.length_map]; omega), rfl, ?_⟩
      refine ⟨_, rfl, q M _ nM (put (put (sM.trans st))) ?_⟩
      rw [upd_same, map_set, map_set]
    | @turn i i0 i1 =>
      have q2 : ∀ M H', H M = none → Same H H' → H' M = some (.lst (dg.map V.int)) → Q (.ref M) H' := q
      obtain ⟨a, xs, rfl, e, ha⟩ := hd.tupE
      obtain rfl := dqInts (ns := [i]) ha
      have e1 := sM _ _ e
      refine ⟨_, rfl, a, _, 0, .str (Str.ofString "turn"), rfl, rfl, SqT.of e1, atI_nat (j := 0) rfl, rfl, _, rfl, ite2 (fun c => absurd (V.str.inj (of_decide_eq_true c)) n4) (fun _ => ?_)⟩
      refine ⟨_, rfl, a, _, 0, .str (Str.ofString "turn"), rfl, rfl, SqT.of e1, atI_nat (j := 0) rfl, rfl, _, rfl, ite2 (fun c => absurd (V.str.inj (of_decide_eq_true c)) n5) (fun _ => ?_)⟩
      refine ⟨_, rfl, a, _, 0, .str (Str.ofString "turn"), rfl, rfl, SqT.of e1, atI_nat (j := 0) rfl, rfl, _, rfl, ite2 (fun c => absurd (V.str.inj (of_decide_eq_true c)) n6) (fun _ => ?_)⟩
      exact ⟨_, rfl, q2 M _ nM sM upd_same⟩
    | @more i c i0 i1 =>
      rw [degD_more] at q
      obtain ⟨a, xs, rfl, e, ha⟩ := hd.tupE
      obtain rfl := dqInts (ns := [i, c]) ha
      have e1 := sM _ _ e
      refine ⟨_, rfl, a, _, 0, .str (Str.ofString "more"), rfl, rfl, SqT.of e1, atI_nat (j := 0) rfl, rfl, _, rfl, ite2 (fun c => absurd (V.str.inj (of_decide_eq_true c)) n7) (fun _ => ?_)⟩
      refine ⟨_, rfl, a, _, 0, .str (Str.ofString "more"), rfl, rfl, SqT.of e1, atI_nat (j := 0) rfl, rfl, _, rfl, ite2 (fun c => absurd (V.str.inj (of_decide_eq_true c)) n8) (fun _ => ?_)⟩
      refine ⟨_, rfl, a, _, 0, .str (Str.ofString "more"), rfl, rfl, SqT.of e1, atI_nat (j := 0) rfl, rfl, _, rfl, ite2 (fun c => absurd (V.str.inj (of_decide_eq_true c)) n9) (fun _ => ?_)⟩
      exact ⟨_, rfl, q M _ nM sM upd_same⟩
end
end Jg
namespace Jg
open PySem PySem.Spec PyProof.Rows L2
/-! ### moves drawn -/
theorem take_drop_perm {ns : List Int} {k : Nat} {y : Int} (h : ns[k]? = some y) : (y :: ns.eraseIdx k).Perm ns := by
  obtain ⟨hk, e⟩ := List.getElem?_eq_some_iff.mp h
  have e1 : ns = ns.take k ++ y :: ns.drop (k + 1) := by
    rw [← e, ← List.drop_eq_getElem_cons hk, List.take_append_drop]
  rw [List.eraseIdx_eq_take_drop_succ]
  have p := (List.perm_middle (a := y) (l₁ := ns.take k) (l₂ := ns.drop (k + 1))).symm
  rw [← e1] at p
  exact p
theorem map_erase {ns : List Int} {k : Nat} : (ns.map V.int).eraseIdx k = (ns.eraseIdx k).map V.int := by
  rw [List.eraseIdx_eq_take_drop_succ, List.eraseIdx_eq_take_drop_succ, List.map_append, List.map_take, List.map_drop]
abbrev sMix : Stmt := topS 16
abbrev nMix : List Str := ["_law_deck_here", "_law_items", "_law_rest", "_law_found", "_law_turn"]
theorem scMix : FnScope nMix ["_law_deck_here", "_law_items"] (defScope sMix) := ⟨rfl, rfl, rfl, by decide +kernel, rfl, by decide +kernel, by decide +kernel⟩
abbrev sFac : Stmt := topS 20
theorem scFac : FnScope ["_law_deck_here"] ["_law_deck_here"] (defScope sFac) := ⟨rfl, rfl, rfl, by decide +kernel, rfl, by decide +kernel, by decide +kernel⟩
abbrev sMove : Stmt := topS 21
abbrev nMove : List Str := ["_law_deck_here", "_law_places", "_law_words", "_law_word", "_law_order"]
theorem scMove : FnScope nMove ["_law_deck_here", "_law_places", "_law_words"] (defScope sMove) := ⟨rfl, rfl, rfl, by decide +kernel, rfl, by decide +kernel, by decide +kernel⟩
theorem boot_min' : bootBuiltins "min" = some (.builtin "min") := by decide +kernel
theorem seqIx {n k : Nat} (h : k < n) : seqIndex? (k : Int) n = some k := by
  have e := ixN_at (n := n) (i := (k : Int)) (by omega) (by omega)
  have e2 := (ixN_seq e).1
  rw [Int.toNat_natCast] at e2
  exact e2
section
variable {P : Program} {w : World} {K : PySem.W.Frag} {mg : Str → Option Value} {base : Heap}
def spMix : Sp := fun vs H Q _ => ∃ (D B C : Addr) (cells : List Int) (L : Addr) (ns : List Int), vs = [.ref D, .ref L] ∧ DeckAt D B C cells H ∧ H L = some (.lst (ns.map V.int)) ∧ L ≠ D ∧ L ≠ B ∧ ns.length ≤ 100 ∧
  ∀ (M : Addr) (ms : List Int) (H' : Hp), ms.Perm ns → H' M = some (.lst (ms.map V.int)) → H M = none → DeckAt D B C cells H' → Fr D B H H' → Q (.ref M) H'
set_option maxHeartbeats 2000000 in
theorem ok_mix {f fD : Addr} {fd fdD : FuncData} (F : Nm K mg "_law_mixed" sMix ["_law_deck_here", "_law_items"] f fd) (FD : Dr K mg fD fdD) (T : Bn mg) : FnOk P w K mg base CX0 2 f fd ["_law_deck_here", "_law_items"] spMix := by
  have GD : FnOk P w K mg base CX0 1 fD fdD ["_law_deck_here", "_law_many"] spDraw := ok_draw FD.F T.int T.len
  refine F.F.ok scMix (fun vs H Q E h => ?_) (fun cdv A outer s H vs Q E hr h => ?_)
  · obtain ⟨D, B, C, cells, L, ns, rfl, _⟩ := h
    rfl
  · obtain ⟨D, B, C, cells, L, ns, rfl, dk, eL, LD, LB, hn, q⟩ := h
    refine ⟨_, pss_cons (ps_par (i := 2) (j := 3) rfl scMix.nd rfl rfl (by decide) rfl rfl (pa_cons (pe_callTy call_list_of (by rfl) T.lst boot_list' (pa_cons (pv 1) pa_nil)) (pa_cons (pe_lst pa_nil) pa_nil)) rfl)
      (pss_cons (ps_for PassesOwn.never rfl (pi_range1 rfl T.rng (pa_cons (pe_callB call_len_seq (by rfl) T.len PySem.boot_len (pa_cons (pv 1) pa_nil)) pa_nil)) (pg_name (i := 4) scMix.nd rfl (.inl rfl))
        (pss_one (ps_expr (pe_bm PySem.F.plainAttrs_list PySem.F.slot_list_append PySem.F.type_list_append mt_append (pv 3) (pa_cons (pe_bm PySem.F.plainAttrs_list PySem.F.slot_list_pop PySem.F.type_list_pop mt_popAt (pv 2)
          (pa_cons (pe_call GD hr (by rfl) FD.g FD.F.kp FD.b .nil pass0 (pa_cons (pv 0) (pa_cons (pe_callB call_len_seq (by rfl) T.len PySem.boot_len (pa_cons (pv 2) pa_nil)) pa_nil))) pa_nil)) pa_nil)))))
      (pss_one (ps_ret (pv 3)))), ?_⟩
    refine ⟨_, rfl, L, _, rfl, .inl (SqL.of eL), fun R nR => ⟨Nat.zero_le _, fun M nM => ⟨_, _, rfl, ?_⟩⟩⟩
    have sR := same_upd (o := .lst (ns.map V.int)) nR
    have sM := same_upd (o := .lst []) nM
    have sRM := sR.trans sM
    have MR : M ≠ R := fun z => by
      rw [z, upd_same] at nM
      cases nM
    have HM : H M = none := (upd_ne MR).symm.trans nM
    have RD := dk.neD nR
    have RB := dk.neB nR
    have RC := ne_of_none dk.cel nR
    have MD := dk.neD HM
    have MB := dk.neB HM
    have MC := ne_of_none dk.cel HM
    refine ⟨_, rfl, L, _, rfl, .inl (SqL.of (sRM _ _ eL)), (ns.map V.int).length, rfl, by omega, by rw [List.length_map]; omega, for_range (n := (ns.map V.int).length) (fun i σ H3 => ∃ (ms rs : List Int) (y4 : Option V), σ = [some (.ref D), some (.ref L), some (.ref R), some (.ref M), y4] ∧ H3 R = some (.lst (rs.map V.int)) ∧ H3 M = some (.lst (ms.map V.int)) ∧ ms.length = i ∧ (ms ++ rs).Perm ns ∧ DeckAt D B C cells H3 ∧ Fr D B H H3)
      ⟨[], ns, none, rfl, sM _ _ upd_same, upd_same, rfl, .refl _, (dk.same sR).same sM, Fr.of_same sRM⟩ ?_ ?_⟩
    · rintro i σ H3 hi ⟨ms, rs, y4, rfl, eR, eM, hl, hp, dk3, f3⟩
      have hlen := hp.length_eq
      rw [List.length_append] at hlen
      rw [List.length_map] at hi
      refine ⟨_, rfl, .inl ⟨rfl, _, SqL.of eM⟩, _, rfl, .inl ⟨rfl, _, SqL.of eR⟩, _, rfl, _, rfl, R, _, rfl, .inl (SqL.of eR), D, B, C, cells, _, rfl, dk3, by rw [List.length_map]; omega, by rw [List.length_map]; omega, fun j H4 j0 j1 dk4 f4 => ?_⟩
      rw [List.length_map] at j1
      obtain ⟨k, rfl⟩ : ∃ k : Nat, j = (k : Int) := ⟨j.toNat, by omega⟩
      have hk : k < rs.length := by omega
      have eR4 := f4 _ _ RD RB eR
      have eM4 := f4 _ _ MD MB eM
      have hy : rs[k]? = some rs[k] := List.getElem?_eq_getElem hk
      refine ⟨R, _, (k : Int), k, .int rs[k], rfl, rfl, eR4, by omega, by omega, seqIx (by rw [List.length_map]; exact hk), by rw [List.getElem?_map, hy]; rfl, ?_⟩
      rw [map_erase]
      have eM5 : (upd H4 R (.lst ((rs.eraseIdx k).map V.int))) M = some (.lst (ms.map V.int)) := (upd_ne MR).trans eM4
      have fR : ∀ b o, b ≠ R → H4 b = some o → (upd H4 R (.lst ((rs.eraseIdx k).map V.int))) b = some o := fun b o hb h => by
        rw [upd_ne hb]
        exact h
      have fM : ∀ {o' : HO} b o, b ≠ M → (upd H4 R (.lst ((rs.eraseIdx k).map V.int))) b = some o → (upd (upd H4 R (.lst ((rs.eraseIdx k).map V.int))) M o') b = some o := fun b o hb h => by
        rw [upd_ne hb]
        exact h
      refine ⟨M, _, _, rfl, rfl, eM5, by rw [List.length_map]; exact small1000 (by omega), ms ++ [rs[k]], rs.eraseIdx k, _, rfl, ?_, ?_, by rw [List.length_append, hl]; rfl, ?_, (dk4.but fR RD.symm RB.symm RC).but fM MD.symm MB.symm MC, fun b o h1 h2 h3 => ?_⟩
      · rw [upd_ne MR.symm, upd_same]
      · rw [upd_same, List.map_append]
        rfl
      · rw [List.append_assoc]
        exact ((take_drop_perm hy).append_left ms).trans hp
      · exact fM _ _ (ne_of_none h3 HM) (fR _ _ (ne_of_none h3 nR) (f4 _ _ h1 h2 (f3 _ _ h1 h2 h3)))
    · rintro σ H3 ⟨ms, rs, y4, rfl, eR, eM, hl, hp, dk3, f3⟩
      have hlen := hp.length_eq
      rw [List.length_append, hl, List.length_map] at hlen
      have r0 : rs = [] := List.length_eq_zero_iff.mp (by omega)
      rw [r0, List.append_nil] at hp
      exact ⟨_, rfl, q M ms H3 hp eM HM dk3 f3⟩
def spFac : Sp := fun vs H Q _ => ∃ (D B C : Addr) (cells : List Int), vs = [.ref D] ∧ DeckAt D B C cells H ∧ ∀ (i : Int) (H' : Hp), i.natAbs ≤ 10 ^ 20 → DeckAt D B C cells H' → Fr D B H H' → Q (.int i) H'
theorem ok_fac {f fO fD fF fN : Addr} {fd fdO fdD fdF fdN : FuncData} (F : Nm K mg "_law_factor" sFac ["_law_deck_here"] f fd) (FN : Nu K mg fN fdN) (FF : Fa K mg fF fdF) (FO : On K mg fO fdO) (FD : Dr K mg fD fdD) (T : Bn mg) : FnOk P w K mg base CX0 4 f fd ["_law_deck_here"] spFac := by
  have GD : FnOk P w K mg base CX0 1 fD fdD ["_law_deck_here", "_law_many"] spDraw := ok_draw FD.F T.int T.len
  have GO : FnOk P w K mg base CX0 2 fO fdO ["_law_deck_here", "_law_items"] spOne := ok_one FO.F FD.F FD.b FD.g T.int T.len
  have GN : FnOk P w K mg base CX0 3 fN fdN ["_law_deck_here"] spNum := ok_num FN FF FO FD T
  refine F.F.ok scFac (fun vs H Q E h => ?_) (fun cdv A outer s H vs Q E hr h => ?_)
  · obtain ⟨D, B, C, cells, rfl, _⟩ := h
    rfl
  · obtain ⟨D, B, C, cells, rfl, dk, q⟩ := h
    have eM : (M20 : Int) = 100000000000000000000 := by decide
    have e2 : (10 : Nat) ^ 20 = 100000000000000000000 := by decide
    refine ⟨_, pss_one (ps_ret (pe_call GO (hr.mono (by decide)) (by rfl) FO.g FO.F.kp FO.b .nil pass0 (pa_cons (pv 0) (pa_cons (pe_lst (pa_cons pe_int (pa_cons (pe_un un_neg pe_int) (pa_cons pe_int (pa_cons (pe_un un_neg pe_int) (pa_cons pe_int (pa_cons (pe_un un_neg pe_int) (pa_cons pe_int (pa_cons pe_int
      (pa_cons (pe_op op_sub (pe_call GD (hr.mono (by decide)) (by rfl) FD.g FD.F.kp FD.b .nil pass0 (pa_cons (pv 0) (pa_cons pe_int pa_nil))) pe_int) (pa_cons (pe_call GN hr (by rfl) FN.g FN.F.kp FN.b .nil pass0 (pa_cons (pv 0) pa_nil)) pa_nil))))))))))) pa_nil)))), ?_⟩
    refine ⟨_, rfl, _, rfl, _, rfl, _, rfl, _, rfl, D, B, C, cells, 41, rfl, dk, by decide, by decide, fun j H1 j0 j1 dk1 f1 => ⟨_, _, rfl, rfl, _, rfl, D, B, C, cells, rfl, dk1, fun k H2 k0 k1 dk2 f2 => ⟨sz1 rfl, fun L nL => ?_⟩⟩⟩
    rw [eM] at k0 k1
    have s3 := same_upd (o := .lst [.int 1, .int (-1), .int 1, .int (-1), .int 2, .int (-3), .int 0, .int 7, .int (j - 20), .int k]) nL
    refine ⟨D, B, C, cells, L, _, rfl, dk2.same s3, upd_same, dk2.neD nL, dk2.neB nL, by show 0 < 10; decide, by show 10 < 1073741824; decide, fun i v H4 hv dk4 f4 => ?_⟩
    obtain ⟨m, rfl, hm⟩ : ∃ m : Int, v = .int m ∧ m.natAbs ≤ 10 ^ 20 := by
      rw [e2]
      match i, hv with
      | 0, hv => exact ⟨1, (Option.some.inj hv).symm, by decide⟩
      | 1, hv => exact ⟨-1, (Option.some.inj hv).symm, by decide⟩
      | 2, hv => exact ⟨1, (Option.some.inj hv).symm, by decide⟩
      | 3, hv => exact ⟨-1, (Option.some.inj hv).symm, by decide⟩
      | 4, hv => exact ⟨2, (Option.some.inj hv).symm, by decide⟩
      | 5, hv => exact ⟨-3, (Option.some.inj hv).symm, by decide⟩
      | 6, hv => exact ⟨0, (Option.some.inj hv).symm, by decide⟩
      | 7, hv => exact ⟨7, (Option.some.inj hv).symm, by decide⟩
      | 8, hv => exact ⟨j - 20, (Option.some.inj hv).symm, by omega⟩
      | 9, hv => exact ⟨k, (Option.some.inj hv).symm, by omega⟩
      | i + 10, hv => cases hv
    exact q m H4 hm dk4 (f1.trans (f2.trans ((Fr.of_same s3).trans f4)))
end
end Jg
namespace Jg
open PySem PySem.Spec PyProof.Rows L2
/-! ### the law's moves -/
def isW5 (x : Str) : Prop := x = Str.ofString "gain" ∨ x = Str.ofString "add" ∨ x = Str.ofString "swap" ∨ x = Str.ofString "turn" ∨ x = Str.ofString "more"
theorem leaf_w {x : Str} (h : isW5 x) : Leaf (.str x) := by
  have k : (reprText x).length ≤ 40 ∧ PyData.strOk x = true := by
    rcases h with rfl | rfl | rfl | rfl | rfl <;> decide +kernel
  exact .inr ⟨x, rfl, k.1, k.2⟩
theorem a_nil {P : PyData → Prop} : ∀ d ∈ ([] : List PyData), P d := fun _ h => nomatch h
theorem a_cons {P : PyData → Prop} {d : PyData} {ds : List PyData} (h1 : P d) (h2 : ∀ x ∈ ds, P x) : ∀ x ∈ d :: ds, P x := fun x hx => by
  rcases List.mem_cons.mp hx with rfl | hx
  · exact h1
  · exact h2 x hx
theorem a_app {P : PyData → Prop} {ds es : List PyData} (h1 : ∀ x ∈ ds, P x) (h2 : ∀ x ∈ es, P x) : ∀ x ∈ ds ++ es, P x := fun x hx => by
  rcases List.mem_append.mp hx with hx | hx
  · exact h1 x hx
  · exact h2 x hx
theorem plainM {x : Str} {ns : List Int} (hx : isW5 x) (hl : ns.length ≤ 4) (hn : ∀ n ∈ ns, n.natAbs ≤ 10 ^ 20) : Plain 2 (.tuple (.str x :: ns.map PyData.int)) :=
  .inr ⟨_, rfl, by rw [List.length_cons, List.length_map]; show ns.length + 1 ≤ 5; omega, fun y hy => by
    rcases List.mem_cons.mp hy with rfl | hy
    · exact (leaf_w hx).plain 1
    · obtain ⟨n, hm, rfl⟩ := List.mem_map.mp hy
      exact Leaf.plain (.inl ⟨n, rfl, hn n hm⟩) 1⟩
theorem withinT {pl i : Int} (h0 : 0 ≤ i) (h1 : i < pl) : within 0 (pl - 1) (.int i) = true := by
  show (decide (0 ≤ i) && decide (i ≤ pl - 1)) = true
  rw [decide_eq_true h0, decide_eq_true (by omega)]
  rfl
theorem mk_gain {pl i j c : Int} (i0 : 0 ≤ i) (i1 : i < pl) (j0 : 0 ≤ j) (j1 : j < pl) (h : j ≠ i) : isMv pl (.tuple [.str (Str.ofString "gain"), .int i, .int j, .int c]) = true := by
  rw [isMv_some (k := 2) (b := true) (by decide +kernel)]
  show (decide ((3 : Nat) = 2 + 1) && ((within 0 (pl - 1) (.int i) && (within 0 (pl - 1) (.int j) && true)) && (!(decide (j = i) || false) && (true && true)))) = true
  rw [withinT i0 i1, withinT j0 j1, decide_eq_false h]
  rfl
theorem mk_add {pl i j k c : Int} (i0 : 0 ≤ i) (i1 : i < pl) (j0 : 0 ≤ j) (j1 : j < pl) (k0 : 0 ≤ k) (k1 : k < pl) (h : j ≠ i) (h2 : k ≠ i) : isMv pl (.tuple [.str (Str.ofString "add"), .int i, .int j, .int k, .int c]) = true := by
  rw [isMv_some (k := 3) (b := true) (by decide +kernel)]
  show (decide ((4 : Nat) = 3 + 1) && ((within 0 (pl - 1) (.int i) && (within 0 (pl - 1) (.int j) && (within 0 (pl - 1) (.int k) && true))) && (!(decide (j = i) || (decide (k = i) || false)) && (true && true)))) = true
  rw [withinT i0 i1, withinT j0 j1, withinT k0 k1, decide_eq_false h, decide_eq_false h2]
  rfl
theorem mk_swap {pl i j : Int} (i0 : 0 ≤ i) (i1 : i < pl) (j0 : 0 ≤ j) (j1 : j < pl) (h : j ≠ i) : isMv pl (.tuple [.str (Str.ofString "swap"), .int i, .int j]) = true := by
  rw [isMv_some (k := 2) (b := false) (by decide +kernel)]
  show (decide ((2 : Nat) = 2 + 0) && ((within 0 (pl - 1) (.int i) && (within 0 (pl - 1) (.int j) && true)) && (!(decide (j = i) || false) && true))) = true
  rw [withinT i0 i1, withinT j0 j1, decide_eq_false h]
  rfl
theorem mk_turn {pl i : Int} (i0 : 0 ≤ i) (i1 : i < pl) : isMv pl (.tuple [.str (Str.ofString "turn"), .int i]) = true := by
  rw [isMv_some (k := 1) (b := false) (by decide +kernel)]
  show (decide ((1 : Nat) = 1 + 0) && ((within 0 (pl - 1) (.int i) && true) && (!false && true))) = true
  rw [withinT i0 i1]
  rfl
theorem mk_more {pl i c : Int} (i0 : 0 ≤ i) (i1 : i < pl) : isMv pl (.tuple [.str (Str.ofString "more"), .int i, .int c]) = true := by
  rw [isMv_some (k := 1) (b := true) (by decide +kernel)]
  show (decide ((2 : Nat) = 1 + 1) && ((within 0 (pl - 1) (.int i) && true) && (!false && (true && true)))) = true
  rw [withinT i0 i1]
  rfl
theorem order_ok {pl : Int} {ms : List Int} (h : ms.Perm ((List.range (pl - 0).toNat).map fun i => (0 : Int) + (i : Nat))) (h0 : 0 ≤ pl) : (ms.length : Int) = pl ∧ (∀ m ∈ ms, 0 ≤ m ∧ m < pl) ∧ ms.Nodup := by
  refine ⟨?_, fun m hm => ?_, ?_⟩
  · rw [h.length_eq, List.length_map, List.length_range]
    omega
  · obtain ⟨i, hi, rfl⟩ := List.mem_map.mp (h.mem_iff.mp hm)
    have := List.mem_range.mp hi
    omega
  · exact h.nodup_iff.mpr (List.pairwise_map.mpr (List.nodup_range.imp fun hne e => hne (by omega)))
def words7 : List V := [.str (Str.ofString "gain"), .str (Str.ofString "gain"), .str (Str.ofString "add"), .str (Str.ofString "add"), .str (Str.ofString "swap"), .str (Str.ofString "turn"), .str (Str.ofString "more")]
section
variable {P : Program} {w : World} {K : PySem.W.Frag} {mg : Str → Option Value} {base : Heap}
def spMove : Sp := fun vs H Q _ => ∃ (D B C : Addr) (cells : List Int) (pl : Int) (L : Addr), vs = [.ref D, .int pl, .ref L] ∧ DeckAt D B C cells H ∧ 1 ≤ pl ∧ pl ≤ 80 ∧ H L = some (.lst words7) ∧ L ≠ D ∧ L ≠ B ∧
  ∀ (v : V) (d : PyData) (H' : Hp), isMv pl d = true → Plain 2 d → Dq D B H' v d → DeckAt D B C cells H' → Fr D B H H' → Q v H'
set_option maxHeartbeats 4000000 in
theorem ok_move {f fO fD fF fN fM fX : Addr} {fd fdO fdD fdF fdN fdM fdX : FuncData} (F : Nm K mg "_law_move" sMove ["_law_deck_here", "_law_places", "_law_words"] f fd) (FM : Nm K mg "_law_mixed" sMix ["_law_deck_here", "_law_items"] fM fdM) (FX : Nm K mg "_law_factor" sFac ["_law_deck_here"] fX fdX)
    (FN : Nu K mg fN fdN) (FF : Fa K mg fF fdF) (FO : On K mg fO fdO) (FD : Dr K mg fD fdD) (T : Bn mg) : FnOk P w K mg base CX0 5 f fd ["_law_deck_here", "_law_places", "_law_words"] spMove := by
  have GO : FnOk P w K mg base CX0 2 fO fdO ["_law_deck_here", "_law_items"] spOne := ok_one FO.F FD.F FD.b FD.g T.int T.len
  have GM : FnOk P w K mg base CX0 2 fM fdM ["_law_deck_here", "_law_items"] spMix := ok_mix FM FD T
  have GX : FnOk P w K mg base CX0 4 fX fdX ["_law_deck_here"] spFac := ok_fac FX FN FF FO FD T
  refine F.F.ok scMove (fun vs H Q E h => ?_) (fun cdv A outer s H vs Q E hr h => ?_)
  · obtain ⟨D, B, C, cells, pl, L, rfl, _⟩ := h
    rfl
  · obtain ⟨D, B, C, cells, pl, L, rfl, dk, p1, p80, eL, LD, LB, q⟩ := h
    have hr2 : Room 2 _ := hr.mono (by decide)
    refine ⟨_, pss_cons (ps_set (i := 3) scMove.nd rfl (.inl rfl) (pe_ifExp (pt_cmpR op_gt (pv 1) pe_int (nomark _)) (pe_call GO hr2 (by rfl) FO.g FO.F.kp FO.b .nil pass0 (pa_cons (pv 0) (pa_cons (pv 2) pa_nil))) (pe_call GO hr2 (by rfl) FO.g FO.F.kp FO.b .nil pass0 (pa_cons (pv 0) (pa_cons (pe_lst (pa_cons pe_str (pa_cons pe_str pa_nil))) pa_nil)))))
      (pss_cons (ps_set (i := 4) scMove.nd rfl (.inl rfl) (pe_call GM hr2 (by rfl) FM.g FM.F.kp FM.b .nil pass0 (pa_cons (pv 0) (pa_cons (pe_listRg rfl (by rfl) T.lst (prg_1 (by rfl) T.rng (pv 1))) pa_nil))))
      (pss_cons (ps_if (pt_cmpR op_eq (pv 3) pe_str (nomark _)) (pss_one (ps_ret (pe_tup (pa_cons (pv 3) (pa_cons (pe_ix ix_list (pv 4) pe_int (fun _ _ => rfl)) (pa_cons (pe_ix ix_list (pv 4) pe_int (fun _ _ => rfl)) (pa_cons (pe_call GX hr (by rfl) FX.g FX.F.kp FX.b .nil pass0 (pa_cons (pv 0) pa_nil)) pa_nil))))))) pss_nil)
      (pss_cons (ps_if (pt_cmpR op_eq (pv 3) pe_str (nomark _)) (pss_one (ps_ret (pe_tup (pa_cons (pv 3) (pa_cons (pe_ix ix_list (pv 4) pe_int (fun _ _ => rfl)) (pa_cons (pe_call GO hr2 (by rfl) FO.g FO.F.kp FO.b .nil pass0 (pa_cons (pv 0) (pa_cons (pe_slice sl_list (pv 4) (po_some pe_int) po_none) pa_nil)))
          (pa_cons (pe_call GO hr2 (by rfl) FO.g FO.F.kp FO.b .nil pass0 (pa_cons (pv 0) (pa_cons (pe_slice sl_list (pv 4) (po_some pe_int) po_none) pa_nil))) (pa_cons (pe_call GX hr (by rfl) FX.g FX.F.kp FX.b .nil pass0 (pa_cons (pv 0) pa_nil)) pa_nil)))))))) pss_nil)
      (pss_cons (ps_if (pt_cmpR op_eq (pv 3) pe_str (nomark _)) (pss_one (ps_ret (pe_tup (pa_cons (pv 3) (pa_cons (pe_ix ix_list (pv 4) pe_int (fun _ _ => rfl)) (pa_cons (pe_ix ix_list (pv 4) pe_int (fun _ _ => rfl)) pa_nil)))))) pss_nil)
      (pss_one (ps_ret (pe_ifExp (pt_cmpR op_eq (pv 3) pe_str (nomark _)) (pe_tup (pa_cons (pv 3) (pa_cons (pe_ix ix_list (pv 4) pe_int (fun _ _ => rfl)) pa_nil))) (pe_tup (pa_cons (pv 3) (pa_cons (pe_ix ix_list (pv 4) pe_int (fun _ _ => rfl)) (pa_cons (pe_call GX hr (by rfl) FX.g FX.F.kp FX.b .nil pass0 (pa_cons (pv 0) pa_nil)) pa_nil)))))))))))  , ?_⟩
    refine ⟨_, rfl, _, _, rfl, rfl, _, rfl, ite2 (fun c => ⟨_, rfl, _, rfl, D, B, C, cells, L, words7, rfl, dk, eL, LD, LB, by show 0 < 7; decide, by show 7 < 1073741824; decide, fun i v H2 hv dk2 f2 => ?_⟩) (fun c => ⟨_, rfl, sz1 rfl, fun L2' nL2 => ⟨D, B, C, cells, L2', _, rfl, dk.same (same_upd nL2), upd_same, dk.neD nL2, dk.neB nL2, by show 0 < 2; decide, by show 2 < 1073741824; decide, fun i v H2 hv dk2 f2 => ?_⟩⟩)⟩
    · obtain ⟨x, rfl, hx⟩ : ∃ x, v = .str x ∧ isW5 x := by
        match i, hv with
        | 0, hv => exact ⟨_, (Option.some.inj hv).symm, .inl rfl⟩
        | 1, hv => exact ⟨_, (Option.some.inj hv).symm, .inl rfl⟩
        | 2, hv => exact ⟨_, (Option.some.inj hv).symm, .inr (.inl rfl)⟩
        | 3, hv => exact ⟨_, (Option.some.inj hv).symm, .inr (.inl rfl)⟩
        | 4, hv => exact ⟨_, (Option.some.inj hv).symm, .inr (.inr (.inl rfl))⟩
        | 5, hv => exact ⟨_, (Option.some.inj hv).symm, .inr (.inr (.inr (.inl rfl)))⟩
        | 6, hv => exact ⟨_, (Option.some.inj hv).symm, .inr (.inr (.inr (.inr rfl)))⟩
        | i + 7, hv => cases hv
      have cp : pl ≤ 1 → x = Str.ofString "turn" ∨ x = Str.ofString "more" := fun z => absurd (of_decide_eq_true c) (by omega)
      have fH2 : Fr D B H H2 := f2
      refine ⟨_, rfl, _, rfl, pl, rfl, RgOk.of_le (by omega) (by omega) (by omega) (by omega), fun R nR => ?_⟩
      have sR := same_upd (o := .lst (rgV 0 pl)) nR
      have dkR := dk2.same sR
      have eR : (upd H2 R (.lst (rgV 0 pl))) R = some (.lst (((List.range (pl - 0).toNat).map fun i => (0 : Int) + (i : Nat)).map V.int)) := by
        rw [upd_same, List.map_map]
        rfl
      refine ⟨D, B, C, cells, R, (List.range (pl - 0).toNat).map fun i => (0 : Int) + (i : Nat), rfl, dkR, eR, dk2.neD nR, dk2.neB nR, by rw [List.length_map, List.length_range]; omega, fun M ms H4 hp eM nM dk4 f4 => ?_⟩
      obtain ⟨ol, ob, on⟩ := order_ok hp (by omega)
      have fH4 := fH2.trans ((Fr.of_same sR).trans f4)
      have MD := dkR.neD nM
      have MB := dkR.neB nM
      match ms, ol, ob, on, eM, hp with
      | [], ol, _, _, _, _ => exact absurd ol (by show ¬ ((0 : Nat) : Int) = pl; omega)
      | m0 :: mr, ol, ob, on, eM, _ =>
        obtain ⟨a0, a1⟩ := ob m0 List.mem_cons_self
        rw [List.length_cons] at ol
        have big : ∀ {m : Int}, 0 ≤ m → m < pl → m.natAbs ≤ 10 ^ 20 := fun h0 h1 => by omega
        have two : 1 < pl → ∃ m1 m2, mr = m1 :: m2 ∧ 0 ≤ m1 ∧ m1 < pl ∧ m1 ≠ m0 := fun h => by
          cases mr with
          | nil => exact absurd ol (by show ¬ (((0 : Nat) + 1 : Nat) : Int) = pl; omega)
          | cons m1 m2 =>
            have hb := ob m1 (List.mem_cons_of_mem _ List.mem_cons_self)
            exact ⟨m1, m2, rfl, hb.1, hb.2, fun z => (List.nodup_cons.mp on).1 (z ▸ List.mem_cons_self)⟩
        have pl2 : (x = Str.ofString "gain" ∨ x = Str.ofString "add" ∨ x = Str.ofString "swap") → 1 < pl := fun h => by
          by_cases z : pl ≤ 1
          · exfalso
            obtain ⟨n1, n2, n3, n4, n5, n6, n7, n8, n9, _⟩ := w_ne
            rcases cp z with rfl | rfl
            · rcases h with h | h | h
              · exact n4 h
              · exact n5 h
              · exact n6 h
            · rcases h with h | h | h
              · exact n7 h
              · exact n8 h
              · exact n9 h
          · omega
        refine ⟨_, rfl, rfl, _, rfl, ite2 (fun c1 => ?_) (fun c1 => ?_)⟩
        · have e1 : x = Str.ofString "gain" := V.str.inj (of_decide_eq_true c1)
          obtain ⟨m1, m2, rfl, b0, b1, ne⟩ := two (pl2 (.inl e1))
          refine ⟨_, rfl, _, rfl, M, _, 0, .int m0, rfl, rfl, SqL.of eM, atI_nat (j := 0) rfl, _, rfl, M, _, 1, .int m1, rfl, rfl, SqL.of eM, atI_nat (j := 1) rfl, _, rfl, D, B, C, cells, rfl, dk4, fun k H5 hk dk5 f5 => ⟨sz1 rfl, fun t nt => ?_⟩⟩
          have s6 := same_upd (o := .tup [.str x, .int m0, .int m1, .int k]) nt
          exact q (.ref t) (.tuple [.str x, .int m0, .int m1, .int k]) _ (e1 ▸ mk_gain a0 a1 b0 b1 ne) (plainM (ns := [m0, m1, k]) hx (by show 3 ≤ 4; decide) (by intro n hn; rcases List.mem_cons.mp hn with rfl | hn; exact big a0 a1; rcases List.mem_cons.mp hn with rfl | hn; exact big b0 b1; rw [List.mem_singleton.mp hn]; exact hk)) (.tup upd_same (.cons (.str _) (.cons (.int _) (.cons (.int _) (.cons (.int _) .nil))))) (dk5.same s6) (fH4.trans (f5.trans (Fr.of_same s6)))
        · refine ⟨_, rfl, rfl, _, rfl, ite2 (fun c2 => ?_) (fun c2 => ?_)⟩
          · have e1 : x = Str.ofString "add" := V.str.inj (of_decide_eq_true c2)
            obtain ⟨m1, m2, rfl, b0, b1, ne⟩ := two (pl2 (.inr (.inl e1)))
            have pick : ∀ (i : Nat) (v : V), ((m1 :: m2).map V.int)[i]? = some v → ∃ m, v = .int m ∧ 0 ≤ m ∧ m < pl ∧ m ≠ m0 := fun i v hv => by
              rw [List.getElem?_map] at hv
              cases hq : (m1 :: m2)[i]? with
              | none =>
                rw [hq] at hv
                cases hv
              | some m =>
                rw [hq] at hv
                have hmem := List.mem_of_getElem? hq
                have hb := ob m (List.mem_cons_of_mem _ hmem)
                exact ⟨m, (Option.some.inj hv).symm, hb.1, hb.2, fun z => (List.nodup_cons.mp on).1 (z ▸ hmem)⟩
            have len7 : 0 < ((m1 :: m2).map V.int).length ∧ ((m1 :: m2).map V.int).length < 1073741824 := by
              rw [List.length_map]
              exact ⟨Nat.succ_pos _, by omega⟩
            have ecut : cutV ((m0 :: m1 :: m2).map V.int) (some 1) none = (m1 :: m2).map V.int := cutV_from ((m0 :: m1 :: m2).map V.int) 1
            refine ⟨_, rfl, _, rfl, M, _, 0, .int m0, rfl, rfl, SqL.of eM, atI_nat (j := 0) rfl, _, rfl, _, rfl, _, rfl, ?_⟩
            dsimp only [tNoPart]
            refine ⟨M, _, rfl, SqL.of eM, fun S1 nS1 => ?_⟩
            rw [ecut]
            have t1 := same_upd (o := .lst ((m1 :: m2).map V.int)) nS1
            refine ⟨D, B, C, cells, S1, _, rfl, dk4.same t1, upd_same, dk4.neD nS1, dk4.neB nS1, len7.1, len7.2, fun i5 v5 H5 hv5 dk5 f5 => ?_⟩
            obtain ⟨u1, rfl, g0, g1, gn⟩ := pick i5 v5 hv5
            have eM5 := f5 _ _ MD MB (t1 _ _ eM)
            refine ⟨_, rfl, _, rfl, _, rfl, ?_⟩
            dsimp only [tNoPart]
            refine ⟨M, _, rfl, SqL.of eM5, fun S2 nS2 => ?_⟩
            rw [ecut]
            have t2 := same_upd (o := .lst ((m1 :: m2).map V.int)) nS2
            refine ⟨D, B, C, cells, S2, _, rfl, dk5.same t2, upd_same, dk5.neD nS2, dk5.neB nS2, len7.1, len7.2, fun i6 v6 H6 hv6 dk6 f6 => ?_⟩
            obtain ⟨u2, rfl, h0, h1, hn⟩ := pick i6 v6 hv6
            refine ⟨_, rfl, D, B, C, cells, rfl, dk6, fun k H7 hk dk7 f7 => ⟨sz1 rfl, fun t nt => ?_⟩⟩
            have s8 := same_upd (o := .tup [.str x, .int m0, .int u1, .int u2, .int k]) nt
            exact q (.ref t) (.tuple [.str x, .int m0, .int u1, .int u2, .int k]) _ (e1 ▸ mk_add a0 a1 g0 g1 h0 h1 gn hn) (plainM (ns := [m0, u1, u2, k]) hx (by show 4 ≤ 4; decide) (by intro n hn; rcases List.mem_cons.mp hn with rfl | hn; exact big a0 a1; rcases List.mem_cons.mp hn with rfl | hn; exact big g0 g1; rcases List.mem_cons.mp hn with rfl | hn; exact big h0 h1; rw [List.mem_singleton.mp hn]; exact hk)) (.tup upd_same (.cons (.str _) (.cons (.int _) (.cons (.int _) (.cons (.int _) (.cons (.int _) .nil)))))) (dk7.same s8) (fH4.trans (((Fr.of_same t1).trans f5).trans (((Fr.of_same t2).trans f6).trans (f7.trans (Fr.of_same s8)))))
          · refine ⟨_, rfl, rfl, _, rfl, ite2 (fun c3 => ?_) (fun c3 => ?_)⟩
            · have e1 : x = Str.ofString "swap" := V.str.inj (of_decide_eq_true c3)
              obtain ⟨m1, m2, rfl, b0, b1, ne⟩ := two (pl2 (.inr (.inr e1)))
              refine ⟨_, rfl, _, rfl, M, _, 0, .int m0, rfl, rfl, SqL.of eM, atI_nat (j := 0) rfl, _, rfl, M, _, 1, .int m1, rfl, rfl, SqL.of eM, atI_nat (j := 1) rfl, sz1 rfl, fun t nt => ?_⟩
              have s6 := same_upd (o := .tup [.str x, .int m0, .int m1]) nt
              exact q (.ref t) (.tuple [.str x, .int m0, .int m1]) _ (e1 ▸ mk_swap a0 a1 b0 b1 ne) (plainM (ns := [m0, m1]) hx (by show 2 ≤ 4; decide) (by intro n hn; rcases List.mem_cons.mp hn with rfl | hn; exact big a0 a1; rw [List.mem_singleton.mp hn]; exact big b0 b1)) (.tup upd_same (.cons (.str _) (.cons (.int _) (.cons (.int _) .nil)))) (dk4.same s6) (fH4.trans (Fr.of_same s6))
            · refine ⟨_, rfl, rfl, _, rfl, ite2 (fun c4 => ?_) (fun c4 => ?_)⟩
              · have e1 : x = Str.ofString "turn" := V.str.inj (of_decide_eq_true c4)
                refine ⟨_, rfl, _, rfl, M, _, 0, .int m0, rfl, rfl, SqL.of eM, atI_nat (j := 0) rfl, sz1 rfl, fun t nt => ?_⟩
                have s6 := same_upd (o := .tup [.str x, .int m0]) nt
                exact q (.ref t) (.tuple [.str x, .int m0]) _ (e1 ▸ mk_turn a0 a1) (plainM (ns := [m0]) hx (by show 1 ≤ 4; decide) (by intro n hn; rw [List.mem_singleton.mp hn]; exact big a0 a1)) (.tup upd_same (.cons (.str _) (.cons (.int _) .nil))) (dk4.same s6) (fH4.trans (Fr.of_same s6))
              · have e1 : x = Str.ofString "more" := by
                  have ng : ∀ {y : Str}, ¬ decide (V.str x = V.str y) = true → ¬ x = y := fun h z => h (decide_eq_true (by rw [z]))
                  rcases hx with h | h | h | h | h
                  · exact absurd h (ng c1)
                  · exact absurd h (ng c2)
                  · exact absurd h (ng c3)
                  · exact absurd h (ng c4)
                  · exact h
                refine ⟨_, rfl, _, rfl, M, _, 0, .int m0, rfl, rfl, SqL.of eM, atI_nat (j := 0) rfl, _, rfl, D, B, C, cells, rfl, dk4, fun k H5 hk dk5 f5 => ⟨sz1 rfl, fun t nt => ?_⟩⟩
                have s6 := same_upd (o := .tup [.str x, .int m0, .int k]) nt
                exact q (.ref t) (.tuple [.str x, .int m0, .int k]) _ (e1 ▸ mk_more a0 a1) (plainM (ns := [m0, k]) hx (by show 2 ≤ 4; decide) (by intro n hn; rcases List.mem_cons.mp hn with rfl | hn; exact big a0 a1; rw [List.mem_singleton.mp hn]; exact hk)) (.tup upd_same (.cons (.str _) (.cons (.int _) (.cons (.int _) .nil)))) (dk5.same s6) (fH4.trans (f5.trans (Fr.of_same s6)))
    · obtain ⟨x, rfl, hx, cp⟩ : ∃ x, v = .str x ∧ isW5 x ∧ (pl ≤ 1 → x = Str.ofString "turn" ∨ x = Str.ofString "more") := by
        match i, hv with
        | 0, hv => exact ⟨_, (Option.some.inj hv).symm, .inr (.inr (.inr (.inl rfl))), fun _ => .inl rfl⟩
        | 1, hv => exact ⟨_, (Option.some.inj hv).symm, .inr (.inr (.inr (.inr rfl))), fun _ => .inr rfl⟩
        | i + 2, hv => cases hv
      have fH2 : Fr D B H H2 := (Fr.of_same (same_upd nL2)).trans f2
      refine ⟨_, rfl, _, rfl, pl, rfl, RgOk.of_le (by omega) (by omega) (by omega) (by omega), fun R nR => ?_⟩
      have sR := same_upd (o := .lst (rgV 0 pl)) nR
      have dkR := dk2.same sR
      have eR : (upd H2 R (.lst (rgV 0 pl))) R = some (.lst (((List.range (pl - 0).toNat).map fun i => (0 : Int) + (i : Nat)).map V.int)) := by
        rw [upd_same, List.map_map]
        rfl
      refine ⟨D, B, C, cells, R, (List.range (pl - 0).toNat).map fun i => (0 : Int) + (i : Nat), rfl, dkR, eR, dk2.neD nR, dk2.neB nR, by rw [List.length_map, List.length_range]; omega, fun M ms H4 hp eM nM dk4 f4 => ?_⟩
      obtain ⟨ol, ob, on⟩ := order_ok hp (by omega)
      have fH4 := fH2.trans ((Fr.of_same sR).trans f4)
      have MD := dkR.neD nM
      have MB := dkR.neB nM
      match ms, ol, ob, on, eM, hp with
      | [], ol, _, _, _, _ => exact absurd ol (by show ¬ ((0 : Nat) : Int) = pl; omega)
      | m0 :: mr, ol, ob, on, eM, _ =>
        obtain ⟨a0, a1⟩ := ob m0 List.mem_cons_self
        rw [List.length_cons] at ol
        have big : ∀ {m : Int}, 0 ≤ m → m < pl → m.natAbs ≤ 10 ^ 20 := fun h0 h1 => by omega
        have two : 1 < pl → ∃ m1 m2, mr = m1 :: m2 ∧ 0 ≤ m1 ∧ m1 < pl ∧ m1 ≠ m0 := fun h => by
          cases mr with
          | nil => exact absurd ol (by show ¬ (((0 : Nat) + 1 : Nat) : Int) = pl; omega)
          | cons m1 m2 =>
            have hb := ob m1 (List.mem_cons_of_mem _ List.mem_cons_self)
            exact ⟨m1, m2, rfl, hb.1, hb.2, fun z => (List.nodup_cons.mp on).1 (z ▸ List.mem_cons_self)⟩
        have pl2 : (x = Str.ofString "gain" ∨ x = Str.ofString "add" ∨ x = Str.ofString "swap") → 1 < pl := fun h => by
          by_cases z : pl ≤ 1
          · exfalso
            obtain ⟨n1, n2, n3, n4, n5, n6, n7, n8, n9, _⟩ := w_ne
            rcases cp z with rfl | rfl
            · rcases h with h | h | h
              · exact n4 h
              · exact n5 h
              · exact n6 h
            · rcases h with h | h | h
              · exact n7 h
              · exact n8 h
              · exact n9 h
          · omega
        refine ⟨_, rfl, rfl, _, rfl, ite2 (fun c1 => ?_) (fun c1 => ?_)⟩
        · have e1 : x = Str.ofString "gain" := V.str.inj (of_decide_eq_true c1)
          obtain ⟨m1, m2, rfl, b0, b1, ne⟩ := two (pl2 (.inl e1))
          refine ⟨_, rfl, _, rfl, M, _, 0, .int m0, rfl, rfl, SqL.of eM, atI_nat (j := 0) rfl, _, rfl, M, _, 1, .int m1, rfl, rfl, SqL.of eM, atI_nat (j := 1) rfl, _, rfl, D, B, C, cells, rfl, dk4, fun k H5 hk dk5 f5 => ⟨sz1 rfl, fun t nt => ?_⟩⟩
          have s6 := same_upd (o := .tup [.str x, .int m0, .int m1, .int k]) nt
          exact q (.ref t) (.tuple [.str x, .int m0, .int m1, .int k]) _ (e1 ▸ mk_gain a0 a1 b0 b1 ne) (plainM (ns := [m0, m1, k]) hx (by show 3 ≤ 4; decide) (by intro n hn; rcases List.mem_cons.mp hn with rfl | hn; exact big a0 a1; rcases List.mem_cons.mp hn with rfl | hn; exact big b0 b1; rw [List.mem_singleton.mp hn]; exact hk)) (.tup upd_same (.cons (.str _) (.cons (.int _) (.cons (.int _) (.cons (.int _) .nil))))) (dk5.same s6) (fH4.trans (f5.trans (Fr.of_same s6)))
        · refine ⟨_, rfl, rfl, _, rfl, ite2 (fun c2 => ?_) (fun c2 => ?_)⟩
          · have e1 : x = Str.ofString "add" := V.str.inj (of_decide_eq_true c2)
            obtain ⟨m1, m2, rfl, b0, b1, ne⟩ := two (pl2 (.inr (.inl e1)))
            have pick : ∀ (i : Nat) (v : V), ((m1 :: m2).map V.int)[i]? = some v → ∃ m, v = .int m ∧ 0 ≤ m ∧ m < pl ∧ m ≠ m0 := fun i v hv => by
              rw [List.getElem?_map] at hv
              cases hq : (m1 :: m2)[i]? with
              | none =>
                rw [hq] at hv
                cases hv
              | some m =>
                rw [hq] at hv
                have hmem := List.mem_of_getElem? hq
                have hb := ob m (List.mem_cons_of_mem _ hmem)
                exact ⟨m, (Option.some.inj hv).symm, hb.1, hb.2, fun z => (List.nodup_cons.mp on).1 (z ▸ hmem)⟩
            have len7 : 0 < ((m1 :: m2).map V.int).length ∧ ((m1 :: m2).map V.int).length < 1073741824 := by
              rw [List.length_map]
              exact ⟨Nat.succ_pos _, by omega⟩
            have ecut : cutV ((m0 :: m1 :: m2).map V.int) (some 1) none = (m1 :: m2).map V.int := cutV_from ((m0 :: m1 :: m2).map V.int) 1
            refine ⟨_, rfl, _, rfl, M, _, 0, .int m0, rfl, rfl, SqL.of eM, atI_nat (j := 0) rfl, _, rfl, _, rfl, _, rfl, ?_⟩
            dsimp only [tNoPart]
            refine ⟨M, _, rfl, SqL.of eM, fun S1 nS1 => ?_⟩
            rw [ecut]
            have t1 := same_upd (o := .lst ((m1 :: m2).map V.int)) nS1
            refine ⟨D, B, C, cells, S1, _, rfl, dk4.same t1, upd_same, dk4.neD nS1, dk4.neB nS1, len7.1, len7.2, fun i5 v5 H5 hv5 dk5 f5 => ?_⟩
            obtain ⟨u1, rfl, g0, g1, gn⟩ := pick i5 v5 hv5
            have eM5 := f5 _ _ MD MB (t1 _ _ eM)
            refine ⟨_, rfl, _, rfl, _, rfl, ?_⟩
            dsimp only [tNoPart]
            refine ⟨M, _, rfl, SqL.of eM5, fun S2 nS2 => ?_⟩
            rw [ecut]
            have t2 := same_upd (o := .lst ((m1 :: m2).map V.int)) nS2
            refine ⟨D, B, C, cells, S2, _, rfl, dk5.same t2, upd_same, dk5.neD nS2, dk5.neB nS2, len7.1, len7.2, fun i6 v6 H6 hv6 dk6 f6 => ?_⟩
            obtain ⟨u2, rfl, h0, h1, hn⟩ := pick i6 v6 hv6
            refine ⟨_, rfl, D, B, C, cells, rfl, dk6, fun k H7 hk dk7 f7 => ⟨sz1 rfl, fun t nt => ?_⟩⟩
            have s8 := same_upd (o := .tup [.str x, .int m0, .int u1, .int u2, .int k]) nt
            exact q (.ref t) (.tuple [.str x, .int m0, .int u1, .int u2, .int k]) _ (e1 ▸ mk_add a0 a1 g0 g1 h0 h1 gn hn) (plainM (ns := [m0, u1, u2, k]) hx (by show 4 ≤ 4; decide) (by intro n hn; rcases List.mem_cons.mp hn with rfl | hn; exact big a0 a1; rcases List.mem_cons.mp hn with rfl | hn; exact big g0 g1; rcases List.mem_cons.mp hn with rfl | hn; exact big h0 h1; rw [List.mem_singleton.mp hn]; exact hk)) (.tup upd_same (.cons (.str _) (.cons (.int _) (.cons (.int _) (.cons (.int _) (.cons (.int _) .nil)))))) (dk7.same s8) (fH4.trans (((Fr.of_same t1).trans f5).trans (((Fr.of_same t2).trans f6).trans (f7.trans (Fr.of_same s8)))))
          · refine ⟨_, rfl, rfl, _, rfl, ite2 (fun c3 => ?_) (fun c3 => ?_)⟩
            · have e1 : x = Str.ofString "swap" := V.str.inj (of_decide_eq_true c3)
              obtain ⟨m1, m2, rfl, b0, b1, ne⟩ := two (pl2 (.inr (.inr e1)))
              refine ⟨_, rfl, _, rfl, M, _, 0, .int m0, rfl, rfl, SqL.of eM, atI_nat (j := 0) rfl, _, rfl, M, _, 1, .int m1, rfl, rfl, SqL.of eM, atI_nat (j := 1) rfl, sz1 rfl, fun t nt => ?_⟩
              have s6 := same_upd (o := .tup [.str x, .int m0, .int m1]) nt
              exact q (.ref t) (.tuple [.str x, .int m0, .int m1]) _ (e1 ▸ mk_swap a0 a1 b0 b1 ne) (plainM (ns := [m0, m1]) hx (by show 2 ≤ 4; decide) (by intro n hn; rcases List.mem_cons.mp hn with rfl | hn; exact big a0 a1; rw [List.mem_singleton.mp hn]; exact big b0 b1)) (.tup upd_same (.cons (.str _) (.cons (.int _) (.cons (.int _) .nil)))) (dk4.same s6) (fH4.trans (Fr.of_same s6))
            · refine ⟨_, rfl, rfl, _, rfl, ite2 (fun c4 => ?_) (fun c4 => ?_)⟩
              · have e1 : x = Str.ofString "turn" := V.str.inj (of_decide_eq_true c4)
                refine ⟨_, rfl, _, rfl, M, _, 0, .int m0, rfl, rfl, SqL.of eM, atI_nat (j := 0) rfl, sz1 rfl, fun t nt => ?_⟩
                have s6 := same_upd (o := .tup [.str x, .int m0]) nt
                exact q (.ref t) (.tuple [.str x, .int m0]) _ (e1 ▸ mk_turn a0 a1) (plainM (ns := [m0]) hx (by show 1 ≤ 4; decide) (by intro n hn; rw [List.mem_singleton.mp hn]; exact big a0 a1)) (.tup upd_same (.cons (.str _) (.cons (.int _) .nil))) (dk4.same s6) (fH4.trans (Fr.of_same s6))
              · have e1 : x = Str.ofString "more" := by
                  have ng : ∀ {y : Str}, ¬ decide (V.str x = V.str y) = true → ¬ x = y := fun h z => h (decide_eq_true (by rw [z]))
                  rcases hx with h | h | h | h | h
                  · exact absurd h (ng c1)
                  · exact absurd h (ng c2)
                  · exact absurd h (ng c3)
                  · exact absurd h (ng c4)
                  · exact h
                refine ⟨_, rfl, _, rfl, M, _, 0, .int m0, rfl, rfl, SqL.of eM, atI_nat (j := 0) rfl, _, rfl, D, B, C, cells, rfl, dk4, fun k H5 hk dk5 f5 => ⟨sz1 rfl, fun t nt => ?_⟩⟩
                have s6 := same_upd (o := .tup [.str x, .int m0, .int k]) nt
                exact q (.ref t) (.tuple [.str x, .int m0, .int k]) _ (e1 ▸ mk_more a0 a1) (plainM (ns := [m0, k]) hx (by show 2 ≤ 4; decide) (by intro n hn; rcases List.mem_cons.mp hn with rfl | hn; exact big a0 a1; rw [List.mem_singleton.mp hn]; exact hk)) (.tup upd_same (.cons (.str _) (.cons (.int _) (.cons (.int _) .nil)))) (dk5.same s6) (fH4.trans (f5.trans (Fr.of_same s6)))
end
end Jg
namespace Jg
/-! ### moves and what they do, by numbers alone -/
inductive Mo
  | gain (i j c : Int) | add (i j k c : Int) | swap (i j : Int) | turn (i : Int) | more (i c : Int)
def fnz (ns : List Int) (i : Int) : Int := ns.getD i.toNat 0
def mxz (a b : Int) : Int := if b > a then b else a
def Mo.ok (pl : Int) : Mo → Prop
  | .gain i j c => 0 ≤ i ∧ i < pl ∧ 0 ≤ j ∧ j < pl ∧ j ≠ i ∧ c.natAbs ≤ 10 ^ 20
  | .add i j k c => 0 ≤ i ∧ i < pl ∧ 0 ≤ j ∧ j < pl ∧ 0 ≤ k ∧ k < pl ∧ j ≠ i ∧ k ≠ i ∧ c.natAbs ≤ 10 ^ 20
  | .swap i j => 0 ≤ i ∧ i < pl ∧ 0 ≤ j ∧ j < pl ∧ j ≠ i
  | .turn i => 0 ≤ i ∧ i < pl
  | .more i c => 0 ≤ i ∧ i < pl ∧ c.natAbs ≤ 10 ^ 20
def Mo.run (ns : List Int) : Mo → List Int
  | .gain i j c => ns.set i.toNat (fnz ns i + c * fnz ns j)
  | .add i j k c => ns.set i.toNat (fnz ns i + c * (fnz ns j * fnz ns k))
  | .swap i j => (ns.set i.toNat (fnz ns j)).set j.toNat (fnz ns i)
  | .turn i => ns.set i.toNat (0 - fnz ns i)
  | .more i c => ns.set i.toNat (fnz ns i + c)
def Mo.deg (dg : List Int) : Mo → List Int
  | .gain i j _ => dg.set i.toNat (mxz (fnz dg i) (fnz dg j))
  | .add i j k _ => dg.set i.toNat (mxz (fnz dg i) (fnz dg j + fnz dg k))
  | .swap i j => (dg.set i.toNat (fnz dg j)).set j.toNat (fnz dg i)
  | .turn _ => dg
  | .more _ _ => dg
def Mo.back : Mo → Mo
  | .gain i j c => .gain i j (-c) | .add i j k c => .add i j k (-c) | .swap i j => .swap i j | .turn i => .turn i | .more i c => .more i (-c)
def Mo.odd : Mo → Bool
  | .swap _ _ => true | .turn _ => true | _ => false
theorem back_back (m : Mo) : m.back.back = m := by
  cases m <;> simp [Mo.back]
theorem back_ok {pl : Int} {m : Mo} (h : m.ok pl) : m.back.ok pl := by
  cases m <;> simp only [Mo.back, Mo.ok, Int.natAbs_neg] at * <;> exact h
theorem run_len (ns : List Int) (m : Mo) : (m.run ns).length = ns.length := by
  cases m <;> simp [Mo.run]
theorem deg_len (ns : List Int) (m : Mo) : (m.deg ns).length = ns.length := by
  cases m <;> simp [Mo.deg]
theorem fnz_set {ns : List Int} {i j v : Int} (h0 : 0 ≤ i) (h1 : i < (ns.length : Int)) (j0 : 0 ≤ j) : fnz (ns.set i.toNat v) j = if i = j then v else fnz ns j := by
  show (ns.set i.toNat v).getD j.toNat 0 = if i = j then v else ns.getD j.toNat 0
  rw [List.getD_eq_getElem?_getD, List.getD_eq_getElem?_getD]
  by_cases e : i = j
  · subst e
    rw [List.getElem?_set_self (by omega), if_pos rfl]
    rfl
  · rw [List.getElem?_set_ne (by omega), if_neg e]
theorem ext_fnz {a b : List Int} (hl : a.length = b.length) (h : ∀ k : Int, 0 ≤ k → k < (a.length : Int) → fnz a k = fnz b k) : a = b := by
  refine List.ext_getElem hl fun n h1 h2 => ?_
  have e := h (n : Int) (by omega) (by omega)
  unfold fnz at e
  rw [Int.toNat_natCast, List.getD_eq_getElem?_getD, List.getD_eq_getElem?_getD, List.getElem?_eq_getElem h1, List.getElem?_eq_getElem h2] at e
  exact e
theorem run_at {pl : Int} {ns : List Int} {m : Mo} (hl : (ns.length : Int) = pl) (h : m.ok pl) (k : Int) (k0 : 0 ≤ k) : fnz (m.run ns) k = match m with
    | .gain i j c => if i = k then fnz ns i + c * fnz ns j else fnz ns k
    | .add i j l c => if i = k then fnz ns i + c * (fnz ns j * fnz ns l) else fnz ns k
    | .swap i j => if j = k then fnz ns i else if i = k then fnz ns j else fnz ns k
    | .turn i => if i = k then 0 - fnz ns i else fnz ns k
    | .more i c => if i = k then fnz ns i + c else fnz ns k := by
  cases m with
  | gain i j c => exact fnz_set h.1 (by have := h.2.1; omega) k0
  | add i j l c => exact fnz_set h.1 (by have := h.2.1; omega) k0
  | swap i j =>
    have h2 := h.2.1
    have h3 := h.2.2.2.1
    show fnz ((ns.set i.toNat (fnz ns j)).set j.toNat (fnz ns i)) k = _
    rw [fnz_set h.2.2.1 (by rw [List.length_set]; omega) k0, fnz_set h.1 (by omega) k0]
  | turn i => exact fnz_set h.1 (by have := h.2; omega) k0
  | more i c => exact fnz_set h.1 (by have := h.2.1; omega) k0
theorem run_back {pl : Int} {ns : List Int} {m : Mo} (hl : (ns.length : Int) = pl) (h : m.ok pl) : m.back.run (m.run ns) = ns := by
  refine ext_fnz (by rw [run_len, run_len]) fun k k0 k1 => ?_
  rw [run_at (by rw [run_len]; exact hl) (back_ok h) k k0]
  cases m with
  | gain i j c =>
    obtain ⟨i0, i1, j0, j1, ne, _⟩ := h
    have r := fun k k0 => run_at (m := .gain i j c) hl ⟨i0, i1, j0, j1, ne, by assumption⟩ k k0
    simp only [Mo.back]
    rw [r i i0, r j j0, r k k0]
    simp only [if_pos rfl, if_true, if_neg (Ne.symm ne)]
    by_cases e : i = k
    · subst e
      simp only [if_pos rfl, if_true]
      rw [Int.neg_mul]
      omega
    · simp only [if_neg e]
  | add i j l c =>
    obtain ⟨i0, i1, j0, j1, l0, l1, ne, ne2, _⟩ := h
    have r := fun k k0 => run_at (m := .add i j l c) hl ⟨i0, i1, j0, j1, l0, l1, ne, ne2, by assumption⟩ k k0
    simp only [Mo.back]
    rw [r i i0, r j j0, r l l0, r k k0]
    simp only [if_pos rfl, if_true, if_neg (Ne.symm ne), if_neg (Ne.symm ne2)]
    by_cases e : i = k
    · subst e
      simp only [if_pos rfl, if_true]
      rw [Int.neg_mul]
      omega
    · simp only [if_neg e]
  | swap i j =>
    have r := fun k k0 => run_at (m := .swap i j) hl h k k0
    obtain ⟨i0, i1, j0, j1, ne⟩ := h
    simp only [Mo.back]
    rw [r i i0, r j j0, r k k0]
    simp only [if_pos rfl, if_true, if_neg ne]
    by_cases e : j = k
    · subst e
      simp only [if_pos rfl, if_true]
    · by_cases e2 : i = k
      · subst e2
        simp only [if_neg e, if_pos rfl, if_true]
      · simp only [if_neg e, if_neg e2]
  | turn i =>
    have r := fun k k0 => run_at (m := .turn i) hl h k k0
    simp only [Mo.back]
    rw [r i h.1, r k k0]
    simp only [if_pos rfl, if_true]
    by_cases e : i = k
    · subst e
      simp only [if_pos rfl, if_true]
      omega
    · simp only [if_neg e]
  | more i c =>
    have r := fun k k0 => run_at (m := .more i c) hl h k k0
    simp only [Mo.back]
    rw [r i h.1, r k k0]
    simp only [if_pos rfl, if_true]
    by_cases e : i = k
    · subst e
      simp only [if_pos rfl, if_true]
      omega
    · simp only [if_neg e]
def runAll (ns : List Int) (ms : List Mo) : List Int := ms.foldl Mo.run ns
def backOf (ms : List Mo) : List Mo := ms.reverse.map Mo.back
theorem runAll_len (ms : List Mo) : ∀ ns : List Int, (runAll ns ms).length = ns.length := by
  induction ms with
  | nil => exact fun _ => rfl
  | cons m ms ih => exact fun ns => (ih (m.run ns)).trans (run_len ns m)
theorem runAll_app (a b : List Mo) (ns : List Int) : runAll ns (a ++ b) = runAll (runAll ns a) b := by
  unfold runAll
  rw [List.foldl_append]
theorem unrun {pl : Int} : ∀ (ms : List Mo) (ns : List Int), (ns.length : Int) = pl → (∀ m ∈ ms, m.ok pl) → runAll (runAll ns ms) (backOf ms) = ns
  | [], ns, _, _ => rfl
  | m :: ms, ns, hl, h => by
    have ih := unrun ms (m.run ns) (by rw [run_len]; exact hl) fun x hx => h x (List.mem_cons_of_mem _ hx)
    have e : backOf (m :: ms) = backOf ms ++ [m.back] := by
      unfold backOf
      rw [List.reverse_cons, List.map_append]
      rfl
    rw [e, runAll_app]
    show m.back.run (runAll (runAll (m.run ns) ms) (backOf ms)) = ns
    rw [ih]
    exact run_back hl (h m List.mem_cons_self)
theorem backOf_len (ms : List Mo) : (backOf ms).length = ms.length := by
  unfold backOf
  rw [List.length_map, List.length_reverse]
theorem backOf_backOf (ms : List Mo) : backOf (backOf ms) = ms := by
  unfold backOf
  rw [← List.map_reverse, List.reverse_reverse, List.map_map]
  have e : (Mo.back ∘ Mo.back) = id := funext back_back
  rw [e, List.map_id]
theorem backOf_ok {pl : Int} {ms : List Mo} (h : ∀ m ∈ ms, m.ok pl) : ∀ m ∈ backOf ms, m.ok pl := fun m hm => by
  obtain ⟨x, hx, rfl⟩ := List.mem_map.mp hm
  exact back_ok (h x (List.mem_reverse.mp hx))
/-- what stands part of the way back stood part of the way there -/
theorem back_part {pl : Int} {ms : List Mo} {ns : List Int} (hl : (ns.length : Int) = pl) (h : ∀ m ∈ ms, m.ok pl) (k : Nat) : runAll (runAll ns ms) ((backOf ms).take k) = runAll ns (ms.take (ms.length - k)) := by
  have e : (backOf ms).take k = backOf (ms.drop (ms.length - k)) := by
    unfold backOf
    rw [← List.map_take, List.take_reverse]
  have s : runAll ns ms = runAll (runAll ns (ms.take (ms.length - k))) (ms.drop (ms.length - k)) := by
    rw [← runAll_app, List.take_append_drop]
  rw [e, s]
  exact unrun _ _ (by rw [runAll_len]; exact hl) fun m hm => h m (List.mem_of_mem_drop hm)
/-! ### how great the numbers become -/
def NB : Nat := 452480
def Bd (pl : Int) (T : Nat) (dg ns : List Int) : Prop := ∀ k : Int, 0 ≤ k → k < pl → ∃ a : Nat, fnz dg k = (a : Int) ∧ 1 ≤ a ∧ (fnz ns k).natAbs ≤ 2 ^ (70 * a * T)
theorem deg_at {pl : Int} {dg : List Int} {m : Mo} (hl : (dg.length : Int) = pl) (h : m.ok pl) (k : Int) (k0 : 0 ≤ k) : fnz (m.deg dg) k = match m with
    | .gain i j _ => if i = k then mxz (fnz dg i) (fnz dg j) else fnz dg k
    | .add i j l _ => if i = k then mxz (fnz dg i) (fnz dg j + fnz dg l) else fnz dg k
    | .swap i j => if j = k then fnz dg i else if i = k then fnz dg j else fnz dg k
    | .turn _ => fnz dg k
    | .more _ _ => fnz dg k := by
  cases m with
  | gain i j c => exact fnz_set h.1 (by have := h.2.1; omega) k0
  | add i j l c => exact fnz_set h.1 (by have := h.2.1; omega) k0
  | swap i j =>
    have h2 := h.2.1
    have h3 := h.2.2.2.1
    show fnz ((dg.set i.toNat (fnz dg j)).set j.toNat (fnz dg i)) k = _
    rw [fnz_set h.2.2.1 (by rw [List.length_set]; omega) k0, fnz_set h.1 (by omega) k0]
  | turn i => rfl
  | more i c => rfl
theorem pow_up {a b : Nat} (h : a ≤ b) : 2 ^ a ≤ 2 ^ b := Nat.pow_le_pow_right (by decide) h
/-- one number more, of a factor and a number of at most the same width -/
theorem grown {x y c : Int} {p a : Nat} (h1 : x.natAbs ≤ 2 ^ p) (h2 : y.natAbs ≤ 2 ^ p) (hc : c.natAbs ≤ 10 ^ 20) (hp : p + 68 ≤ a) : (x + c * y).natAbs ≤ 2 ^ a := by
  have e1 : (x + c * y).natAbs ≤ x.natAbs + c.natAbs * y.natAbs := by
    rw [← Int.natAbs_mul]
    exact Int.natAbs_add_le _ _
  have e2 : c.natAbs * y.natAbs ≤ 2 ^ 67 * 2 ^ p := Nat.mul_le_mul (Nat.le_trans hc (by decide)) h2
  have e3 : 2 ^ (p + 68) ≤ 2 ^ a := pow_up hp
  have e4 : 2 ^ (p + 68) = 2 ^ p * 2 ^ 68 := Nat.pow_add _ _ _
  have e5 : (2 : Nat) ^ 68 = 2 * 2 ^ 67 := by decide
  have e6 : (1 : Nat) ≤ 2 ^ 67 := by decide
  have e7 : 2 ^ p * 1 ≤ 2 ^ p * 2 ^ 67 := Nat.mul_le_mul_left _ e6
  have e8 : 2 ^ 67 * 2 ^ p = 2 ^ p * 2 ^ 67 := Nat.mul_comm _ _
  have e9 : 2 ^ p * (2 * 2 ^ 67) = 2 * (2 ^ p * 2 ^ 67) := by rw [Nat.mul_left_comm]
  rw [e5, e9] at e4
  omega
end Jg
namespace Jg
theorem Bd.step {pl : Int} {T : Nat} {dg ns : List Int} {m : Mo} (b : Bd pl T dg ns) (h : m.ok pl) (hd : (dg.length : Int) = pl) (hn : (ns.length : Int) = pl) (hT : 1 ≤ T) : Bd pl (T + 1) (m.deg dg) (m.run ns) := by
  have wide : ∀ {x : Int} {a : Nat}, 1 ≤ a → x.natAbs ≤ 2 ^ (70 * a * T) → x.natAbs ≤ 2 ^ (70 * a * (T + 1)) := fun {x a} _ hx => Nat.le_trans hx (pow_up (Nat.mul_le_mul_left _ (Nat.le_succ T)))
  have gap : ∀ {a : Nat}, 1 ≤ a → 70 * a * T + 68 ≤ 70 * a * (T + 1) := fun {a} ha => by
    rw [Nat.mul_add, Nat.mul_one]
    omega
  intro k k0 k1
  rw [deg_at hd h k k0, run_at hn h k k0]
  obtain ⟨ak, ek, ak1, bk⟩ := b k k0 k1
  cases m with
  | gain i j c =>
    obtain ⟨i0, i1, j0, j1, ne, hc⟩ := h
    obtain ⟨ai, ei, ai1, bi⟩ := b i i0 i1
    obtain ⟨aj, ej, aj1, bj⟩ := b j j0 j1
    by_cases e : i = k
    · simp only [if_pos e]
      refine ⟨max ai aj, ?_, by omega, ?_⟩
      · rw [ei, ej]
        unfold mxz
        split <;> omega
      · have l1 : 70 * ai * T ≤ 70 * max ai aj * T := Nat.mul_le_mul_right _ (Nat.mul_le_mul_left _ (by omega))
        have l2 : 70 * aj * T ≤ 70 * max ai aj * T := Nat.mul_le_mul_right _ (Nat.mul_le_mul_left _ (by omega))
        exact grown (Nat.le_trans bi (pow_up l1)) (Nat.le_trans bj (pow_up l2)) hc (gap (by omega))
    · simp only [if_neg e]
      exact ⟨ak, ek, ak1, wide ak1 bk⟩
  | add i j l c =>
    obtain ⟨i0, i1, j0, j1, l0, l1, ne, ne2, hc⟩ := h
    obtain ⟨ai, ei, ai1, bi⟩ := b i i0 i1
    obtain ⟨aj, ej, aj1, bj⟩ := b j j0 j1
    obtain ⟨al, el, al1, bl⟩ := b l l0 l1
    by_cases e : i = k
    · simp only [if_pos e]
      refine ⟨max ai (aj + al), ?_, by omega, ?_⟩
      · rw [ei, ej, el]
        unfold mxz
        split <;> omega
      · have l1 : 70 * ai * T ≤ 70 * max ai (aj + al) * T := Nat.mul_le_mul_right _ (Nat.mul_le_mul_left _ (by omega))
        have l2 : 70 * (aj + al) * T ≤ 70 * max ai (aj + al) * T := Nat.mul_le_mul_right _ (Nat.mul_le_mul_left _ (by omega))
        have l3 : 70 * aj * T + 70 * al * T = 70 * (aj + al) * T := by rw [Nat.mul_add, Nat.add_mul]
        have p : (fnz ns j * fnz ns l).natAbs ≤ 2 ^ (70 * (aj + al) * T) := by
          rw [Int.natAbs_mul, ← l3, Nat.pow_add]
          exact Nat.mul_le_mul bj bl
        exact grown (Nat.le_trans bi (pow_up l1)) (Nat.le_trans p (pow_up l2)) hc (gap (by omega))
    · simp only [if_neg e]
      exact ⟨ak, ek, ak1, wide ak1 bk⟩
  | swap i j =>
    obtain ⟨i0, i1, j0, j1, ne⟩ := h
    obtain ⟨ai, ei, ai1, bi⟩ := b i i0 i1
    obtain ⟨aj, ej, aj1, bj⟩ := b j j0 j1
    by_cases e : j = k
    · simp only [if_pos e]
      exact ⟨ai, ei, ai1, wide ai1 bi⟩
    · by_cases e2 : i = k
      · simp only [if_neg e, if_pos e2]
        exact ⟨aj, ej, aj1, wide aj1 bj⟩
      · simp only [if_neg e, if_neg e2]
        exact ⟨ak, ek, ak1, wide ak1 bk⟩
  | turn i =>
    obtain ⟨i0, i1⟩ := h
    by_cases e : i = k
    · simp only [if_pos e]
      subst e
      refine ⟨ak, ek, ak1, ?_⟩
      rw [Int.zero_sub, Int.natAbs_neg]
      exact wide ak1 bk
    · simp only [if_neg e]
      exact ⟨ak, ek, ak1, wide ak1 bk⟩
  | more i c =>
    obtain ⟨i0, i1, hc⟩ := h
    by_cases e : i = k
    · simp only [if_pos e]
      subst e
      refine ⟨ak, ek, ak1, ?_⟩
      have g := grown (x := fnz ns i) (y := 1) (c := c) (a := 70 * ak * (T + 1)) bk (Nat.one_le_two_pow) hc (gap ak1)
      rw [Int.mul_one] at g
      exact g
    · simp only [if_neg e]
      exact ⟨ak, ek, ak1, wide ak1 bk⟩
/-- all degrees along the moves are small -/
def dgo : List Int → List Mo → Bool
  | _, [] => true
  | dg, m :: ms => (m.deg dg).all (fun n => decide (n ≤ 64)) && dgo (m.deg dg) ms
def small (ns : List Int) : Prop := ∀ x ∈ ns, x.natAbs ≤ 2 ^ NB
theorem small_of {pl : Int} {T : Nat} {dg ns : List Int} (b : Bd pl T dg ns) (hd : (dg.length : Int) = pl) (hn : (ns.length : Int) = pl) (hs : ∀ n ∈ dg, n ≤ 64) (hT : T ≤ 101) : small ns := by
  intro x hx
  obtain ⟨n, hn1, hn2⟩ := List.mem_iff_getElem.mp hx
  obtain ⟨a, ea, _, ba⟩ := b (n : Int) (by omega) (by omega)
  have e1 : fnz ns (n : Int) = x := by
    show ns.getD (n : Int).toNat 0 = x
    rw [Int.toNat_natCast, List.getD_eq_getElem?_getD, List.getElem?_eq_getElem hn1, hn2]
    rfl
  have e2 : fnz dg (n : Int) ≤ 64 := by
    show dg.getD (n : Int).toNat 0 ≤ 64
    rw [Int.toNat_natCast, List.getD_eq_getElem?_getD, List.getElem?_eq_getElem (by omega)]
    exact hs _ (List.getElem_mem _)
  rw [e1] at ba
  refine Nat.le_trans ba (pow_up ?_)
  have h1 : 70 * a * T ≤ 70 * 64 * 101 := Nat.mul_le_mul (Nat.mul_le_mul_left _ (by omega)) hT
  exact h1
theorem runs_small {pl : Int} : ∀ (ms : List Mo) (T : Nat) (dg ns : List Int), Bd pl T dg ns → (∀ m ∈ ms, m.ok pl) → (dg.length : Int) = pl → (ns.length : Int) = pl → 1 ≤ T → T + ms.length ≤ 101 → (∀ n ∈ dg, n ≤ 64) → dgo dg ms = true → ∀ k, small (runAll ns (ms.take k))
  | [], T, dg, ns, b, _, hd, hn, _, hT, hs, _, k => by
    rw [List.take_nil]
    exact small_of b hd hn hs (by rw [List.length_nil] at hT; omega)
  | m :: ms, T, dg, ns, b, h, hd, hn, hT1, hT, hs, hg, 0 => by
    exact small_of b hd hn hs (by omega)
  | m :: ms, T, dg, ns, b, h, hd, hn, hT1, hT, hs, hg, k + 1 => by
    have hg2 : ((m.deg dg).all (fun n => decide (n ≤ 64)) && dgo (m.deg dg) ms) = true := hg
    rw [Bool.and_eq_true] at hg2
    have hm := h m List.mem_cons_self
    rw [List.length_cons] at hT
    exact runs_small ms (T + 1) (m.deg dg) (m.run ns) (b.step hm hd hn hT1) (fun x hx => h x (List.mem_cons_of_mem _ hx)) (by rw [deg_len]; exact hd) (by rw [run_len]; exact hn) (by omega) (by omega)
      (fun n hn => of_decide_eq_true (List.all_eq_true.mp hg2.1 n hn)) hg2.2 k
def onez (pl : Int) : List Int := List.replicate pl.toNat 1
theorem start_bd {pl : Int} {ns : List Int} (hn : (ns.length : Int) = pl) (h : ∀ x ∈ ns, x.natAbs ≤ 10 ^ 20) : Bd pl 1 (onez pl) ns := by
  intro k k0 k1
  have e1 : fnz (onez pl) k = 1 := by
    show (List.replicate pl.toNat (1 : Int)).getD k.toNat 0 = 1
    rw [List.getD_eq_getElem?_getD, List.getElem?_replicate_of_lt (by omega)]
    rfl
  refine ⟨1, e1, Nat.le_refl _, ?_⟩
  have e2 : fnz ns k ∈ ns := by
    show ns.getD k.toNat 0 ∈ ns
    rw [List.getD_eq_getElem?_getD, List.getElem?_eq_getElem (by omega)]
    exact List.getElem_mem _
  exact Nat.le_trans (h _ e2) (by decide)
/-- the numbers that stand along the moves, and along their way back -/
structure Fits (ms : List Mo) (ns : List Int) : Prop where
  at_ : ∀ k, small (runAll ns (ms.take k))
theorem fits_there {pl : Int} {ms : List Mo} {ns : List Int} (hp : 0 ≤ pl) (h : ∀ m ∈ ms, m.ok pl) (hn : (ns.length : Int) = pl) (hl : ms.length ≤ 100) (hs : ∀ x ∈ ns, x.natAbs ≤ 10 ^ 20) (hg : dgo (onez pl) ms = true) : Fits ms ns :=
  ⟨runs_small ms 1 (onez pl) ns (start_bd hn hs) h (by unfold onez; rw [List.length_replicate]; omega) hn (Nat.le_refl _) (by omega) (fun n hn => by rw [(List.mem_replicate.mp hn).2]; decide) hg⟩
theorem fits_back {pl : Int} {ms : List Mo} {ns : List Int} (h : ∀ m ∈ ms, m.ok pl) (hn : (ns.length : Int) = pl) (f : Fits ms ns) : Fits (backOf ms) (runAll ns ms) :=
  ⟨fun k => by
    rw [back_part hn h k]
    exact f.at_ _⟩
theorem Fits.here {ms : List Mo} {ns : List Int} (f : Fits ms ns) : small ns := f.at_ 0
theorem Fits.next {m : Mo} {ms : List Mo} {ns : List Int} (f : Fits (m :: ms) ns) : Fits ms (m.run ns) := ⟨fun k => f.at_ (k + 1)⟩
theorem small_at {ns : List Int} (h : small ns) (i : Int) : (fnz ns i).natAbs ≤ 2 ^ NB := by
  show (ns.getD i.toNat 0).natAbs ≤ 2 ^ NB
  rw [List.getD_eq_getElem?_getD]
  cases hq : ns[i.toNat]? with
  | none => exact Nat.le_trans (Nat.zero_le 1) Nat.one_le_two_pow
  | some x => exact h x (List.mem_of_getElem? hq)
end Jg
namespace Jg
open PySem PySem.Spec PyProof.Rows L2
/-! ### moves as data -/
def Mo.d : Mo → PyData
  | .gain i j c => .tuple [.str (Str.ofString "gain"), .int i, .int j, .int c]
  | .add i j k c => .tuple [.str (Str.ofString "add"), .int i, .int j, .int k, .int c]
  | .swap i j => .tuple [.str (Str.ofString "swap"), .int i, .int j]
  | .turn i => .tuple [.str (Str.ofString "turn"), .int i]
  | .more i c => .tuple [.str (Str.ofString "more"), .int i, .int c]
theorem ok_mv {pl : Int} {m : Mo} (h : m.ok pl) : isMv pl m.d = true := by
  cases m with
  | gain i j c => exact mk_gain h.1 h.2.1 h.2.2.1 h.2.2.2.1 h.2.2.2.2.1
  | add i j k c => exact mk_add h.1 h.2.1 h.2.2.1 h.2.2.2.1 h.2.2.2.2.1 h.2.2.2.2.2.1 h.2.2.2.2.2.2.1 h.2.2.2.2.2.2.2.1
  | swap i j => exact mk_swap h.1 h.2.1 h.2.2.1 h.2.2.2.1 h.2.2.2.2
  | turn i => exact mk_turn h.1 h.2
  | more i c => exact mk_more h.1 h.2.1
theorem apart2 {i : Int} {js : List Int} (h : apart ((i :: js).map PyData.int) = true) : ∀ j ∈ js, j ≠ i := fun j hj e => by
  have h2 : (!((js.map PyData.int).any (eqI i))) = true := h
  rw [Bool.not_eq_true'] at h2
  have h3 := List.any_eq_false.mp h2 (.int j) (List.mem_map.mpr ⟨j, hj, rfl⟩)
  exact h3 (decide_eq_true e)
theorem leaf_c {c : Int} {n : Nat} (h : Plain n (.int c)) : c.natAbs ≤ 10 ^ 20 := by
  rcases plain_leaf h rfl with ⟨i, e, hi⟩ | ⟨x, e, _⟩
  · cases e
    exact hi
  · cases e
theorem plain_in {n : Nat} {ds : List PyData} (h : Plain (n + 1) (.tuple ds)) : ∀ d ∈ ds, Plain n d := by
  obtain ⟨es, e, _, hx⟩ := plain_tup h rfl
  cases e
  exact hx
theorem mo_of {pl : Int} {d : PyData} (h : isMv pl d = true) (hp : Plain 2 d) : ∃ m : Mo, d = m.d ∧ m.ok pl := by
  obtain ⟨x, ds, k, b, rfl, hs, hl, h1, ha, h2⟩ := isMv_parts h
  have hc := plain_in hp
  rcases spots_is hs with ⟨rfl, rfl, rfl⟩ | ⟨rfl, rfl, rfl⟩ | ⟨rfl, rfl, rfl⟩ | ⟨rfl, rfl, rfl⟩ | ⟨rfl, rfl, rfl⟩
  · match ds, hl with
    | [a, b, c], _ =>
      obtain ⟨w1, w2⟩ := all2 h1
      obtain ⟨i, rfl, i0, i1⟩ := within_is w1
      obtain ⟨j, rfl, j0, j1⟩ := within_is w2
      obtain ⟨c, rfl⟩ := isIn_is (all1 h2)
      exact ⟨.gain i j c, rfl, i0, by omega, j0, by omega, apart2 (i := i) (js := [j]) ha j List.mem_cons_self, leaf_c (hc _ (by simp))⟩
  · match ds, hl with
    | [a, b, c, e], _ =>
      obtain ⟨w1, w2, w3⟩ := all3 h1
      obtain ⟨i, rfl, i0, i1⟩ := within_is w1
      obtain ⟨j, rfl, j0, j1⟩ := within_is w2
      obtain ⟨k, rfl, k0, k1⟩ := within_is w3
      obtain ⟨c, rfl⟩ := isIn_is (all1 h2)
      exact ⟨.add i j k c, rfl, i0, by omega, j0, by omega, k0, by omega, apart2 (i := i) (js := [j, k]) ha j List.mem_cons_self, apart2 (i := i) (js := [j, k]) ha k (by simp), leaf_c (hc _ (by simp))⟩
  · match ds, hl with
    | [a, b], _ =>
      obtain ⟨w1, w2⟩ := all2 h1
      obtain ⟨i, rfl, i0, i1⟩ := within_is w1
      obtain ⟨j, rfl, j0, j1⟩ := within_is w2
      exact ⟨.swap i j, rfl, i0, by omega, j0, by omega, apart2 (i := i) (js := [j]) ha j List.mem_cons_self⟩
  · match ds, hl with
    | [a], _ =>
      obtain ⟨i, rfl, i0, i1⟩ := within_is (all1 h1)
      exact ⟨.turn i, rfl, i0, by omega⟩
  · match ds, hl with
    | [a, c], _ =>
      obtain ⟨i, rfl, i0, i1⟩ := within_is (all1 h1)
      obtain ⟨c, rfl⟩ := isIn_is (all1 h2)
      exact ⟨.more i c, rfl, i0, by omega, leaf_c (hc _ (by simp))⟩
theorem mo_deg (dg : List Int) (m : Mo) : degD dg m.d = m.deg dg := by
  cases m with
  | gain => exact degD_gain
  | add => exact degD_add
  | swap => exact degD_swap
  | turn => rfl
  | more => exact degD_more
theorem isW_5 : isW5 (Str.ofString "gain") ∧ isW5 (Str.ofString "add") ∧ isW5 (Str.ofString "swap") ∧ isW5 (Str.ofString "turn") ∧ isW5 (Str.ofString "more") := ⟨.inl rfl, .inr (.inl rfl), .inr (.inr (.inl rfl)), .inr (.inr (.inr (.inl rfl))), .inr (.inr (.inr (.inr rfl)))⟩
theorem mo_plain {pl : Int} {m : Mo} (h : m.ok pl) (hp : pl ≤ 100) : Plain 2 m.d := by
  have big : ∀ {i : Int}, 0 ≤ i → i < pl → i.natAbs ≤ 10 ^ 20 := fun a b => by
    have e : (10 : Nat) ^ 20 = 100000000000000000000 := by decide
    omega
  have nil : ∀ n ∈ ([] : List Int), n.natAbs ≤ 10 ^ 20 := fun _ h => nomatch h
  have cons : ∀ {a : Int} {l : List Int}, a.natAbs ≤ 10 ^ 20 → (∀ n ∈ l, n.natAbs ≤ 10 ^ 20) → ∀ n ∈ a :: l, n.natAbs ≤ 10 ^ 20 := fun h1 h2 n hn => by
    rcases List.mem_cons.mp hn with rfl | hn
    · exact h1
    · exact h2 n hn
  obtain ⟨w1, w2, w3, w4, w5⟩ := isW_5
  cases m with
  | gain i j c => exact plainM (ns := [i, j, c]) w1 (by show 3 ≤ 4; decide) (cons (big h.1 h.2.1) (cons (big h.2.2.1 h.2.2.2.1) (cons h.2.2.2.2.2 nil)))
  | add i j k c => exact plainM (ns := [i, j, k, c]) w2 (by show 4 ≤ 4; decide) (cons (big h.1 h.2.1) (cons (big h.2.2.1 h.2.2.2.1) (cons (big h.2.2.2.2.1 h.2.2.2.2.2.1) (cons h.2.2.2.2.2.2.2.2 nil))))
  | swap i j => exact plainM (ns := [i, j]) w3 (by show 2 ≤ 4; decide) (cons (big h.1 h.2.1) (cons (big h.2.2.1 h.2.2.2.1) nil))
  | turn i => exact plainM (ns := [i]) w4 (by show 1 ≤ 4; decide) (cons (big h.1 h.2) nil)
  | more i c => exact plainM (ns := [i, c]) w5 (by show 2 ≤ 4; decide) (cons (big h.1 h.2.1) (cons h.2.2 nil))
/-! ### the product of a factor and some of the numbers -/
def prodz (c : Int) (ns : List Int) (ks : List Int) : Int := ks.foldl (fun a k => a * fnz ns k) c
theorem prod_bits {ns : List Int} (h : small ns) : ∀ (ks : List Int) (c : Int) (p : Nat), c.natAbs < 2 ^ p → (prodz c ns ks).natAbs < 2 ^ (p + ks.length * (NB + 1))
  | [], c, p, hc => by
    rw [List.length_nil, Nat.zero_mul, Nat.add_zero]
    exact hc
  | k :: ks, c, p, hc => by
    have h1 : (c * fnz ns k).natAbs < 2 ^ (p + (NB + 1)) := by
      rw [Int.natAbs_mul, Nat.pow_add]
      have h2 := small_at h k
      have h3 : 2 ^ NB < 2 ^ (NB + 1) := Nat.pow_lt_pow_right (by decide) (Nat.lt_succ_self _)
      have h4 : c.natAbs * (fnz ns k).natAbs ≤ c.natAbs * 2 ^ (NB + 1) := Nat.mul_le_mul_left _ (Nat.le_trans h2 (Nat.le_of_lt h3))
      exact Nat.lt_of_le_of_lt h4 (Nat.mul_lt_mul_of_pos_right hc (Nat.two_pow_pos _))
    have ih := prod_bits h ks (c * fnz ns k) (p + (NB + 1)) h1
    rw [List.length_cons, Nat.add_mul, Nat.one_mul]
    have e : p + (NB + 1) + ks.length * (NB + 1) = p + (ks.length * (NB + 1) + (NB + 1)) := by omega
    rw [e] at ih
    exact ih
theorem c_bits {c : Int} (h : c.natAbs ≤ 10 ^ 20) : c.natAbs < 2 ^ 67 := Nat.lt_of_le_of_lt h (by decide)
theorem mul_fit {ns : List Int} {c : Int} {ks : List Int} {k : Int} (h : small ns) (hc : c.natAbs ≤ 10 ^ 20) (hk : ks.length ≤ 1) : CMulX (prodz c ns ks) (fnz ns k) := by
  have h3 : 2 ^ NB < 2 ^ (NB + 1) := Nat.pow_lt_pow_right (by decide) (Nat.lt_succ_self _)
  refine mulx_ok (prod_bits h ks c 67 (c_bits hc)) (Nat.lt_of_le_of_lt (small_at h k) h3) ?_
  have e : ks.length * (NB + 1) ≤ 1 * (NB + 1) := Nat.mul_le_mul_right _ hk
  have e2 : NB = 452480 := rfl
  omega
theorem mul_fit2 {ns : List Int} {j k : Int} (h : small ns) : CMulX (fnz ns j) (fnz ns k) := by
  have h3 : 2 ^ NB < 2 ^ (NB + 1) := Nat.pow_lt_pow_right (by decide) (Nat.lt_succ_self _)
  exact mulx_ok (Nat.lt_of_le_of_lt (small_at h j) h3) (Nat.lt_of_le_of_lt (small_at h k) h3) (by decide)
theorem mul_fit3 {ns : List Int} {c j k : Int} (h : small ns) (hc : c.natAbs ≤ 10 ^ 20) : CMulX c (fnz ns j * fnz ns k) := by
  have h3 : 2 ^ NB < 2 ^ (NB + 1) := Nat.pow_lt_pow_right (by decide) (Nat.lt_succ_self _)
  have p := prod_bits h [j, k] 1 1 (by decide)
  have e : prodz 1 ns [j, k] = fnz ns j * fnz ns k := by
    show 1 * fnz ns j * fnz ns k = _
    rw [Int.one_mul]
  rw [e] at p
  exact mulx_ok (a := 67) (b := 1 + 2 * (NB + 1)) (c_bits hc) p (by decide)
end Jg
namespace Jg
open PySem PySem.Spec PyProof.Rows L2
/-! ### the program's moves done -/
abbrev sGained : Stmt := topS 8
abbrev nGained : List Str := ["held", "move", "amount", "spot"]
theorem scGained : FnScope nGained ["held", "move"] (defScope sGained) := ⟨rfl, rfl, rfl, by decide +kernel, rfl, by decide +kernel, by decide +kernel⟩
abbrev sMoved : Stmt := topS 7
abbrev nMoved : List Str := ["tape", "filling", "held", "move", "word", "place"]
theorem scMoved : FnScope nMoved ["tape", "filling"] (defScope sMoved) := ⟨rfl, rfl, rfl, by decide +kernel, rfl, by decide +kernel, by decide +kernel⟩
/-- a move with a factor -/
def facV (x : Str) (i : Int) (ks : List Int) (c : Int) : List V := V.str x :: V.int i :: (ks.map V.int ++ [V.int c])
theorem fac_last {x : Str} {i c : Int} {ks : List Int} : atI (facV x i ks c) (-1) = some (V.int c) := atI_last (V.str x :: V.int i :: ks.map V.int) (V.int c)
theorem fac_mid {x : Str} {i c : Int} {ks : List Int} : cutV (facV x i ks c) (some 2) (some (-1)) = ks.map V.int := by
  unfold facV cutV
  have e1 : HT.sIx (V.str x :: V.int i :: (ks.map V.int ++ [V.int c])).length 0 (some 2) = 2 := by
    rw [show (some (2 : Int)) = some ((2 : Nat) : Int) from rfl, HT.sIx_nat]
    simp
  have e2 : HT.sIx (V.str x :: V.int i :: (ks.map V.int ++ [V.int c])).length (V.str x :: V.int i :: (ks.map V.int ++ [V.int c])).length (some (-1)) = ks.length + 2 := by
    simp [HT.sIx]
    omega
  rw [e1, e2]
  simp
section
variable {P : Program} {w : World} {K : PySem.W.Frag} {mg : Str → Option Value} {base : Heap}
def spGained : Sp := fun vs H Q _ => ∃ (L a : Addr) (x : Str) (i c : Int) (ks ns : List Int), vs = [.ref L, .ref a] ∧ H a = some (.tup (facV x i ks c)) ∧ H L = some (.lst (ns.map V.int)) ∧ ks.length ≤ 2 ∧ (∀ k ∈ ks, 0 ≤ k ∧ k < (ns.length : Int)) ∧ small ns ∧ c.natAbs ≤ 10 ^ 20 ∧
  ∀ H', Same H H' → Q (.int (prodz c ns ks)) H'
theorem ok_gained {f : Addr} {fd : FuncData} (F : Nm K mg "_gained" sGained ["held", "move"] f fd) : FnOk P w K mg base CX0 1 f fd ["held", "move"] spGained := by
  refine F.F.ok scGained (fun vs H Q E h => ?_) (fun cdv A outer s H vs Q E hr h => ?_)
  · obtain ⟨L, a, x, i, c, ks, ns, rfl, _⟩ := h
    rfl
  · obtain ⟨L, a, x, i, c, ks, ns, rfl, ea, eL, hk2, hks, hs, hc, q⟩ := h
    refine ⟨_, pss_cons (ps_set (i := 2) scGained.nd rfl (.inl rfl) (pe_ix ix_tup (pv 1) (pe_un un_neg pe_int) (fun _ _ => rfl)))
      (pss_cons (ps_for PassesOwn.never rfl (pi_tup (pe_slice sl_tupA (pv 1) (po_some pe_int) (po_some (pe_un un_neg pe_int)))) (pg_name (i := 3) scGained.nd rfl (.inl rfl))
        (pss_one (ps_set (i := 2) scGained.nd rfl (.inl rfl) (pe_op op_mulX (pv 2) (pe_ix ix_list (pv 0) (pv 3) (fun _ _ => rfl))))))
      (pss_one (ps_ret (pv 2)))), ?_⟩
    refine ⟨_, rfl, _, rfl, a, _, -1, .int c, rfl, rfl, SqT.of ea, fac_last, ?_⟩
    refine ⟨_, rfl, _, rfl, _, rfl, ?_⟩
    refine ⟨_, rfl, ?_⟩
    refine sl_read ea fun b H1 s1 e1 => ?_
    have e1' : H1 b = some (.tup (ks.map V.int)) := e1.trans (congrArg (fun z => some (HO.tup z)) fac_mid)
    refine ⟨b, rfl, ⟨_, SqT.of e1'⟩, for_tup (K := K) (a := b) (xs := ks.map V.int) (fun t σ H3 => ∃ y3 : Option V, σ = [some (.ref L), some (.ref a), some (.int (prodz c ns (ks.take t))), y3] ∧ Same H1 H3) ⟨none, rfl, Same.refl H1⟩ (fun t σ H3 _ ⟨_, _, s3⟩ => SqT.of (s3 _ _ e1')) ?_ ?_⟩
    · rintro t y σ H3 hy ⟨y3, rfl, s3⟩
      rw [List.getElem?_map] at hy
      obtain ⟨k, hk, rfl⟩ := Option.map_eq_some_iff.mp hy
      obtain ⟨k0, k1⟩ := hks k (List.mem_of_getElem? hk)
      have ht : t < ks.length := (List.getElem?_eq_some_iff.mp hk).1
      refine ⟨_, rfl, _, rfl, _, rfl, L, _, k, .int (fnd ns k), rfl, rfl, SqL.of ((s1.trans s3) _ _ eL), fnd_at k0 k1, _, _, rfl, rfl, mul_fit hs hc (by rw [List.length_take]; omega), ?_⟩
      refine ⟨some (.int k), ?_, s3⟩
      have e : prodz c ns (ks.take (t + 1)) = prodz c ns (ks.take t) * fnz ns k := by
        unfold prodz
        rw [List.take_add_one, hk, List.foldl_append]
        rfl
      rw [e]
      rfl
    · rintro σ H3 ⟨y3, rfl, s3⟩
      rw [List.length_map, List.take_length]
      exact ⟨_, rfl, q H3 (s1.trans s3)⟩
end
end Jg
namespace Jg
open PySem PySem.Spec PyProof.Rows L2
def tapD (pl : Int) (ms : List Mo) : PyData := .tuple [.int pl, .tuple (ms.map Mo.d)]
def intsD (ns : List Int) : PyData := .tuple (ns.map PyData.int)
/-- a tape's moves -/
structure Tm (pl : Int) (ms : List Mo) : Prop where
  p1 : 1 ≤ pl
  p80 : pl ≤ 80
  len : ms.length ≤ 100
  ok : ∀ m ∈ ms, m.ok pl
theorem dq_ints {D B : Addr} {H : Hp} {v : V} {ns : List Int} (h : Dq D B H v (intsD ns)) : ∃ a, v = .ref a ∧ H a = some (.tup (ns.map V.int)) := by
  obtain ⟨a, xs, rfl, e, ha⟩ := h.tupE
  exact ⟨a, rfl, e.trans (congrArg (fun z => some (HO.tup z)) (dqI ha))⟩
theorem ints_dq {D B : Addr} {H : Hp} : ∀ {ns : List Int}, DqAll D B H (ns.map V.int) (ns.map PyData.int)
  | [] => .nil
  | n :: ns => .cons (.int n) ints_dq
theorem dq_tape {D B : Addr} {H : Hp} {v : V} {pl : Int} {ms : List Mo} (h : Dq D B H v (tapD pl ms)) : ∃ a b xs, v = .ref a ∧ H a = some (.tup [.int pl, .ref b]) ∧ H b = some (.tup xs) ∧ DqAll D B H xs (ms.map Mo.d) := by
  obtain ⟨a, xs, rfl, e, ha⟩ := h.tupE
  obtain ⟨x, y, rfl, h1, h2⟩ := dq_two ha
  cases h1.intE
  obtain ⟨b, ys, rfl, eb, hb⟩ := h2.tupE
  exact ⟨a, b, ys, rfl, e, eb, hb⟩
theorem mo_at {D B : Addr} {H : Hp} {xs : List V} {ms : List Mo} (h : DqAll D B H xs (ms.map Mo.d)) {t : Nat} {x : V} (e : xs[t]? = some x) : ∃ m, ms[t]? = some m ∧ Dq D B H x m.d := by
  obtain ⟨d, hd, hx⟩ := h.at_ t x e
  rw [List.getElem?_map] at hd
  obtain ⟨m, hm, rfl⟩ := Option.map_eq_some_iff.mp hd
  exact ⟨m, hm, hx⟩
theorem run_next {ns : List Int} {ms : List Mo} {t : Nat} {m : Mo} (e : ms[t]? = some m) : runAll ns (ms.take (t + 1)) = m.run (runAll ns (ms.take t)) := by
  rw [List.take_add_one, e]
  show runAll ns (ms.take t ++ [m]) = _
  rw [runAll_app]
  rfl
section
variable {P : Program} {w : World} {K : PySem.W.Frag} {mg : Str → Option Value} {base : Heap}
def spMoved : Sp := fun vs H Q _ => ∃ (D B : Addr) (v1 v2 : V) (pl : Int) (ms : List Mo) (ns : List Int), vs = [v1, v2] ∧ Dq D B H v1 (tapD pl ms) ∧ Tm pl ms ∧ Dq D B H v2 (intsD ns) ∧ (ns.length : Int) = pl ∧ Fits ms ns ∧
  ∀ u H', Same H H' → (∀ D B, Dq D B H' u (intsD (runAll ns ms))) → Q u H'
/-- one move done by the program, on a list -/
theorem gain_form {i j c : Int} {ns : List Int} : fnz ns i + prodz c ns [j] = fnz ns i + c * fnz ns j := rfl
theorem add_form {i j k c : Int} {ns : List Int} : fnz ns i + prodz c ns [j, k] = fnz ns i + c * (fnz ns j * fnz ns k) := by
  show fnz ns i + c * fnz ns j * fnz ns k = _
  rw [Int.mul_assoc]
set_option maxHeartbeats 4000000 in
theorem ok_moved {f fG : Addr} {fd fdG : FuncData} (F : Nm K mg "moved" sMoved ["tape", "filling"] f fd) (FG : Nm K mg "_gained" sGained ["held", "move"] fG fdG) (T : Bn mg) : FnOk P w K mg base CX0 2 f fd ["tape", "filling"] spMoved := by
  have GG : FnOk P w K mg base CX0 1 fG fdG ["held", "move"] spGained := ok_gained FG
  refine F.F.ok scMoved (fun vs H Q E h => ?_) (fun cdv A outer s H vs Q E hr h => ?_)
  · obtain ⟨D, B, v1, v2, pl, ms, ns, rfl, _⟩ := h
    rfl
  · obtain ⟨D, B, v1, v2, pl, ms, ns, rfl, hd1, tm, hd2, hn, fit, q⟩ := h
    refine ⟨_, pss_cons (ps_set (i := 2) scMoved.nd rfl (.inl rfl) (pe_callTy call_list_of (by rfl) T.lst boot_list' (pa_cons (pv 1) pa_nil)))
      (pss_cons (ps_for PassesOwn.never rfl (pi_tup (pe_ix ix_tup (pv 0) pe_int (fun _ _ => rfl))) (pg_name (i := 3) scMoved.nd rfl (.inl rfl))
        (pss_cons (ps_par (i := 4) (j := 5) rfl scMoved.nd rfl rfl (by decide) rfl rfl (pa_cons (pe_ix ix_tup (pv 3) pe_int (fun _ _ => rfl)) (pa_cons (pe_ix ix_tup (pv 3) pe_int (fun _ _ => rfl)) pa_nil)) rfl)
        (pss_one (ps_if (pt_cmpR op_eq (pv 4) pe_str (nomark _))
          (pss_one (ps_asg (pe_tup (pa_cons (pe_ix ix_list (pv 2) (pe_ix ix_tup (pv 3) pe_int (fun _ _ => rfl)) (fun _ _ => rfl)) (pa_cons (pe_ix ix_list (pv 2) (pv 5) (fun _ _ => rfl)) pa_nil)))
            (pg_tup rfl (pgs_cons (pg_sub (pv 2) (pv 5) set_list) (pgs_cons (pg_sub (pv 2) (pe_ix ix_tup (pv 3) pe_int (fun _ _ => rfl)) set_list) pgs_nil)))))
          (pss_one (ps_if (pt_cmpR op_eq (pv 4) pe_str (nomark _))
            (pss_one (ps_asg (pe_un un_neg (pe_ix ix_list (pv 2) (pv 5) (fun _ _ => rfl))) (pg_sub (pv 2) (pv 5) set_list)))
            (pss_one (ps_asg (pe_op op_add (pe_ix ix_list (pv 2) (pv 5) (fun _ _ => rfl)) (pe_call GG (hr.mono (by decide)) (by rfl) FG.g FG.F.kp FG.b .nil pass0 (pa_cons (pv 2) (pa_cons (pv 3) pa_nil)))) (pg_sub (pv 2) (pv 5) set_list)))))))))
      (pss_one (ps_ret (pe_callTy call_tuple_of (by rfl) T.tup boot_tuple' (pa_cons (pv 2) pa_nil))))), ?_⟩
    obtain ⟨a, b, xs, rfl, ea, eb, hb⟩ := dq_tape hd1
    obtain ⟨af, rfl, ef⟩ := dq_ints hd2
    have l1 := hb.len
    rw [List.length_map] at l1
    have tl := tm.len
    have p80 := tm.p80
    refine ⟨_, rfl, af, _, rfl, .inr (SqT.of ef), fun L nL => ?_⟩
    have sL := same_upd (o := .lst (ns.map V.int)) nL
    refine ⟨_, rfl, a, _, 1, .ref b, rfl, rfl, SqT.of (sL _ _ ea), atI_nat (j := 1) rfl, b, rfl, ⟨_, SqT.of (sL _ _ eb)⟩, for_tup (K := K) (a := b) (xs := xs) (fun t σ H3 => ∃ y3 y4 y5 : Option V, σ = [some (.ref a), some (.ref af), some (.ref L), y3, y4, y5] ∧ H3 L = some (.lst ((runAll ns (ms.take t)).map V.int)) ∧ Same H H3) ⟨none, none, none, rfl, upd_same, sL⟩ (fun t σ H3 _ ⟨_, _, _, _, _, s3⟩ => SqT.of (s3 _ _ eb)) ?_ ?_⟩
    · rintro t y σ H3 hy ⟨y3, y4, y5, rfl, k3, s3⟩
      obtain ⟨m, hm, hx⟩ := mo_at hb hy
      have mok := tm.ok m (List.mem_of_getElem? hm)
      have hs : small (runAll ns (ms.take t)) := fit.at_ t
      have hl : ((runAll ns (ms.take t)).length : Int) = pl := by rw [runAll_len]; exact hn
      rw [run_next hm]
      revert k3 hs hl
      generalize runAll ns (ms.take t) = rs
      intro k3 hs hl
      have fin : ∀ {i : Int} {rs' : List Int}, 0 ≤ i → i < pl → rs'.length = rs.length → atI (rs'.map V.int) i = some (.int (fnz rs' i)) := fun i0 i1 e => fnd_at i0 (by omega)
      have keep : ∀ {H4 : Hp} {o : HO}, Same H H4 → Same H (upd H4 L o) := fun s z o hz => by
        rw [upd_ne (ne_of_none hz nL)]
        exact s _ _ hz
      obtain ⟨n1, n2, n3, n4, n5, n6, n7, n8, n9, n10⟩ := w_ne
      have hx3 := hx.same s3
      cases m with
      | swap i j =>
        obtain ⟨i0, i1, j0, j1, ne⟩ := mok
        obtain ⟨am, axs, rfl, e, hma⟩ := hx3.tupE
        obtain rfl := dqInts (ns := [i, j]) hma
        have aL : am ≠ L := fun z => by
          rw [z, k3] at e
          cases e
        refine ⟨_, rfl, am, _, 0, .str (Str.ofString "swap"), rfl, rfl, SqT.of e, atI_nat (j := 0) rfl, _, rfl, am, _, 1, .int i, rfl, rfl, SqT.of e, atI_nat (j := 1) rfl, _, _, rfl, ?_⟩
        refine ⟨_, rfl, rfl, _, rfl, ite2 (fun _ => ?_) (fun c => absurd (decide_eq_true rfl) c)⟩
        refine ⟨_, rfl, _, rfl, am, _, 2, .int j, rfl, rfl, SqT.of e, atI_nat (j := 2) rfl, L, _, j, .int (fnz rs j), rfl, rfl, SqL.of k3, fin j0 j1 rfl, _, rfl, _, rfl, L, _, i, .int (fnz rs i), rfl, rfl, SqL.of k3, fin i0 i1 rfl, sz1 rfl, fun t nt => ?_⟩
        have st := same_upd (o := .tup [.int (fnz rs j), .int (fnz rs i)]) nt
        have kt := st _ _ k3
        have et := st _ _ e
        refine ⟨t, _, rfl, SqT.of upd_same, rfl, .int (fnz rs j), [.int (fnz rs i)], rfl, ?_⟩
        refine ⟨_, rfl, _, rfl, L, _, i, i.toNat, rfl, rfl, kt, ixN_at i0 (by rw [List.length_map]; omega), ?_⟩
        refine ⟨.int (fnz rs i), [], rfl, _, rfl, _, rfl, am, _, 2, .int j, rfl, rfl, SqT.of ((upd_ne aL).trans et), atI_nat (j := 2) rfl, L, _, j, j.toNat, rfl, rfl, upd_same, ixN_at j0 (by rw [List.length_set, List.length_map]; omega), rfl, ?_⟩
        refine ⟨_, _, _, rfl, ?_, keep (keep (s3.trans st))⟩
        rw [upd_same, map_set, map_set]
        rfl
      | turn i =>
        obtain ⟨i0, i1⟩ := mok
        obtain ⟨am, axs, rfl, e, hma⟩ := hx3.tupE
        obtain rfl := dqInts (ns := [i]) hma
        refine ⟨_, rfl, am, _, 0, .str (Str.ofString "turn"), rfl, rfl, SqT.of e, atI_nat (j := 0) rfl, _, rfl, am, _, 1, .int i, rfl, rfl, SqT.of e, atI_nat (j := 1) rfl, _, _, rfl, ?_⟩
        refine ⟨_, rfl, rfl, _, rfl, ite2 (fun c => absurd (V.str.inj (of_decide_eq_true c)) n6) (fun _ => ?_)⟩
        refine ⟨_, rfl, rfl, _, rfl, ite2 (fun _ => ?_) (fun c => absurd (decide_eq_true rfl) c)⟩
        refine ⟨_, rfl, _, rfl, L, _, i, .int (fnz rs i), rfl, rfl, SqL.of k3, fin i0 i1 rfl, _, rfl, ?_⟩
        refine ⟨_, rfl, _, rfl, L, _, i, i.toNat, rfl, rfl, k3, ixN_at i0 (by rw [List.length_map]; omega), ?_⟩
        refine ⟨_, _, _, rfl, ?_, keep s3⟩
        rw [upd_same, map_set, ← Int.zero_sub]
        rfl
      | gain i j c =>
        obtain ⟨i0, i1, j0, j1, ne, hc⟩ := mok
        obtain ⟨am, axs, rfl, e, hma⟩ := hx3.tupE
        obtain rfl := dqInts (ns := [i, j, c]) hma
        refine ⟨_, rfl, am, _, 0, .str (Str.ofString "gain"), rfl, rfl, SqT.of e, atI_nat (j := 0) rfl, _, rfl, am, _, 1, .int i, rfl, rfl, SqT.of e, atI_nat (j := 1) rfl, _, _, rfl, ?_⟩
        refine ⟨_, rfl, rfl, _, rfl, ite2 (fun c => absurd (V.str.inj (of_decide_eq_true c)).symm n2) (fun _ => ?_)⟩
        refine ⟨_, rfl, rfl, _, rfl, ite2 (fun c => absurd (V.str.inj (of_decide_eq_true c)).symm n4) (fun _ => ?_)⟩
        refine ⟨_, rfl, _, rfl, L, _, i, .int (fnz rs i), rfl, rfl, SqL.of k3, fin i0 i1 rfl, _, rfl, _, rfl, L, am, Str.ofString "gain", i, c, [j], rs, rfl, e, k3, by show 1 ≤ 2; decide, (fun k hk => by rw [List.mem_singleton.mp hk]; omega), hs, hc, fun H4 s4 => ⟨_, _, rfl, rfl, ?_⟩⟩
        refine ⟨_, rfl, _, rfl, L, _, i, i.toNat, rfl, rfl, s4 _ _ k3, ixN_at i0 (by rw [List.length_map]; omega), ?_⟩
        refine ⟨_, _, _, rfl, ?_, keep (s3.trans s4)⟩
        rw [upd_same, map_set]
        rfl
      | add i j k c =>
        obtain ⟨i0, i1, j0, j1, l0, l1, ne, ne2, hc⟩ := mok
        obtain ⟨am, axs, rfl, e, hma⟩ := hx3.tupE
        obtain rfl := dqInts (ns := [i, j, k, c]) hma
        refine ⟨_, rfl, am, _, 0, .str (Str.ofString "add"), rfl, rfl, SqT.of e, atI_nat (j := 0) rfl, _, rfl, am, _, 1, .int i, rfl, rfl, SqT.of e, atI_nat (j := 1) rfl, _, _, rfl, ?_⟩
        refine ⟨_, rfl, rfl, _, rfl, ite2 (fun c => absurd (V.str.inj (of_decide_eq_true c)).symm n3) (fun _ => ?_)⟩
        refine ⟨_, rfl, rfl, _, rfl, ite2 (fun c => absurd (V.str.inj (of_decide_eq_true c)).symm n5) (fun _ => ?_)⟩
        refine ⟨_, rfl, _, rfl, L, _, i, .int (fnz rs i), rfl, rfl, SqL.of k3, fin i0 i1 rfl, _, rfl, _, rfl, L, am, Str.ofString "add", i, c, [j, k], rs, rfl, e, k3, by show 2 ≤ 2; decide, (fun z hz => by rcases List.mem_cons.mp hz with rfl | hz; omega; rw [List.mem_singleton.mp hz]; omega), hs, hc, fun H4 s4 => ⟨_, _, rfl, rfl, ?_⟩⟩
        refine ⟨_, rfl, _, rfl, L, _, i, i.toNat, rfl, rfl, s4 _ _ k3, ixN_at i0 (by rw [List.length_map]; omega), ?_⟩
        refine ⟨_, _, _, rfl, ?_, keep (s3.trans s4)⟩
        rw [upd_same, map_set, add_form]
        rfl
      | more i c =>
        obtain ⟨i0, i1, hc⟩ := mok
        obtain ⟨am, axs, rfl, e, hma⟩ := hx3.tupE
        obtain rfl := dqInts (ns := [i, c]) hma
        refine ⟨_, rfl, am, _, 0, .str (Str.ofString "more"), rfl, rfl, SqT.of e, atI_nat (j := 0) rfl, _, rfl, am, _, 1, .int i, rfl, rfl, SqT.of e, atI_nat (j := 1) rfl, _, _, rfl, ?_⟩
        refine ⟨_, rfl, rfl, _, rfl, ite2 (fun c => absurd (V.str.inj (of_decide_eq_true c)) n9) (fun _ => ?_)⟩
        refine ⟨_, rfl, rfl, _, rfl, ite2 (fun c => absurd (V.str.inj (of_decide_eq_true c)) n10) (fun _ => ?_)⟩
        refine ⟨_, rfl, _, rfl, L, _, i, .int (fnz rs i), rfl, rfl, SqL.of k3, fin i0 i1 rfl, _, rfl, _, rfl, L, am, Str.ofString "more", i, c, [], rs, rfl, e, k3, by show 0 ≤ 2; decide, (fun z hz => nomatch hz), hs, hc, fun H4 s4 => ⟨_, _, rfl, rfl, ?_⟩⟩
        refine ⟨_, rfl, _, rfl, L, _, i, i.toNat, rfl, rfl, s4 _ _ k3, ixN_at i0 (by rw [List.length_map]; omega), ?_⟩
        refine ⟨_, _, _, rfl, ?_, keep (s3.trans s4)⟩
        rw [upd_same, map_set]
        rfl
    · rintro σ H3 ⟨y3, y4, y5, rfl, k3, s3⟩
      rw [l1, List.take_length] at k3
      refine ⟨_, rfl, L, _, rfl, .inl ⟨SqL.of k3, fun t nt => ?_⟩⟩
      exact q _ _ (s3.trans (same_upd nt)) fun D B => .tup upd_same ints_dq
end
end Jg
namespace Jg
open PySem PySem.Spec PyProof.Rows L2
/-! ### the law's own moves done -/
abbrev sLMov : Stmt := topS 24
abbrev nLMov : List Str := ["_law_tape_here", "_law_filling_here", "_law_here", "_law_move_here", "_law_word", "_law_one_here", "_law_both", "_law_first", "_law_second"]
theorem scLMov : FnScope nLMov ["_law_tape_here", "_law_filling_here"] (defScope sLMov) := ⟨rfl, rfl, rfl, by decide +kernel, rfl, by decide +kernel, by decide +kernel⟩
section
variable {P : Program} {w : World} {K : PySem.W.Frag} {mg : Str → Option Value} {base : Heap}
set_option maxHeartbeats 4000000 in
theorem ok_lMov {f : Addr} {fd : FuncData} (F : Nm K mg "_law_moved" sLMov ["_law_tape_here", "_law_filling_here"] f fd) (T : Bn mg) : FnOk P w K mg base CX0 1 f fd ["_law_tape_here", "_law_filling_here"] spMoved := by
  refine F.F.ok scLMov (fun vs H Q E h => ?_) (fun cdv A outer s H vs Q E hr h => ?_)
  · obtain ⟨D, B, v1, v2, pl, ms, ns, rfl, _⟩ := h
    rfl
  · obtain ⟨D, B, v1, v2, pl, ms, ns, rfl, hd1, tm, hd2, hn, fit, q⟩ := h
    refine ⟨_, pss_cons (ps_set (i := 2) scLMov.nd rfl (.inl rfl) (pe_callTy call_list_of (by rfl) T.lst boot_list' (pa_cons (pv 1) pa_nil)))
      (pss_cons (ps_for PassesOwn.never rfl (pi_tup (pe_ix ix_tup (pv 0) pe_int (fun _ _ => rfl))) (pg_name (i := 3) scLMov.nd rfl (.inl rfl))
        (pss_cons (ps_par (i := 4) (j := 5) rfl scLMov.nd rfl rfl (by decide) rfl rfl (pa_cons (pe_ix ix_tup (pv 3) pe_int (fun _ _ => rfl)) (pa_cons (pe_ix ix_tup (pv 3) pe_int (fun _ _ => rfl)) pa_nil)) rfl)
        (pss_one (ps_if (pt_cmpR op_eq (pv 4) pe_str (nomark _))
          (pss_one (ps_asg (pe_op op_add (pe_ix ix_list (pv 2) (pv 5) (fun _ _ => rfl)) (pe_op op_mulX (pe_ix ix_tup (pv 3) pe_int (fun _ _ => rfl)) (pe_ix ix_list (pv 2) (pe_ix ix_tup (pv 3) pe_int (fun _ _ => rfl)) (fun _ _ => rfl)))) (pg_sub (pv 2) (pv 5) set_list)))
          (pss_one (ps_if (pt_cmpR op_eq (pv 4) pe_str (nomark _))
            (pss_cons (ps_set (i := 6) scLMov.nd rfl (.inl rfl) (pe_op op_mulX (pe_ix ix_list (pv 2) (pe_ix ix_tup (pv 3) pe_int (fun _ _ => rfl)) (fun _ _ => rfl)) (pe_ix ix_list (pv 2) (pe_ix ix_tup (pv 3) pe_int (fun _ _ => rfl)) (fun _ _ => rfl))))
              (pss_one (ps_asg (pe_op op_add (pe_ix ix_list (pv 2) (pv 5) (fun _ _ => rfl)) (pe_op op_mulX (pe_ix ix_tup (pv 3) pe_int (fun _ _ => rfl)) (pv 6))) (pg_sub (pv 2) (pv 5) set_list))))
            (pss_one (ps_if (pt_cmpR op_eq (pv 4) pe_str (nomark _))
              (pss_cons (ps_par (i := 7) (j := 8) rfl scLMov.nd rfl rfl (by decide) rfl rfl (pa_cons (pe_ix ix_list (pv 2) (pv 5) (fun _ _ => rfl)) (pa_cons (pe_ix ix_list (pv 2) (pe_ix ix_tup (pv 3) pe_int (fun _ _ => rfl)) (fun _ _ => rfl)) pa_nil)) rfl)
                (pss_one (ps_asg (pe_tup (pa_cons (pv 8) (pa_cons (pv 7) pa_nil)))
                  (pg_tup rfl (pgs_cons (pg_sub (pv 2) (pv 5) set_list) (pgs_cons (pg_sub (pv 2) (pe_ix ix_tup (pv 3) pe_int (fun _ _ => rfl)) set_list) pgs_nil))))))
              (pss_one (ps_asg (pe_ifExp (pt_cmpR op_eq (pv 4) pe_str (nomark _)) (pe_op op_sub pe_int (pe_ix ix_list (pv 2) (pv 5) (fun _ _ => rfl))) (pe_op op_add (pe_ix ix_list (pv 2) (pv 5) (fun _ _ => rfl)) (pe_ix ix_tup (pv 3) pe_int (fun _ _ => rfl)))) (pg_sub (pv 2) (pv 5) set_list)))))))))))
      (pss_one (ps_ret (pe_callTy call_tuple_of (by rfl) T.tup boot_tuple' (pa_cons (pv 2) pa_nil))))), ?_⟩
    obtain ⟨a, b, xs, rfl, ea, eb, hb⟩ := dq_tape hd1
    obtain ⟨af, rfl, ef⟩ := dq_ints hd2
    have l1 := hb.len
    rw [List.length_map] at l1
    have tl := tm.len
    have p80 := tm.p80
    refine ⟨_, rfl, af, _, rfl, .inr (SqT.of ef), fun L nL => ?_⟩
    have sL := same_upd (o := .lst (ns.map V.int)) nL
    refine ⟨_, rfl, a, _, 1, .ref b, rfl, rfl, SqT.of (sL _ _ ea), atI_nat (j := 1) rfl, b, rfl, ⟨_, SqT.of (sL _ _ eb)⟩, for_tup (K := K) (a := b) (xs := xs) (fun t σ H3 => ∃ y3 y4 y5 y6 y7 y8 : Option V, σ = [some (.ref a), some (.ref af), some (.ref L), y3, y4, y5, y6, y7, y8] ∧ H3 L = some (.lst ((runAll ns (ms.take t)).map V.int)) ∧ Same H H3) ⟨none, none, none, none, none, none, rfl, upd_same, sL⟩ (fun t σ H3 _ ⟨_, _, _, _, _, _, _, _, s3⟩ => SqT.of (s3 _ _ eb)) ?_ ?_⟩
    · rintro t y σ H3 hy ⟨y3, y4, y5, y6, y7, y8, rfl, k3, s3⟩
      obtain ⟨m, hm, hx⟩ := mo_at hb hy
      have mok := tm.ok m (List.mem_of_getElem? hm)
      have hs : small (runAll ns (ms.take t)) := fit.at_ t
      have hl : ((runAll ns (ms.take t)).length : Int) = pl := by rw [runAll_len]; exact hn
      rw [run_next hm]
      revert k3 hs hl
      generalize runAll ns (ms.take t) = rs
      intro k3 hs hl
      have fin : ∀ {i : Int} {rs' : List Int}, 0 ≤ i → i < pl → rs'.length = rs.length → atI (rs'.map V.int) i = some (.int (fnz rs' i)) := fun i0 i1 e => fnd_at i0 (by omega)
      have keep : ∀ {H4 : Hp} {o : HO}, Same H H4 → Same H (upd H4 L o) := fun s z o hz => by
        rw [upd_ne (ne_of_none hz nL)]
        exact s _ _ hz
      obtain ⟨n1, n2, n3, n4, n5, n6, n7, n8, n9, n10⟩ := w_ne
      have hx3 := hx.same s3
      cases m with
      | gain i j c =>
        obtain ⟨i0, i1, j0, j1, ne, hc⟩ := mok
        obtain ⟨am, axs, rfl, e, hma⟩ := hx3.tupE
        obtain rfl := dqInts (ns := [i, j, c]) hma
        refine ⟨_, rfl, am, _, 0, .str (Str.ofString "gain"), rfl, rfl, SqT.of e, atI_nat (j := 0) rfl, _, rfl, am, _, 1, .int i, rfl, rfl, SqT.of e, atI_nat (j := 1) rfl, _, _, rfl, ?_⟩
        refine ⟨_, rfl, rfl, _, rfl, ite2 (fun _ => ?_) (fun c => absurd (decide_eq_true rfl) c)⟩
        refine ⟨_, rfl, _, rfl, L, _, i, .int (fnz rs i), rfl, rfl, SqL.of k3, fin i0 i1 rfl, ?_⟩
        refine ⟨_, rfl, am, _, 3, .int c, rfl, rfl, SqT.of e, atI_nat (j := 3) rfl, _, rfl, _, rfl, am, _, 2, .int j, rfl, rfl, SqT.of e, atI_nat (j := 2) rfl, L, _, j, .int (fnz rs j), rfl, rfl, SqL.of k3, fin j0 j1 rfl, _, _, rfl, rfl, mul_fit (c := c) (ks := []) (k := j) hs hc (by decide), _, _, rfl, rfl, ?_⟩
        refine ⟨_, rfl, _, rfl, L, _, i, i.toNat, rfl, rfl, k3, ixN_at i0 (by rw [List.length_map]; omega), ?_⟩
        refine ⟨_, _, _, _, _, _, rfl, ?_, keep s3⟩
        rw [upd_same, map_set]
        rfl
      | add i j k c =>
        obtain ⟨i0, i1, j0, j1, l0, l1, ne, ne2, hc⟩ := mok
        obtain ⟨am, axs, rfl, e, hma⟩ := hx3.tupE
        obtain rfl := dqInts (ns := [i, j, k, c]) hma
        refine ⟨_, rfl, am, _, 0, .str (Str.ofString "add"), rfl, rfl, SqT.of e, atI_nat (j := 0) rfl, _, rfl, am, _, 1, .int i, rfl, rfl, SqT.of e, atI_nat (j := 1) rfl, _, _, rfl, ?_⟩
        refine ⟨_, rfl, rfl, _, rfl, ite2 (fun c => absurd (V.str.inj (of_decide_eq_true c)) n1) (fun _ => ?_)⟩
        refine ⟨_, rfl, rfl, _, rfl, ite2 (fun _ => ?_) (fun c => absurd (decide_eq_true rfl) c)⟩
        refine ⟨_, rfl, _, rfl, am, _, 2, .int j, rfl, rfl, SqT.of e, atI_nat (j := 2) rfl, L, _, j, .int (fnz rs j), rfl, rfl, SqL.of k3, fin j0 j1 rfl, ?_⟩
        refine ⟨_, rfl, _, rfl, am, _, 3, .int k, rfl, rfl, SqT.of e, atI_nat (j := 3) rfl, L, _, k, .int (fnz rs k), rfl, rfl, SqL.of k3, fin l0 l1 rfl, _, _, rfl, rfl, mul_fit2 hs, ?_⟩
        refine ⟨_, rfl, _, rfl, L, _, i, .int (fnz rs i), rfl, rfl, SqL.of k3, fin i0 i1 rfl, ?_⟩
        refine ⟨_, rfl, am, _, 4, .int c, rfl, rfl, SqT.of e, atI_nat (j := 4) rfl, _, rfl, _, _, rfl, rfl, mul_fit3 hs hc, _, _, rfl, rfl, ?_⟩
        refine ⟨_, rfl, _, rfl, L, _, i, i.toNat, rfl, rfl, k3, ixN_at i0 (by rw [List.length_map]; omega), ?_⟩
        refine ⟨_, _, _, _, _, _, rfl, ?_, keep s3⟩
        rw [upd_same, map_set]
        rfl
      | swap i j =>
        obtain ⟨i0, i1, j0, j1, ne⟩ := mok
        obtain ⟨am, axs, rfl, e, hma⟩ := hx3.tupE
        obtain rfl := dqInts (ns := [i, j]) hma
        have aL : am ≠ L := fun z => by
          rw [z, k3] at e
          cases e
        refine ⟨_, rfl, am, _, 0, .str (Str.ofString "swap"), rfl, rfl, SqT.of e, atI_nat (j := 0) rfl, _, rfl, am, _, 1, .int i, rfl, rfl, SqT.of e, atI_nat (j := 1) rfl, _, _, rfl, ?_⟩
        refine ⟨_, rfl, rfl, _, rfl, ite2 (fun c => absurd (V.str.inj (of_decide_eq_true c)) n2) (fun _ => ?_)⟩
        refine ⟨_, rfl, rfl, _, rfl, ite2 (fun c => absurd (V.str.inj (of_decide_eq_true c)) n3) (fun _ => ?_)⟩
        refine ⟨_, rfl, rfl, _, rfl, ite2 (fun _ => ?_) (fun c => absurd (decide_eq_true rfl) c)⟩
        refine ⟨_, rfl, _, rfl, L, _, i, .int (fnz rs i), rfl, rfl, SqL.of k3, fin i0 i1 rfl, ?_⟩
        refine ⟨_, rfl, _, rfl, am, _, 2, .int j, rfl, rfl, SqT.of e, atI_nat (j := 2) rfl, L, _, j, .int (fnz rs j), rfl, rfl, SqL.of k3, fin j0 j1 rfl, _, _, rfl, ?_⟩
        refine ⟨_, rfl, _, rfl, sz1 rfl, fun t nt => ?_⟩
        have st := same_upd (o := .tup [.int (fnz rs j), .int (fnz rs i)]) nt
        have kt := st _ _ k3
        have et := st _ _ e
        refine ⟨t, _, rfl, SqT.of upd_same, rfl, .int (fnz rs j), [.int (fnz rs i)], rfl, ?_⟩
        refine ⟨_, rfl, _, rfl, L, _, i, i.toNat, rfl, rfl, kt, ixN_at i0 (by rw [List.length_map]; omega), ?_⟩
        refine ⟨.int (fnz rs i), [], rfl, _, rfl, _, rfl, am, _, 2, .int j, rfl, rfl, SqT.of ((upd_ne aL).trans et), atI_nat (j := 2) rfl, L, _, j, j.toNat, rfl, rfl, upd_same, ixN_at j0 (by rw [List.length_set, List.length_map]; omega), rfl, ?_⟩
        refine ⟨_, _, _, _, _, _, rfl, ?_, keep (keep (s3.trans st))⟩
        rw [upd_same, map_set, map_set]
        rfl
      | turn i =>
        obtain ⟨i0, i1⟩ := mok
        obtain ⟨am, axs, rfl, e, hma⟩ := hx3.tupE
        obtain rfl := dqInts (ns := [i]) hma
        refine ⟨_, rfl, am, _, 0, .str (Str.ofString "turn"), rfl, rfl, SqT.of e, atI_nat (j := 0) rfl, _, rfl, am, _, 1, .int i, rfl, rfl, SqT.of e, atI_nat (j := 1) rfl, _, _, rfl, ?_⟩
        refine ⟨_, rfl, rfl, _, rfl, ite2 (fun c => absurd (V.str.inj (of_decide_eq_true c)) n4) (fun _ => ?_)⟩
        refine ⟨_, rfl, rfl, _, rfl, ite2 (fun c => absurd (V.str.inj (of_decide_eq_true c)) n5) (fun _ => ?_)⟩
        refine ⟨_, rfl, rfl, _, rfl, ite2 (fun c => absurd (V.str.inj (of_decide_eq_true c)) n6) (fun _ => ?_)⟩
        refine ⟨_, rfl, rfl, _, rfl, ite2 (fun _ => ?_) (fun c => absurd (decide_eq_true rfl) c)⟩
        refine ⟨_, rfl, _, rfl, L, _, i, .int (fnz rs i), rfl, rfl, SqL.of k3, fin i0 i1 rfl, _, _, rfl, rfl, ?_⟩
        refine ⟨_, rfl, _, rfl, L, _, i, i.toNat, rfl, rfl, k3, ixN_at i0 (by rw [List.length_map]; omega), ?_⟩
        refine ⟨_, _, _, _, _, _, rfl, ?_, keep s3⟩
        rw [upd_same, map_set]
        rfl
      | more i c =>
        obtain ⟨i0, i1, hc⟩ := mok
        obtain ⟨am, axs, rfl, e, hma⟩ := hx3.tupE
        obtain rfl := dqInts (ns := [i, c]) hma
        refine ⟨_, rfl, am, _, 0, .str (Str.ofString "more"), rfl, rfl, SqT.of e, atI_nat (j := 0) rfl, _, rfl, am, _, 1, .int i, rfl, rfl, SqT.of e, atI_nat (j := 1) rfl, _, _, rfl, ?_⟩
        refine ⟨_, rfl, rfl, _, rfl, ite2 (fun c => absurd (V.str.inj (of_decide_eq_true c)) n7) (fun _ => ?_)⟩
        refine ⟨_, rfl, rfl, _, rfl, ite2 (fun c => absurd (V.str.inj (of_decide_eq_true c)) n8) (fun _ => ?_)⟩
        refine ⟨_, rfl, rfl, _, rfl, ite2 (fun c => absurd (V.str.inj (of_decide_eq_true c)) n9) (fun _ => ?_)⟩
        refine ⟨_, rfl, rfl, _, rfl, ite2 (fun c => absurd (V.str.inj (of_decide_eq_true c)) n10) (fun _ => ?_)⟩
        refine ⟨_, rfl, _, rfl, L, _, i, .int (fnz rs i), rfl, rfl, SqL.of k3, fin i0 i1 rfl, _, rfl, am, _, 2, .int c, rfl, rfl, SqT.of e, atI_nat (j := 2) rfl, _, _, rfl, rfl, ?_⟩
        refine ⟨_, rfl, _, rfl, L, _, i, i.toNat, rfl, rfl, k3, ixN_at i0 (by rw [List.length_map]; omega), ?_⟩
        refine ⟨_, _, _, _, _, _, rfl, ?_, keep s3⟩
        rw [upd_same, map_set]
        rfl
    · rintro σ H3 ⟨y3, y4, y5, y6, y7, y8, rfl, k3, s3⟩
      rw [l1, List.take_length] at k3
      refine ⟨_, rfl, L, _, rfl, .inl ⟨SqL.of k3, fun t nt => ?_⟩⟩
      exact q _ _ (s3.trans (same_upd nt)) fun D B => .tup upd_same ints_dq
end
end Jg
namespace L2
open PySem PySem.Spec PyProof.Rows
section
variable {X : Cx} {C : Addr} {bmB : List Value} {B newId initId : String}
/-- X(), an own exception class without own __init__ -/
theorem pmk_own0 {x : Str} {p pos : Pos} (F : ExcBaseFacts B newId initId bmB) (q : PySem.W.excIn X.K C bmB newId = true) (gC : X.mg x = some (.ref C)) (kC : PySem.W.keepIn X.K (.ref C) = true) (r : Raises X (.ref C)) (hg : Gl X x)
    (hdb : (x == ("__debug__" : Str)) = false := by decide) : PMk X (.Call (.Name x p) [] [] pos) (fun _ H Q => Q (.ref C) none H) := by
  intro pins s σ H Q I h
  refine wpAny_Call_Name_kw (ld_glob I hg gC ?_ hdb)
  refine PySem.W.callWith_K0 I.kIn kC ?_
  show wpAny _ _ (call (.ref C) []) _ _ _
  obtain ⟨bm, N, nm, qn, bs, hdct, sn, sub, ab, col, dd, k0, k1, k2, k3, k5, mN, hC, hN, hni, T⟩ := exc_obj I.kIn q
  refine wpAny_call_exc_subT F T hC hN hni (fun h' e hm => ?_) (Nat.zero_le _)
  exact mk_of I hm r h (I.hok.gone hm.new)
end
end L2
namespace Jg
open PySem PySem.Spec PyProof.Rows L2
/-! ### the way back -/
abbrev sContra : Stmt := topS 10
theorem scContra : FnScope ["move"] ["move"] (defScope sContra) := ⟨rfl, rfl, rfl, by decide +kernel, rfl, by decide +kernel, by decide +kernel⟩
abbrev sTaken : Stmt := topS 9
abbrev nTaken : List Str := ["tape", "places", "moves", "back", "move", "degrees"]
theorem scTaken : FnScope nTaken ["tape"] (defScope sTaken) := ⟨rfl, rfl, rfl, by decide +kernel, rfl, by decide +kernel, by decide +kernel⟩
theorem smallB {n : Nat} (h : n ≤ 1000) : n < sizeLine := Nat.lt_of_le_of_lt h (by rw [sizeLine_eq]; decide)
/-- the class that is raised -/
structure Uf (K : PySem.W.Frag) (mg : Str → Option Value) (C : Addr) : Prop where
  g : mg "TooLong" = some (.ref C)
  kp : PySem.W.keepIn K (.ref C) = true
  sub : PySem.W.subIn K (.ref C) (.type "BaseException") = some true
  ty : PySem.W.typeIn K (.ref C) = some (.type "type")
  exc : PySem.W.excIn K C [.type "ValueError", .type "Exception", .type "BaseException", .type "object"] "ValueError.__new__" = true
theorem cutV_front (ys : List V) (z : V) : cutV (ys ++ [z]) none (some (-1)) = ys := by
  unfold cutV
  have e2 : HT.sIx (ys ++ [z]).length (ys ++ [z]).length (some (-1)) = ys.length := by
    simp [HT.sIx]
    omega
  rw [e2, HT.sIx_none]
  simp
/-- the parts of a move with a factor -/
def Mo.fac : Mo → Option (Str × List Int × Int)
  | .gain i j c => some (Str.ofString "gain", [i, j], c)
  | .add i j k c => some (Str.ofString "add", [i, j, k], c)
  | .more i c => some (Str.ofString "more", [i], c)
  | _ => none
theorem fac_d {m : Mo} {x : Str} {is : List Int} {c : Int} (h : m.fac = some (x, is, c)) : m.d = .tuple (.str x :: (is ++ [c]).map PyData.int) ∧ m.back.d = .tuple (.str x :: (is ++ [-c]).map PyData.int) ∧ is.length ≤ 3 ∧ (decide (x = Str.ofString "gain") || decide (x = Str.ofString "add") || decide (x = Str.ofString "more")) = true := by
  cases m with
  | gain i j c =>
    cases h
    exact ⟨rfl, rfl, by show 2 ≤ 3; decide, by decide +kernel⟩
  | add i j k c =>
    cases h
    exact ⟨rfl, rfl, by show 3 ≤ 3; decide, by decide +kernel⟩
  | more i c =>
    cases h
    exact ⟨rfl, rfl, by show 1 ≤ 3; decide, by decide +kernel⟩
  | swap => cases h
  | turn => cases h
theorem fac_no {m : Mo} (h : m.fac = none) : m.back = m ∧ ∃ (x : Str) (is : List Int), m.d = .tuple (.str x :: is.map PyData.int) ∧ (decide (x = Str.ofString "gain") || decide (x = Str.ofString "add") || decide (x = Str.ofString "more")) = false := by
  cases m with
  | swap i j => exact ⟨rfl, Str.ofString "swap", [i, j], rfl, by decide +kernel⟩
  | turn i => exact ⟨rfl, Str.ofString "turn", [i], rfl, by decide +kernel⟩
  | _ => cases h
theorem dgo_at {bs : List Mo} {t : Nat} {m : Mo} {dg : List Int} (h : bs[t]? = some m) : dgo dg (bs.drop t) = ((m.deg dg).all (fun n => decide (n ≤ 64)) && dgo (m.deg dg) (bs.drop (t + 1))) := by
  obtain ⟨hl, e⟩ := List.getElem?_eq_some_iff.mp h
  rw [List.drop_eq_getElem_cons hl, e]
  rfl
theorem all64 {dg : List Int} : dg.all (fun n => decide (n ≤ 64)) = true ↔ ∀ n ∈ dg, n ≤ 64 := by
  rw [List.all_eq_true]
  exact ⟨fun h n hn => of_decide_eq_true (h n hn), fun h n hn => decide_eq_true (h n hn)⟩
section
variable {P : Program} {w : World} {K : PySem.W.Frag} {mg : Str → Option Value} {base : Heap}
def spContra : Sp := fun vs H Q _ => ∃ (D B : Addr) (v : V) (m : Mo) (pl : Int), vs = [v] ∧ Dq D B H v m.d ∧ m.ok pl ∧ pl ≤ 100 ∧ ∀ u H', Same H H' → (∀ D B, Dq D B H' u m.back.d) → Q u H'
theorem ok_contra {f dW : Addr} {fd : FuncData} (F : Nm K mg "_contrary" sContra ["move"] f fd) (W : Wn K mg dW) : FnOk P w K mg base CX0 1 f fd ["move"] spContra := by
  refine F.F.ok scContra (fun vs H Q E h => ?_) (fun cdv A outer s H vs Q E hr h => ?_)
  · obtain ⟨D, B, v, m, pl, rfl, _⟩ := h
    rfl
  · obtain ⟨D, B, v, m, pl, rfl, hd, mok, hp, q⟩ := h
    refine ⟨_, pss_one (ps_ret (pe_ifExp (pt_cmpR op_in_seq (pe_ix ix_tup (pv 0) pe_int (fun _ _ => rfl)) (pe_glob (v := .ref dW) rfl W.g rfl) (by rfl))
      (pe_op op_catA (pe_slice sl_tupA (pv 0) po_none (po_some (pe_un un_neg pe_int))) (pe_tup (pa_cons (pe_un un_neg (pe_ix ix_tup (pv 0) (pe_un un_neg pe_int) (fun _ _ => rfl))) pa_nil))) (pv 0))), ?_⟩
    have hpl := mo_plain mok hp
    cases hf : m.fac with
    | none =>
      obtain ⟨eb, x, is, ed, hx⟩ := fac_no hf
      rw [eb] at q
      have hall : ∀ D B, Dq D B H v m.d := fun D' B' => plain_any 2 _ _ hpl hd
      obtain ⟨a, xs, rfl, e, ha⟩ := (ed ▸ hd : Dq D B H v (.tuple (.str x :: is.map PyData.int))).tupE
      obtain rfl := dqInts ha
      refine ⟨_, rfl, a, _, 0, .str x, rfl, rfl, SqT.of e, atI_nat (j := 0) rfl, dW, _, rfl, .inr (W.t _), rfl, rfl, ?_⟩
      rw [if_neg Bool.false_ne_true, inV3, hx]
      exact ⟨_, rfl, iteF ⟨_, rfl, q _ H (Same.refl H) hall⟩⟩
    | some z =>
      obtain ⟨x, is, c⟩ := z
      obtain ⟨ed, eb, il, hx⟩ := fac_d hf
      obtain ⟨a, xs, rfl, e, ha⟩ := (ed ▸ hd : Dq D B H v (.tuple (.str x :: (is ++ [c]).map PyData.int))).tupE
      obtain rfl := dqInts ha
      have e' : H a = some (.tup ((V.str x :: is.map V.int) ++ [V.int c])) := by
        rw [e, List.map_append]
        rfl
      refine ⟨_, rfl, a, _, 0, .str x, rfl, rfl, SqT.of e, atI_nat (j := 0) rfl, dW, _, rfl, .inr (W.t _), rfl, rfl, ?_⟩
      rw [if_neg Bool.false_ne_true, inV3, hx]
      refine ⟨_, rfl, iteT ⟨_, rfl, ?_⟩⟩
      dsimp only [tNoPart]
      refine ⟨_, rfl, _, rfl, ?_⟩
      refine sl_read e' fun b H1 s1 e1 => ?_
      rw [cutV_front] at e1
      refine ⟨_, rfl, _, rfl, a, _, -1, .int c, rfl, rfl, SqT.of (s1 _ _ e'), atI_last _ _, _, rfl, sz1 rfl, fun t nt => ?_⟩
      have st := same_upd (o := .tup [.int (-c)]) nt
      refine cat_read (st _ _ e1) upd_same (by simp; omega) fun u H2 s2 e2 => ?_
      refine q _ H2 (s1.trans (st.trans s2)) fun D B => ?_
      rw [eb]
      refine .tup e2 (.cons (.str x) ?_)
      have em : is.map V.int ++ [V.int (-c)] = (is ++ [-c]).map V.int := by
        rw [List.map_append]
        rfl
      show DqAll D B H2 (is.map V.int ++ [V.int (-c)]) _
      rw [em]
      exact ints_dq
end
end Jg
namespace Jg
open PySem PySem.Spec PyProof.Rows L2
theorem plainAll {pl : Int} {ms : List Mo} (h : ∀ m ∈ ms, m.ok pl) (hp : pl ≤ 100) : ∀ d ∈ ms.map Mo.d, Plain 2 d := fun d hd => by
  obtain ⟨m, hm, rfl⟩ := List.mem_map.mp hd
  exact mo_plain (h m hm) hp
theorem back_get {ms : List Mo} {t : Nat} {m : Mo} (h : ms.reverse[t]? = some m) : (backOf ms)[t]? = some m.back := by
  unfold backOf
  rw [List.getElem?_map, h]
  rfl
theorem DqAll.pick {D B : Addr} {H : Hp} {xs : List V} {ms : List Mo} (h : DqAll D B H xs (ms.map Mo.d)) {t : Nat} {x : V} (e : xs[t]? = some x) : ∃ m, ms[t]? = some m ∧ Dq D B H x m.d := by
  obtain ⟨d, hd, hx⟩ := h.at_ t x e
  rw [List.getElem?_map] at hd
  obtain ⟨m, hm, rfl⟩ := Option.map_eq_some_iff.mp hd
  exact ⟨m, hm, hx⟩
/-- what comes of the degrees along the moves -/
theorem deep_yes {pl : Int} {bs : List Mo} {t : Nat} {m : Mo} {dg : List Int} (hm : bs[t]? = some m) (mok : m.ok pl) (hl : (dg.length : Int) = pl) (h64 : ∀ n ∈ dg, n ≤ 64) (hs : fnd (degD dg m.d) (plc m.d) ≤ 64) :
    (∀ n ∈ m.deg dg, n ≤ 64) ∧ dgo dg (bs.drop t) = dgo (m.deg dg) (bs.drop (t + 1)) := by
  have h2 := deg_small (mv_of (ok_mv mok)) hl h64 hs
  rw [mo_deg] at h2
  refine ⟨h2, ?_⟩
  rw [dgo_at hm, all64.mpr h2, Bool.true_and]
theorem deep_no {pl : Int} {bs : List Mo} {t : Nat} {m : Mo} {dg : List Int} (hm : bs[t]? = some m) (mok : m.ok pl) (hl : (dg.length : Int) = pl) (hs : ¬ fnd (degD dg m.d) (plc m.d) ≤ 64) : dgo dg (bs.drop t) = false := by
  have h2 := deg_big (mv_of (ok_mv mok)) hl
  rw [dgo_at hm]
  have h3 : (m.deg dg).all (fun n => decide (n ≤ 64)) = false := by
    cases hq : (m.deg dg).all (fun n => decide (n ≤ 64)) with
    | false => rfl
    | true =>
      rw [← mo_deg] at hq
      exact absurd (all64.mp hq _ h2) hs
  rw [h3]
  rfl
section
variable {P : Program} {w : World} {K : PySem.W.Frag} {mg : Str → Option Value} {base : Heap}
def spTaken (C : Addr) : Sp := fun vs H Q E => ∃ (D B : Addr) (v : V) (pl : Int) (ms : List Mo), vs = [v] ∧ Dq D B H v (tapD pl ms) ∧ Tm pl ms ∧
  (dgo (onez pl) (backOf ms) = true → ∀ u H', Same H H' → (∀ D B, Dq D B H' u (tapD pl (backOf ms))) → Q u H') ∧ (dgo (onez pl) (backOf ms) = false → ∀ H', Same H H' → E (.ref C) none H')
set_option maxHeartbeats 4000000 in
theorem ok_taken {f fC fD C dW : Addr} {fd fdC fdD : FuncData} {tk : Tok} (F : Nm K mg "taken_back" sTaken ["tape"] f fd) (FC : Nm K mg "_contrary" sContra ["move"] fC fdC) (FD : Nm K mg "_deepen" sDeepen ["degrees", "move"] fD fdD) (W : Wn K mg dW) (U : Uf K mg C) (gS : mg "MAX_SIZE" = some (.int 64 tk)) (T : Bn mg) :
    FnOk P w K mg base (L2.CX P w) 2 f fd ["tape"] (spTaken C) := by
  have GC : FnOk P w K mg base CX0 1 fC fdC ["move"] spContra := ok_contra FC W
  have GD : FnOk P w K mg base CX0 1 fD fdD ["degrees", "move"] spDeepen := ok_deepen FD gS T
  refine F.F.okX scTaken (fun vs H Q E h => ?_) (fun cdv A outer s H vs Q E hr h => ?_)
  · obtain ⟨D, B, v, pl, ms, rfl, _⟩ := h
    rfl
  · obtain ⟨D, B, v, pl, ms, rfl, hd, tm, qy, qn⟩ := h
    have hr1 : Room 1 _ := hr.mono (by decide)
    refine ⟨_, pss_cons (ps_asg (pv 0) (pg_tup rfl (pgs_cons (pg_name (i := 1) scTaken.nd rfl (.inl rfl)) (pgs_cons (pg_name (i := 2) scTaken.nd rfl (.inl rfl)) pgs_nil))))
      (pss_cons (ps_setLc (i := 3) (own := [("move", 4)]) (g := gName 4) (tt := tYes) rfl scTaken.nd rfl rfl (sw_true rfl rfl rfl rfl) (pi_tup (pe_revT (pv 2))) (blkOk_by (N := nTaken) (sc := defScope sTaken) (by decide +kernel))
          (fun _ _ _ _ _ => pg_name (i := 4) scTaken.nd rfl (.inl rfl)) (fun _ _ _ _ _ => pts_nil)
          (fun _ _ _ _ _ => pe_call GC hr1 (by rfl) FC.g FC.F.kp FC.b .nil pass0 (pa_cons (pv 4) pa_nil)))
      (pss_cons (ps_set (i := 5) scTaken.nd rfl (.inl rfl) (pe_op op_rep (pe_lst (pa_cons pe_int pa_nil)) (pv 1)))
      (pss_cons (ps_for (passes_of rfl) rfl (pi_list (pv 3)) (pg_name (i := 4) scTaken.nd rfl (.inl rfl))
        (pss_one (ps_if (pt_not (pt_val (pe_call GD hr1 (by rfl) FD.g FD.F.kp FD.b .nil pass0 (pa_cons (pv 5) (pa_cons (pv 4) pa_nil))))) (pss_one (ps_raise rfl (takes_of rfl rfl rfl rfl) (pmk_own0 PySem.F.excBase_ValueError U.exc U.g U.kp (raises_own U.sub U.ty) rfl))) pss_nil)))
      (pss_one (ps_ret (pe_tup (pa_cons (pv 1) (pa_cons (pe_callTy call_tuple_of (by rfl) T.tup boot_tuple' (pa_cons (pv 3) pa_nil)) pa_nil)))))))), ?_⟩
    obtain ⟨a, b, xs, rfl, ea, eb, hb⟩ := dq_tape hd
    have l1 := hb.len
    rw [List.length_map] at l1
    have tl := tm.len
    have p1 := tm.p1
    have p80 := tm.p80
    have hrev : DqAll D B H xs.reverse (ms.reverse.map Mo.d) := by
      rw [List.map_reverse]
      exact hb.rev
    refine ⟨_, rfl, a, _, rfl, SqT.of ea, rfl, .int pl, [.ref b], rfl, .ref b, [], rfl, rfl, ?_⟩
    refine ⟨_, rfl, b, _, rfl, SqT.of eb, fun r nr => ⟨r, rfl, ⟨_, SqT.of upd_same⟩, fun D1 nD1 => ?_⟩⟩
    have sr := same_upd (o := .tup xs.reverse) nr
    have er : (upd H r (.tup xs.reverse)) r = some (.tup xs.reverse) := upd_same
    refine lc_tup (K := K) (a := r) (xs := xs.reverse) (fun i H3 => ∃ ts : List V, H3 D1 = some (.lst ts) ∧ ts.length = i ∧ (∀ D B, DqAll D B H3 ts (((backOf ms).take i).map Mo.d)) ∧ Same (upd H r (.tup xs.reverse)) H3) ⟨[], upd_same, rfl, fun _ _ => .nil, same_upd nD1⟩ (fun i H3 _ ⟨_, _, _, _, s⟩ => SqT.of (s _ _ er)) ?_ ?_
    · rintro i y H3 hy ⟨ts, k3, tsl, hts, s3⟩
      have hi : i < xs.reverse.length := (List.getElem?_eq_some_iff.mp hy).1
      rw [List.length_reverse] at hi
      obtain ⟨m, hm, hx⟩ := hrev.pick hy
      have mok := tm.ok m (List.mem_reverse.mp (List.mem_of_getElem? hm))
      have hbk := back_get hm
      refine ⟨wipe1, tYes_if ⟨_, rfl, D, B, y, m, pl, rfl, (hx.same sr).same s3, mok, by omega, fun u H4 s4 hu => ?_⟩⟩
      have k4 := s4 _ _ k3
      refine ⟨ts, k4, smallB (by omega), ts ++ [u], upd_same, by rw [List.length_append, tsl]; rfl, fun D B => ?_, fun z o hz => ?_⟩
      · have e : (backOf ms).take (i + 1) = (backOf ms).take i ++ [m.back] := by
          rw [List.take_add_one, hbk]
          rfl
        refine plain_keepAll (n := 2) k4 (fun z o hz h => (upd_ne hz).trans h) (plainAll (pl := pl) (fun m hm => backOf_ok tm.ok m (List.mem_of_mem_take hm)) (by omega)) ?_
        rw [e, List.map_append]
        exact DqAll.append (.cons (hu D B) .nil) ((hts D B).same s4)
      · rw [upd_ne (ne_of_none hz nD1)]
        exact s4 _ _ (s3 _ _ hz)
    · rintro H3 ⟨ts, k3, tsl, hts, s3⟩
      rw [List.length_reverse, l1, ← backOf_len, List.take_length] at hts
      rw [List.length_reverse, l1] at tsl
      have s03 := sr.trans s3
      refine ⟨sz1 rfl, fun l nl => ⟨_, rfl, l, pl, [.int 1], rfl, rfl, upd_same, by omega, by omega, Nat.le_of_lt (small1000 (by show 1 * pl.toNat ≤ 1000; omega)), fun L0 nL0 => ?_⟩⟩
      have sl := same_upd (o := .lst [.int 1]) nl
      have sL := same_upd (o := .lst (List.replicate pl.toNat [V.int 1]).flatten) nL0
      have s35 := sl.trans sL
      have nL0H : H3 L0 = none := by
        cases hz : H3 L0 with
        | none => rfl
        | some o =>
          rw [sl _ _ hz] at nL0
          cases nL0
      have D1L : D1 ≠ L0 := ne_of_none k3 nL0H
      have eL0 : (upd (upd H3 l (.lst [.int 1])) L0 (.lst (List.replicate pl.toNat [V.int 1]).flatten)) L0 = some (.lst ((onez pl).map V.int)) := by
        rw [upd_same, ones_v]
        rfl
      refine ⟨_, rfl, D1, rfl, ⟨_, SqL.of (s35 _ _ k3)⟩, for_list (K := K) (a := D1) (xs := ts) (fun t σ H5 => ∃ (dg : List Int) (y4 : Option V), σ = [some (.ref a), some (.int pl), some (.ref b), some (.ref D1), y4, some (.ref L0)] ∧ (dg.length : Int) = pl ∧ (∀ n ∈ dg, n ≤ 64) ∧ dgo dg ((backOf ms).drop t) = dgo (onez pl) (backOf ms) ∧ H5 L0 = some (.lst (dg.map V.int)) ∧ H5 D1 = some (.lst ts) ∧ (∀ D B, DqAll D B H5 ts ((backOf ms).map Mo.d)) ∧ Same H H5)
        ⟨onez pl, none, rfl, ones_len (by omega), ones_64, rfl, eL0, s35 _ _ k3, fun D B => (hts D B).same s35, s03.trans s35⟩ (fun t σ H5 _ ⟨_, _, _, _, _, _, _, k, _⟩ => SqL.of k) ?_ ?_⟩
      · rintro t y σ H5 hy ⟨dg, y4, rfl, hdl, h64, hdg, eL5, k5, hq5, s5⟩
        obtain ⟨m, hm, hx⟩ := (hq5 D B).pick hy
        have mok := backOf_ok tm.ok m (List.mem_of_getElem? hm)
        refine ⟨_, rfl, _, rfl, D, B, L0, y, m.d, pl, dg, rfl, hx, mv_of (ok_mv mok), eL5, hdl, fun H6 e6 f6 => ?_⟩
        have s6 : Same H H6 := fun z o hz => f6 z o (ne_of_none hz (by
          cases hz2 : H L0 with
          | none => rfl
          | some o2 =>
            rw [s03 _ _ hz2] at nL0H
            cases nL0H)) (s5 z o hz)
        by_cases c : fnd (degD dg m.d) (plc m.d) ≤ 64
        · rw [decide_eq_true c]
          obtain ⟨h64', hdg'⟩ := deep_yes hm mok hdl h64 c
          rw [mo_deg] at e6
          refine ⟨_, rfl, iteF ⟨m.deg dg, _, rfl, by rw [deg_len]; exact hdl, h64', by rw [← hdg', hdg], e6, f6 _ _ D1L k5, fun D B => ?_, s6⟩⟩
          exact plain_keepAll (n := 2) eL5 f6 (plainAll (pl := pl) (backOf_ok tm.ok) (by omega)) (hq5 D B)
        · rw [decide_eq_false c]
          have hno := deep_no hm mok hdl c
          rw [hdg] at hno
          exact ⟨_, rfl, iteT (qn hno H6 s6)⟩
      · rintro σ H5 ⟨dg, y4, rfl, hdl, h64, hdg, eL5, k5, hq5, s5⟩
        have e0 : (backOf ms).drop ts.length = [] := List.drop_eq_nil_of_le (by rw [backOf_len]; omega)
        rw [e0] at hdg
        refine ⟨_, rfl, _, rfl, D1, ts, rfl, .inl ⟨SqL.of k5, fun t nt => ⟨sz1 rfl, fun u nu => ?_⟩⟩⟩
        have s8 := same_upd (o := .tup ts) nt
        have s9 := same_upd (o := .tup [.int pl, .ref t]) nu
        exact qy hdg.symm _ _ (s5.trans (s8.trans s9)) fun D B => .tup upd_same (.cons (.int _) (.cons (.tup (s9 _ _ upd_same) (((hq5 D B).same s8).same s9)) .nil))
end
end Jg
namespace Jg
open PySem PySem.Spec PyProof.Rows L2
/-! ### the law's way back, and the program's sign -/
abbrev sLBack : Stmt := topS 25
abbrev nLBack : List Str := ["_law_tape_here", "_law_moves", "_law_move_here", "_law_degrees_here"]
theorem scLBack : FnScope nLBack ["_law_tape_here"] (defScope sLBack) := ⟨rfl, rfl, rfl, by decide +kernel, rfl, by decide +kernel, by decide +kernel⟩
theorem odd_fac {m : Mo} {x : Str} {is : List Int} {c : Int} (h : m.fac = some (x, is, c)) : m.odd = false ∧ (decide (x = Str.ofString "swap") || decide (x = Str.ofString "turn")) = false := by
  cases m with
  | gain i j c =>
    cases h
    exact ⟨rfl, by decide +kernel⟩
  | add i j k c =>
    cases h
    exact ⟨rfl, by decide +kernel⟩
  | more i c =>
    cases h
    exact ⟨rfl, by decide +kernel⟩
  | swap => cases h
  | turn => cases h
theorem odd_no {m : Mo} (h : m.fac = none) : m.back = m ∧ m.odd = true ∧ ∃ (x : Str) (is : List Int), m.d = .tuple (.str x :: is.map PyData.int) ∧ (decide (x = Str.ofString "swap") || decide (x = Str.ofString "turn")) = true := by
  cases m with
  | swap i j => exact ⟨rfl, rfl, Str.ofString "swap", [i, j], rfl, by decide +kernel⟩
  | turn i => exact ⟨rfl, rfl, Str.ofString "turn", [i], rfl, by decide +kernel⟩
  | _ => cases h
theorem big_no {pl : Int} {bs : List Mo} {t : Nat} {m : Mo} {dg : List Int} {mm : Int} (hm : bs[t]? = some m) (h : mm ∈ m.deg dg) (hs : mm > 64) : dgo dg (bs.drop t) = false := by
  rw [dgo_at hm]
  have h3 : (m.deg dg).all (fun n => decide (n ≤ 64)) = false := by
    cases hq : (m.deg dg).all (fun n => decide (n ≤ 64)) with
    | false => rfl
    | true =>
      have := all64.mp hq _ h
      omega
  rw [h3]
  rfl
section
variable {P : Program} {w : World} {K : PySem.W.Frag} {mg : Str → Option Value} {base : Heap}
def spLBack : Sp := fun vs H Q _ => ∃ (D B : Addr) (v : V) (pl : Int) (ms : List Mo), vs = [v] ∧ Dq D B H v (tapD pl ms) ∧ Tm pl ms ∧
  (dgo (onez pl) (backOf ms) = true → ∀ u H', Same H H' → (∀ D B, Dq D B H' u (tapD pl (backOf ms))) → Q u H') ∧ (dgo (onez pl) (backOf ms) = false → ∀ H', Same H H' → Q .non H')
set_option maxHeartbeats 4000000 in
theorem ok_lBack {f fG : Addr} {fd fdG : FuncData} (F : Nm K mg "_law_back" sLBack ["_law_tape_here"] f fd) (FG : Nm K mg "_law_degrees" sDegs ["_law_degrees_here", "_law_move_here"] fG fdG) (T : Bn mg) : FnOk P w K mg base CX0 2 f fd ["_law_tape_here"] spLBack := by
  have GG : FnOk P w K mg base CX0 1 fG fdG ["_law_degrees_here", "_law_move_here"] spDegs := ok_degs FG T
  refine F.F.ok scLBack (fun vs H Q E h => ?_) (fun cdv A outer s H vs Q E hr h => ?_)
  · obtain ⟨D, B, v, pl, ms, rfl, _⟩ := h
    rfl
  · obtain ⟨D, B, v, pl, ms, rfl, hd, tm, qy, qn⟩ := h
    have hr1 : Room 1 _ := hr.mono (by decide)
    refine ⟨_, pss_cons (ps_set (i := 1) scLBack.nd rfl (.inl rfl) (pe_lst pa_nil))
      (pss_cons (ps_for PassesOwn.never rfl (pi_tup (pe_revT (pe_ix ix_tup (pv 0) pe_int (fun _ _ => rfl)))) (pg_name (i := 2) scLBack.nd rfl (.inl rfl))
        (pss_one (ps_expr (pe_bm PySem.F.plainAttrs_list PySem.F.slot_list_append PySem.F.type_list_append mt_append (pv 1) (pa_cons (pe_ifExp (pt_cmpR op_in_seq (pe_ix ix_tup (pv 2) pe_int (fun _ _ => rfl)) (pe_tup (pa_cons pe_str (pa_cons pe_str pa_nil))) (by rfl)) (pv 2)
          (pe_op op_catA (pe_slice sl_tupA (pv 2) po_none (po_some (pe_un un_neg pe_int))) (pe_tup (pa_cons (pe_op op_sub pe_int (pe_ix ix_tup (pv 2) (pe_un un_neg pe_int) (fun _ _ => rfl))) pa_nil)))) pa_nil)))))
      (pss_cons (ps_set (i := 3) scLBack.nd rfl (.inl rfl) (pe_op op_rep (pe_lst (pa_cons pe_int pa_nil)) (pe_ix ix_tup (pv 0) pe_int (fun _ _ => rfl))))
      (pss_cons (ps_for PassesOwn.never rfl (pi_list (pv 1)) (pg_name (i := 2) scLBack.nd rfl (.inl rfl))
        (pss_cons (ps_set (i := 3) scLBack.nd rfl (.inl rfl) (pe_call GG hr1 (by rfl) FG.g FG.F.kp FG.b .nil pass0 (pa_cons (pv 3) (pa_cons (pv 2) pa_nil))))
        (pss_one (ps_if (pt_cmpR op_gt (pe_callB (cr_max rfl) (by rfl) T.max boot_max' (pa_cons (pv 3) pa_nil)) pe_int (nomark _)) (pss_one (ps_ret pe_non)) pss_nil))))
      (pss_one (ps_ret (pe_tup (pa_cons (pe_ix ix_tup (pv 0) pe_int (fun _ _ => rfl)) (pa_cons (pe_callTy call_tuple_of (by rfl) T.tup boot_tuple' (pa_cons (pv 1) pa_nil)) pa_nil)))))))), ?_⟩
    obtain ⟨a, b, xs, rfl, ea, eb, hb⟩ := dq_tape hd
    have l1 := hb.len
    rw [List.length_map] at l1
    have tl := tm.len
    have p1 := tm.p1
    have p80 := tm.p80
    have hrev : DqAll D B H xs.reverse (ms.reverse.map Mo.d) := by
      rw [List.map_reverse]
      exact hb.rev
    refine ⟨Nat.zero_le _, fun M nM => ?_⟩
    have sM := same_upd (o := .lst []) nM
    refine ⟨_, rfl, a, _, 1, .ref b, rfl, rfl, SqT.of (sM _ _ ea), atI_nat (j := 1) rfl, b, _, rfl, SqT.of (sM _ _ eb), fun r nr => ?_⟩
    have sr := same_upd (o := .tup xs.reverse) nr
    have er : (upd (upd H M (.lst [])) r (.tup xs.reverse)) r = some (.tup xs.reverse) := upd_same
    have rM : M ≠ r := fun z => by
      rw [← z, upd_same] at nr
      cases nr
    refine ⟨r, rfl, ⟨_, SqT.of er⟩, for_tup (K := K) (a := r) (xs := xs.reverse) (fun i σ H3 => ∃ (ts : List V) (y2 y3 : Option V), σ = [some (.ref a), some (.ref M), y2, y3] ∧ H3 M = some (.lst ts) ∧ ts.length = i ∧ (∀ D B, DqAll D B H3 ts (((backOf ms).take i).map Mo.d)) ∧ Same H H3 ∧ H3 r = some (.tup xs.reverse)) ⟨[], none, none, rfl, sr _ _ upd_same, rfl, fun _ _ => .nil, sM.trans sr, er⟩ (fun i σ H3 _ ⟨_, _, _, _, _, _, _, _, e⟩ => SqT.of e) ?_ ?_⟩
    · rintro i y σ H3 hy ⟨ts, y2, y3, rfl, k3, tsl, hts, s3, e3⟩
      have hi : i < xs.reverse.length := (List.getElem?_eq_some_iff.mp hy).1
      rw [List.length_reverse] at hi
      obtain ⟨m, hm, hx⟩ := hrev.pick hy
      have mok := tm.ok m (List.mem_reverse.mp (List.mem_of_getElem? hm))
      have hbk := back_get hm
      have hpl := mo_plain mok (by omega)
      have hx3 := hx.same s3
      have e : (backOf ms).take (i + 1) = (backOf ms).take i ++ [m.back] := by
        rw [List.take_add_one, hbk]
        rfl
      have fin : ∀ {u : V} {H4 : Hp}, Same H3 H4 → (∀ D B, Dq D B H4 u m.back.d) → ∃ (ts' : List V) (y2 y3 : Option V), [some (V.ref a), some (.ref M), some y, y3] = [some (V.ref a), some (.ref M), y2, y3] ∧ (upd H4 M (.lst (ts ++ [u]))) M = some (.lst ts') ∧ ts'.length = i + 1 ∧ (∀ D B, DqAll D B (upd H4 M (.lst (ts ++ [u]))) ts' (((backOf ms).take (i + 1)).map Mo.d)) ∧ Same H (upd H4 M (.lst (ts ++ [u]))) ∧ (upd H4 M (.lst (ts ++ [u]))) r = some (.tup xs.reverse) := fun {u H4} s4 hu => by
        refine ⟨ts ++ [u], _, y3, rfl, upd_same, by rw [List.length_append, tsl]; rfl, fun D B => ?_, fun z o hz => ?_, ?_⟩
        · refine plain_keepAll (n := 2) (s4 _ _ k3) (fun z o hz h => (upd_ne hz).trans h) (plainAll (pl := pl) (fun m hm => backOf_ok tm.ok m (List.mem_of_mem_take hm)) (by omega)) ?_
          rw [e, List.map_append]
          exact DqAll.append (.cons (hu D B) .nil) ((hts D B).same s4)
        · rw [upd_ne (ne_of_none hz nM)]
          exact s4 _ _ (s3 _ _ hz)
        · rw [upd_ne rM.symm]
          exact s4 _ _ e3
      refine ⟨_, rfl, .inl ⟨rfl, _, SqL.of k3⟩, ?_⟩
      cases hf : m.fac with
      | none =>
        obtain ⟨ebk, _, x, is, ed, hxx⟩ := odd_no hf
        have hall : ∀ D B, Dq D B H3 y m.d := fun D' B' => plain_any 2 _ _ hpl hx3
        obtain ⟨am, axs, rfl, e1, ha⟩ := (ed ▸ hx3 : Dq D B H3 y (.tuple (.str x :: is.map PyData.int))).tupE
        obtain rfl := dqInts ha
        refine ⟨_, rfl, am, _, 0, .str x, rfl, rfl, SqT.of e1, atI_nat (j := 0) rfl, sz1 rfl, fun p3 n3 => ?_⟩
        have s5 := same_upd (o := .tup [.str (Str.ofString "swap"), .str (Str.ofString "turn")]) n3
        refine ⟨p3, _, rfl, .inr (SqT.of upd_same), rfl, rfl, ?_⟩
        rw [if_neg Bool.false_ne_true, inV2, hxx]
        refine ⟨_, rfl, iteT ⟨_, rfl, M, _, _, rfl, rfl, s5 _ _ k3, small1000 (by omega), ?_⟩⟩
        obtain ⟨ts', a2, a3, h1, h2⟩ := fin s5 fun D B => by
          rw [ebk]
          exact (hall D B).same s5
        exact ⟨ts', _, _, rfl, h2⟩
      | some z =>
        obtain ⟨x, is, c⟩ := z
        obtain ⟨ed, ebk, il, _⟩ := fac_d hf
        obtain ⟨_, hxx⟩ := odd_fac hf
        obtain ⟨am, axs, rfl, e1, ha⟩ := (ed ▸ hx3 : Dq D B H3 y (.tuple (.str x :: (is ++ [c]).map PyData.int))).tupE
        obtain rfl := dqInts ha
        have e' : H3 am = some (.tup ((V.str x :: is.map V.int) ++ [V.int c])) := by
          rw [e1, List.map_append]
          rfl
        refine ⟨_, rfl, am, _, 0, .str x, rfl, rfl, SqT.of e1, atI_nat (j := 0) rfl, sz1 rfl, fun p3 n3 => ?_⟩
        have s5 := same_upd (o := .tup [.str (Str.ofString "swap"), .str (Str.ofString "turn")]) n3
        refine ⟨p3, _, rfl, .inr (SqT.of upd_same), rfl, rfl, ?_⟩
        rw [if_neg Bool.false_ne_true, inV2, hxx]
        refine ⟨_, rfl, iteF ⟨_, rfl, ?_⟩⟩
        dsimp only [tNoPart]
        refine ⟨_, rfl, _, rfl, ?_⟩
        refine sl_read (s5 _ _ e') fun c1 H6 s6 e6 => ?_
        rw [cutV_front] at e6
        have e6' := (s5.trans s6) _ _ e'
        refine ⟨_, rfl, _, rfl, am, _, -1, .int c, rfl, rfl, SqT.of e6', atI_last _ _, _, _, rfl, rfl, sz1 rfl, fun t nt => ?_⟩
        have st := same_upd (o := .tup [.int (0 - c)]) nt
        refine cat_read (st _ _ e6) upd_same (by simp; omega) fun u H8 s8 e8 => ?_
        have s38 := s5.trans (s6.trans (st.trans s8))
        refine ⟨M, _, _, rfl, rfl, s38 _ _ k3, small1000 (by omega), ?_⟩
        obtain ⟨ts', a2, a3, h1, h2⟩ := fin (u := .ref u) s38 fun D B => by
          rw [ebk]
          refine .tup e8 (.cons (.str x) ?_)
          have em : is.map V.int ++ [V.int (0 - c)] = (is ++ [-c]).map V.int := by
            rw [List.map_append, Int.zero_sub]
            rfl
          show DqAll D B H8 (is.map V.int ++ [V.int (0 - c)]) _
          rw [em]
          exact ints_dq
        exact ⟨ts', _, _, rfl, h2⟩
    · rintro σ H3 ⟨ts, y2, y3, rfl, k3, tsl, hts, s3, e3⟩
      rw [List.length_reverse, l1, ← backOf_len, List.take_length] at hts
      rw [List.length_reverse, l1] at tsl
      refine ⟨sz1 rfl, fun l nl => ?_⟩
      have sl := same_upd (o := .lst [.int 1]) nl
      refine ⟨_, rfl, a, _, 0, .int pl, rfl, rfl, SqT.of (sl _ _ (s3 _ _ ea)), atI_nat (j := 0) rfl, l, pl, [.int 1], rfl, rfl, upd_same, by omega, by omega, Nat.le_of_lt (small1000 (by show 1 * pl.toNat ≤ 1000; omega)), fun L0 nL0 => ?_⟩
      have sL := same_upd (o := .lst (List.replicate pl.toNat [V.int 1]).flatten) nL0
      have s35 := sl.trans sL
      have eL0 : (upd (upd H3 l (.lst [.int 1])) L0 (.lst (List.replicate pl.toNat [V.int 1]).flatten)) L0 = some (.lst ((onez pl).map V.int)) := by
        rw [upd_same, ones_v]
        rfl
      refine ⟨_, rfl, M, rfl, ⟨_, SqL.of (s35 _ _ k3)⟩, for_list (K := K) (a := M) (xs := ts) (fun t σ H5 => ∃ (dg : List Int) (L : Addr) (y2 : Option V), σ = [some (.ref a), some (.ref M), y2, some (.ref L)] ∧ (dg.length : Int) = pl ∧ dgo dg ((backOf ms).drop t) = dgo (onez pl) (backOf ms) ∧ H5 L = some (.lst (dg.map V.int)) ∧ H5 M = some (.lst ts) ∧ (∀ D B, DqAll D B H5 ts ((backOf ms).map Mo.d)) ∧ Same H H5)
        ⟨onez pl, L0, _, rfl, ones_len (by omega), rfl, eL0, s35 _ _ k3, fun D B => (hts D B).same s35, s3.trans s35⟩ (fun t σ H5 _ ⟨_, _, _, _, _, _, _, k, _⟩ => SqL.of k) ?_ ?_⟩
      · rintro t y σ H5 hy ⟨dg, L, y2, rfl, hdl, hdg, eL5, k5, hq5, s5⟩
        obtain ⟨m, hm, hx⟩ := (hq5 D B).pick hy
        have mok := backOf_ok tm.ok m (List.mem_of_getElem? hm)
        refine ⟨_, rfl, _, rfl, D, B, L, y, m.d, pl, dg, rfl, hx, mv_of (ok_mv mok), eL5, hdl, fun M1 H6 nM1 s6 e6 => ?_⟩
        rw [mo_deg] at e6
        have hne : 0 < (m.deg dg).length := by
          rw [deg_len]
          omega
        refine ⟨_, rfl, M1, m.deg dg, rfl, SqL.of e6, hne, fun mm hmm hmax => ⟨_, _, rfl, rfl, _, rfl, ite2 (fun c => ?_) (fun c => ?_)⟩⟩
        · have c3 := of_decide_eq_true c
          have hno := big_no (pl := pl) hm hmm c3
          rw [hdg] at hno
          exact qn hno H6 (s5.trans s6)
        · have c3 : mm ≤ 64 := Int.not_lt.mp fun z => c (decide_eq_true z)
          have h64 : ∀ n ∈ m.deg dg, n ≤ 64 := fun n hn => Int.le_trans (hmax n hn) c3
          refine ⟨m.deg dg, M1, _, rfl, by rw [deg_len]; exact hdl, ?_, e6, s6 _ _ k5, fun D B => (hq5 D B).same s6, s5.trans s6⟩
          rw [← hdg, dgo_at hm, all64.mpr h64, Bool.true_and]
      · rintro σ H5 ⟨dg, L, y2, rfl, hdl, hdg, eL5, k5, hq5, s5⟩
        have e0 : (backOf ms).drop ts.length = [] := List.drop_eq_nil_of_le (by rw [backOf_len]; omega)
        rw [e0] at hdg
        refine ⟨_, rfl, a, _, 0, .int pl, rfl, rfl, SqT.of (s5 _ _ ea), atI_nat (j := 0) rfl, _, rfl, M, ts, rfl, .inl ⟨SqL.of k5, fun t nt => ⟨sz1 rfl, fun u nu => ?_⟩⟩⟩
        have s8 := same_upd (o := .tup ts) nt
        have s9 := same_upd (o := .tup [.int pl, .ref t]) nu
        exact qy hdg.symm _ _ (s5.trans (s8.trans s9)) fun D B => .tup upd_same (.cons (.int _) (.cons (.tup (s9 _ _ upd_same) (((hq5 D B).same s8).same s9)) .nil))
end
end Jg
namespace Jg
open PySem PySem.Spec PyProof.Rows L2
abbrev sSign : Stmt := topS 11
abbrev nSign : List Str := ["tape", "odd", "move"]
theorem scSign : FnScope nSign ["tape"] (defScope sSign) := ⟨rfl, rfl, rfl, by decide +kernel, rfl, by decide +kernel, by decide +kernel⟩
theorem op_inK {X : Cx} {K : PySem.W.Frag} (h : X.K = K) : OpR X (compareOp .In) (rIn K false) := h ▸ op_in_seq
/-- how many moves are swaps and turns -/
def oddN (ms : List Mo) : Nat := ms.countP Mo.odd
theorem oddN_next {ms : List Mo} {t : Nat} {m : Mo} (h : ms[t]? = some m) : oddN (ms.take (t + 1)) = oddN (ms.take t) + (if m.odd = true then 1 else 0) := by
  unfold oddN
  rw [List.take_add_one, h, List.countP_append]
  show _ + List.countP Mo.odd [m] = _
  rw [List.countP_cons, List.countP_nil, Nat.zero_add]
theorem oddN_le (ms : List Mo) : oddN ms ≤ ms.length := List.countP_le_length
def sgn (ms : List Mo) : Int := 1 - 2 * (((oddN ms : Nat) : Int) % 2)
/-- the word of a move, and whether it is odd -/
theorem word_odd (m : Mo) : ∃ (x : Str) (is : List Int), m.d = .tuple (.str x :: is.map PyData.int) ∧ (decide (x = Str.ofString "swap") || decide (x = Str.ofString "turn")) = m.odd := by
  cases m with
  | gain i j c => exact ⟨Str.ofString "gain", [i, j, c], rfl, by show (decide (Str.ofString "gain" = Str.ofString "swap") || decide (Str.ofString "gain" = Str.ofString "turn")) = false; decide +kernel⟩
  | add i j k c => exact ⟨Str.ofString "add", [i, j, k, c], rfl, by show (decide (Str.ofString "add" = Str.ofString "swap") || decide (Str.ofString "add" = Str.ofString "turn")) = false; decide +kernel⟩
  | swap i j => exact ⟨Str.ofString "swap", [i, j], rfl, by show (decide (Str.ofString "swap" = Str.ofString "swap") || decide (Str.ofString "swap" = Str.ofString "turn")) = true; decide +kernel⟩
  | turn i => exact ⟨Str.ofString "turn", [i], rfl, by show (decide (Str.ofString "turn" = Str.ofString "swap") || decide (Str.ofString "turn" = Str.ofString "turn")) = true; decide +kernel⟩
  | more i c => exact ⟨Str.ofString "more", [i, c], rfl, by show (decide (Str.ofString "more" = Str.ofString "swap") || decide (Str.ofString "more" = Str.ofString "turn")) = false; decide +kernel⟩
section
variable {P : Program} {w : World} {K : PySem.W.Frag} {mg : Str → Option Value} {base : Heap}
def spSign : Sp := fun vs H Q _ => ∃ (D B : Addr) (v : V) (pl : Int) (ms : List Mo), vs = [v] ∧ Dq D B H v (tapD pl ms) ∧ Tm pl ms ∧ ∀ H', Same H H' → Q (.int (sgn ms)) H'
theorem ok_sign {f : Addr} {fd : FuncData} (F : Nm K mg "sign" sSign ["tape"] f fd) (T : Bn mg) : FnOk P w K mg base CX0 1 f fd ["tape"] spSign := by
  refine F.F.ok scSign (fun vs H Q E h => ?_) (fun cdv A outer s H vs Q E hr h => ?_)
  · obtain ⟨D, B, v, pl, ms, rfl, _⟩ := h
    rfl
  · obtain ⟨D, B, v, pl, ms, rfl, hd, tm, q⟩ := h
    refine ⟨_, pss_cons (ps_set (i := 1) scSign.nd rfl (.inl rfl) (pe_op op_mod (pe_callB call_len_seq (by rfl) T.len PySem.boot_len (pa_cons (pe_lc (own := [("move", 2)]) (g := gName 2) rfl scSign.nd (pi_tup (pe_ix ix_tup (pv 0) pe_int (fun _ _ => rfl))) (blkOk_by (N := nSign) (sc := defScope sSign) (by decide +kernel))
        (fun _ _ _ _ _ => pg_name (i := 2) scSign.nd rfl (.inl rfl)) (fun _ _ _ _ _ => pts_one (pt_cmpR (op_inK (K := K) rfl) (pe_ix (ix_tupK (K := K) rfl) (pv 2) pe_int (fun _ _ => rfl)) (pe_tup (pa_cons pe_str (pa_cons pe_str pa_nil))) (by rfl))) (fun _ _ _ _ _ => pv 2)) pa_nil)) pe_int))
      (pss_one (ps_ret (pe_ifExp (pt_truth (pv 1) (by intro _; rfl)) (pe_un un_neg pe_int) pe_int))), ?_⟩
    obtain ⟨a, b, xs, rfl, ea, eb, hb⟩ := dq_tape hd
    have l1 := hb.len
    rw [List.length_map] at l1
    have tl := tm.len
    refine ⟨_, rfl, a, _, 1, .ref b, rfl, rfl, SqT.of ea, atI_nat (j := 1) rfl, b, rfl, ⟨_, SqT.of eb⟩, fun D1 nD1 => ?_⟩
    refine lc_tup (K := K) (a := b) (xs := xs) (fun i H3 => ∃ ts : List V, H3 D1 = some (.lst ts) ∧ ts.length = oddN (ms.take i) ∧ Same H H3) ⟨[], upd_same, rfl, same_upd nD1⟩ (fun i H3 _ ⟨_, _, _, s⟩ => SqT.of (s _ _ eb)) ?_ ?_
    · rintro i y H3 hy ⟨ts, k3, tsl, s3⟩
      obtain ⟨m, hm, hx⟩ := hb.pick hy
      obtain ⟨x, is, ed, hxx⟩ := word_odd m
      obtain ⟨am, axs, rfl, e1, ha⟩ := (ed ▸ hx.same s3 : Dq D B H3 y (.tuple (.str x :: is.map PyData.int))).tupE
      obtain rfl := dqInts ha
      refine ⟨wipe1, _, rfl, am, _, 0, .str x, rfl, rfl, SqT.of e1, atI_nat (j := 0) rfl, sz1 rfl, fun p3 n3 => ?_⟩
      have s5 := same_upd (o := .tup [.str (Str.ofString "swap"), .str (Str.ofString "turn")]) n3
      refine ⟨p3, _, rfl, .inr (SqT.of upd_same), rfl, rfl, ?_⟩
      rw [if_neg Bool.false_ne_true, inV2, hxx]
      have hnext := oddN_next hm
      have hle := oddN_le (ms.take i)
      rw [List.length_take] at hle
      cases ho : m.odd with
      | true =>
        rw [ho, if_pos rfl] at hnext
        refine ⟨_, rfl, iteT ⟨_, rfl, ts, s5 _ _ k3, smallB (by omega), ts ++ [.ref am], upd_same, by rw [List.length_append, tsl, hnext]; rfl, fun z o hz => ?_⟩⟩
        rw [upd_ne (ne_of_none hz nD1)]
        exact s5 _ _ (s3 _ _ hz)
      | false =>
        rw [ho, if_neg Bool.false_ne_true, Nat.add_zero] at hnext
        exact ⟨_, rfl, iteF ⟨ts, s5 _ _ k3, by omega, s3.trans s5⟩⟩
    · rintro H3 ⟨ts, k3, tsl, s3⟩
      rw [l1, List.take_length] at tsl
      refine ⟨D1, ts, rfl, .inl (SqL.of k3), _, _, rfl, rfl, (by show (0 : Int) < 2; decide), ?_⟩
      have e2 : sgn ms = 1 - 2 * (((ts.length : Nat) : Int) % 2) := by
        unfold sgn
        rw [tsl]
      refine ⟨_, rfl, _, rfl, ?_⟩
      have q2 := q H3 s3
      rw [e2] at q2
      rcases Int.emod_two_eq (ts.length : Int) with h | h
      · rw [h] at q2 ⊢
        exact iteF q2
      · rw [h] at q2 ⊢
        exact iteT ⟨_, rfl, q2⟩
end
end Jg
namespace Jg
open PySem PySem.Spec PyProof.Rows L2
/-! ### the law's tapes -/
def degAll (dg : List Int) (ms : List Mo) : List Int := ms.foldl Mo.deg dg
theorem degAll_add (dg : List Int) (ms : List Mo) (m : Mo) : degAll dg (ms ++ [m]) = m.deg (degAll dg ms) := by
  unfold degAll
  rw [List.foldl_append]
  rfl
theorem dgo_add : ∀ (ms : List Mo) (dg : List Int) (m : Mo), dgo dg ms = true → (∀ n ∈ m.deg (degAll dg ms), n ≤ 64) → dgo dg (ms ++ [m]) = true
  | [], dg, m, _, h => by
    show ((m.deg dg).all (fun n => decide (n ≤ 64)) && true) = true
    rw [Bool.and_true]
    exact all64.mpr h
  | x :: ms, dg, m, h, h2 => by
    have h3 : ((x.deg dg).all (fun n => decide (n ≤ 64)) && dgo (x.deg dg) ms) = true := h
    rw [Bool.and_eq_true] at h3
    show ((x.deg dg).all (fun n => decide (n ≤ 64)) && dgo (x.deg dg) (ms ++ [m])) = true
    rw [h3.1, Bool.true_and]
    exact dgo_add ms (x.deg dg) m h3.2 h2
abbrev sTape : Stmt := topS 23
abbrev nTape : List Str := ["_law_deck_here", "_law_places", "_law_many", "_law_most", "_law_degrees_here", "_law_moves", "_law_turn", "_law_move_here"]
theorem scTape : FnScope nTape ["_law_deck_here", "_law_places", "_law_many", "_law_most"] (defScope sTape) := ⟨rfl, rfl, rfl, by decide +kernel, rfl, by decide +kernel, by decide +kernel⟩
theorem mv_one {pl : Int} {m : Mo} (h : m.ok pl) : ∃ (x : Str) (i : Int) (rest : List PyData), m.d = .tuple (.str x :: .int i :: rest) ∧ 0 ≤ i ∧ i < pl := by
  cases m with
  | gain i j c => exact ⟨_, i, _, rfl, h.1, h.2.1⟩
  | add i j k c => exact ⟨_, i, _, rfl, h.1, h.2.1⟩
  | swap i j => exact ⟨_, i, _, rfl, h.1, h.2.1⟩
  | turn i => exact ⟨_, i, _, rfl, h.1, h.2⟩
  | more i c => exact ⟨_, i, _, rfl, h.1, h.2.1⟩
theorem ok_app {pl : Int} {ms : List Mo} {m : Mo} (h : ∀ x ∈ ms, x.ok pl) (h2 : m.ok pl) : ∀ x ∈ ms ++ [m], x.ok pl := fun x hx => by
  rcases List.mem_append.mp hx with hx | hx
  · exact h x hx
  · rw [List.mem_singleton.mp hx]
    exact h2
section
variable {P : Program} {w : World} {K : PySem.W.Frag} {mg : Str → Option Value} {base : Heap}
def spTape : Sp := fun vs H Q _ => ∃ (D B C : Addr) (cells : List Int) (pl m mo : Int), vs = [.ref D, .int pl, .int m, .int mo] ∧ DeckAt D B C cells H ∧ 1 ≤ pl ∧ pl ≤ 80 ∧ 0 ≤ m ∧ m ≤ 100 ∧ mo ≤ 64 ∧
  ∀ v ms H', Tm pl ms → dgo (onez pl) ms = true → Dq D B H' v (tapD pl ms) → DeckAt D B C cells H' → Fr D B H H' → Q v H'
set_option maxHeartbeats 4000000 in
theorem ok_tape {f fD fG fV : Addr} {fd fdD fdG fdV : FuncData} (F : Nm K mg "_law_tape" sTape ["_law_deck_here", "_law_places", "_law_many", "_law_most"] f fd) (GV : FnOk P w K mg base CX0 5 fV fdV ["_law_deck_here", "_law_places", "_law_words"] spMove) (bV : Binds K fdV ["_law_deck_here", "_law_places", "_law_words"] []) (gV : mg "_law_move" = some (.ref fV)) (kV : PySem.W.keepIn K (.ref fV) = true)
    (FG : Nm K mg "_law_degrees" sDegs ["_law_degrees_here", "_law_move_here"] fG fdG) (FD : Dr K mg fD fdD) (T : Bn mg) : FnOk P w K mg base CX0 6 f fd ["_law_deck_here", "_law_places", "_law_many", "_law_most"] spTape := by
  have GD : FnOk P w K mg base CX0 1 fD fdD ["_law_deck_here", "_law_many"] spDraw := ok_draw FD.F T.int T.len
  have GG : FnOk P w K mg base CX0 1 fG fdG ["_law_degrees_here", "_law_move_here"] spDegs := ok_degs FG T
  refine F.F.ok scTape (fun vs H Q E h => ?_) (fun cdv A outer s H vs Q E hr h => ?_)
  · obtain ⟨D, B, C, cells, pl, m, mo, rfl, _⟩ := h
    rfl
  · obtain ⟨D, B, C, cells, pl, m, mo, rfl, dk, p1, p80, m0, m1, mo64, q⟩ := h
    have hr1 : Room 1 _ := hr.mono (by decide)
    refine ⟨_, pss_cons (ps_par (i := 4) (j := 5) rfl scTape.nd rfl rfl (by decide) rfl rfl (pa_cons (pe_op op_rep (pe_lst (pa_cons pe_int pa_nil)) (pv 1)) (pa_cons (pe_lst pa_nil) pa_nil)) rfl)
      (pss_cons (ps_for PassesOwn.never rfl (pi_range1 rfl T.rng (pa_cons (pe_call GD hr1 (by rfl) FD.g FD.F.kp FD.b .nil pass0 (pa_cons (pv 0) (pa_cons (pe_op op_add (pv 2) pe_int) pa_nil))) pa_nil)) (pg_name (i := 6) scTape.nd rfl (.inl rfl))
        (pss_cons (ps_set (i := 7) scTape.nd rfl (.inl rfl) (pe_call GV hr (by rfl) gV kV bV .nil pass0 (pa_cons (pv 0) (pa_cons (pv 1) (pa_cons (pe_lst (pa_cons pe_str (pa_cons pe_str (pa_cons pe_str (pa_cons pe_str (pa_cons pe_str (pa_cons pe_str (pa_cons pe_str pa_nil)))))))) pa_nil)))))
        (pss_cons (ps_if (pt_cmpR op_gt (pe_callB (cr_max rfl) (by rfl) T.max boot_max' (pa_cons (pe_call GG hr1 (by rfl) FG.g FG.F.kp FG.b .nil pass0 (pa_cons (pv 4) (pa_cons (pv 7) pa_nil))) pa_nil)) (pv 3) (nomark _)) (pss_one (ps_set (i := 7) scTape.nd rfl (.inl rfl) (pe_tup (pa_cons pe_str (pa_cons (pe_ix ix_tup (pv 7) pe_int (fun _ _ => rfl)) (pa_cons pe_int pa_nil)))))) pss_nil)
        (pss_cons (ps_set (i := 4) scTape.nd rfl (.inl rfl) (pe_call GG hr1 (by rfl) FG.g FG.F.kp FG.b .nil pass0 (pa_cons (pv 4) (pa_cons (pv 7) pa_nil))))
        (pss_one (ps_expr (pe_bm PySem.F.plainAttrs_list PySem.F.slot_list_append PySem.F.type_list_append mt_append (pv 5) (pa_cons (pv 7) pa_nil))))))))
      (pss_one (ps_ret (pe_tup (pa_cons (pv 1) (pa_cons (pe_callTy call_tuple_of (by rfl) T.tup boot_tuple' (pa_cons (pv 5) pa_nil)) pa_nil)))))), ?_⟩
    refine ⟨sz1 rfl, fun l nl => ⟨_, rfl, l, pl, [.int 1], rfl, rfl, upd_same, by omega, by omega, Nat.le_of_lt (small1000 (by show 1 * pl.toNat ≤ 1000; omega)), fun L0 nL0 => ⟨Nat.zero_le _, fun Mv nMv => ⟨_, _, rfl, ?_⟩⟩⟩⟩
    have sl := same_upd (o := .lst [.int 1]) nl
    have sL := same_upd (o := .lst (List.replicate pl.toNat [V.int 1]).flatten) nL0
    have sM := same_upd (o := .lst []) nMv
    have back : ∀ {a : Addr} {H1 H2 : Hp}, Same H1 H2 → H2 a = none → H1 a = none := fun {a H1 H2} s h => by
      cases hz : H1 a with
      | none => rfl
      | some o =>
        rw [s _ _ hz] at h
        cases h
    have nA : H Mv = none := back (sl.trans sL) nMv
    have nL0H : H L0 = none := back sl nL0
    have AD := dk.neD nA
    have AB := dk.neB nA
    have AC := ne_of_none dk.cel nA
    have dk0 := ((dk.same sl).same sL).same sM
    have eL0 : (upd (upd (upd H l (.lst [.int 1])) L0 (.lst (List.replicate pl.toNat [V.int 1]).flatten)) Mv (.lst [])) L0 = some (.lst ((onez pl).map V.int)) := sM _ _ (by
      rw [upd_same, ones_v]
      rfl)
    have LM0 : L0 ≠ Mv := fun z => by
      rw [← z, upd_same] at nMv
      cases nMv
    refine ⟨_, rfl, _, rfl, _, _, rfl, rfl, D, B, C, cells, m + 1, rfl, dk0, by omega, by omega, fun j H4 j0 j1 dk4 f4 => ⟨_, rfl, by omega, by omega, for_range (n := j.toNat) (fun i σ H3 => ∃ (L : Addr) (dg : List Int) (xs : List V) (ms : List Mo) (y6 y7 : Option V), σ = [some (.ref D), some (.int pl), some (.int m), some (.int mo), some (.ref L), some (.ref Mv), y6, y7] ∧ (dg.length : Int) = pl ∧ H3 L = some (.lst (dg.map V.int)) ∧ L ≠ D ∧ L ≠ B ∧ L ≠ Mv ∧ H3 Mv = some (.lst xs) ∧ DqAll D B H3 xs (ms.map Mo.d) ∧ ms.length = i ∧ (∀ x ∈ ms, x.ok pl) ∧ dg = degAll (onez pl) ms ∧ dgo (onez pl) ms = true ∧ (∀ n ∈ dg, n ≤ 64) ∧ DeckAt D B C cells H3 ∧ Fr D B H H3)
      ⟨L0, onez pl, [], [], none, none, rfl, ones_len (by omega), f4 _ _ (dk.neD nL0H) (dk.neB nL0H) eL0, dk.neD nL0H, dk.neB nL0H, LM0, f4 _ _ AD AB upd_same, .nil, rfl, (fun _ h => nomatch h), rfl, rfl, ones_64, dk4, (Fr.of_same (sl.trans (sL.trans sM))).trans f4⟩ ?_ ?_⟩⟩
    · rintro i σ H3 hi ⟨L, dg, xs, ms, y6, y7, rfl, hdl, eL, hLD, hLB, hLM, eA, hq, hl, hok, hdg, hgo, h64, dk3, f3⟩
      refine ⟨_, rfl, _, rfl, sz1 rfl, fun Lw nLw => ?_⟩
      have s5 := same_upd (o := .lst words7) nLw
      refine ⟨D, B, C, cells, pl, Lw, rfl, dk3.same s5, p1, p80, upd_same, dk3.neD nLw, dk3.neB nLw, fun v d H6 okm pm qm dk6 f6 => ?_⟩
      obtain ⟨mv, rfl, mok⟩ := mo_of okm pm
      have f36 := (Fr.of_same s5).trans f6
      have eL6 := f36 _ _ hLD hLB eL
      have eA6 := f36 _ _ AD AB eA
      have q6 := dk3.dataAll f36 hq
      have f06 := f3.trans f36
      refine ⟨_, rfl, _, rfl, D, B, L, v, mv.d, pl, dg, rfl, qm, mv_of okm, eL6, hdl, fun M1 H7 nM1 s7 eM1 => ?_⟩
      rw [mo_deg] at eM1
      have hne : 0 < (mv.deg dg).length := by
        rw [deg_len]
        omega
      have xl2 := hq.len
      rw [List.length_map] at xl2
      -- the move taken is put behind the others
      have put : ∀ {v2 : V} {m2 : Mo} {G : Hp}, m2.ok pl → (∀ n ∈ m2.deg dg, n ≤ 64) → Dq D B G v2 m2.d → G L = some (.lst (dg.map V.int)) → G Mv = some (.lst xs) → DqAll D B G xs (ms.map Mo.d) → DeckAt D B C cells G → Fr D B H G → (y6' : Option V) →
          ∀ (M2 : Addr) (G2 : Hp), G M2 = none → Same G G2 → G2 M2 = some (.lst ((degD dg m2.d).map V.int)) → ∃ (L : Addr) (dg : List Int) (xs' : List V) (ms : List Mo) (y6 y7 : Option V), [some (V.ref D), some (.int pl), some (.int m), some (.int mo), some (.ref M2), some (.ref Mv), y6', some v2] = [some (V.ref D), some (.int pl), some (.int m), some (.int mo), some (.ref L), some (.ref Mv), y6, y7] ∧ (dg.length : Int) = pl ∧ (upd G2 Mv (.lst (xs ++ [v2]))) L = some (.lst (dg.map V.int)) ∧ L ≠ D ∧ L ≠ B ∧ L ≠ Mv ∧ (upd G2 Mv (.lst (xs ++ [v2]))) Mv = some (.lst xs') ∧ DqAll D B (upd G2 Mv (.lst (xs ++ [v2]))) xs' (ms.map Mo.d) ∧ ms.length = i + 1 ∧ (∀ x ∈ ms, x.ok pl) ∧ dg = degAll (onez pl) ms ∧ dgo (onez pl) ms = true ∧ (∀ n ∈ dg, n ≤ 64) ∧ DeckAt D B C cells (upd G2 Mv (.lst (xs ++ [v2]))) ∧ Fr D B H (upd G2 Mv (.lst (xs ++ [v2]))) := by
        intro v2 m2 G mok2 h642 qn L8 A8 dq8 dk8 f8 y6' M2 G2 nM2 u2 eM2
        rw [mo_deg] at eM2
        have eA2 := u2 _ _ A8
        have hM2A : M2 ≠ Mv := fun z => by
          rw [z, A8] at nM2
          cases nM2
        have fA : ∀ b o, b ≠ Mv → G2 b = some o → (upd G2 Mv (.lst (xs ++ [v2]))) b = some o := fun b o hb h => by
          rw [upd_ne hb]
          exact h
        have hokA := ok_app hok mok2
        have fG2 := f8.trans (Fr.of_same u2)
        refine ⟨M2, m2.deg dg, xs ++ [v2], ms ++ [m2], _, _, rfl, by rw [deg_len]; exact hdl, (upd_ne hM2A).trans eM2, dk8.neD nM2, dk8.neB nM2, hM2A, upd_same, ?_, by rw [List.length_append, hl]; rfl, hokA, by rw [degAll_add, ← hdg], dgo_add _ _ _ hgo (by rw [← hdg]; exact h642), h642, (dk8.same u2).but fA AD.symm AB.symm AC, fun b o h1 h2 h3 => fA _ _ (ne_of_none h3 nA) (fG2 _ _ h1 h2 h3)⟩
        refine plain_keepAll (n := 2) eA2 fA (plainAll (pl := pl) hokA (by omega)) ?_
        rw [List.map_append]
        exact DqAll.append (.cons (qn.same u2) .nil) (dq8.same u2)
      refine ⟨M1, mv.deg dg, rfl, SqL.of eM1, hne, fun mm hmm hmax => ⟨_, rfl, _, _, rfl, rfl, _, rfl, ite2 (fun c => ?_) (fun c => ?_)⟩⟩
      · obtain ⟨x, i1, rest, hdx, i10, i11⟩ := mv_one mok
        have qm7 := qm.same s7
        obtain ⟨ta, txs, rfl, te, tha⟩ := (hdx ▸ qm7 : Dq D B H7 v (.tuple (.str x :: .int i1 :: rest))).tupE
        cases tha with
        | cons h1 hr1' =>
        cases hr1' with
        | cons h2 hr2' =>
        cases h2
        refine ⟨_, rfl, ta, _, 1, .int i1, rfl, rfl, SqT.of te, atI_nat (j := 1) rfl, sz1 rfl, fun t nt => ?_⟩
        have st := same_upd (o := .tup [.str (Str.ofString "more"), .int i1, .int 1]) nt
        have s7t := s7.trans st
        have okn : (Mo.more i1 1).ok pl := ⟨i10, i11, by decide⟩
        have qn : Dq D B (upd H7 t (.tup [.str (Str.ofString "more"), .int i1, .int 1])) (.ref t) (Mo.more i1 1).d := .tup upd_same (.cons (.str _) (.cons (.int _) (.cons (.int _) .nil)))
        have dk8 := (dk6.same s7).same st
        have f8 := f06.trans (Fr.of_same s7t)
        have A8 := s7t _ _ eA6
        have L8 := s7t _ _ eL6
        have dq8 := (q6.same s7).same st
        refine ⟨_, rfl, _, rfl, D, B, L, (V.ref t), (Mo.more i1 1).d, pl, dg, rfl, qn, mv_of (ok_mv okn), L8, hdl, fun M2 G2 nM2 u2 eM2 => ?_⟩
        refine ⟨_, rfl, .inl ⟨rfl, _, SqL.of (u2 _ _ A8)⟩, _, rfl, Mv, _, _, rfl, rfl, u2 _ _ A8, small1000 (by omega), ?_⟩
        exact put okn h64 qn L8 A8 dq8 dk8 f8 _ M2 G2 nM2 u2 eM2
      · have c3 : mm ≤ mo := Int.not_lt.mp fun z => c (decide_eq_true z)
        have qm7 := qm.same s7
        have dk8 := dk6.same s7
        have f8 := f06.trans (Fr.of_same s7)
        have A8 := s7 _ _ eA6
        have L8 := s7 _ _ eL6
        have dq8 := q6.same s7
        refine ⟨_, rfl, _, rfl, D, B, L, v, mv.d, pl, dg, rfl, qm7, mv_of okm, L8, hdl, fun M2 G2 nM2 u2 eM2 => ?_⟩
        refine ⟨_, rfl, .inl ⟨rfl, _, SqL.of (u2 _ _ A8)⟩, _, rfl, Mv, _, _, rfl, rfl, u2 _ _ A8, small1000 (by omega), ?_⟩
        exact put mok (fun n hn => Int.le_trans (hmax n hn) (Int.le_trans c3 mo64)) qm7 L8 A8 dq8 dk8 f8 _ M2 G2 nM2 u2 eM2
    · rintro σ H3 ⟨L, dg, xs, ms, y6, y7, rfl, hdl, eL, hLD, hLB, hLM, eA, hq, hl, hok, hdg, hgo, h64, dk3, f3⟩
      refine ⟨_, rfl, _, rfl, Mv, xs, rfl, .inl ⟨SqL.of eA, fun a na => ⟨sz1 rfl, fun u nu => ?_⟩⟩⟩
      have s8 := same_upd (o := .tup xs) na
      have s9 := same_upd (o := .tup [.int pl, .ref a]) nu
      exact q (.ref u) ms _ ⟨p1, p80, by omega, hok⟩ hgo (.tup upd_same (.cons (.int _) (.cons (.tup (s9 _ _ upd_same) ((hq.same s8).same s9)) .nil))) ((dk3.same s8).same s9) (f3.trans (Fr.of_same (s8.trans s9)))
end
end Jg
namespace Jg
open PySem PySem.Spec PyProof.Rows L2
/-! ### the law's fillings -/
abbrev sPoint : Stmt := topS 19
abbrev nPoint : List Str := ["_law_deck_here", "_law_inputs", "_law_k"]
theorem scPoint : FnScope nPoint ["_law_deck_here", "_law_inputs"] (defScope sPoint) := ⟨rfl, rfl, rfl, by decide +kernel, rfl, by decide +kernel, by decide +kernel⟩
abbrev sFill : Stmt := topS 26
theorem scFill : FnScope ["_law_deck_here", "_law_places"] ["_law_deck_here", "_law_places"] (defScope sFill) := ⟨rfl, rfl, rfl, by decide +kernel, rfl, by decide +kernel, by decide +kernel⟩
section
variable {P : Program} {w : World} {K : PySem.W.Frag} {mg : Str → Option Value} {base : Heap}
def spPoint : Sp := fun vs H Q _ => ∃ (D B C : Addr) (cells : List Int) (n : Int), vs = [.ref D, .int n] ∧ DeckAt D B C cells H ∧ 0 ≤ n ∧ n ≤ 80 ∧
  ∀ (u : V) (ns : List Int) (H' : Hp), (ns.length : Int) = n → (∀ x ∈ ns, x.natAbs ≤ 10 ^ 20) → (∀ Z Y, Dq Z Y H' u (intsD ns)) → DeckAt D B C cells H' → Fr D B H H' → Q u H'
set_option maxHeartbeats 2000000 in
theorem ok_point {f fO fD fF fN : Addr} {fd fdO fdD fdF fdN : FuncData} (F : Nm K mg "_law_point" sPoint ["_law_deck_here", "_law_inputs"] f fd) (FN : Nu K mg fN fdN) (FF : Fa K mg fF fdF) (FO : On K mg fO fdO) (FD : Dr K mg fD fdD) (T : Bn mg) : FnOk P w K mg base CX0 4 f fd ["_law_deck_here", "_law_inputs"] spPoint := by
  have GD : FnOk P w K mg base CX0 1 fD fdD ["_law_deck_here", "_law_many"] spDraw := ok_draw FD.F T.int T.len
  have GN : FnOk P w K mg base CX0 3 fN fdN ["_law_deck_here"] spNum := ok_num FN FF FO FD T
  refine F.F.ok scPoint (fun vs H Q E h => ?_) (fun cdv A outer s H vs Q E hr h => ?_)
  · obtain ⟨D, B, C, cells, n, rfl, _⟩ := h
    rfl
  · obtain ⟨D, B, C, cells, n, rfl, dk, n0, n1, q⟩ := h
    have hr1 : Room 1 _ := hr.mono (by decide)
    refine ⟨_, pss_cons (ps_if (pt_cmpR op_eq (pe_call GD hr1 (by rfl) FD.g FD.F.kp FD.b .nil pass0 (pa_cons (pv 0) (pa_cons pe_int pa_nil))) pe_int (nomark _))
        (pss_one (ps_ret (pe_callTy call_tuple_of (by rfl) T.tup boot_tuple' (pa_cons (pe_lc (own := [("_law_k", 2)]) (g := gName 2) (tt := tYes) rfl scPoint.nd (pi_range1 (by rfl) T.rng (pa_cons (pv 1) pa_nil)) (blkOk_by (N := nPoint) (sc := defScope sPoint) (by decide +kernel))
          (fun _ _ _ _ _ => pg_name (i := 2) scPoint.nd rfl (.inl rfl)) (fun _ _ _ _ _ => pts_nil) (fun _ _ _ _ _ => pe_op op_sub (pe_call GD hr1 (by rfl) FD.g FD.F.kp FD.b .nil pass0 (pa_cons (pv 0) (pa_cons pe_int pa_nil))) pe_int)) pa_nil)))) pss_nil)
      (pss_one (ps_ret (pe_callTy call_tuple_of (by rfl) T.tup boot_tuple' (pa_cons (pe_lc (own := [("_law_k", 2)]) (g := gName 2) (tt := tYes) rfl scPoint.nd (pi_range1 (by rfl) T.rng (pa_cons (pv 1) pa_nil)) (blkOk_by (N := nPoint) (sc := defScope sPoint) (by decide +kernel))
          (fun _ _ _ _ _ => pg_name (i := 2) scPoint.nd rfl (.inl rfl)) (fun _ _ _ _ _ => pts_nil) (fun _ _ _ _ _ => pe_call GN hr (by rfl) FN.g FN.F.kp FN.b .nil pass0 (pa_cons (pv 0) pa_nil))) pa_nil)))), ?_⟩
    have eM : (M20 : Int) = 100000000000000000000 := by decide
    have eN : (10 : Nat) ^ 20 = 100000000000000000000 := by decide
    refine ⟨_, rfl, D, B, C, cells, 2, rfl, dk, by decide, by decide, fun j H1 j0 j1 dk1 f1 => ⟨rfl, _, rfl, ?_⟩⟩
    have go : ∀ {D1 : Addr} {H3 : Hp} {ns : List Int} {i : Int} {H4 : Hp}, H1 D1 = none → H3 D1 = some (.lst (ns.map V.int)) → DeckAt D B C cells H3 → Fr D B H1 H3 → (∀ x ∈ ns, x.natAbs ≤ 10 ^ 20) → i.natAbs ≤ 10 ^ 20 → DeckAt D B C cells H4 → Fr D B H3 H4 →
        H4 D1 = some (.lst (ns.map V.int)) ∧ (upd H4 D1 (.lst (ns.map V.int ++ [.int i]))) D1 = some (.lst ((ns ++ [i]).map V.int)) ∧ DeckAt D B C cells (upd H4 D1 (.lst (ns.map V.int ++ [.int i]))) ∧ Fr D B H1 (upd H4 D1 (.lst (ns.map V.int ++ [.int i]))) ∧ (∀ x ∈ ns ++ [i], x.natAbs ≤ 10 ^ 20) := by
      intro D1 H3 ns i H4 nD1 k3 dk3 f3 hns hi dk4 f4
      have D1D := dk1.neD nD1
      have D1B := dk1.neB nD1
      have D1C := ne_of_none dk1.cel nD1
      have fA : ∀ b o, b ≠ D1 → H4 b = some o → (upd H4 D1 (.lst (ns.map V.int ++ [.int i]))) b = some o := fun b o hb h => by
        rw [upd_ne hb]
        exact h
      refine ⟨f4 _ _ D1D D1B k3, ?_, dk4.but fA D1D.symm D1B.symm D1C, fun b o h1 h2 h3 => fA _ _ (ne_of_none h3 nD1) (f4 _ _ h1 h2 (f3 _ _ h1 h2 h3)), fun x hx => ?_⟩
      · rw [upd_same, List.map_append]
        rfl
      · rcases List.mem_append.mp hx with hx | hx
        · exact hns x hx
        · rw [List.mem_singleton.mp hx]
          exact hi
    have fin : ∀ {D1 : Addr} {H3 : Hp} {ns : List Int}, H3 D1 = some (.lst (ns.map V.int)) → ns.length = n.toNat → DeckAt D B C cells H3 → Fr D B H1 H3 → (∀ x ∈ ns, x.natAbs ≤ 10 ^ 20) → ∀ t, H3 t = none → Q (.ref t) (upd H3 t (.tup (ns.map V.int))) := by
      intro D1 H3 ns k3 hl dk3 f3 hns t nt
      have st := same_upd (o := .tup (ns.map V.int)) nt
      exact q (.ref t) ns _ (by omega) hns (fun Z Y => .tup upd_same ints_dq) (dk3.same st) (f1.trans (f3.trans (Fr.of_same st)))
    refine ite2 (fun c => ?_) (fun c => ?_)
    · refine ⟨_, rfl, n, rfl, by omega, by omega, fun D1 nD1 => ?_⟩
      refine lc_range (lo := 0) (n := n.toNat) (fun k H3 => ∃ ns : List Int, H3 D1 = some (.lst (ns.map V.int)) ∧ ns.length = k ∧ DeckAt D B C cells H3 ∧ Fr D B H1 H3 ∧ (∀ x ∈ ns, x.natAbs ≤ 10 ^ 20)) ⟨[], upd_same, rfl, dk1.same (same_upd nD1), Fr.of_same (same_upd nD1), fun _ h => nomatch h⟩ ?_ ?_
      · rintro k H3 hk ⟨ns, k3, hl, dk3, f3, hns⟩
        refine ⟨wipe1, tYes_if ⟨_, rfl, D, B, C, cells, 9, rfl, dk3, by decide, by decide, fun j4 H4 j40 j41 dk4 f4 => ⟨_, _, rfl, rfl, ?_⟩⟩⟩
        obtain ⟨g1, g2, g3, g4, g5⟩ := go nD1 k3 dk3 f3 hns (i := j4 - 4) (by omega) dk4 f4
        exact ⟨_, g1, by rw [List.length_map]; exact smallB (by omega), ns ++ [j4 - 4], g2, by rw [List.length_append, hl]; rfl, g3, g4, g5⟩
      · rintro H3 ⟨ns, k3, hl, dk3, f3, hns⟩
        exact ⟨D1, _, rfl, .inl ⟨SqL.of k3, fin k3 hl dk3 f3 hns⟩⟩
    · refine ⟨_, rfl, n, rfl, by omega, by omega, fun D1 nD1 => ?_⟩
      refine lc_range (lo := 0) (n := n.toNat) (fun k H3 => ∃ ns : List Int, H3 D1 = some (.lst (ns.map V.int)) ∧ ns.length = k ∧ DeckAt D B C cells H3 ∧ Fr D B H1 H3 ∧ (∀ x ∈ ns, x.natAbs ≤ 10 ^ 20)) ⟨[], upd_same, rfl, dk1.same (same_upd nD1), Fr.of_same (same_upd nD1), fun _ h => nomatch h⟩ ?_ ?_
      · rintro k H3 hk ⟨ns, k3, hl, dk3, f3, hns⟩
        refine ⟨wipe1, tYes_if ⟨_, rfl, D, B, C, cells, rfl, dk3, fun i H4 i0 i1 dk4 f4 => ?_⟩⟩
        obtain ⟨g1, g2, g3, g4, g5⟩ := go nD1 k3 dk3 f3 hns (i := i) (by rw [eM] at i0 i1; omega) dk4 f4
        exact ⟨_, g1, by rw [List.length_map]; exact smallB (by omega), ns ++ [i], g2, by rw [List.length_append, hl]; rfl, g3, g4, g5⟩
      · rintro H3 ⟨ns, k3, hl, dk3, f3, hns⟩
        exact ⟨D1, _, rfl, .inl ⟨SqL.of k3, fin k3 hl dk3 f3 hns⟩⟩
theorem ok_fill {f fP : Addr} {fd fdP : FuncData} (F : Nm K mg "_law_filling" sFill ["_law_deck_here", "_law_places"] f fd) (GP : FnOk P w K mg base CX0 4 fP fdP ["_law_deck_here", "_law_inputs"] spPoint) (NP : Nm K mg "_law_point" sPoint ["_law_deck_here", "_law_inputs"] fP fdP) : FnOk P w K mg base CX0 5 f fd ["_law_deck_here", "_law_places"] spPoint := by
  refine F.F.ok scFill (fun vs H Q E h => ?_) (fun cdv A outer s H vs Q E hr h => ?_)
  · obtain ⟨D, B, C, cells, n, rfl, _⟩ := h
    rfl
  · obtain ⟨D, B, C, cells, n, rfl, dk, n0, n1, q⟩ := h
    refine ⟨_, pss_one (ps_ret (pe_call GP hr (by rfl) NP.g NP.F.kp NP.b .nil pass0 (pa_cons (pv 0) (pa_cons (pv 1) pa_nil)))), ?_⟩
    exact ⟨_, rfl, _, rfl, D, B, C, cells, n, rfl, dk, n0, n1, q⟩
end
end Jg
namespace Jg
open PySem PySem.Spec PyProof.Rows L2
/-! ### looks of the law, and what is told of the way back -/
abbrev sNums : Stmt := topS 27
abbrev nNums : List Str := ["_law_value", "_law_many", "_law_number_here"]
theorem scNums : FnScope nNums ["_law_value", "_law_many"] (defScope sNums) := ⟨rfl, rfl, rfl, by decide +kernel, rfl, by decide +kernel, by decide +kernel⟩
abbrev sTold : Stmt := topS 28
abbrev nTold : List Str := ["_law_tape_here", "error"]
theorem scTold : FnScope nTold ["_law_tape_here"] (defScope sTold) := ⟨rfl, rfl, rfl, by decide +kernel, rfl, by decide +kernel, by decide +kernel⟩
theorem boot_valErr : bootBuiltins "ValueError" = some (.type "ValueError") := by decide +kernel
theorem call_isiK {X : Cx} {K : PySem.W.Frag} (h : X.K = K) : CallR X (.builtin "isinstance") (rIsi K) := h ▸ call_isi
/-- what is known of the error's class -/
structure Te (K : PySem.W.Frag) (mg : Str → Option Value) (C R : Addr) : Prop where
  U : Uf K mg C
  ec : ExcC K C
  gR : mg "RowError" = some (.ref R)
  gV : mg "ValueError" = none
  k1 : PySem.W.kitOne K (.ref C) (.ref R) = some true
  k2 : PySem.W.kitOne K (.ref C) (.type "ValueError") = some true
  em : PySem.W.exmOne K (.ref C) (.ref C) = some true
def toldD (pl : Int) (ms : List Mo) : PyData := if dgo (onez pl) (backOf ms) = true then tapD pl (backOf ms) else .str (Str.ofString "long")
section
variable {P : Program} {w : World} {K : PySem.W.Frag} {mg : Str → Option Value} {base : Heap}
def spNums : Sp := fun vs H Q _ => ∃ (D B : Addr) (v : V) (ns : List Int) (n : Int), vs = [v, .int n] ∧ Dq D B H v (intsD ns) ∧ (ns.length : Int) = n ∧ ∀ H', Same H H' → Q (.bl true) H'
theorem ok_nums {f : Addr} {fd : FuncData} (F : Nm K mg "_law_are_numbers" sNums ["_law_value", "_law_many"] f fd) (T : Bn mg) : FnOk P w K mg base CX0 1 f fd ["_law_value", "_law_many"] spNums := by
  refine F.F.ok scNums (fun vs H Q E h => ?_) (fun cdv A outer s H vs Q E hr h => ?_)
  · obtain ⟨D, B, v, ns, n, rfl, _⟩ := h
    rfl
  · obtain ⟨D, B, v, ns, n, rfl, hd, hl, q⟩ := h
    have hu := hr.units
    refine ⟨_, pss_cons (ps_if (PW.pt (pw_or (pt_not (pt_val (pe_callB call_isi (by rfl) T.isi PyProof.Rows.boot_isinstance (pa_cons (pv 0) (pa_cons (pe_bltn (by rfl) T.tup boot_tuple' (v := .ty "tuple") rfl) pa_nil)))))
        (pw_or1 (pt_cmpR op_ne (pe_callB call_len_seq (by rfl) T.len PySem.boot_len (pa_cons (pv 0) pa_nil)) (pv 1) (nomark _))))) (pss_one (ps_ret pe_bl)) pss_nil)
      (pss_one (ps_ret (pe_cmpR (op_eqD hu) (pe_lc (own := [("_law_number_here", 2)]) (g := gName 2) rfl scNums.nd (pi_tup (pv 0)) (blkOk_by (N := nNums) (sc := defScope sNums) (by decide +kernel))
        (fun _ _ _ _ _ => pg_name (i := 2) scNums.nd rfl (.inl rfl)) (fun _ _ _ _ _ => pts_one (PW.pt (pw_or (pt_not (pt_val (pe_callB (call_isiK (K := K) rfl) (by rfl) T.isi PyProof.Rows.boot_isinstance (pa_cons (pv 2) (pa_cons (pe_bltn (by rfl) T.int PyProof.Rows.boot_int (v := .ty "int") rfl) pa_nil)))))
          (pw_or1 (pt_val (pe_callB (call_isiK (K := K) rfl) (by rfl) T.isi PyProof.Rows.boot_isinstance (pa_cons (pv 2) (pa_cons (pe_bltn (by rfl) T.bool boot_bool' (v := .ty "bool") rfl) pa_nil)))))))) (fun _ _ _ _ _ => pe_int)) (pe_lst pa_nil) (nomark _)))), ?_⟩
    obtain ⟨a, rfl, e⟩ := dq_ints hd
    refine ⟨.ref a, rfl, .ref a, .ty "tuple", _, _, _, rfl, .ty "tuple", hd.ty, kTup (intsD ns), _, rfl, ?_⟩
    refine iteF ⟨_, rfl, a, _, rfl, .inr (SqT.of e), _, rfl, rfl, _, rfl, ?_⟩
    rw [dec_int2, decide_eq_true (by rw [List.length_map]; exact hl)]
    refine iteF ⟨_, rfl, a, rfl, ⟨_, SqT.of e⟩, fun D1 nD1 => ?_⟩
    refine lc_tup (K := K) (a := a) (xs := ns.map V.int) (fun i H3 => H3 D1 = some (.lst []) ∧ Same H H3) ⟨upd_same, same_upd nD1⟩ (fun i H3 _ h => SqT.of (h.2 _ _ e)) ?_ ?_
    · rintro i y H3 hy ⟨k3, s3⟩
      rw [List.getElem?_map] at hy
      obtain ⟨n, hn, rfl⟩ := Option.map_eq_some_iff.mp hy
      refine ⟨wipe1, _, rfl, .int n, .ty "int", _, _, _, rfl, .ty "int", (Dq.int (D := D) (B := B) n).ty, kInt (.int n), _, rfl, ?_⟩
      refine iteF ⟨_, rfl, .int n, .ty "bool", _, _, _, rfl, .ty "bool", (Dq.int (D := D) (B := B) n).ty, kBool (.int n), _, rfl, ?_⟩
      exact iteF ⟨k3, s3⟩
    · rintro H3 ⟨k3, s3⟩
      refine ⟨Nat.zero_le _, fun p6 np6 => ?_⟩
      have s6 : Same H3 (upd H3 p6 (.lst [])) := same_upd np6
      refine ⟨.list [], .list [], .lst (SqL.of (s6 _ _ k3)) .nil, .lst (SqL.of upd_same) .nil, shaped_ints [], shaped_ints [], ?_⟩
      have q2 := q _ (s3.trans s6)
      have e2 : PyData.eqv (.list []) (.list []) = true := by simp [PyData.eqv, PyData.eqvAll]
      rw [e2]
      exact q2
def spTold : Sp := fun vs H Q _ => ∃ (D B : Addr) (v : V) (pl : Int) (ms : List Mo), vs = [v] ∧ Dq D B H v (tapD pl ms) ∧ Tm pl ms ∧ ∀ u H', Same H H' → (∀ D B, Dq D B H' u (toldD pl ms)) → Q u H'
theorem ok_told {f fP C R : Addr} {fd fdP : FuncData} (F : Nm K mg "_law_back_told" sTold ["_law_tape_here"] f fd) (GP : FnOk P w K mg base (L2.CX P w) 2 fP fdP ["tape"] (spTaken C)) (FP : Nm K mg "taken_back" sTaken ["tape"] fP fdP) (E : Te K mg C R) (T : Bn mg) : FnOk P w K mg base CX0 3 f fd ["_law_tape_here"] spTold := by
  refine F.F.ok scTold (fun vs H Q E h => ?_) (fun cdv A outer s H vs Q E' hr h => ?_)
  · obtain ⟨D, B, v, pl, ms, rfl, _⟩ := h
    rfl
  · obtain ⟨D, B, v, pl, ms, rfl, hd, tm, q⟩ := h
    refine ⟨_, pss_one (ps_try_as (i := 1) (ts := fun a cls d Dn σ H => cls = .ref C ∧ d = none ∧ σ[1]? = some (some (.ref a)) ∧ Dn.rt (.str (Str.ofString "long")) H) rfl rfl scTold.nd rfl rfl ⟨rfl, by decide, .inl E.U.g⟩ takes0
        (fun W pn xe tk _ => pss_one (ps_ret (pe_callS GP hr rfl FP.g FP.F.kp FP.b (fun σ => passAt tk σ) (pa_cons (pv 0) pa_nil))))
        (fun a oe cls d pn hz hf => ⟨fun pins s σ H Dn I hh => by
          obtain ⟨e1, e2, e3, q3⟩ := hh
          subst e1
          subst e2
          refine (pss_one (ps_ret (pe_ifExp (PW.pt (pw_and (pt_val (pe_callB (call_isE E.ec hz hf) (by rfl) T.isi PyProof.Rows.boot_isinstance (pa_cons (pv 1) (pa_cons (pe_glob (v := .ref R) (by rfl) E.gR rfl) pa_nil))))
            (pw_and1 (pt_val (pe_callB (call_isE E.ec hz hf) (by rfl) T.isi PyProof.Rows.boot_isinstance (pa_cons (pv 1) (pa_cons (pe_bltn (by rfl) E.gV boot_valErr (v := .ty "ValueError") rfl) pa_nil))))))) pe_str pe_str))).run pins s σ H Dn I ?_
          exact ⟨_, e3, .ref R, .ref R, true, rfl, (fun u hu => by cases hu; rfl), E.k1, _, rfl, iteT ⟨_, e3, .ty "ValueError", .type "ValueError", true, rfl, (fun u hu => by cases hu; rfl), E.k2, _, rfl, iteT q3⟩⟩⟩)), ?_⟩
    refine ⟨_, rfl, D, B, v, pl, ms, rfl, hd, tm, fun c u H' s hu => ?_, fun c H' s => ⟨true, E.em, fun _ a ha => ⟨rfl, rfl, rfl, ?_⟩, fun z => nomatch z⟩⟩
    · refine q u H' s fun D B => ?_
      unfold toldD
      rw [if_pos c]
      exact hu D B
    · refine q _ H' s fun D B => ?_
      unfold toldD
      rw [if_neg (by rw [c]; exact Bool.false_ne_true)]
      exact .str _
end
end Jg
namespace Jg
open PySem PySem.Spec PyProof.Rows L2
/-! ### the law's steep tapes -/
abbrev sSteep : Stmt := topS 29
abbrev nSteep : List Str := ["_law_deck_here", "_law_order", "_law_k", "_law_moves", "_law_one_here", "_law_other"]
theorem scSteep : FnScope nSteep ["_law_deck_here"] (defScope sSteep) := ⟨rfl, rfl, rfl, by decide +kernel, rfl, by decide +kernel, by decide +kernel⟩
def pairD (k : Nat) : PyData := .tuple [.int ((k : Int) + 1), .int (k : Int)]
def moK (k : Nat) : Mo := Mo.add ((k : Int) + 1) (k : Int) (k : Int) 1
def moS : List Mo := (List.range 7).reverse.map moK
theorem pair_plain {k : Nat} (h : k < 7) : Plain 2 (pairD k) := .inr ⟨_, rfl, by show 2 ≤ 5; decide, fun y hy => by
  have e : (10 : Nat) ^ 20 = 100000000000000000000 := by decide
  rcases List.mem_cons.mp hy with rfl | hy
  · exact Leaf.plain (.inl ⟨_, rfl, by omega⟩) 1
  · rw [List.mem_singleton.mp hy]
    exact Leaf.plain (.inl ⟨_, rfl, by omega⟩) 1⟩
theorem pairs_plain {n : Nat} (h : n ≤ 7) : ∀ d ∈ (List.range n).map pairD, Plain 2 d := fun d hd => by
  obtain ⟨k, hk, rfl⟩ := List.mem_map.mp hd
  exact pair_plain (by have := List.mem_range.mp hk; omega)
theorem moS_ok : ∀ m ∈ moS, m.ok 8 := fun m hm => by
  obtain ⟨k, hk, rfl⟩ := List.mem_map.mp hm
  have hk2 := List.mem_range.mp (List.mem_reverse.mp hk)
  refine ⟨by omega, by omega, by omega, by omega, by omega, by omega, by omega, by omega, by decide⟩
theorem moS_dgo : dgo (onez 8) moS = true ∧ dgo (onez 8) (moS.drop 1) = true ∧ dgo (onez 8) (moS.drop 2) = true := by decide +kernel
theorem steep_ok {j : Int} (h0 : 0 ≤ j) (h1 : j < 3) : Tm 8 (moS.drop j.toNat) ∧ dgo (onez 8) (moS.drop j.toNat) = true := by
  refine ⟨⟨by decide, by decide, ?_, fun m hm => moS_ok m (List.mem_of_mem_drop hm)⟩, ?_⟩
  · rw [List.length_drop]
    have : moS.length = 7 := rfl
    omega
  · obtain ⟨a, b, c⟩ := moS_dgo
    rcases (by omega : j = 0 ∨ j = 1 ∨ j = 2) with rfl | rfl | rfl
    · exact a
    · exact b
    · exact c
section
variable {P : Program} {w : World} {K : PySem.W.Frag} {mg : Str → Option Value} {base : Heap}
def spSteep : Sp := fun vs H Q _ => ∃ (D B C : Addr) (cells : List Int), vs = [.ref D] ∧ DeckAt D B C cells H ∧
  ∀ v ms H', Tm 8 ms → dgo (onez 8) ms = true → Dq D B H' v (tapD 8 ms) → DeckAt D B C cells H' → Fr D B H H' → Q v H'
set_option maxHeartbeats 2000000 in
theorem ok_steep {f fD : Addr} {fd fdD : FuncData} (F : Nm K mg "_law_steep" sSteep ["_law_deck_here"] f fd) (FD : Dr K mg fD fdD) (T : Bn mg) : FnOk P w K mg base CX0 2 f fd ["_law_deck_here"] spSteep := by
  have GD : FnOk P w K mg base CX0 1 fD fdD ["_law_deck_here", "_law_many"] spDraw := ok_draw FD.F T.int T.len
  refine F.F.ok scSteep (fun vs H Q E h => ?_) (fun cdv A outer s H vs Q E hr h => ?_)
  · obtain ⟨D, B, C, cells, rfl, _⟩ := h
    rfl
  · obtain ⟨D, B, C, cells, rfl, dk, q⟩ := h
    refine ⟨_, pss_cons (ps_set (i := 1) scSteep.nd rfl (.inl rfl) (pe_revL (pe_lc (own := [("_law_k", 2)]) (g := gName 2) (tt := tYes) rfl scSteep.nd (pi_range1 (by rfl) T.rng (pa_cons pe_int pa_nil)) (blkOk_by (N := nSteep) (sc := defScope sSteep) (by decide +kernel))
          (fun _ _ _ _ _ => pg_name (i := 2) scSteep.nd rfl (.inl rfl)) (fun _ _ _ _ _ => pts_nil) (fun _ _ _ _ _ => pe_tup (pa_cons (pe_op op_add (pv 2) pe_int) (pa_cons (pv 2) pa_nil))))))
      (pss_cons (ps_setLc (i := 3) (own := [("_law_one_here", 4), ("_law_other", 5)]) (g := gTup K 2 (gCons (gName 4) (gCons (gName 5) gNil))) (tt := tYes) rfl scSteep.nd rfl rfl (sw_true rfl rfl rfl rfl) (pi_list (pv 1)) (blkOk_by (N := nSteep) (sc := defScope sSteep) (by decide +kernel))
          (fun _ _ _ _ _ => pg_tup rfl (pgs_cons (pg_name (i := 4) scSteep.nd rfl (.inl rfl)) (pgs_cons (pg_name (i := 5) scSteep.nd rfl (.inl rfl)) pgs_nil))) (fun _ _ _ _ _ => pts_nil)
          (fun _ _ _ _ _ => pe_tup (pa_cons pe_str (pa_cons (pv 4) (pa_cons (pv 5) (pa_cons (pv 5) (pa_cons pe_int pa_nil)))))))
      (pss_one (ps_ret (pe_tup (pa_cons pe_int (pa_cons (pe_callTy call_tuple_of (by rfl) T.tup boot_tuple' (pa_cons (pe_slice sl_list (pv 3) (po_some (pe_call GD hr (by rfl) FD.g FD.F.kp FD.b .nil pass0 (pa_cons (pv 0) (pa_cons pe_int pa_nil)))) po_none) pa_nil)) pa_nil)))))), ?_⟩
    refine ⟨7, rfl, by decide, by decide, fun D1 nD1 => ?_⟩
    refine lc_range (lo := 0) (n := 7) (fun i H3 => ∃ ts : List V, H3 D1 = some (.lst ts) ∧ ts.length = i ∧ (∀ D B, DqAll D B H3 ts ((List.range i).map pairD)) ∧ Same H H3) ⟨[], upd_same, rfl, fun _ _ => .nil, same_upd nD1⟩ ?_ ?_
    · rintro i H3 hi ⟨ts, k3, tl, hts, s3⟩
      refine ⟨wipe1, tYes_if ⟨_, rfl, _, _, rfl, rfl, _, rfl, sz1 rfl, fun t nt => ?_⟩⟩
      have st := same_upd (o := .tup [.int ((0 : Int) + (i : Nat) + 1), .int ((0 : Int) + (i : Nat))]) nt
      have kt := st _ _ k3
      refine ⟨ts, kt, smallB (by omega), ts ++ [.ref t], upd_same, by rw [List.length_append, tl]; rfl, fun Z Y => ?_, fun z o hz => ?_⟩
      · refine plain_keepAll (n := 2) kt (fun z o hz h => (upd_ne hz).trans h) (pairs_plain (by omega)) ?_
        rw [List.range_succ, List.map_append]
        refine DqAll.append (.cons (.tup upd_same ?_) .nil) ((hts Z Y).same st)
        rw [Int.zero_add]
        exact .cons (.int _) (.cons (.int _) .nil)
      · rw [upd_ne (ne_of_none hz nD1)]
        exact st _ _ (s3 _ _ hz)
    · rintro H3 ⟨ts, k3, tl, hts, s3⟩
      refine ⟨D1, ts, rfl, SqL.of k3, fun r nr => ?_⟩
      have sr := same_upd (o := .lst ts.reverse) nr
      have s03 := s3.trans sr
      have er : (upd H3 r (.lst ts.reverse)) r = some (.lst ts.reverse) := upd_same
      have hrev : ∀ D B, DqAll D B (upd H3 r (.lst ts.reverse)) ts.reverse ((List.range 7).reverse.map pairD) := fun Z Y => by
        rw [List.map_reverse]
        exact ((hts Z Y).same sr).rev
      refine ⟨_, rfl, r, rfl, ⟨_, SqL.of er⟩, fun D2 nD2 => ?_⟩
      refine lc_list (K := K) (a := r) (xs := ts.reverse) (fun i H5 => ∃ us : List V, H5 D2 = some (.lst us) ∧ us.length = i ∧ (∀ D B, DqAll D B H5 us ((moS.take i).map Mo.d)) ∧ Same H H5 ∧ H5 r = some (.lst ts.reverse) ∧ (∀ D B, DqAll D B H5 ts.reverse ((List.range 7).reverse.map pairD))) ⟨[], upd_same, rfl, fun _ _ => .nil, s03.trans (same_upd nD2), (same_upd nD2) _ _ er, fun Z Y => (hrev Z Y).same (same_upd nD2)⟩ (fun i H5 _ ⟨_, _, _, _, _, e, _⟩ => SqL.of e) ?_ ?_
      · rintro i y H5 hy ⟨us, k5, ul, hus, s5, e5, hq5⟩
        have hil : i < ts.reverse.length := (List.getElem?_eq_some_iff.mp hy).1
        rw [List.length_reverse, tl] at hil
        obtain ⟨dx, hdx, hx⟩ := (hq5 D B).at_ i y hy
        rw [List.getElem?_map] at hdx
        obtain ⟨k, hk, rfl⟩ := Option.map_eq_some_iff.mp hdx
        have hk7 : k < 7 := List.mem_range.mp (List.mem_reverse.mp (List.mem_of_getElem? hk))
        obtain ⟨pt, pxs, rfl, ep, hp⟩ := hx.tupE
        obtain ⟨p1, p2, rfl, hp1, hp2⟩ := dq_two hp
        cases hp1.intE
        cases hp2.intE
        have D2r : D2 ≠ r := fun z => by
          rw [← z, k5] at e5
          have hl := congrArg List.length (HO.lst.inj (Option.some.inj e5))
          rw [List.length_reverse, tl, ul] at hl
          omega
        refine ⟨pt, _, rfl, SqT.of ep, rfl, .int ((k : Int) + 1), [.int (k : Int)], rfl, .int (k : Int), [], rfl, rfl, wipe2 (by decide), tYes_if ⟨_, rfl, _, rfl, _, rfl, sz1 rfl, fun t nt => ?_⟩⟩
        have st := same_upd (o := .tup [.str (Str.ofString "add"), .int ((k : Int) + 1), .int (k : Int), .int (k : Int), .int 1]) nt
        have kt := st _ _ k5
        have hmk : moS[i]? = some (moK k) := by
          unfold moS
          rw [List.getElem?_map, hk]
          rfl
        refine ⟨us, kt, smallB (by omega), us ++ [.ref t], upd_same, by rw [List.length_append, ul]; rfl, fun Z Y => ?_, fun z o hz => ?_, (upd_ne D2r.symm).trans (st _ _ e5), fun Z Y => ?_⟩
        · refine plain_keepAll (n := 2) kt (fun z o hz h => (upd_ne hz).trans h) (plainAll (pl := 8) (fun m hm => moS_ok m (List.mem_of_mem_take hm)) (by decide)) ?_
          rw [List.take_add_one, hmk, List.map_append]
          exact DqAll.append (.cons (.tup upd_same (.cons (.str _) (.cons (.int _) (.cons (.int _) (.cons (.int _) (.cons (.int _) .nil)))))) .nil) ((hus Z Y).same st)
        · by_cases z2 : z = D2
          · subst z2
            exact absurd (s03 _ _ hz) (by rw [nD2]; exact fun h => nomatch h)
          · rw [upd_ne z2]
            exact st _ _ (s5 _ _ hz)
        · refine plain_keepAll (n := 2) kt (fun z o hz h => (upd_ne hz).trans h) (fun d hd => ?_) ((hq5 Z Y).same st)
          obtain ⟨k', hk', rfl⟩ := List.mem_map.mp hd
          exact pair_plain (List.mem_range.mp (List.mem_reverse.mp hk'))
      · rintro H5 ⟨us, k5, ul, hus, s5, e5, hq5⟩
        rw [List.length_reverse, tl] at hus ul
        have eall : moS.take 7 = moS := List.take_of_length_le (Nat.le_refl _)
        rw [eall] at hus
        have dk5 := dk.same s5
        have nD2H : H D2 = none := by
          cases hz : H D2 with
          | none => rfl
          | some o =>
            rw [s03 _ _ hz] at nD2
            cases nD2
        refine ⟨_, rfl, _, rfl, D, B, C, cells, 3, rfl, dk5, by decide, by decide, fun j H6 j0 j1 dk6 f6 => ⟨_, rfl, ?_⟩⟩
        have k6 := f6 _ _ (dk.neD nD2H) (dk.neB nD2H) k5
        have hq6 : DqAll D B H6 us (moS.map Mo.d) := dk5.dataAll f6 (hus D B)
        dsimp only [tNoPart]
        refine ⟨D2, _, rfl, SqL.of k6, fun S1 nS1 => ?_⟩
        have ecut : cutV us (some j) none = us.drop j.toNat := by
          have e0 : j = ((j.toNat : Nat) : Int) := by omega
          rw [e0]
          exact cutV_from us j.toNat
        rw [ecut]
        have s7 := same_upd (o := .lst (us.drop j.toNat)) nS1
        refine ⟨S1, _, rfl, .inl ⟨SqL.of upd_same, fun t nt => ⟨sz1 rfl, fun u nu => ?_⟩⟩⟩
        have s8 := same_upd (o := .tup (us.drop j.toNat)) nt
        have s9 := same_upd (o := .tup [.int 8, .ref t]) nu
        obtain ⟨tm, hg⟩ := steep_ok j0 j1
        refine q (.ref u) (moS.drop j.toNat) _ tm hg (.tup upd_same (.cons (.int _) (.cons (.tup (s9 _ _ upd_same) ?_) .nil))) (((dk6.same s7).same s8).same s9) ((Fr.of_same s5).trans (f6.trans (Fr.of_same (s7.trans (s8.trans s9)))))
        rw [List.map_drop]
        exact (((hq6.drop j.toNat).same s7).same s8).same s9
end
end Jg
namespace Jg
open PySem PySem.Spec PyProof.Rows L2
/-! ### the law's body: the tape -/
structure TakC (P : Program) (w : World) (K : PySem.W.Frag) (mg : Str → Option Value) (base : Heap) (C : Addr) (f : Addr) (fd : FuncData) : Prop where
  F : FnOk P w K mg base (L2.CX P w) 2 f fd ["tape"] (spTaken C)
  g : mg "taken_back" = some (.ref f)
  kp : PySem.W.keepIn K (.ref f) = true
  b : Binds K fd ["tape"] []
  k : KBinds K fd ["tape"] ["tape"] kwOne kwOneV
def kwSw : List Value → List Value → List Value
  | [], [a, b] => [b, a] | _, _ => []
def kwSwV : List V → List V → List V
  | [], [a, b] => [b, a] | _, _ => []
structure Env33 (P : Program) (w : World) (K : PySem.W.Frag) (mg : Str → Option Value) (base : Heap) : Prop where
  bn : Bn mg
  deck : ∃ f fd, Cal P w K mg base "_law_deck" 1 ["_law_script"] (spDeck K) f fd
  one : ∃ f fd, Cal P w K mg base "_law_one" 2 ["_law_deck_here", "_law_items"] spOne f fd
  tape : ∃ f fd, Cal P w K mg base "_law_tape" 6 ["_law_deck_here", "_law_places", "_law_many", "_law_most"] spTape f fd
  steep : ∃ f fd, Cal P w K mg base "_law_steep" 2 ["_law_deck_here"] spSteep f fd
  lback : ∃ f fd, Cal P w K mg base "_law_back" 2 ["_law_tape_here"] spLBack f fd
  told : ∃ f fd, Cal P w K mg base "_law_back_told" 3 ["_law_tape_here"] spTold f fd
  sign : ∃ f fd, Cal P w K mg base "sign" 1 ["tape"] spSign f fd ∧ KBinds K fd ["tape"] ["tape"] kwOne kwOneV
  fill : ∃ f fd, Cal P w K mg base "_law_filling" 5 ["_law_deck_here", "_law_places"] spPoint f fd
  lmov : ∃ f fd, Cal P w K mg base "_law_moved" 1 ["_law_tape_here", "_law_filling_here"] spMoved f fd
  mov : ∃ f fd, Cal P w K mg base "moved" 2 ["tape", "filling"] spMoved f fd ∧ KBinds K fd ["tape", "filling"] ["filling", "tape"] kwSw kwSwV
  nums : ∃ f fd, Cal P w K mg base "_law_are_numbers" 1 ["_law_value", "_law_many"] spNums f fd
abbrev sLaw : Stmt := topS 30
abbrev nLaw : List Str := ["_law_script", "_law_deck_here", "_law_turn", "_law_places", "_law_tape_here", "_law_due", "_law_odd", "_law_move_here", "_law_held", "_law_again", "_law_filling_here", "_law_behind", "_law_kept", "_law_told"]
theorem scLaw : FnScope nLaw ["_law_script"] (defScope sLaw) := ⟨rfl, rfl, rfl, by decide +kernel, rfl, by decide +kernel, by decide +kernel⟩
def stL (i : Nat) : Stmt := (forBody ((defBody sLaw).getD 1 (.Pass ⟨0, 0, 0, 0⟩))).getD i (.Pass ⟨0, 0, 0, 0⟩)
def stG (i : Nat) : Stmt := (forBody (stL 8)).getD i (.Pass ⟨0, 0, 0, 0⟩)
abbrev LX (P : Program) (w : World) (K : PySem.W.Frag) (mg : Str → Option Value) (base : Heap) (f : Addr) (cdv : Value) (Ar : Around) (out : List Env) (s0 : Shared) (H0 : Hp) (E : XK) : Cx :=
  (cxOf CX0 P w K mg base nLaw "law" (defScope sLaw) f cdv Ar out s0 H0 E).nox
/-! data that is short enough to be shown -/
def Fine (d : PyData) : Prop := Ok 8 16100000 d
theorem fine_tup {k c n : Nat} {ds : List PyData} (h : ∀ d ∈ ds, Ok k c d) (hn : ds.length ≤ n) (hk : k ≤ 7) (hc : n * (c + 2) + 3 ≤ 16100000) : Fine (.tuple ds) := (ok_tup h hn).mono (by omega) hc
theorem fine_lst {k c n : Nat} {ds : List PyData} (h : ∀ d ∈ ds, Ok k c d) (hn : ds.length ≤ n) (hk : k ≤ 7) (hc : n * (c + 2) + 3 ≤ 16100000) : Fine (.list ds) := (ok_lst h hn).mono (by omega) hc
theorem lineA : 16100000 ≤ sizeLine := by
  rw [sizeLine_eq]
  decide
theorem Fine.zl {d : PyData} (h : Fine d) : d.shown.length ≤ sizeLine := Nat.le_trans h.ln lineA
theorem Fine.dl {d : PyData} (h : Fine d) : d.depth ≤ 60 := Nat.le_trans h.dp (by decide)
theorem boot_repr' : bootBuiltins "repr" = some (.builtin "repr") := by decide +kernel
theorem tap_ok {pl : Int} {ms : List Mo} (h : Tm pl ms) : Ok 7 2656413 (tapD pl ms) := by
  have p1 := h.p1
  have p80 := h.p80
  have h1 : Ok 6 1328203 (.tuple (ms.map Mo.d)) := (ok_tup (k := 5) (c := 13280) (n := 100) (fun d hd => plain_ok 2 d (plainAll (pl := pl) h.ok (by omega) d hd)) (by rw [List.length_map]; exact h.len)).mono (by decide) (by decide)
  exact (ok_tup (k := 6) (c := 1328203) (n := 2) (a_cons ((ok_int25 (i := pl) (by omega)).mono (by decide) (by decide)) (a_cons h1 a_nil)) (Nat.le_refl 2)).mono (by decide) (by decide)
theorem tap_fine {pl : Int} {ms : List Mo} (h : Tm pl ms) : Fine (tapD pl ms) := (tap_ok h).mono (by decide) (by decide)
theorem tap_plain {pl : Int} {ms : List Mo} (h : Tm pl ms) : Plain 4 (tapD pl ms) := by
  have p1 := h.p1
  have p80 := h.p80
  exact .inr ⟨_, rfl, by show 2 ≤ 3; decide, a_cons (Leaf.plain (.inl ⟨pl, rfl, by omega⟩) 3) (a_cons (.inr ⟨_, rfl, by show (ms.map Mo.d).length ≤ 101; rw [List.length_map]; have := h.len; omega, plainAll (pl := pl) h.ok (by omega)⟩) a_nil)⟩
theorem Tm.back {pl : Int} {ms : List Mo} (h : Tm pl ms) : Tm pl (backOf ms) := ⟨h.p1, h.p80, by rw [backOf_len]; exact h.len, backOf_ok h.ok⟩
def dueD (pl : Int) (ms : List Mo) : PyData := if dgo (onez pl) (backOf ms) = true then tapD pl (backOf ms) else .none
structure Par where
  D : Addr
  B : Addr
  C : Addr
  cells : List Int
  t : Int
  pl : Int
  ms : List Mo
  v : V
  u : V
structure W0 (p : Par) (σ : L2.St) (H : Hp) : Prop where
  len : σ.length = 14
  s1 : σ[1]? = some (some (.ref p.D))
  s2 : σ[2]? = some (some (.int p.t))
  dk : DeckAt p.D p.B p.C p.cells H
structure W1 (p : Par) (σ : L2.St) (H : Hp) : Prop extends W0 p σ H where
  s4 : σ[4]? = some (some p.v)
  qt : ∀ Z Y, Dq Z Y H p.v (tapD p.pl p.ms)
  tm : Tm p.pl p.ms
  go_ : dgo (onez p.pl) p.ms = true
structure W3 (p : Par) (σ : L2.St) (H : Hp) : Prop extends W1 p σ H where
  s5 : σ[5]? = some (some p.u)
  s6 : σ[6]? = some (some (.int (((oddN p.ms : Nat) : Int) % 2)))
  s8 : σ[8]? = some (some (.str (tapD p.pl p.ms).shown))
  qd : ∀ Z Y, Dq Z Y H p.u (dueD p.pl p.ms)
/-- plain data along what the deck lets happen -/
theorem any_go {D B C : Addr} {cells : List Int} {H H' : Hp} {v : V} {d : PyData} {n : Nat} (k : DeckAt D B C cells H) (f : Fr D B H H') (hp : Plain n d) (h : ∀ Z Y, Dq Z Y H v d) : ∀ Z Y, Dq Z Y H' v d := fun _ _ => plain_any n _ _ hp (k.data f (h D B))
theorem due_go {D B C : Addr} {cells : List Int} {H H' : Hp} {v : V} {pl : Int} {ms : List Mo} (k : DeckAt D B C cells H) (f : Fr D B H H') (hp : Tm pl ms) (h : ∀ Z Y, Dq Z Y H v (dueD pl ms)) : ∀ Z Y, Dq Z Y H' v (dueD pl ms) := by
  unfold dueD at *
  by_cases c : dgo (onez pl) (backOf ms) = true
  · rw [if_pos c] at *
    exact any_go k f (tap_plain hp.back) h
  · rw [if_neg c] at *
    intro Z Y
    cases h Z Y
    exact .non
theorem isNo_due {pl : Int} {ms : List Mo} : isNo (dueD pl ms) = !dgo (onez pl) (backOf ms) := by
  unfold dueD
  cases hc : dgo (onez pl) (backOf ms) with
  | true =>
    rw [if_pos rfl]
    rfl
  | false =>
    rw [if_neg Bool.false_ne_true]
    rfl
section
variable {p : Par} {σ : L2.St} {H H' : Hp} {v : Option V}
theorem W0.set (w : W0 p σ H) {i : Nat} (h : 2 < i) : W0 p (σ.set i v) H := ⟨by rw [List.length_set]; exact w.len, by rw [get_set_ne (by omega)]; exact w.s1, by rw [get_set_ne (by omega)]; exact w.s2, w.dk⟩
theorem W0.at_ (w : W0 p σ H) {i : Nat} (h : i < 14) {v : Option V} : (σ.set i v)[i]? = some v := get_set_eq (by rw [w.len]; exact h)
theorem W1.set (w : W1 p σ H) {i : Nat} (h : 4 < i) : W1 p (σ.set i v) H := ⟨w.toW0.set (by omega), by rw [get_set_ne (by omega)]; exact w.s4, w.qt, w.tm, w.go_⟩
theorem W1.go (w : W1 p σ H) (dk : DeckAt p.D p.B p.C p.cells H') (f : Fr p.D p.B H H') : W1 p σ H' := ⟨⟨w.len, w.s1, w.s2, dk⟩, w.s4, any_go w.dk f (tap_plain w.tm) w.qt, w.tm, w.go_⟩
theorem W1.same (w : W1 p σ H) (s : Same H H') : W1 p σ H' := w.go (w.dk.same s) (Fr.of_same s)
theorem W3.set (w : W3 p σ H) {i : Nat} (h : 8 < i) : W3 p (σ.set i v) H := ⟨w.toW1.set (by omega), by rw [get_set_ne (by omega)]; exact w.s5, by rw [get_set_ne (by omega)]; exact w.s6, by rw [get_set_ne (by omega)]; exact w.s8, w.qd⟩
theorem W3.go (w : W3 p σ H) (dk : DeckAt p.D p.B p.C p.cells H') (f : Fr p.D p.B H H') : W3 p σ H' := ⟨w.toW1.go dk f, w.s5, w.s6, w.s8, due_go w.dk f w.tm w.qd⟩
theorem W3.same (w : W3 p σ H) (s : Same H H') : W3 p σ H' := w.go (w.dk.same s) (Fr.of_same s)
end
section
variable {P : Program} {w : World} {K : PySem.W.Frag} {mg : Str → Option Value} {base : Heap} {f : Addr} {cdv : Value} {Ar : Around} {out : List Env} {s0 : Shared} {H0 : Hp} {E : XK}
/-- places, tape_here -/
def t0 : TS := fun Dn σ H => ∃ p, W0 p σ H ∧ ∀ p' σ' H', p'.t = p.t → W1 p' σ' H' → Dn.nx σ' H'
set_option maxHeartbeats 2000000 in
theorem b0 {rest : List Stmt} {u : TS} (T : Env33 P w K mg base) (hr : Room 7 (LX P w K mg base f cdv Ar out s0 H0 E).A) (hR : PSs (LX P w K mg base f cdv Ar out s0 H0 E) rest u) : ∃ t, PSs (LX P w K mg base f cdv Ar out s0 H0 E) (stL 0 :: stL 1 :: rest) t ∧ ∀ Dn σ H, t0 { Dn with nx := u Dn } σ H → t Dn σ H := by
  obtain ⟨fO, fdO, GO⟩ := T.one
  obtain ⟨fR, fdR, GR⟩ := T.tape
  refine ⟨_, pss_cons (ps_set (i := 3) scLaw.nd rfl (.inl rfl) (pe_call GO.F (hr.mono (by decide)) (by rfl) GO.g GO.kp GO.b .nil pass0 (pa_cons (pv 1) (pa_cons (pe_lst (pa_cons pe_int (pa_cons pe_int (pa_cons pe_int (pa_cons pe_int (pa_cons pe_int pa_nil)))))) pa_nil))))
    (pss_cons (ps_set (i := 4) scLaw.nd rfl (.inl rfl) (pe_call GR.F (hr.mono (by decide)) (by rfl) GR.g GR.kp GR.b .nil pass0 (pa_cons (pv 1) (pa_cons (pv 3)
      (pa_cons (pe_call GO.F (hr.mono (by decide)) (by rfl) GO.g GO.kp GO.b .nil pass0 (pa_cons (pv 1) (pa_cons (pe_lst (pa_cons pe_int (pa_cons pe_int (pa_cons pe_int pa_nil)))) pa_nil)))
      (pa_cons (pe_call GO.F (hr.mono (by decide)) (by rfl) GO.g GO.kp GO.b .nil pass0 (pa_cons (pv 1) (pa_cons (pe_lst (pa_cons pe_int (pa_cons pe_int (pa_cons pe_int pa_nil)))) pa_nil))) pa_nil)))))) hR), ?_⟩
  rintro Dn σ H ⟨p, w0, q⟩
  obtain ⟨D, B, C, cells, t, pl0, ms0, v0, u0⟩ := p
  have hs1 : σ[1]? = some (some (.ref D)) := w0.s1
  have hdk : DeckAt D B C cells H := w0.dk
  refine ⟨_, hs1, sz1 rfl, fun L nL => ?_⟩
  have s1 := same_upd (o := .lst [.int 1, .int 2, .int 3, .int 5, .int 12]) nL
  have dk1 := hdk.same s1
  refine ⟨D, B, C, cells, L, _, rfl, dk1, upd_same, hdk.neD nL, hdk.neB nL, by show 0 < 5; decide, by show 5 < 1073741824; decide, fun i v H2 hv dk2 f2 => ?_⟩
  obtain ⟨pl, rfl, p1, p80⟩ : ∃ pl : Int, v = .int pl ∧ 1 ≤ pl ∧ pl ≤ 80 := by
    match i, hv with
    | 0, hv => exact ⟨1, (Option.some.inj hv).symm, by decide, by decide⟩
    | 1, hv => exact ⟨2, (Option.some.inj hv).symm, by decide, by decide⟩
    | 2, hv => exact ⟨3, (Option.some.inj hv).symm, by decide, by decide⟩
    | 3, hv => exact ⟨5, (Option.some.inj hv).symm, by decide, by decide⟩
    | 4, hv => exact ⟨12, (Option.some.inj hv).symm, by decide, by decide⟩
    | n + 5, hv => cases hv
  have g1 : (σ.set 3 (some (.int pl)))[1]? = some (some (.ref D)) := by
    rw [get_set_ne (by decide)]
    exact hs1
  have g3 : (σ.set 3 (some (.int pl)))[3]? = some (some (.int pl)) := w0.at_ (by decide)
  refine ⟨_, g1, _, g3, _, g1, sz1 rfl, fun M nM => ?_⟩
  have s3 := same_upd (o := .lst [.int 5, .int 20, .int 100]) nM
  have dk3 := dk2.same s3
  refine ⟨D, B, C, cells, M, _, rfl, dk3, upd_same, dk2.neD nM, dk2.neB nM, by show 0 < 3; decide, by show 3 < 1073741824; decide, fun i v H4 hv dk4 f4 => ?_⟩
  obtain ⟨m, rfl, m0, m1⟩ : ∃ m : Int, v = .int m ∧ 0 ≤ m ∧ m ≤ 100 := by
    match i, hv with
    | 0, hv => exact ⟨5, (Option.some.inj hv).symm, by decide, by decide⟩
    | 1, hv => exact ⟨20, (Option.some.inj hv).symm, by decide, by decide⟩
    | 2, hv => exact ⟨100, (Option.some.inj hv).symm, by decide, by decide⟩
    | n + 3, hv => cases hv
  refine ⟨_, g1, sz1 rfl, fun M2 nM2 => ?_⟩
  have s5 := same_upd (o := .lst [.int 4, .int 16, .int 64]) nM2
  have dk5 := dk4.same s5
  refine ⟨D, B, C, cells, M2, _, rfl, dk5, upd_same, dk4.neD nM2, dk4.neB nM2, by show 0 < 3; decide, by show 3 < 1073741824; decide, fun i v H6 hv dk6 f6 => ?_⟩
  obtain ⟨mo, rfl, mo1⟩ : ∃ m : Int, v = .int m ∧ m ≤ 64 := by
    match i, hv with
    | 0, hv => exact ⟨4, (Option.some.inj hv).symm, by decide⟩
    | 1, hv => exact ⟨16, (Option.some.inj hv).symm, by decide⟩
    | 2, hv => exact ⟨64, (Option.some.inj hv).symm, by decide⟩
    | n + 3, hv => cases hv
  refine ⟨D, B, C, cells, pl, m, mo, rfl, dk6, p1, p80, m0, m1, mo1, fun v ms H7 tm hg hv dk7 f7 => ?_⟩
  have w3 := W0.set (v := some (.int pl)) w0 (i := 3) (by decide)
  refine q ⟨D, B, C, cells, t, pl, ms, v, u0⟩ _ H7 rfl ⟨⟨by rw [List.length_set]; exact w3.len, ?_, ?_, dk7⟩, W0.at_ w3 (by decide), fun Z Y => plain_any 4 _ _ (tap_plain tm) hv, tm, hg⟩
  · rw [get_set_ne (by decide)]
    exact w3.s1
  · rw [get_set_ne (by decide)]
    exact w3.s2
def t1 : TS := fun Dn σ H => ∃ p, W1 p σ H ∧ ∀ p' σ' H', p'.t = p.t → W1 p' σ' H' → Dn.nx σ' H'
theorem b2 (T : Env33 P w K mg base) (hr : Room 7 (LX P w K mg base f cdv Ar out s0 H0 E).A) : PS (LX P w K mg base f cdv Ar out s0 H0 E) (stL 2) t1 := by
  obtain ⟨fS, fdS, GS⟩ := T.steep
  refine ps_imp (ps_if (pt_cmpR op_eq (pv 2) pe_int (nomark _)) (pss_one (ps_set (i := 4) scLaw.nd rfl (.inl rfl) (pe_call GS.F (hr.mono (by decide)) (by rfl) GS.g GS.kp GS.b .nil pass0 (pa_cons (pv 1) pa_nil)))) pss_nil) ?_
  rintro Dn σ H ⟨p, w1, q⟩
  refine ⟨_, w1.s2, rfl, _, rfl, ite2 (fun _ => ?_) (fun _ => q p σ H rfl w1)⟩
  refine ⟨_, w1.s1, p.D, p.B, p.C, p.cells, rfl, w1.dk, fun v ms H' tm hg hv dk' f' => ?_⟩
  refine q ⟨p.D, p.B, p.C, p.cells, p.t, 8, ms, v, p.u⟩ _ H' rfl ⟨⟨by rw [List.length_set]; exact w1.len, ?_, ?_, dk'⟩, w1.toW0.at_ (by decide), fun Z Y => plain_any 4 _ _ (tap_plain tm) hv, tm, hg⟩
  · rw [get_set_ne (by decide)]
    exact w1.s1
  · rw [get_set_ne (by decide)]
    exact w1.s2
theorem b3 (T : Env33 P w K mg base) (hr : Room 7 (LX P w K mg base f cdv Ar out s0 H0 E).A) : PS (LX P w K mg base f cdv Ar out s0 H0 E) (stL 3) t1 := by
  obtain ⟨fS, fdS, GS⟩ := T.tape
  refine ps_imp (ps_if (pt_cmpR op_eq (pv 2) pe_int (nomark _)) (pss_one (ps_set (i := 4) scLaw.nd rfl (.inl rfl) (pe_call GS.F (hr.mono (by decide)) (by rfl) GS.g GS.kp GS.b .nil pass0 (pa_cons (pv 1) (pa_cons pe_int (pa_cons pe_int (pa_cons pe_int pa_nil))))))) pss_nil) ?_
  rintro Dn σ H ⟨p, w1, q⟩
  refine ⟨_, w1.s2, rfl, _, rfl, ite2 (fun _ => ?_) (fun _ => q p σ H rfl w1)⟩
  refine ⟨_, w1.s1, p.D, p.B, p.C, p.cells, 80, 60, 16, rfl, w1.dk, by decide, by decide, by decide, by decide, by decide, fun v ms H' tm hg hv dk' f' => ?_⟩
  refine q ⟨p.D, p.B, p.C, p.cells, p.t, 80, ms, v, p.u⟩ _ H' rfl ⟨⟨by rw [List.length_set]; exact w1.len, ?_, ?_, dk'⟩, w1.toW0.at_ (by decide), fun Z Y => plain_any 4 _ _ (tap_plain tm) hv, tm, hg⟩
  · rw [get_set_ne (by decide)]
    exact w1.s1
  · rw [get_set_ne (by decide)]
    exact w1.s2
end
end Jg
namespace Jg
open PySem PySem.Spec PyProof.Rows L2
/-! ### the law's body: what is due, and the looks at the way back and the sign -/
structure W2 (p : Par) (σ : L2.St) (H : Hp) : Prop extends W1 p σ H where
  s5 : σ[5]? = some (some p.u)
  s6 : σ[6]? = some (some (.int (((oddN p.ms : Nat) : Int) % 2)))
  qd : ∀ Z Y, Dq Z Y H p.u (dueD p.pl p.ms)
theorem due_of {pl : Int} {ms : List Mo} {H : Hp} {u : V} (h : dgo (onez pl) (backOf ms) = true) (hu : ∀ Z Y, Dq Z Y H u (tapD pl (backOf ms))) : ∀ Z Y, Dq Z Y H u (dueD pl ms) := by
  unfold dueD
  rw [if_pos h]
  exact hu
theorem due_no {pl : Int} {ms : List Mo} {H : Hp} (h : dgo (onez pl) (backOf ms) = false) : ∀ Z Y, Dq Z Y H .non (dueD pl ms) := by
  unfold dueD
  rw [if_neg (by rw [h]; exact Bool.false_ne_true)]
  exact fun _ _ => .non
theorem told_due {pl : Int} {ms : List Mo} (h : dgo (onez pl) (backOf ms) = true) : toldD pl ms = tapD pl (backOf ms) ∧ dueD pl ms = tapD pl (backOf ms) := by
  unfold toldD dueD
  rw [if_pos h, if_pos h]
  exact ⟨rfl, rfl⟩
theorem told_ok {pl : Int} {ms : List Mo} (h : Tm pl ms) : Ok 7 2656413 (toldD pl ms) := by
  unfold toldD
  split
  · exact tap_ok h.back
  · exact (ok_str (by decide +kernel)).mono (by decide) (by decide)
section
variable {P : Program} {w : World} {K : PySem.W.Frag} {mg : Str → Option Value} {base : Heap} {f : Addr} {cdv : Value} {Ar : Around} {out : List Env} {s0 : Shared} {H0 : Hp} {E : XK}
def t4 : TS := fun Dn σ H => ∃ p, W1 p σ H ∧ ∀ p' σ' H', p'.t = p.t → W2 p' σ' H' → Dn.nx σ' H'
set_option maxHeartbeats 2000000 in
theorem b4 (T : Env33 P w K mg base) (hr : Room 7 (LX P w K mg base f cdv Ar out s0 H0 E).A) : PS (LX P w K mg base f cdv Ar out s0 H0 E) (stL 4) t4 := by
  obtain ⟨fB, fdB, GB⟩ := T.lback
  refine ps_imp (ps_par (i := 5) (j := 6) rfl scLaw.nd rfl rfl (by decide) rfl rfl (pa_cons (pe_call GB.F (hr.mono (by decide)) (by rfl) GB.g GB.kp GB.b .nil pass0 (pa_cons (pv 4) pa_nil))
    (pa_cons (pe_op op_mod (pe_callB call_len_seq (by rfl) T.bn.len PySem.boot_len (pa_cons (pe_lc (own := [("_law_move_here", 7)]) (g := gName 7) rfl scLaw.nd (pi_tup (pe_ix ix_tup (pv 4) pe_int (fun _ _ => rfl))) (blkOk_by (N := nLaw) (sc := defScope sLaw) (by decide +kernel))
        (fun _ _ _ _ _ => pg_name (i := 7) scLaw.nd rfl (.inl rfl)) (fun _ _ _ _ _ => pts_one (pt_cmpR (op_inK (K := K) rfl) (pe_ix (ix_tupK (K := K) rfl) (pv 7) pe_int (fun _ _ => rfl)) (pe_tup (pa_cons pe_str (pa_cons pe_str pa_nil))) (by rfl))) (fun _ _ _ _ _ => pe_int)) pa_nil)) pe_int) pa_nil)) rfl) ?_
  rintro Dn σ H ⟨p, w1, q⟩
  have l14 := w1.len
  have go : ∀ u H1, Same H H1 → (∀ Z Y, Dq Z Y H1 u (dueD p.pl p.ms)) → _ := fun u H1 s1 hu => q ⟨p.D, p.B, p.C, p.cells, p.t, p.pl, p.ms, p.v, u⟩ ((σ.set 5 (some u)).set 6 (some (.int (((oddN p.ms : Nat) : Int) % 2)))) H1 rfl
    ⟨(W1.same w1 s1).set (i := 5) (v := some u) (by decide) |>.set (i := 6) (by decide) |> fun z => ⟨⟨z.len, z.s1, z.s2, z.dk⟩, z.s4, z.qt, z.tm, z.go_⟩, by rw [get_set_ne (by decide)]; exact w1.toW0.at_ (by decide), get_set_eq (by rw [List.length_set, l14]; decide), hu⟩
  have fin : ∀ u H1, Same H H1 → (∀ Z Y, Dq Z Y H1 u (dueD p.pl p.ms)) → ∃ (a b : Addr) (xs : List V), σ[4]? = some (some (.ref a)) ∧ H1 a = some (.tup [.int p.pl, .ref b]) ∧ H1 b = some (.tup xs) ∧ xs.length = p.ms.length ∧ DqAll p.D p.B H1 xs (p.ms.map Mo.d) := by
    intro u H1 s1 hu
    obtain ⟨a, b, xs, ev, ea, eb, hb⟩ := dq_tape ((W1.same w1 s1).qt p.D p.B)
    exact ⟨a, b, xs, by rw [← ev]; exact w1.s4, ea, eb, by have := hb.len; rw [List.length_map] at this; exact this, hb⟩
  have tl := w1.tm.len
  refine ⟨_, w1.s4, p.D, p.B, p.v, p.pl, p.ms, rfl, w1.qt _ _, w1.tm, fun hg u H1 s1 hu => ?_, fun hg H1 s1 => ?_⟩
  · have hud := due_of hg hu
    obtain ⟨a, b, xs, e4, ea, eb, hxl, hb⟩ := fin u H1 s1 hud
    refine ⟨_, e4, a, _, 1, .ref b, rfl, rfl, SqT.of ea, atI_nat (j := 1) rfl, b, rfl, ⟨_, SqT.of eb⟩, fun D1 nD1 => ?_⟩
    refine lc_tup (K := K) (a := b) (xs := xs) (fun i H3 => ∃ ts : List V, H3 D1 = some (.lst ts) ∧ ts.length = oddN (p.ms.take i) ∧ Same H1 H3) ⟨[], upd_same, rfl, same_upd nD1⟩ (fun i H3 _ ⟨_, _, _, s⟩ => SqT.of (s _ _ eb)) ?_ ?_
    · rintro i y H3 hy ⟨ts, k3, tsl, s3⟩
      obtain ⟨m, hm, hx⟩ := hb.pick hy
      obtain ⟨x, is, ed, hxx⟩ := word_odd m
      obtain ⟨am, axs, rfl, e1, ha⟩ := (ed ▸ hx.same s3 : Dq p.D p.B H3 y (.tuple (.str x :: is.map PyData.int))).tupE
      obtain rfl := dqInts ha
      refine ⟨wipe1, _, w1_own (by rw [l14]; decide), am, _, 0, .str x, rfl, rfl, SqT.of e1, atI_nat (j := 0) rfl, sz1 rfl, fun p3 n3 => ?_⟩
      have s5 := same_upd (o := .tup [.str (Str.ofString "swap"), .str (Str.ofString "turn")]) n3
      refine ⟨p3, _, rfl, .inr (SqT.of upd_same), rfl, rfl, ?_⟩
      rw [if_neg Bool.false_ne_true, inV2, hxx]
      have hnext := oddN_next hm
      have hle := oddN_le (p.ms.take i)
      rw [List.length_take] at hle
      cases ho : m.odd with
      | true =>
        rw [ho, if_pos rfl] at hnext
        refine ⟨_, rfl, iteT ⟨ts, s5 _ _ k3, smallB (by omega), ts ++ [.int 1], upd_same, by rw [List.length_append, tsl, hnext]; rfl, fun z o hz => ?_⟩⟩
        rw [upd_ne (ne_of_none hz nD1)]
        exact s5 _ _ (s3 _ _ hz)
      | false =>
        rw [ho, if_neg Bool.false_ne_true, Nat.add_zero] at hnext
        exact ⟨_, rfl, iteF ⟨ts, s5 _ _ k3, by omega, s3.trans s5⟩⟩
    · rintro H3 ⟨ts, k3, tsl, s3⟩
      rw [hxl, List.take_length] at tsl
      refine ⟨D1, ts, rfl, .inl (SqL.of k3), _, _, rfl, rfl, (by show (0 : Int) < 2; decide), _, _, rfl, ?_⟩
      rw [tsl]
      exact go u H3 (s1.trans s3) fun Z Y => (hud Z Y).same s3
  · have hud := due_no (H := H1) hg
    obtain ⟨a, b, xs, e4, ea, eb, hxl, hb⟩ := fin .non H1 s1 hud
    refine ⟨_, e4, a, _, 1, .ref b, rfl, rfl, SqT.of ea, atI_nat (j := 1) rfl, b, rfl, ⟨_, SqT.of eb⟩, fun D1 nD1 => ?_⟩
    refine lc_tup (K := K) (a := b) (xs := xs) (fun i H3 => ∃ ts : List V, H3 D1 = some (.lst ts) ∧ ts.length = oddN (p.ms.take i) ∧ Same H1 H3) ⟨[], upd_same, rfl, same_upd nD1⟩ (fun i H3 _ ⟨_, _, _, s⟩ => SqT.of (s _ _ eb)) ?_ ?_
    · rintro i y H3 hy ⟨ts, k3, tsl, s3⟩
      obtain ⟨m, hm, hx⟩ := hb.pick hy
      obtain ⟨x, is, ed, hxx⟩ := word_odd m
      obtain ⟨am, axs, rfl, e1, ha⟩ := (ed ▸ hx.same s3 : Dq p.D p.B H3 y (.tuple (.str x :: is.map PyData.int))).tupE
      obtain rfl := dqInts ha
      refine ⟨wipe1, _, w1_own (by rw [l14]; decide), am, _, 0, .str x, rfl, rfl, SqT.of e1, atI_nat (j := 0) rfl, sz1 rfl, fun p3 n3 => ?_⟩
      have s5 := same_upd (o := .tup [.str (Str.ofString "swap"), .str (Str.ofString "turn")]) n3
      refine ⟨p3, _, rfl, .inr (SqT.of upd_same), rfl, rfl, ?_⟩
      rw [if_neg Bool.false_ne_true, inV2, hxx]
      have hnext := oddN_next hm
      have hle := oddN_le (p.ms.take i)
      rw [List.length_take] at hle
      cases ho : m.odd with
      | true =>
        rw [ho, if_pos rfl] at hnext
        refine ⟨_, rfl, iteT ⟨ts, s5 _ _ k3, smallB (by omega), ts ++ [.int 1], upd_same, by rw [List.length_append, tsl, hnext]; rfl, fun z o hz => ?_⟩⟩
        rw [upd_ne (ne_of_none hz nD1)]
        exact s5 _ _ (s3 _ _ hz)
      | false =>
        rw [ho, if_neg Bool.false_ne_true, Nat.add_zero] at hnext
        exact ⟨_, rfl, iteF ⟨ts, s5 _ _ k3, by omega, s3.trans s5⟩⟩
    · rintro H3 ⟨ts, k3, tsl, s3⟩
      rw [hxl, List.take_length] at tsl
      refine ⟨D1, ts, rfl, .inl (SqL.of k3), _, _, rfl, rfl, (by show (0 : Int) < 2; decide), _, _, rfl, ?_⟩
      rw [tsl]
      exact go .non H3 (s1.trans s3) fun Z Y => (hud Z Y).same s3
end
end Jg
namespace Jg
open PySem PySem.Spec PyProof.Rows L2
section
variable {P : Program} {w : World} {K : PySem.W.Frag} {mg : Str → Option Value} {base : Heap} {f : Addr} {cdv : Value} {Ar : Around} {out : List Env} {s0 : Shared} {H0 : Hp} {E : XK}
def t5 : TS := fun Dn σ H => ∃ p, W2 p σ H ∧ ∀ p' σ' H', p'.t = p.t → W3 p' σ' H' → Dn.nx σ' H'
theorem b5 (T : Env33 P w K mg base) (hr : Room 7 (LX P w K mg base f cdv Ar out s0 H0 E).A) (hg : (LX P w K mg base f cdv Ar out s0 H0 E).A.guards = some []) : PS (LX P w K mg base f cdv Ar out s0 H0 E) (stL 5) t5 := by
  have hu := hr.units
  refine ps_imp (ps_set (i := 8) scLaw.nd rfl (.inl rfl) (pe_callB (call_reprD hg hu) (by rfl) T.bn.rep boot_repr' (pa_cons (pv 4) pa_nil))) ?_
  rintro Dn σ H ⟨p, w2, q⟩
  have ft := tap_fine w2.tm
  have w3 := w2.toW1.set (i := 8) (v := some (.str (tapD p.pl p.ms).shown)) (by decide)
  refine ⟨_, w2.s4, p.D, p.B, p.v, _, rfl, w2.qt _ _, ft.sh, ft.zl, ft.dl, q p _ _ rfl ⟨w3, ?_, ?_, w2.toW0.at_ (by decide), w2.qd⟩⟩
  · rw [get_set_ne (by decide)]
    exact w2.s5
  · rw [get_set_ne (by decide)]
    exact w2.s6
def t6 : TS := fun Dn σ H => ∃ p, W3 p σ H ∧ ∀ H', W3 p σ H' → Dn.nx σ H'
theorem two_told {pl : Int} {ms : List Mo} (h : Tm pl ms) : Fine (.list [toldD pl ms, toldD pl ms]) := fine_lst (n := 2) (a_cons (told_ok h) (a_cons (told_ok h) a_nil)) (Nat.le_refl 2) (by decide) (by decide)
set_option maxHeartbeats 2000000 in
theorem b6 (T : Env33 P w K mg base) (hr : Room 7 (LX P w K mg base f cdv Ar out s0 H0 E).A) (hg : (LX P w K mg base f cdv Ar out s0 H0 E).A.guards = some []) : PS (LX P w K mg base f cdv Ar out s0 H0 E) (stL 6) t6 := by
  obtain ⟨fT, fdT, GT⟩ := T.told
  have hu := hr.units
  refine ps_imp (ps_if (pt_cmpR op_ne (pe_callB (call_reprD hg hu) (by rfl) T.bn.rep boot_repr' (pa_cons (pe_op op_rep (pe_lst (pa_cons (pe_call GT.F (hr.mono (by decide)) (by rfl) GT.g GT.kp GT.b .nil pass0 (pa_cons (pv 4) pa_nil)) pa_nil)) pe_int) pa_nil))
        (pe_callB (call_reprD hg hu) (by rfl) T.bn.rep boot_repr' (pa_cons (pe_op op_rep (pe_lst (pa_cons (pe_ifExp (pt_cmpR op_isN (pv 5) pe_non (nomark _)) pe_str (pv 5)) pa_nil)) pe_int) pa_nil)) (nomark _)) (pss_one (ps_ret pe_bl)) pss_nil) ?_
  rintro Dn σ H ⟨p, w3, q⟩
  have ff := two_told w3.tm
  refine ⟨_, w3.s4, p.D, p.B, p.v, p.pl, p.ms, rfl, w3.qt _ _, w3.tm, fun u1 H1 s1 hu1 => ⟨sz1 rfl, fun l nl => ?_⟩⟩
  have sl := same_upd (o := .lst [u1]) nl
  refine ⟨l, 2, [u1], rfl, rfl, upd_same, by decide, by decide, Nat.le_of_lt (small1000 (by show 1 * 2 ≤ 1000; decide)), fun L nL => ?_⟩
  have sL := same_upd (o := .lst [u1, u1]) nL
  have w5 := W3.same (W3.same (W3.same w3 s1) sl) sL
  have q1 := ((hu1 p.D p.B).same sl).same sL
  have dkl := (w3.dk.same s1).same sl
  refine ⟨p.D, p.B, .ref L, _, rfl, .lst (dkl.neD nL) (dkl.neB nL) upd_same (.cons q1 (.cons q1 .nil)), ff.sh, ff.zl, ff.dl, ?_⟩
  refine ⟨_, w5.s5, rfl, ?_⟩
  have hdu := w5.qd p.D p.B
  have hno : decide (p.u = V.non) = isNo (dueD p.pl p.ms) := dq_isN hdu
  rw [isNo_due] at hno
  rw [hno]
  have fin : ∀ (u2 : V) (H5 : Hp), W3 p σ H5 → (∀ Z Y, Dq Z Y H5 u2 (toldD p.pl p.ms)) → ∀ l2, H5 l2 = none → ∀ L2 : Addr, (upd H5 l2 (.lst [u2])) L2 = none → W3 p σ (upd (upd H5 l2 (.lst [u2])) L2 (.lst [u2, u2])) ∧ Dq p.D p.B (upd (upd H5 l2 (.lst [u2])) L2 (.lst [u2, u2])) (.ref L2) (.list [toldD p.pl p.ms, toldD p.pl p.ms]) := by
    intro u2 H5 w6 h2 l2 nl2 L2 nL2
    have a1 := same_upd (o := .lst [u2]) nl2
    have a2 := same_upd (o := .lst [u2, u2]) nL2
    have dk6 := w6.dk.same a1
    have q2 := ((h2 p.D p.B).same a1).same a2
    exact ⟨W3.same (W3.same w6 a1) a2, .lst (dk6.neD nL2) (dk6.neB nL2) upd_same (.cons q2 (.cons q2 .nil))⟩
  cases hc : dgo (onez p.pl) (backOf p.ms) with
  | true =>
    obtain ⟨e1, e2⟩ := told_due hc
    refine ⟨_, rfl, iteF ⟨_, w5.s5, sz1 rfl, fun l2 nl2 => ⟨l2, 2, [p.u], rfl, rfl, upd_same, by decide, by decide, Nat.le_of_lt (small1000 (by show 1 * 2 ≤ 1000; decide)), fun L2 nL2 => ?_⟩⟩⟩
    obtain ⟨w8, q8⟩ := fin p.u _ w5 (fun Z Y => by rw [e1, ← e2]; exact w5.qd Z Y) l2 nl2 L2 nL2
    exact ⟨p.D, p.B, .ref L2, _, rfl, q8, ff.sh, ff.zl, ff.dl, rfl, _, rfl, iteNS rfl (q _ w8)⟩
  | false =>
    have e1 : toldD p.pl p.ms = .str (Str.ofString "long") := by
      unfold toldD
      rw [if_neg (by rw [hc]; exact Bool.false_ne_true)]
    refine ⟨_, rfl, iteT ⟨sz1 rfl, fun l2 nl2 => ⟨l2, 2, [.str (Str.ofString "long")], rfl, rfl, upd_same, by decide, by decide, Nat.le_of_lt (small1000 (by show 1 * 2 ≤ 1000; decide)), fun L2 nL2 => ?_⟩⟩⟩
    obtain ⟨w8, q8⟩ := fin (.str (Str.ofString "long")) _ w5 (fun Z Y => by rw [e1]; exact .str _) l2 nl2 L2 nL2
    exact ⟨p.D, p.B, .ref L2, _, rfl, q8, ff.sh, ff.zl, ff.dl, rfl, _, rfl, iteNS rfl (q _ w8)⟩
theorem sgn_fine (i : Int) (h : i.natAbs ≤ 10) : Fine (.list [.int i, .int i]) := fine_lst (k := 0) (c := 26) (n := 2) (a_cons (ok_int25 (by omega)) (a_cons (ok_int25 (by omega)) a_nil)) (Nat.le_refl 2) (by decide) (by decide)
theorem sgn_small (ms : List Mo) : (sgn ms).natAbs ≤ 10 := by
  unfold sgn
  omega
set_option maxHeartbeats 2000000 in
theorem b7 (T : Env33 P w K mg base) (hr : Room 7 (LX P w K mg base f cdv Ar out s0 H0 E).A) (hg : (LX P w K mg base f cdv Ar out s0 H0 E).A.guards = some []) : PS (LX P w K mg base f cdv Ar out s0 H0 E) (stL 7) t6 := by
  obtain ⟨fT, fdT, GT, kT⟩ := T.sign
  have hu := hr.units
  refine ps_imp (ps_if (pt_cmpR op_ne (pe_callB (call_reprD hg hu) (by rfl) T.bn.rep boot_repr' (pa_cons (pe_lst (pa_cons (pe_call GT.F (hr.mono (by decide)) (by rfl) GT.g GT.kp GT.b .nil pass0 (pa_cons (pv 4) pa_nil)) (pa_cons (pe_callKO GT.F (hr.mono (by decide)) (by rfl) GT.g GT.kp kT pass0 (pk_cons (pv 4) pk_nil)) pa_nil))) pa_nil))
        (pe_callB (call_reprD hg hu) (by rfl) T.bn.rep boot_repr' (pa_cons (pe_op op_rep (pe_lst (pa_cons (pe_op op_sub pe_int (pe_op op_mul pe_int (pv 6))) pa_nil)) pe_int) pa_nil)) (nomark _)) (pss_one (ps_ret pe_bl)) pss_nil) ?_
  rintro Dn σ H ⟨p, w3, q⟩
  have ff := sgn_fine _ (sgn_small p.ms)
  refine ⟨_, w3.s4, p.D, p.B, p.v, p.pl, p.ms, rfl, w3.qt _ _, w3.tm, fun H1 s1 => ?_⟩
  have w4 := W3.same w3 s1
  refine ⟨_, w4.s4, p.D, p.B, p.v, p.pl, p.ms, rfl, w4.qt _ _, w4.tm, fun H2 s2 => ⟨sz1 rfl, fun l nl => ?_⟩⟩
  have w5 := W3.same w4 s2
  have sl := same_upd (o := .lst [.int (sgn p.ms), .int (sgn p.ms)]) nl
  have w6 := W3.same w5 sl
  refine ⟨p.D, p.B, .ref l, _, rfl, .lst (w5.dk.neD nl) (w5.dk.neB nl) upd_same (.cons (.int _) (.cons (.int _) .nil)), ff.sh, ff.zl, ff.dl, ?_⟩
  refine ⟨_, w6.s6, _, _, rfl, rfl, .inl ⟨by decide, by decide⟩, _, _, rfl, rfl, sz1 rfl, fun l2 nl2 => ?_⟩
  have sl2 := same_upd (o := .lst [.int (sgn p.ms)]) nl2
  refine ⟨l2, 2, [.int (sgn p.ms)], rfl, rfl, upd_same, by decide, by decide, Nat.le_of_lt (small1000 (by show 1 * 2 ≤ 1000; decide)), fun L2 nL2 => ?_⟩
  have sL2 := same_upd (o := .lst [.int (sgn p.ms), .int (sgn p.ms)]) nL2
  have w7 := W3.same w6 sl2
  have w8 := W3.same w7 sL2
  exact ⟨p.D, p.B, .ref L2, .list [.int (sgn p.ms), .int (sgn p.ms)], rfl, .lst (w7.dk.neD nL2) (w7.dk.neB nL2) upd_same (.cons (.int _) (.cons (.int _) .nil)), ff.sh, ff.zl, ff.dl, rfl, _, rfl, iteNS rfl (q _ w8)⟩
end
end Jg
namespace Jg
open PySem PySem.Spec PyProof.Rows L2
/-! ### the law's body: fillings moved there and back -/
theorem ints_fine {ns : List Int} (hl : ns.length ≤ 80) (h : ∀ x ∈ ns, x.natAbs ≤ 10 ^ 20) : Fine (intsD ns) := fine_tup (k := 0) (c := 26) (n := 80) (fun d hd => by
  obtain ⟨x, hx, rfl⟩ := List.mem_map.mp hd
  exact ok_int25 (Nat.lt_of_le_of_lt (h x hx) (by decide))) (by rw [List.length_map]; exact hl) (by decide) (by decide)
theorem ints_lay (ns : List Int) : (intsD ns).canLay0 = true := by
  have h := lay_ints ns
  simpa only [intsD, PyData.canLay0] using h
theorem ints_shaped (ns : List Int) : SeqAt.shaped (intsD ns) = true := by
  have h1 := dep_ints ns
  have h2 : PyData.depth (intsD ns) ≤ 64 := by
    simp only [intsD, PyData.depth]
    omega
  show ((intsD ns).canLay0 && decide ((intsD ns).depth ≤ 64)) = true
  rw [ints_lay, decide_eq_true h2]
  rfl
theorem ints_eqv (ns : List Int) : PyData.eqv (intsD ns) (intsD ns) = true := PySem.SeqAt.eqv_refl _ (ints_lay ns)
theorem ints_dp {K : PySem.W.Frag} {D B : Addr} {H : Hp} {v : V} {ns : List Int} (h : Dq D B H v (intsD ns)) : Dp K H v (intsD ns) := by
  obtain ⟨a, rfl, e⟩ := dq_ints h
  exact .tup (SqT.of e) (dp_ints ns)
structure W4 (p : Par) (fi : V) (ns : List Int) (σ : L2.St) (H : Hp) : Prop extends W3 p σ H where
  s10 : σ[10]? = some (some fi)
  qf : ∀ Z Y, Dq Z Y H fi (intsD ns)
  hn : (ns.length : Int) = p.pl
  hs : ∀ x ∈ ns, x.natAbs ≤ 10 ^ 20
structure W5 (p : Par) (fi : V) (ns : List Int) (bh : V) (σ : L2.St) (H : Hp) : Prop extends W4 p fi ns σ H where
  s11 : σ[11]? = some (some bh)
  qb : ∀ Z Y, Dq Z Y H bh (intsD (runAll ns p.ms))
  s12 : σ[12]? = some (some (.str (intsD ns).shown))
section
variable {p : Par} {fi bh : V} {ns : List Int} {σ : L2.St} {H H' : Hp} {v : Option V}
theorem W4.set (w : W4 p fi ns σ H) {i : Nat} (h : 10 < i) : W4 p fi ns (σ.set i v) H := ⟨w.toW3.set (by omega), by rw [get_set_ne (by omega)]; exact w.s10, w.qf, w.hn, w.hs⟩
theorem W4.same (w : W4 p fi ns σ H) (s : Same H H') : W4 p fi ns σ H' := ⟨w.toW3.same s, w.s10, fun Z Y => (w.qf Z Y).same s, w.hn, w.hs⟩
theorem W5.set (w : W5 p fi ns bh σ H) {i : Nat} (h : 12 < i) : W5 p fi ns bh (σ.set i v) H := ⟨w.toW4.set (by omega), by rw [get_set_ne (by omega)]; exact w.s11, w.qb, by rw [get_set_ne (by omega)]; exact w.s12⟩
theorem W5.same (w : W5 p fi ns bh σ H) (s : Same H H') : W5 p fi ns bh σ H' := ⟨w.toW4.same s, w.s11, fun Z Y => (w.qb Z Y).same s, w.s12⟩
theorem W4.fits (w : W4 p fi ns σ H) : Fits p.ms ns := fits_there (by have := w.tm.p1; omega) w.tm.ok w.hn w.tm.len w.hs w.go_
theorem W4.fine (w : W4 p fi ns σ H) : Fine (intsD ns) := ints_fine (by have := w.hn; have := w.tm.p80; omega) w.hs
/-- the tape is a pair -/
theorem W1.pair (w : W1 p σ H) : ∃ a b, σ[4]? = some (some (.ref a)) ∧ H a = some (.tup [.int p.pl, .ref b]) := by
  obtain ⟨a, b, xs, ev, ea, _, _⟩ := dq_tape (w.qt p.D p.B)
  exact ⟨a, b, by rw [← ev]; exact w.s4, ea⟩
end
section
variable {P : Program} {w : World} {K : PySem.W.Frag} {mg : Str → Option Value} {base : Heap} {f : Addr} {cdv : Value} {Ar : Around} {out : List Env} {s0 : Shared} {H0 : Hp} {E : XK}
def tg0 : TS := fun Dn σ H => ∃ p, W3 p σ H ∧ ∀ fi ns σ' H', W4 p fi ns σ' H' → Dn.nx σ' H'
theorem g0 (T : Env33 P w K mg base) (hr : Room 7 (LX P w K mg base f cdv Ar out s0 H0 E).A) : PS (LX P w K mg base f cdv Ar out s0 H0 E) (stG 0) tg0 := by
  obtain ⟨fF, fdF, GF⟩ := T.fill
  refine ps_imp (ps_set (i := 10) scLaw.nd rfl (.inl rfl) (pe_call GF.F (hr.mono (by decide)) (by rfl) GF.g GF.kp GF.b .nil pass0 (pa_cons (pv 1) (pa_cons (pe_ix ix_tup (pv 4) pe_int (fun _ _ => rfl)) pa_nil)))) ?_
  rintro Dn σ H ⟨p, w3, q⟩
  obtain ⟨a, b, e4, ea⟩ := w3.toW1.pair
  have p1 := w3.tm.p1
  refine ⟨_, w3.s1, _, e4, a, _, 0, .int p.pl, rfl, rfl, SqT.of ea, atI_nat (j := 0) rfl, p.D, p.B, p.C, p.cells, p.pl, rfl, w3.dk, by omega, w3.tm.p80, fun u ns H1 hn hs hu dk1 f1 => ?_⟩
  have w4 := (w3.go dk1 f1).set (i := 10) (v := some u) (by decide)
  exact q u ns _ H1 ⟨w4, w3.toW0.at_ (by decide), hu, hn, hs⟩
def tg1 : TS := fun Dn σ H => ∃ p fi ns, W4 p fi ns σ H ∧ ∀ bh σ' H', W5 p fi ns bh σ' H' → Dn.nx σ' H'
theorem g1 (T : Env33 P w K mg base) (hr : Room 7 (LX P w K mg base f cdv Ar out s0 H0 E).A) (hg : (LX P w K mg base f cdv Ar out s0 H0 E).A.guards = some []) : PS (LX P w K mg base f cdv Ar out s0 H0 E) (stG 1) tg1 := by
  obtain ⟨fM, fdM, GM⟩ := T.lmov
  have hu := hr.units
  refine ps_imp (ps_par (i := 11) (j := 12) rfl scLaw.nd rfl rfl (by decide) rfl rfl (pa_cons (pe_call GM.F (hr.mono (by decide)) (by rfl) GM.g GM.kp GM.b .nil pass0 (pa_cons (pv 4) (pa_cons (pv 10) pa_nil))) (pa_cons (pe_callB (call_reprD hg hu) (by rfl) T.bn.rep boot_repr' (pa_cons (pv 10) pa_nil)) pa_nil)) rfl) ?_
  rintro Dn σ H ⟨p, fi, ns, w4, q⟩
  have ff := w4.fine
  refine ⟨_, w4.s4, _, w4.s10, p.D, p.B, p.v, fi, p.pl, p.ms, ns, rfl, w4.qt _ _, w4.tm, w4.qf _ _, w4.hn, w4.fits, fun u H1 s1 hu1 => ?_⟩
  have w5 := w4.same s1
  refine ⟨_, w5.s10, p.D, p.B, fi, _, rfl, w5.qf _ _, ff.sh, ff.zl, ff.dl, _, _, rfl, ?_⟩
  have l14 := w5.len
  refine q u _ H1 ⟨(w5.set (i := 11) (v := some u) (by decide)).set (i := 12) (by decide), ?_, hu1, get_set_eq (by rw [List.length_set, l14]; decide)⟩
  rw [get_set_ne (by decide)]
  exact w5.toW0.at_ (by decide)
def tg2 : TS := fun Dn σ H => ∃ p fi ns bh, W5 p fi ns bh σ H ∧ ∀ σ' H', W5 p fi ns bh σ' H' → Dn.nx σ' H'
set_option maxHeartbeats 2000000 in
theorem g2 (T : Env33 P w K mg base) (hr : Room 7 (LX P w K mg base f cdv Ar out s0 H0 E).A) (hg : (LX P w K mg base f cdv Ar out s0 H0 E).A.guards = some []) : PS (LX P w K mg base f cdv Ar out s0 H0 E) (stG 2) tg2 := by
  obtain ⟨fV, fdV, GV, kV⟩ := T.mov
  obtain ⟨fN, fdN, GN⟩ := T.nums
  have hu := hr.units
  refine ps_imp (ps_for PassesOwn.never rfl (pi_list (pe_lst (pa_cons (pe_call GV.F (hr.mono (by decide)) (by rfl) GV.g GV.kp GV.b .nil pass0 (pa_cons (pv 4) (pa_cons (pv 10) pa_nil))) (pa_cons (pe_callKO GV.F (hr.mono (by decide)) (by rfl) GV.g GV.kp kV pass0 (pk_cons (pv 10) (pk_cons (pv 4) pk_nil))) pa_nil)))) (pg_name (i := 13) scLaw.nd rfl (.inl rfl))
    (pss_one (ps_if (PW.pt (pw_or (pt_not (pt_val (pe_call GN.F (hr.mono (by decide)) (by rfl) GN.g GN.kp GN.b .nil pass0 (pa_cons (pv 13) (pa_cons (pe_ix ix_tup (pv 4) pe_int (fun _ _ => rfl)) pa_nil)))))
      (pw_or (pt_cmpR (op_neD hu) (pv 13) (pv 11) (nomark _)) (pw_or1 (pt_cmpR op_ne (pe_callB (call_reprD hg hu) (by rfl) T.bn.rep boot_repr' (pa_cons (pv 10) pa_nil)) (pv 12) (nomark _)))))) (pss_one (ps_ret pe_bl)) pss_nil))) ?_
  rintro Dn σ H ⟨p, fi, ns, bh, w5, q⟩
  refine ⟨_, w5.s4, _, w5.s10, p.D, p.B, p.v, fi, p.pl, p.ms, ns, rfl, w5.qt _ _, w5.tm, w5.qf _ _, w5.hn, w5.fits, fun u1 H1 s1 hu1 => ?_⟩
  have w6 := w5.same s1
  refine ⟨_, w6.s10, _, w6.s4, p.D, p.B, p.v, fi, p.pl, p.ms, ns, rfl, w6.qt _ _, w6.tm, w6.qf _ _, w6.hn, w6.fits, fun u2 H2 s2 hu2 => ⟨sz1 rfl, fun L nL => ?_⟩⟩
  have w7 := w6.same s2
  have sL := same_upd (o := .lst [u1, u2]) nL
  have w8 := w7.same sL
  have hall : ∀ x ∈ [u1, u2], ∀ Z Y, Dq Z Y (upd H2 L (.lst [u1, u2])) x (intsD (runAll ns p.ms)) := fun x hx Z Y => by
    rcases List.mem_cons.mp hx with rfl | hx
    · exact ((hu1 Z Y).same s2).same sL
    · rw [List.mem_singleton.mp hx]
      exact (hu2 Z Y).same sL
  refine ⟨L, rfl, ⟨_, SqL.of upd_same⟩, for_list (K := K) (a := L) (xs := [u1, u2]) (fun i σ3 H8 => W5 p fi ns bh σ3 H8 ∧ H8 L = some (.lst [u1, u2]) ∧ ∀ x ∈ [u1, u2], ∀ Z Y, Dq Z Y H8 x (intsD (runAll ns p.ms))) ⟨w8, upd_same, hall⟩ (fun i σ3 H8 _ h => SqL.of h.2.1) ?_ ?_⟩
  · rintro i x σ3 H8 hi ⟨w9, e8, a8⟩
    have qx := a8 x (List.mem_of_getElem? hi)
    have wA := w9.set (i := 13) (v := some x) (by decide)
    have g13 : (σ3.set 13 (some x))[13]? = some (some x) := w9.toW0.at_ (by decide)
    obtain ⟨a, b, e4, ea⟩ := wA.toW1.pair
    refine ⟨_, g13, _, e4, a, _, 0, .int p.pl, rfl, rfl, SqT.of ea, atI_nat (j := 0) rfl, p.D, p.B, x, runAll ns p.ms, p.pl, rfl, qx _ _, by rw [runAll_len]; exact wA.hn, fun H9 s9 => ⟨_, rfl, iteF ?_⟩⟩
    have wB := wA.same s9
    refine ⟨_, g13, _, wB.s11, _, _, ints_dp ((qx p.D p.B).same s9), ints_dp (wB.qb p.D p.B), ints_shaped _, ints_shaped _, _, rfl, ?_⟩
    rw [ints_eqv]
    have ff := wB.fine
    refine iteF ⟨_, wB.s10, p.D, p.B, fi, _, rfl, wB.qf _ _, ff.sh, ff.zl, ff.dl, _, wB.s12, rfl, _, rfl, iteNS rfl ?_⟩
    exact ⟨wB, s9 _ _ e8, fun y hy Z Y => (a8 y hy Z Y).same s9⟩
  · rintro σ3 H8 ⟨w9, _, _⟩
    exact q σ3 H8 w9
def tg3 : TS := fun Dn σ H => ∃ p fi ns bh, W5 p fi ns bh σ H ∧ ∀ H', W3 p σ H' → Dn.nx σ H'
set_option maxHeartbeats 2000000 in
theorem g3 (T : Env33 P w K mg base) {C fT : Addr} {fdT : FuncData} (GT : TakC P w K mg base C fT fdT) (hr : Room 7 (LX P w K mg base f cdv Ar out s0 H0 E).A) (hg : (LX P w K mg base f cdv Ar out s0 H0 E).A.guards = some []) : PS (LX P w K mg base f cdv Ar out s0 H0 E) (stG 3) tg3 := by
  obtain ⟨fV, fdV, GV, kV⟩ := T.mov
  have hu := hr.units
  refine ps_imp (ps_if (PW.pt (pw_and (pt_cmpR op_notN (pv 5) pe_non (nomark _))
      (pw_and1 (pt_cmpR op_ne (pe_callB (call_reprD hg hu) (by rfl) T.bn.rep boot_repr' (pa_cons (pe_call GV.F (hr.mono (by decide)) (by rfl) GV.g GV.kp GV.b .nil pass0 (pa_cons (pe_callKO GT.F (hr.mono (by decide)) (by rfl) GT.g GT.kp GT.k passL (pk_cons (pv 4) pk_nil)) (pa_cons (pv 11) pa_nil))) pa_nil)) (pv 12) (nomark _))))) (pss_one (ps_ret pe_bl)) pss_nil) ?_
  rintro Dn σ H ⟨p, fi, ns, bh, w5, q⟩
  have hno : decide (p.u = V.non) = isNo (dueD p.pl p.ms) := dq_isN (w5.qd p.D p.B)
  rw [isNo_due] at hno
  refine ⟨_, w5.s5, rfl, _, rfl, ?_⟩
  rw [hno]
  cases hc : dgo (onez p.pl) (backOf p.ms) with
  | false => exact iteF (q H w5.toW3)
  | true =>
    refine iteT ⟨_, w5.s4, p.D, p.B, p.v, p.pl, p.ms, rfl, w5.qt _ _, w5.tm, fun _ u1 H1 s1 hu1 => ?_, fun z => ?_⟩
    · have w6 := w5.same s1
      refine ⟨_, w6.s11, p.D, p.B, u1, bh, p.pl, backOf p.ms, runAll ns p.ms, rfl, hu1 _ _, w6.tm.back, w6.qb _ _, by rw [runAll_len]; exact w6.hn, fits_back w6.tm.ok w6.hn w6.fits, fun u2 H2 s2 hu2 => ?_⟩
      have w7 := w6.same s2
      have ff := w7.fine
      have e2 := hu2 p.D p.B
      rw [unrun p.ms ns w7.hn w7.tm.ok] at e2
      exact ⟨p.D, p.B, u2, _, rfl, e2, ff.sh, ff.zl, ff.dl, _, w7.s12, rfl, _, rfl, iteNS rfl (q H2 w7.toW3)⟩
    · rw [hc] at z
      cases z
set_option maxHeartbeats 2000000 in
theorem b9 (T : Env33 P w K mg base) (hr : Room 7 (LX P w K mg base f cdv Ar out s0 H0 E).A) (hg : (LX P w K mg base f cdv Ar out s0 H0 E).A.guards = some []) : PS (LX P w K mg base f cdv Ar out s0 H0 E) (stL 9) t6 := by
  obtain ⟨fT, fdT, GT⟩ := T.told
  have hu := hr.units
  refine ps_imp (ps_if (PW.pt (pw_or (PW.pt (pw_and (pt_cmpR op_notN (pv 5) pe_non (nomark _)) (pw_and1 (pt_cmpR op_ne (pe_callB (call_reprD hg hu) (by rfl) T.bn.rep boot_repr' (pa_cons (pe_call GT.F (hr.mono (by decide)) (by rfl) GT.g GT.kp GT.b .nil pass0 (pa_cons (pv 5) pa_nil)) pa_nil))
        (pe_callB (call_reprD hg hu) (by rfl) T.bn.rep boot_repr' (pa_cons (pv 4) pa_nil)) (nomark _)))))
      (pw_or1 (pt_cmpR op_ne (pe_callB (call_reprD hg hu) (by rfl) T.bn.rep boot_repr' (pa_cons (pv 4) pa_nil)) (pv 8) (nomark _))))) (pss_one (ps_ret pe_bl)) pss_nil) ?_
  rintro Dn σ H ⟨p, w3, q⟩
  have hno : decide (p.u = V.non) = isNo (dueD p.pl p.ms) := dq_isN (w3.qd p.D p.B)
  rw [isNo_due] at hno
  have ft := tap_fine w3.tm
  refine ⟨_, w3.s5, rfl, _, rfl, ?_⟩
  rw [hno]
  cases hc : dgo (onez p.pl) (backOf p.ms) with
  | false => exact iteF ⟨_, w3.s4, p.D, p.B, p.v, _, rfl, w3.qt _ _, ft.sh, ft.zl, ft.dl, _, w3.s8, rfl, _, rfl, iteNS rfl (q H w3)⟩
  | true =>
    have hd := w3.qd p.D p.B
    rw [(told_due hc).2] at hd
    have eb : toldD p.pl (backOf p.ms) = tapD p.pl p.ms := by
      unfold toldD
      rw [backOf_backOf, if_pos w3.go_]
    refine iteT ⟨_, w3.s5, p.D, p.B, p.u, p.pl, backOf p.ms, rfl, hd, w3.tm.back, fun u1 H1 s1 hu1 => ?_⟩
    have w4 := w3.same s1
    rw [eb] at hu1
    refine ⟨p.D, p.B, u1, _, rfl, hu1 _ _, ft.sh, ft.zl, ft.dl, _, w4.s4, p.D, p.B, p.v, _, rfl, w4.qt _ _, ft.sh, ft.zl, ft.dl, rfl, _, rfl, ?_⟩
    refine iteNS rfl ⟨_, w4.s4, p.D, p.B, p.v, _, rfl, w4.qt _ _, ft.sh, ft.zl, ft.dl, _, w4.s8, rfl, _, rfl, iteNS rfl (q H1 w4)⟩
end
end Jg
namespace Jg
open PySem PySem.Spec PyProof.Rows L2
/-! ### the law -/
def spLaw (K : PySem.W.Frag) : Sp := fun vs H Q _ => ∃ (a : Addr) (ns : List Int), vs = [.ref a] ∧ SqL K H a (ns.map V.int) ∧ ns.length ≤ 63 ∧ ∀ H', Q (.bl true) H'
section
variable {P : Program} {w : World} {K : PySem.W.Frag} {mg : Str → Option Value} {base : Heap}
section
variable {f : Addr} {cdv : Value} {Ar : Around} {out : List Env} {s0 : Shared} {H0 : Hp} {E : XK}
def t8 : TS := fun Dn σ H => ∃ p, W3 p σ H ∧ ∀ σ' H', W3 p σ' H' → Dn.nx σ' H'
theorem b8 (T : Env33 P w K mg base) {C fT : Addr} {fdT : FuncData} (GT : TakC P w K mg base C fT fdT) (hr : Room 7 (LX P w K mg base f cdv Ar out s0 H0 E).A) (hg : (LX P w K mg base f cdv Ar out s0 H0 E).A.guards = some []) : PS (LX P w K mg base f cdv Ar out s0 H0 E) (stL 8) t8 := by
  have hB : PSs (LX P w K mg base f cdv Ar out s0 H0 E) [stG 0, stG 1, stG 2, stG 3] _ := pss_cons (g0 T hr) (pss_cons (g1 T hr hg) (pss_cons (g2 T hr hg) (pss_one (g3 T GT hr hg))))
  refine ps_imp (ps_for PassesOwn.never rfl (pi_range1 rfl T.bn.rng (pa_cons pe_int pa_nil)) (pg_name (i := 9) scLaw.nd rfl (.inl rfl)) hB) ?_
  rintro Dn σ H ⟨p, w3, q⟩
  refine ⟨4, rfl, by decide, by decide, for_range (n := 4) (fun i σ3 H3 => W3 p σ3 H3) w3 ?_ ?_⟩
  · rintro i σ3 H3 hi w4
    exact ⟨p, w4.set (by decide), fun fi ns σ4 H4 w5 => ⟨p, fi, ns, w5, fun bh σ5 H5 w6 => ⟨p, fi, ns, bh, w6, fun σ6 H6 w7 => ⟨p, fi, ns, bh, w7, fun H7 w8 => w8⟩⟩⟩⟩
  · rintro σ3 H3 w4
    exact q σ3 H3 w4
end
theorem run_law {f C fT : Addr} {fd fdT : FuncData} (F : Fun K "law" "law" sLaw f fd) (T : Env33 P w K mg base) (GT : TakC P w K mg base C fT fdT) : RunG P w K mg base 8 f fd ["_law_script"] (spLaw K) := by
  refine runG_of F scLaw (fun vs H Q E h => ?_) (fun cdv Ar out s0 H vs Q E hg hr h => ?_)
  · obtain ⟨a, ns, rfl, _⟩ := h
    rfl
  · obtain ⟨a, ns, rfl, hS, hn, q⟩ := h
    obtain ⟨fK, fdK, GK⟩ := T.deck
    obtain ⟨tA, hA, kA⟩ := b0 (P := P) (w := w) (K := K) (mg := mg) (base := base) (f := f) (cdv := cdv) (Ar := Ar) (out := out) (s0 := s0) (H0 := H) (E := E) T hr
      (pss_cons (b2 T hr) (pss_cons (b3 T hr) (pss_cons (b4 T hr) (pss_cons (b5 T hr hg) (pss_cons (b6 T hr hg) (pss_cons (b7 T hr hg) (pss_cons (b8 T GT hr hg) (pss_one (b9 T hr hg)))))))))
    refine ⟨_, pss_cons (ps_set (i := 1) scLaw.nd rfl (.inl rfl) (pe_call GK.F (hr.mono (by decide)) (by rfl) GK.g GK.kp GK.b .nil pass0 (pa_cons (pv 0) pa_nil)))
      (pss_cons (ps_for PassesOwn.never rfl (pi_range1 rfl T.bn.rng (pa_cons pe_int pa_nil)) (pg_name (i := 2) scLaw.nd rfl (.inl rfl)) hA)
      (pss_one (ps_ret pe_bl))), ?_⟩
    refine ⟨_, rfl, a, ns, rfl, hS, hn, fun H1 D B C cells s1 _ _ _ dk => ?_⟩
    refine ⟨8, rfl, by decide, by decide, for_range (n := 8) (fun i σ H3 => ∃ (D B C : Addr) (cells : List Int), σ.length = 14 ∧ σ[1]? = some (some (.ref D)) ∧ DeckAt D B C cells H3) ⟨D, B, C, cells, rfl, rfl, dk⟩ ?_ ?_⟩
    · rintro i σ H3 hi ⟨D, B, C, cells, l14, h1, dk3⟩
      have w0 : W0 ⟨D, B, C, cells, (0 : Int) + (i : Nat), 1, [], .non, .non⟩ (σ.set 2 (some (.int ((0 : Int) + (i : Nat))))) H3 := ⟨by rw [List.length_set]; exact l14, by rw [get_set_ne (by decide)]; exact h1, get_set_eq (by rw [l14]; decide), dk3⟩
      exact kA _ _ _ ⟨_, w0, fun p1 σ1 G1 _ w1 => ⟨p1, w1, fun p2 σ2 G2 _ w2 => ⟨p2, w2, fun p3 σ3 G3 _ w3 => ⟨p3, w3, fun p4 σ4 G4 _ w4 => ⟨p4, w4, fun p5 σ5 G5 _ w5 => ⟨p5, w5, fun G6 w6 => ⟨p5, w6, fun G7 w7 => ⟨p5, w7, fun σ8 G8 w8 => ⟨p5, w8, fun G9 w9 => ⟨p5.D, p5.B, p5.C, p5.cells, w9.len, w9.s1, w9.dk⟩⟩⟩⟩⟩⟩⟩⟩⟩⟩
    · rintro σ H3 _
      exact q H3
end
end Jg
namespace Jg
open PySem PySem.Spec PyProof.Rows L2
/-! ### keywords -/
theorem kb_one {K : PySem.W.Frag} {fd : FuncData} {x : Str} (h : ∀ v, bindArgs fd ⟨[], [(x, v)]⟩ = pure [(x, v)]) : KBinds K fd [x] [x] kwOne kwOneV where
  to := fun s us ws _ hl => match us, ws, hl with
    | [], [v], _ => .of_eq (h v)
    | [], [], z => absurd z Nat.zero_ne_one
    | [], _ :: _ :: _, z => absurd z (Nat.zero_ne_one)
    | _ :: _, _, z => absurd z (Nat.zero_ne_one)
  rel := fun r1 r2 => by
    cases r1 with
    | nil =>
      cases r2 with
      | nil => exact .nil
      | cons a r =>
        cases r with
        | nil => exact .cons a .nil
        | cons b r => exact .nil
    | cons a r => exact .nil
theorem kb_sw {K : PySem.W.Frag} {fd : FuncData} {x y : Str} (h : ∀ a b, bindArgs fd ⟨[], [(y, a), (x, b)]⟩ = pure [(x, b), (y, a)]) : KBinds K fd [x, y] [y, x] kwSw kwSwV where
  to := fun s us ws _ hl => match us, ws, hl with
    | [], [a, b], _ => .of_eq (h a b)
    | [], [], z => absurd z (show ¬ (0 = 2) by decide)
    | [], [_], z => absurd z (show ¬ (0 = 2) by decide)
    | [], _ :: _ :: _ :: _, z => absurd z (show ¬ (0 = 2) by decide)
    | _ :: _, _, z => absurd z (show ¬ (0 = 2) by decide)
  rel := fun r1 r2 => by
    cases r1 with
    | nil =>
      cases r2 with
      | nil => exact .nil
      | cons a r =>
        cases r with
        | nil => exact .nil
        | cons b r =>
          cases r with
          | nil => exact .cons b (.cons a .nil)
          | cons c r => exact .nil
    | cons a r => exact .nil
/-! ### the words with a number -/
def stOf : Value → Option Str
  | .str x _ => some x
  | _ => none
theorem vals_st : ∀ {us : List Value} {xs : List Str}, us.map stOf = xs.map some → Vals (xs.map V.str) us
  | [], [], _ => .nil
  | [], _ :: _, h => by cases h
  | _ :: _, [], h => by cases h
  | u :: us, x :: xs, h => by
    obtain ⟨h1, h2⟩ := List.cons.inj h
    refine .cons ?_ (vals_st h2)
    cases u with
    | str y t =>
      cases h1
      exact ⟨t, rfl⟩
    | _ => cases h1
def withN : List Str := [Str.ofString "gain", Str.ofString "add", Str.ofString "more"]
theorem with_of {K : PySem.W.Frag} {mg : Str → Option Value} {d : Addr} {od : Option Addr} {sl : Array (Option Value)} {its : Array Value} {n : Nat} (g : mg "WITH_NUMBER" = some (.ref d)) (l : K.lookup d = some ⟨.type "tuple", od, .seq its n, sl⟩) (e : its.toList.map stOf = withN.map some) : Wn K mg d where
  g := g
  t := fun H => by
    have v := vals_st e
    have hl : its.size = 3 := by
      have h1 := v.length
      rw [List.length_map] at h1
      exact h1.symm
    exact .inr ⟨_, its, n, l, rfl, rfl, by rw [hl]; exact Nat.le_of_lt (small1000 (by decide)), v⟩
/-! ### isinstance of the error -/
theorem kit_ref {K : PySem.W.Frag} {C R : Addr} (d : PySem.W.hasDictIn K R = true) (t : PySem.W.typeIn K (.ref R) = some (.type "type")) (u : PySem.W.subIn K (.ref C) (.ref R) = some true) : PySem.W.kitOne K (.ref C) (.ref R) = some true := by
  obtain ⟨cd, hc, _⟩ := PySem.W.any_some d
  have e2 : ((PySem.W.clsIn K R).isSome && PySem.W.typeIn K (.ref R) == some (.type "type")) = true := by rw [hc, t] <;> rfl
  unfold PySem.W.kitOne
  split
  · rfl
  · show (if ((PySem.W.clsIn K R).isSome && PySem.W.typeIn K (.ref R) == some (.type "type")) = true then PySem.W.subIn K (.ref C) (.ref R) else none) = some true
    rw [if_pos e2]
    exact u
theorem kit_val {K : PySem.W.Frag} {C : Addr} (u : PySem.W.subIn K (.ref C) (.type "ValueError") = some true) : PySem.W.kitOne K (.ref C) (.type "ValueError") = some true := by
  have e : PySem.W.kitMeta "ValueError" = true := by decide +kernel
  unfold PySem.W.kitOne
  split
  · rfl
  · show (if PySem.W.kitMeta "ValueError" = true then PySem.W.subIn K (.ref C) (.type "ValueError") else none) = some true
    rw [if_pos e]
    exact u
/-! ### what the top has written -/
theorem all_mk {l : PySem.W.OpenLaw} {w : World} {K : PySem.W.Frag} {h : Heap} {mg : Str → Option Value} {fa f6 f7 f8 f9 f10 f11 f13 f14 f15 f16 f17 f18 f19 f20 f21 f22 f23 f24 f25 f26 f27 f28 f29 f30 fC fR dW : Addr} {tk_MAX_SIZE : Tok} {nW : Nat} {itsW : Array Value} {odW : Option Addr} {slW : Array (Option Value)} (X : K.In h) (G : h.Ns mainGlobals mg) (hfa : mg "law" = some (.ref fa))
    {od6 an6 od7 an7 od8 an8 od9 an9 od10 an10 od11 an11 od13 an13 od14 an14 od15 an15 od16 an16 od17 an17 od18 an18 od19 an19 od20 an20 od21 an21 od22 an22 od23 an23 od24 an24 od25 an25 od26 an26 od27 an27 od28 an28 od29 an29 od30 an30 : Option Addr} {sl6 sl7 sl8 sl9 sl10 sl11 sl13 sl14 sl15 sl16 sl17 sl18 sl19 sl20 sl21 sl22 sl23 sl24 sl25 sl26 sl27 sl28 sl29 sl30 : Array (Option Value)} {oc6 kV6 dc6 pm6 cd6 ct6 oc7 kV7 dc7 pm7 cd7 ct7 oc8 kV8 dc8 pm8 cd8 ct8 oc9 kV9 dc9 pm9 cd9 ct9 oc10 kV10 dc10 pm10 cd10 ct10 oc11 kV11 dc11 pm11 cd11 ct11 oc13 kV13 dc13 pm13 cd13 ct13 oc14 kV14 dc14 pm14 cd14 ct14 oc15 kV15 dc15 pm15 cd15 ct15 oc16 kV16 dc16 pm16 cd16 ct16 oc17 kV17 dc17 pm17 cd17 ct17 oc18 kV18 dc18 pm18 cd18 ct18 oc19 kV19 dc19 pm19 cd19 ct19 oc20 kV20 dc20 pm20 cd20 ct20 oc21 kV21 dc21 pm21 cd21 ct21 oc22 kV22 dc22 pm22 cd22 ct22 oc23 kV23 dc23 pm23 cd23 ct23 oc24 kV24 dc24 pm24 cd24 ct24 oc25 kV25 dc25 pm25 cd25 ct25 oc26 kV26 dc26 pm26 cd26 ct26 oc27 kV27 dc27 pm27 cd27 ct27 oc28 kV28 dc28 pm28 cd28 ct28 oc29 kV29 dc29 pm29 cd29 ct29 oc30 kV30 dc30 pm30 cd30 ct30 : Value}
    (a6 : PySem.W.nsIn K mainGlobals "_deepen" = some (some (.ref f6))) (l6 : K.lookup f6 = some ⟨oc6, od6, .func (PySem.W.fnOf "_deepen" "_deepen" (defArgs sDeepen) (defBody sDeepen) (defScope sDeepen) .none kV6 dc6 pm6 an6 cd6 ct6), sl6⟩) (c6 : PySem.W.codeIn K cd6 "_deepen" = true) (k6 : PySem.W.keepIn K (.ref f6) = true)
    (a7 : PySem.W.nsIn K mainGlobals "moved" = some (some (.ref f7))) (l7 : K.lookup f7 = some ⟨oc7, od7, .func (PySem.W.fnOf "moved" "moved" (defArgs sMoved) (defBody sMoved) (defScope sMoved) .none kV7 dc7 pm7 an7 cd7 ct7), sl7⟩) (c7 : PySem.W.codeIn K cd7 "moved" = true) (k7 : PySem.W.keepIn K (.ref f7) = true)
    (a8 : PySem.W.nsIn K mainGlobals "_gained" = some (some (.ref f8))) (l8 : K.lookup f8 = some ⟨oc8, od8, .func (PySem.W.fnOf "_gained" "_gained" (defArgs sGained) (defBody sGained) (defScope sGained) .none kV8 dc8 pm8 an8 cd8 ct8), sl8⟩) (c8 : PySem.W.codeIn K cd8 "_gained" = true) (k8 : PySem.W.keepIn K (.ref f8) = true)
    (a9 : PySem.W.nsIn K mainGlobals "taken_back" = some (some (.ref f9))) (l9 : K.lookup f9 = some ⟨oc9, od9, .func (PySem.W.fnOf "taken_back" "taken_back" (defArgs sTaken) (defBody sTaken) (defScope sTaken) .none kV9 dc9 pm9 an9 cd9 ct9), sl9⟩) (c9 : PySem.W.codeIn K cd9 "taken_back" = true) (k9 : PySem.W.keepIn K (.ref f9) = true)
    (a10 : PySem.W.nsIn K mainGlobals "_contrary" = some (some (.ref f10))) (l10 : K.lookup f10 = some ⟨oc10, od10, .func (PySem.W.fnOf "_contrary" "_contrary" (defArgs sContra) (defBody sContra) (defScope sContra) .none kV10 dc10 pm10 an10 cd10 ct10), sl10⟩) (c10 : PySem.W.codeIn K cd10 "_contrary" = true) (k10 : PySem.W.keepIn K (.ref f10) = true)
    (a11 : PySem.W.nsIn K mainGlobals "sign" = some (some (.ref f11))) (l11 : K.lookup f11 = some ⟨oc11, od11, .func (PySem.W.fnOf "sign" "sign" (defArgs sSign) (defBody sSign) (defScope sSign) .none kV11 dc11 pm11 an11 cd11 ct11), sl11⟩) (c11 : PySem.W.codeIn K cd11 "sign" = true) (k11 : PySem.W.keepIn K (.ref f11) = true)
    (a13 : PySem.W.nsIn K mainGlobals "_law_deck" = some (some (.ref f13))) (l13 : K.lookup f13 = some ⟨oc13, od13, .func (PySem.W.fnOf "_law_deck" "_law_deck" (defArgs sDeck) (defBody sDeck) (defScope sDeck) .none kV13 dc13 pm13 an13 cd13 ct13), sl13⟩) (c13 : PySem.W.codeIn K cd13 "_law_deck" = true) (k13 : PySem.W.keepIn K (.ref f13) = true)
    (a14 : PySem.W.nsIn K mainGlobals "_law_draw" = some (some (.ref f14))) (l14 : K.lookup f14 = some ⟨oc14, od14, .func (PySem.W.fnOf "_law_draw" "_law_draw" (defArgs sDraw) (defBody sDraw) (defScope sDraw) .none kV14 dc14 pm14 an14 cd14 ct14), sl14⟩) (c14 : PySem.W.codeIn K cd14 "_law_draw" = true) (k14 : PySem.W.keepIn K (.ref f14) = true)
    (a15 : PySem.W.nsIn K mainGlobals "_law_one" = some (some (.ref f15))) (l15 : K.lookup f15 = some ⟨oc15, od15, .func (PySem.W.fnOf "_law_one" "_law_one" (defArgs sOne) (defBody sOne) (defScope sOne) .none kV15 dc15 pm15 an15 cd15 ct15), sl15⟩) (c15 : PySem.W.codeIn K cd15 "_law_one" = true) (k15 : PySem.W.keepIn K (.ref f15) = true)
    (a16 : PySem.W.nsIn K mainGlobals "_law_mixed" = some (some (.ref f16))) (l16 : K.lookup f16 = some ⟨oc16, od16, .func (PySem.W.fnOf "_law_mixed" "_law_mixed" (defArgs sMix) (defBody sMix) (defScope sMix) .none kV16 dc16 pm16 an16 cd16 ct16), sl16⟩) (c16 : PySem.W.codeIn K cd16 "_law_mixed" = true) (k16 : PySem.W.keepIn K (.ref f16) = true)
    (a17 : PySem.W.nsIn K mainGlobals "_law_far" = some (some (.ref f17))) (l17 : K.lookup f17 = some ⟨oc17, od17, .func (PySem.W.fnOf "_law_far" "_law_far" (defArgs sFar) (defBody sFar) (defScope sFar) .none kV17 dc17 pm17 an17 cd17 ct17), sl17⟩) (c17 : PySem.W.codeIn K cd17 "_law_far" = true) (k17 : PySem.W.keepIn K (.ref f17) = true)
    (a18 : PySem.W.nsIn K mainGlobals "_law_number" = some (some (.ref f18))) (l18 : K.lookup f18 = some ⟨oc18, od18, .func (PySem.W.fnOf "_law_number" "_law_number" (defArgs sNum) (defBody sNum) (defScope sNum) .none kV18 dc18 pm18 an18 cd18 ct18), sl18⟩) (c18 : PySem.W.codeIn K cd18 "_law_number" = true) (k18 : PySem.W.keepIn K (.ref f18) = true)
    (a19 : PySem.W.nsIn K mainGlobals "_law_point" = some (some (.ref f19))) (l19 : K.lookup f19 = some ⟨oc19, od19, .func (PySem.W.fnOf "_law_point" "_law_point" (defArgs sPoint) (defBody sPoint) (defScope sPoint) .none kV19 dc19 pm19 an19 cd19 ct19), sl19⟩) (c19 : PySem.W.codeIn K cd19 "_law_point" = true) (k19 : PySem.W.keepIn K (.ref f19) = true)
    (a20 : PySem.W.nsIn K mainGlobals "_law_factor" = some (some (.ref f20))) (l20 : K.lookup f20 = some ⟨oc20, od20, .func (PySem.W.fnOf "_law_factor" "_law_factor" (defArgs sFac) (defBody sFac) (defScope sFac) .none kV20 dc20 pm20 an20 cd20 ct20), sl20⟩) (c20 : PySem.W.codeIn K cd20 "_law_factor" = true) (k20 : PySem.W.keepIn K (.ref f20) = true)
    (a21 : PySem.W.nsIn K mainGlobals "_law_move" = some (some (.ref f21))) (l21 : K.lookup f21 = some ⟨oc21, od21, .func (PySem.W.fnOf "_law_move" "_law_move" (defArgs sMove) (defBody sMove) (defScope sMove) .none kV21 dc21 pm21 an21 cd21 ct21), sl21⟩) (c21 : PySem.W.codeIn K cd21 "_law_move" = true) (k21 : PySem.W.keepIn K (.ref f21) = true)
    (a22 : PySem.W.nsIn K mainGlobals "_law_degrees" = some (some (.ref f22))) (l22 : K.lookup f22 = some ⟨oc22, od22, .func (PySem.W.fnOf "_law_degrees" "_law_degrees" (defArgs sDegs) (defBody sDegs) (defScope sDegs) .none kV22 dc22 pm22 an22 cd22 ct22), sl22⟩) (c22 : PySem.W.codeIn K cd22 "_law_degrees" = true) (k22 : PySem.W.keepIn K (.ref f22) = true)
    (a23 : PySem.W.nsIn K mainGlobals "_law_tape" = some (some (.ref f23))) (l23 : K.lookup f23 = some ⟨oc23, od23, .func (PySem.W.fnOf "_law_tape" "_law_tape" (defArgs sTape) (defBody sTape) (defScope sTape) .none kV23 dc23 pm23 an23 cd23 ct23), sl23⟩) (c23 : PySem.W.codeIn K cd23 "_law_tape" = true) (k23 : PySem.W.keepIn K (.ref f23) = true)
    (a24 : PySem.W.nsIn K mainGlobals "_law_moved" = some (some (.ref f24))) (l24 : K.lookup f24 = some ⟨oc24, od24, .func (PySem.W.fnOf "_law_moved" "_law_moved" (defArgs sLMov) (defBody sLMov) (defScope sLMov) .none kV24 dc24 pm24 an24 cd24 ct24), sl24⟩) (c24 : PySem.W.codeIn K cd24 "_law_moved" = true) (k24 : PySem.W.keepIn K (.ref f24) = true)
    (a25 : PySem.W.nsIn K mainGlobals "_law_back" = some (some (.ref f25))) (l25 : K.lookup f25 = some ⟨oc25, od25, .func (PySem.W.fnOf "_law_back" "_law_back" (defArgs sLBack) (defBody sLBack) (defScope sLBack) .none kV25 dc25 pm25 an25 cd25 ct25), sl25⟩) (c25 : PySem.W.codeIn K cd25 "_law_back" = true) (k25 : PySem.W.keepIn K (.ref f25) = true)
    (a26 : PySem.W.nsIn K mainGlobals "_law_filling" = some (some (.ref f26))) (l26 : K.lookup f26 = some ⟨oc26, od26, .func (PySem.W.fnOf "_law_filling" "_law_filling" (defArgs sFill) (defBody sFill) (defScope sFill) .none kV26 dc26 pm26 an26 cd26 ct26), sl26⟩) (c26 : PySem.W.codeIn K cd26 "_law_filling" = true) (k26 : PySem.W.keepIn K (.ref f26) = true)
    (a27 : PySem.W.nsIn K mainGlobals "_law_are_numbers" = some (some (.ref f27))) (l27 : K.lookup f27 = some ⟨oc27, od27, .func (PySem.W.fnOf "_law_are_numbers" "_law_are_numbers" (defArgs sNums) (defBody sNums) (defScope sNums) .none kV27 dc27 pm27 an27 cd27 ct27), sl27⟩) (c27 : PySem.W.codeIn K cd27 "_law_are_numbers" = true) (k27 : PySem.W.keepIn K (.ref f27) = true)
    (a28 : PySem.W.nsIn K mainGlobals "_law_back_told" = some (some (.ref f28))) (l28 : K.lookup f28 = some ⟨oc28, od28, .func (PySem.W.fnOf "_law_back_told" "_law_back_told" (defArgs sTold) (defBody sTold) (defScope sTold) .none kV28 dc28 pm28 an28 cd28 ct28), sl28⟩) (c28 : PySem.W.codeIn K cd28 "_law_back_told" = true) (k28 : PySem.W.keepIn K (.ref f28) = true)
    (a29 : PySem.W.nsIn K mainGlobals "_law_steep" = some (some (.ref f29))) (l29 : K.lookup f29 = some ⟨oc29, od29, .func (PySem.W.fnOf "_law_steep" "_law_steep" (defArgs sSteep) (defBody sSteep) (defScope sSteep) .none kV29 dc29 pm29 an29 cd29 ct29), sl29⟩) (c29 : PySem.W.codeIn K cd29 "_law_steep" = true) (k29 : PySem.W.keepIn K (.ref f29) = true)
    (a30 : PySem.W.nsIn K mainGlobals "law" = some (some (.ref f30))) (l30 : K.lookup f30 = some ⟨oc30, od30, .func (PySem.W.fnOf "law" "law" (defArgs sLaw) (defBody sLaw) (defScope sLaw) .none kV30 dc30 pm30 an30 cd30 ct30), sl30⟩) (c30 : PySem.W.codeIn K cd30 "law" = true) (k30 : PySem.W.keepIn K (.ref f30) = true)
    (aC : PySem.W.nsIn K mainGlobals "TooLong" = some (some (.ref fC))) (kC : PySem.W.keepIn K (.ref fC) = true) (sC : PySem.W.subIn K (.ref fC) (.type "BaseException") = some true) (tC : PySem.W.typeIn K (.ref fC) = some (.type "type")) (xC : PySem.W.excIn K fC [.type "ValueError", .type "Exception", .type "BaseException", .type "object"] "ValueError.__new__" = true) (eC : PySem.W.exmOne K (.ref fC) (.ref fC) = some true)
    (aR : PySem.W.nsIn K mainGlobals "RowError" = some (some (.ref fR))) (oC : ExcC K fC) (dR : PySem.W.hasDictIn K fR = true) (tR : PySem.W.typeIn K (.ref fR) = some (.type "type")) (uR : PySem.W.subIn K (.ref fC) (.ref fR) = some true) (uV : PySem.W.subIn K (.ref fC) (.type "ValueError") = some true)
    (aW : PySem.W.nsIn K mainGlobals "WITH_NUMBER" = some (some (.ref dW))) (lW : K.lookup dW = some ⟨.type "tuple", odW, .seq itsW nW, slW⟩) (eW : itsW.toList.map stOf = withN.map some)
    (a_MAX_SIZE : PySem.W.nsIn K mainGlobals "MAX_SIZE" = some (some (.int 64 tk_MAX_SIZE)))
    (z_isinstance : PySem.W.nsIn K mainGlobals "isinstance" = some none) (z_int : PySem.W.nsIn K mainGlobals "int" = some none) (z_bool : PySem.W.nsIn K mainGlobals "bool" = some none) (z_tuple : PySem.W.nsIn K mainGlobals "tuple" = some none) (z_len : PySem.W.nsIn K mainGlobals "len" = some none) (z_all : PySem.W.nsIn K mainGlobals "all" = some none) (z_range : PySem.W.nsIn K mainGlobals "range" = some none) (z_list : PySem.W.nsIn K mainGlobals "list" = some none) (z_str : PySem.W.nsIn K mainGlobals "str" = some none) (z_min : PySem.W.nsIn K mainGlobals "min" = some none) (z_repr : PySem.W.nsIn K mainGlobals "repr" = some none) (z_abs : PySem.W.nsIn K mainGlobals "abs" = some none) (z_max : PySem.W.nsIn K mainGlobals "max" = some none) (z_sum : PySem.W.nsIn K mainGlobals "sum" = some none) (z_enumerate : PySem.W.nsIn K mainGlobals "enumerate" = some none) (z_ValueError : PySem.W.nsIn K mainGlobals "ValueError" = some none) :
    ∃ fd : FuncData, (∀ (s : Shared) (v : Value), BindsTo s fd ⟨[v], []⟩ [("_law_script", v)]) ∧ ∀ base : Heap, K.In base → base.Ns mainGlobals mg → RunG l.prog w K mg base 8 fa fd ["_law_script"] (spLaw K) := by
  have e := hfa.symm.trans (PySem.W.mg_of X G a30)
  cases e
  have T : Bn mg := ⟨PySem.W.mg_none_of X G z_isinstance, PySem.W.mg_none_of X G z_int, PySem.W.mg_none_of X G z_bool, PySem.W.mg_none_of X G z_tuple, PySem.W.mg_none_of X G z_len, PySem.W.mg_none_of X G z_all, PySem.W.mg_none_of X G z_range, PySem.W.mg_none_of X G z_list, PySem.W.mg_none_of X G z_str, PySem.W.mg_none_of X G z_min, PySem.W.mg_none_of X G z_repr, PySem.W.mg_none_of X G z_abs, PySem.W.mg_none_of X G z_max, PySem.W.mg_none_of X G z_sum, PySem.W.mg_none_of X G z_enumerate⟩
  have F6 := fun_mk (st := sDeepen) l6 c6 k6
  have b6 := F6.binds (ps := ["degrees", "move"]) fun _ _ _ _ _ _ us hl => match us, hl with | [_, _], _ => rfl
  have g6 := PySem.W.mg_of X G a6
  have F7 := fun_mk (st := sMoved) l7 c7 k7
  have b7 := F7.binds (ps := ["tape", "filling"]) fun _ _ _ _ _ _ us hl => match us, hl with | [_, _], _ => rfl
  have g7 := PySem.W.mg_of X G a7
  have F8 := fun_mk (st := sGained) l8 c8 k8
  have b8 := F8.binds (ps := ["held", "move"]) fun _ _ _ _ _ _ us hl => match us, hl with | [_, _], _ => rfl
  have g8 := PySem.W.mg_of X G a8
  have F9 := fun_mk (st := sTaken) l9 c9 k9
  have b9 := F9.binds (ps := ["tape"]) fun _ _ _ _ _ _ us hl => match us, hl with | [_], _ => rfl
  have g9 := PySem.W.mg_of X G a9
  have F10 := fun_mk (st := sContra) l10 c10 k10
  have b10 := F10.binds (ps := ["move"]) fun _ _ _ _ _ _ us hl => match us, hl with | [_], _ => rfl
  have g10 := PySem.W.mg_of X G a10
  have F11 := fun_mk (st := sSign) l11 c11 k11
  have b11 := F11.binds (ps := ["tape"]) fun _ _ _ _ _ _ us hl => match us, hl with | [_], _ => rfl
  have g11 := PySem.W.mg_of X G a11
  have F13 := fun_mk (st := sDeck) l13 c13 k13
  have b13 := F13.binds (ps := ["_law_script"]) fun _ _ _ _ _ _ us hl => match us, hl with | [_], _ => rfl
  have g13 := PySem.W.mg_of X G a13
  have F14 := fun_mk (st := sDraw) l14 c14 k14
  have b14 := F14.binds (ps := ["_law_deck_here", "_law_many"]) fun _ _ _ _ _ _ us hl => match us, hl with | [_, _], _ => rfl
  have g14 := PySem.W.mg_of X G a14
  have F15 := fun_mk (st := sOne) l15 c15 k15
  have b15 := F15.binds (ps := ["_law_deck_here", "_law_items"]) fun _ _ _ _ _ _ us hl => match us, hl with | [_, _], _ => rfl
  have g15 := PySem.W.mg_of X G a15
  have F16 := fun_mk (st := sMix) l16 c16 k16
  have b16 := F16.binds (ps := ["_law_deck_here", "_law_items"]) fun _ _ _ _ _ _ us hl => match us, hl with | [_, _], _ => rfl
  have g16 := PySem.W.mg_of X G a16
  have F17 := fun_mk (st := sFar) l17 c17 k17
  have b17 := F17.binds (ps := ["_law_deck_here", "_law_many"]) fun _ _ _ _ _ _ us hl => match us, hl with | [_, _], _ => rfl
  have g17 := PySem.W.mg_of X G a17
  have F18 := fun_mk (st := sNum) l18 c18 k18
  have b18 := F18.binds (ps := ["_law_deck_here"]) fun _ _ _ _ _ _ us hl => match us, hl with | [_], _ => rfl
  have g18 := PySem.W.mg_of X G a18
  have F19 := fun_mk (st := sPoint) l19 c19 k19
  have b19 := F19.binds (ps := ["_law_deck_here", "_law_inputs"]) fun _ _ _ _ _ _ us hl => match us, hl with | [_, _], _ => rfl
  have g19 := PySem.W.mg_of X G a19
  have F20 := fun_mk (st := sFac) l20 c20 k20
  have b20 := F20.binds (ps := ["_law_deck_here"]) fun _ _ _ _ _ _ us hl => match us, hl with | [_], _ => rfl
  have g20 := PySem.W.mg_of X G a20
  have F21 := fun_mk (st := sMove) l21 c21 k21
  have b21 := F21.binds (ps := ["_law_deck_here", "_law_places", "_law_words"]) fun _ _ _ _ _ _ us hl => match us, hl with | [_, _, _], _ => rfl
  have g21 := PySem.W.mg_of X G a21
  have F22 := fun_mk (st := sDegs) l22 c22 k22
  have b22 := F22.binds (ps := ["_law_degrees_here", "_law_move_here"]) fun _ _ _ _ _ _ us hl => match us, hl with | [_, _], _ => rfl
  have g22 := PySem.W.mg_of X G a22
  have F23 := fun_mk (st := sTape) l23 c23 k23
  have b23 := F23.binds (ps := ["_law_deck_here", "_law_places", "_law_many", "_law_most"]) fun _ _ _ _ _ _ us hl => match us, hl with | [_, _, _, _], _ => rfl
  have g23 := PySem.W.mg_of X G a23
  have F24 := fun_mk (st := sLMov) l24 c24 k24
  have b24 := F24.binds (ps := ["_law_tape_here", "_law_filling_here"]) fun _ _ _ _ _ _ us hl => match us, hl with | [_, _], _ => rfl
  have g24 := PySem.W.mg_of X G a24
  have F25 := fun_mk (st := sLBack) l25 c25 k25
  have b25 := F25.binds (ps := ["_law_tape_here"]) fun _ _ _ _ _ _ us hl => match us, hl with | [_], _ => rfl
  have g25 := PySem.W.mg_of X G a25
  have F26 := fun_mk (st := sFill) l26 c26 k26
  have b26 := F26.binds (ps := ["_law_deck_here", "_law_places"]) fun _ _ _ _ _ _ us hl => match us, hl with | [_, _], _ => rfl
  have g26 := PySem.W.mg_of X G a26
  have F27 := fun_mk (st := sNums) l27 c27 k27
  have b27 := F27.binds (ps := ["_law_value", "_law_many"]) fun _ _ _ _ _ _ us hl => match us, hl with | [_, _], _ => rfl
  have g27 := PySem.W.mg_of X G a27
  have F28 := fun_mk (st := sTold) l28 c28 k28
  have b28 := F28.binds (ps := ["_law_tape_here"]) fun _ _ _ _ _ _ us hl => match us, hl with | [_], _ => rfl
  have g28 := PySem.W.mg_of X G a28
  have F29 := fun_mk (st := sSteep) l29 c29 k29
  have b29 := F29.binds (ps := ["_law_deck_here"]) fun _ _ _ _ _ _ us hl => match us, hl with | [_], _ => rfl
  have g29 := PySem.W.mg_of X G a29
  have F30 := fun_mk (st := sLaw) l30 c30 k30
  have g_MAX_SIZE := PySem.W.mg_of X G a_MAX_SIZE
  have NW : Wn K mg dW := with_of (PySem.W.mg_of X G aW) lW eW
  have D_ : Dr K mg f14 _ := ⟨F14, b14, g14⟩
  have O_ : On K mg f15 _ := ⟨F15, b15, g15⟩
  have A_ : Fa K mg f17 _ := ⟨F17, b17, g17⟩
  have U_ : Nu K mg f18 _ := ⟨F18, b18, g18⟩
  have C_ : Uf K mg fC := ⟨PySem.W.mg_of X G aC, kC, sC, tC, xC⟩
  have E_ : Te K mg fC fR := ⟨C_, oC, PySem.W.mg_of X G aR, PySem.W.mg_none_of X G z_ValueError, kit_ref dR tR uR, kit_val uV, eC⟩
  refine ⟨PySem.W.fnOf "law" "law" (defArgs sLaw) (defBody sLaw) (defScope sLaw) .none kV30 dc30 pm30 an30 cd30 ct30, fun s v => .of_eq rfl, fun base _ _ => ?_⟩
  have GT := ok_taken (P := l.prog) (w := w) (base := base) ⟨F9, b9, g9⟩ ⟨F10, b10, g10⟩ ⟨F6, b6, g6⟩ NW C_ g_MAX_SIZE T
  have GX := ok_fac (P := l.prog) (w := w) (base := base) ⟨F20, b20, g20⟩ U_ A_ O_ D_ T
  have GV := ok_move (P := l.prog) (w := w) (base := base) ⟨F21, b21, g21⟩ ⟨F16, b16, g16⟩ ⟨F20, b20, g20⟩ U_ A_ O_ D_ T
  have GP := ok_point (P := l.prog) (w := w) (base := base) ⟨F19, b19, g19⟩ U_ A_ O_ D_ T
  exact run_law F30 {
    bn := T
    deck := ⟨f13, _, ⟨ok_deck F13 T.abs T.len, g13, k13, b13⟩⟩
    one := ⟨f15, _, ⟨ok_one F15 F14 b14 g14 T.int T.len, g15, k15, b15⟩⟩
    tape := ⟨f23, _, ⟨ok_tape ⟨F23, b23, g23⟩ GV b21 g21 k21 ⟨F22, b22, g22⟩ D_ T, g23, k23, b23⟩⟩
    steep := ⟨f29, _, ⟨ok_steep ⟨F29, b29, g29⟩ D_ T, g29, k29, b29⟩⟩
    lback := ⟨f25, _, ⟨ok_lBack ⟨F25, b25, g25⟩ ⟨F22, b22, g22⟩ T, g25, k25, b25⟩⟩
    told := ⟨f28, _, ⟨ok_told ⟨F28, b28, g28⟩ GT ⟨F9, b9, g9⟩ E_ T, g28, k28, b28⟩⟩
    sign := ⟨f11, _, ⟨ok_sign ⟨F11, b11, g11⟩ T, g11, k11, b11⟩, kb_one fun v => rfl⟩
    fill := ⟨f26, _, ⟨ok_fill ⟨F26, b26, g26⟩ GP ⟨F19, b19, g19⟩, g26, k26, b26⟩⟩
    lmov := ⟨f24, _, ⟨ok_lMov ⟨F24, b24, g24⟩ T, g24, k24, b24⟩⟩
    mov := ⟨f7, _, ⟨ok_moved ⟨F7, b7, g7⟩ ⟨F8, b8, g8⟩ T, g7, k7, b7⟩, kb_sw fun a b => rfl⟩
    nums := ⟨f27, _, ⟨ok_nums ⟨F27, b27, g27⟩ T, g27, k27, b27⟩⟩ } (⟨GT, g9, k9, b9, kb_one fun v => rfl⟩ : TakC l.prog w K mg base fC f9 _)
end Jg
open PySem PySem.W PyProof.Rows
set_option maxRecDepth 100000 in
set_option maxHeartbeats 0 in
theorem PySem.Challenge.cw_rowsback_k33_tapes_there_and_back_holds : PySem.Challenge.rw_rowsback_k33_tapes_there_and_back.Holds := by
  w_on; o_law; k_head; (case hw => w_witness2)
  k_fill
  refine Jg.walk_ofG (l := PySem.Challenge.rw_rowsback_k33_tapes_there_and_back) (n := 63) (k := 8) (x := "_law_script") (sp := fun w => Jg.spLaw _) rfl (by decide) rfl ⟨rfl, by decide, by decide⟩ (fun w h Y => PySem.W.kIn_of Y) ?F (fun _ _ a ns hl _ hS => ⟨a, ns, rfl, hS, hl, fun _ => rfl⟩)
  case F =>
    intro w mg fa h KX G hmg
    refine' Jg.all_mk KX G hmg ?a6 ?l6 ?c6 ?k6 ?a7 ?l7 ?c7 ?k7 ?a8 ?l8 ?c8 ?k8 ?a9 ?l9 ?c9 ?k9 ?a10 ?l10 ?c10 ?k10 ?a11 ?l11 ?c11 ?k11 ?a13 ?l13 ?c13 ?k13 ?a14 ?l14 ?c14 ?k14 ?a15 ?l15 ?c15 ?k15 ?a16 ?l16 ?c16 ?k16 ?a17 ?l17 ?c17 ?k17 ?a18 ?l18 ?c18 ?k18 ?a19 ?l19 ?c19 ?k19 ?a20 ?l20 ?c20 ?k20 ?a21 ?l21 ?c21 ?k21 ?a22 ?l22 ?c22 ?k22 ?a23 ?l23 ?c23 ?k23 ?a24 ?l24 ?c24 ?k24 ?a25 ?l25 ?c25 ?k25 ?a26 ?l26 ?c26 ?k26 ?a27 ?l27 ?c27 ?k27 ?a28 ?l28 ?c28 ?k28 ?a29 ?l29 ?c29 ?k29 ?a30 ?l30 ?c30 ?k30 ?aC ?kC ?sC ?tC ?xC ?eC ?aR ?oC ?dR ?tR ?uR ?uV ?aW ?lW ?eW ?a_MAX_SIZE ?z_isinstance ?z_int ?z_bool ?z_tuple ?z_len ?z_all ?z_range ?z_list ?z_str ?z_min ?z_repr ?z_abs ?z_max ?z_sum ?z_enumerate ?z_ValueError
    (case a6 => k_is); (case l6 => k_is); (case c6 => k_is); (case k6 => k_is)
    (case a7 => k_is); (case l7 => k_is); (case c7 => k_is); (case k7 => k_is)
    (case a8 => k_is); (case l8 => k_is); (case c8 => k_is); (case k8 => k_is)
    (case a9 => k_is); (case l9 => k_is); (case c9 => k_is); (case k9 => k_is)
    (case a10 => k_is); (case l10 => k_is); (case c10 => k_is); (case k10 => k_is)
    (case a11 => k_is); (case l11 => k_is); (case c11 => k_is); (case k11 => k_is)
    (case a13 => k_is); (case l13 => k_is); (case c13 => k_is); (case k13 => k_is)
    (case a14 => k_is); (case l14 => k_is); (case c14 => k_is); (case k14 => k_is)
    (case a15 => k_is); (case l15 => k_is); (case c15 => k_is); (case k15 => k_is)
    (case a16 => k_is); (case l16 => k_is); (case c16 => k_is); (case k16 => k_is)
    (case a17 => k_is); (case l17 => k_is); (case c17 => k_is); (case k17 => k_is)
    (case a18 => k_is); (case l18 => k_is); (case c18 => k_is); (case k18 => k_is)
    (case a19 => k_is); (case l19 => k_is); (case c19 => k_is); (case k19 => k_is)
    (case a20 => k_is); (case l20 => k_is); (case c20 => k_is); (case k20 => k_is)
    (case a21 => k_is); (case l21 => k_is); (case c21 => k_is); (case k21 => k_is)
    (case a22 => k_is); (case l22 => k_is); (case c22 => k_is); (case k22 => k_is)
    (case a23 => k_is); (case l23 => k_is); (case c23 => k_is); (case k23 => k_is)
    (case a24 => k_is); (case l24 => k_is); (case c24 => k_is); (case k24 => k_is)
    (case a25 => k_is); (case l25 => k_is); (case c25 => k_is); (case k25 => k_is)
    (case a26 => k_is); (case l26 => k_is); (case c26 => k_is); (case k26 => k_is)
    (case a27 => k_is); (case l27 => k_is); (case c27 => k_is); (case k27 => k_is)
    (case a28 => k_is); (case l28 => k_is); (case c28 => k_is); (case k28 => k_is)
    (case a29 => k_is); (case l29 => k_is); (case c29 => k_is); (case k29 => k_is)
    (case a30 => k_is); (case l30 => k_is); (case c30 => k_is); (case k30 => k_is)
    (case aC => k_is); (case kC => k_is); (case sC => k_is); (case tC => k_is); (case xC => k_exc); (case eC => (refine PySem.W.exm_ref ?h1 ?h2 ?h3 ?h4); (case h1 => k_is); (case h2 => k_is); (case h3 => k_is); (case h4 => k_is))
    (case aR => k_is); (case oC => (refine ⟨?o1, ?o2, ?o3, ?o4, ?o5, ?o6, ?o7, ?o8⟩); (case o1 => k_is); (case o2 => k_is); (case o3 => k_is); (case o4 => k_is); (case o5 => k_is); (case o6 => k_is); (case o7 => k_is); (case o8 => k_is)); (case dR => k_is); (case tR => k_is); (case uR => k_is); (case uV => k_is)
    (case aW => k_is); (case lW => k_is); (case eW => rfl)
    (case a_MAX_SIZE => k_is)
    (case z_isinstance => k_is)
    (case z_int => k_is)
    (case z_bool => k_is)
    (case z_tuple => k_is)
    (case z_len => k_is)
    (case z_all => k_is)
    (case z_range => k_is)
    (case z_list => k_is)
    (case z_str => k_is)
    (case z_min => k_is)
    (case z_repr => k_is)
    (case z_abs => k_is)
    (case z_max => k_is)
    (case z_sum => k_is)
    (case z_enumerate => k_is)
    (case z_ValueError => k_is)
