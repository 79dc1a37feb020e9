import PyProof.Rows.All
import Wide.All
import OpenK.AllK
import Wide.FinOn
import PySem.Challenge.RW_rowsback_k32_tapes_judged
import HandS.ForMost
import HandS.IsInst
import HandS.TupAny
import HandS.TupMul
import HandS.Wide
import PyProof.ReprRoads
import HandS.Style
import PyProof.ReprLen
import PyProof.StrLawsRepr
import KE.GoesEnum
import HandS.Iter
import HandS.More
import HandS.Conv
set_option Elab.async false
set_option linter.all false
set_option maxRecDepth 100000
namespace Jg
open PySem PySem.Spec PyProof.Rows L2
def topS (i : Nat) : Stmt := PySem.Challenge.pw_rowsback_k32_tapes_judged.main.body.getD i (.Pass ⟨0, 0, 0, 0⟩)
end Jg
namespace Jg
open PySem PySem.Spec PyProof.Rows L2
mutual
/-- a value as data: lists (none of them D or B), tuples, empty dicts -/
inductive Dq (D B : Addr) (H : Hp) : V → PyData → Prop
  | non : Dq D B H .non .none
  | bl (b : Bool) : Dq D B H (.bl b) (.bool b)
  | int (i : Int) : Dq D B H (.int i) (.int i)
  | str (x : Str) : Dq D B H (.str x) (.str x)
  | lst {a : Addr} {xs : List V} {ds : List PyData} : a ≠ D → a ≠ B → H a = some (.lst xs) → DqAll D B H xs ds → Dq D B H (.ref a) (.list ds)
  | tup {a : Addr} {xs : List V} {ds : List PyData} : H a = some (.tup xs) → DqAll D B H xs ds → Dq D B H (.ref a) (.tuple ds)
  | dct {a : Addr} : H a = some (.dK []) → Dq D B H (.ref a) (.dict [])
inductive DqAll (D B : Addr) (H : Hp) : List V → List PyData → Prop
  | nil : DqAll D B H [] []
  | cons {v : V} {vs : List V} {d : PyData} {ds : List PyData} : Dq D B H v d → DqAll D B H vs ds → DqAll D B H (v :: vs) (d :: ds)
end
theorem DqAll.len {D B : Addr} {H : Hp} : ∀ {vs : List V} {ds : List PyData}, DqAll D B H vs ds → vs.length = ds.length
  | _, _, .nil => rfl
  | _, _, .cons _ h => congrArg Nat.succ h.len
/-- what lies stays, where all that is neither D nor B stays -/
def Fr (D B : Addr) (H H' : Hp) : Prop := ∀ b o, b ≠ D → b ≠ B → H b = some o → H' b = some o
mutual
theorem Dq.keep {D B : Addr} {H H' : Hp} (hD : ∃ xs, H D = some (.lst xs)) (hB : ∃ xs, H B = some (.lst xs)) (f : Fr D B H H') : ∀ (d : PyData) (v : V), Dq D B H v d → Dq D B H' v d
  | .none, _, h => by
    cases h
    exact .non
  | .bool _, _, h => by
    cases h
    exact .bl _
  | .int _, _, h => by
    cases h
    exact .int _
  | .str _, _, h => by
    cases h
    exact .str _
  | .list ds, _, h => by
    cases h with
    | lst h1 h2 h3 h4 => exact .lst h1 h2 (f _ _ h1 h2 h3) (DqAll.keep hD hB f ds _ h4)
  | .tuple ds, _, h => by
    obtain ⟨xD, eD⟩ := hD
    obtain ⟨xB, eB⟩ := hB
    cases h with
    | tup h3 h4 =>
      refine .tup (f _ _ (fun z => ?_) (fun z => ?_) h3) (DqAll.keep ⟨xD, eD⟩ ⟨xB, eB⟩ f ds _ h4)
      · rw [z, eD] at h3
        cases h3
      · rw [z, eB] at h3
        cases h3
  | .dict ds, _, h => by
    obtain ⟨xD, eD⟩ := hD
    obtain ⟨xB, eB⟩ := hB
    cases h with
    | dct h3 =>
      refine .dct (f _ _ (fun z => ?_) (fun z => ?_) h3)
      · rw [z, eD] at h3
        cases h3
      · rw [z, eB] at h3
        cases h3
theorem DqAll.keep {D B : Addr} {H H' : Hp} (hD : ∃ xs, H D = some (.lst xs)) (hB : ∃ xs, H B = some (.lst xs)) (f : Fr D B H H') : ∀ (ds : List PyData) (vs : List V), DqAll D B H vs ds → DqAll D B H' vs ds
  | [], _, h => by
    cases h
    exact .nil
  | d :: ds, _, h => by
    cases h with
    | cons h1 h2 => exact .cons (Dq.keep hD hB f d _ h1) (DqAll.keep hD hB f ds _ h2)
end
section
variable {X : Cx} {pins : List (Addr × Obj)} {σ : L2.St} {H : Hp} {s : Shared} {D B : Addr}
mutual
theorem Dq.rep (I : Inv X pins σ H s) : ∀ (d : PyData) (v : V) (u : Value), Dq D B H v d → RelV v u → d.showable = true → d.shown.length ≤ sizeLine →
    ∃ bs as, ReadAtMost s.heap d.depth bs ∧ Reads s.heap u d as ∧ ReprK X.prog X.w bs s.heap d.depth u d.shown
  | .none, _, _, h, r, _, _ => by
    cases h
    cases r
    exact ⟨[], [], (fun _ h => nomatch h), .none, by simp only [PyData.shown]; exact .of_is ReprIs.none _ _ _⟩
  | .bool b, _, _, h, r, _, _ => by
    cases h
    cases r
    exact ⟨[], [], (fun _ h => nomatch h), .bool b, by simp only [PyData.shown]; exact .of_is (ReprIs.bool b) _ _ _⟩
  | .int i, _, _, h, r, hs, _ => by
    cases h
    obtain ⟨t, rfl⟩ := r
    exact ⟨[], [], (fun _ h => nomatch h), .int i t, by simp only [PyData.shown]; exact .of_is (ReprIs.int t (by simpa [PyData.showable] using hs)) _ _ _⟩
  | .str x, _, _, h, r, _, hz => by
    cases h
    obtain ⟨t, rfl⟩ := r
    exact ⟨[], [], (fun _ h => nomatch h), .str x t, by simp only [PyData.shown]; exact .of_is (ReprIs.str x t (by simpa only [PyData.shown] using hz)) _ _ _⟩
  | .list ds, _, _, h, r, hs, hz => by
    cases h with
    | lst _ _ e ha =>
      cases r
      have hz2 : (listText (PyData.shownAll ds)).length ≤ sizeLine := by simpa only [PyData.shown] using hz
      obtain ⟨_, its, n, rv, ho⟩ := I.hok _ _ e
      obtain ⟨bs, as, hb, hr, hk⟩ := DqAll.rep I ds _ its ha rv (by simpa [PyData.showable] using hs) (fun t ht => Nat.le_trans (listText_mem_le ht) hz2)
      have hr2 : ReadsAll s.heap its.toArray.toList ds as := hr
      have rd := Reads.list ho rfl rfl hr2
      have hna := not_mem_of_deeper (n := PyData.depthAll ds) rd (by simp only [PyData.depth]; omega) hb
      refine ⟨_ :: bs, _, ReadAtMost.cons rd (by simp only [PyData.depth]; omega) hb, rd, ?_⟩
      simp only [PyData.depth, PyData.shown]
      cases its with
      | nil =>
        cases hr
        simp only [PyData.shownAll, listText_nil]
        exact ReprK.listEmpty ho rfl rfl
      | cons x l => exact ReprK.list ho rfl rfl hna (by simpa using hk.length_eq) (fun i y e => hk.item i y (by simpa using e))
  | .tuple ds, _, _, h, r, hs, hz => by
    cases h with
    | tup e ha =>
      cases r
      have hz2 : (tupleText (PyData.shownAll ds)).length ≤ sizeLine := by simpa only [PyData.shown] using hz
      obtain ⟨_, its, rv, o, ho, hc, n, hd⟩ := I.hok _ _ e
      obtain ⟨bs, as, hb, hr, hk⟩ := DqAll.rep I ds _ its ha rv (by simpa [PyData.showable] using hs) (fun t ht => Nat.le_trans (tupleText_mem_le ht) hz2)
      have hr2 : ReadsAll s.heap its.toArray.toList ds as := hr
      have rd := Reads.tuple ho hc hd hr2
      have hna := not_mem_of_deeper (n := PyData.depthAll ds) rd (by simp only [PyData.depth]; omega) hb
      refine ⟨_ :: bs, _, ReadAtMost.cons rd (by simp only [PyData.depth]; omega) hb, rd, ?_⟩
      simp only [PyData.depth, PyData.shown]
      exact ReprK.tuple ho hc hd hna hk
  | .dict kvs, _, _, h, r, hs, hz => by
    cases h with
    | dct e =>
      cases r
      obtain ⟨_, hsys, vs, hv, o, es, ep, ho, hx, hd, hes⟩ := I.hok _ _ e
      have hv0 : vs = [] := by
        cases hv
        rfl
      subst hv0
      have he : es = #[] := by
        have h2 := hes.2.1
        cases hq : es.toList with
        | nil => simpa using hq
        | cons e r =>
          rw [hq] at h2
          cases h2
      subst he
      have rd := Reads.dict (kvs := []) ho hx.1 hd ReadsAll.nil ReadsAll.nil
      refine ⟨_ :: [], _, ReadAtMost.cons (n := 0) rd (Nat.zero_le _) (fun _ h => nomatch h), rd, ?_⟩
      simp only [PyData.depth, PyData.depthKv, PyData.shown, PyData.shownKv]
      exact ReprK.dict ho hx.1 hd hsys (fun z => nomatch z) .nil
theorem DqAll.rep (I : Inv X pins σ H s) : ∀ (ds : List PyData) (vs : List V) (us : List Value), DqAll D B H vs ds → Vals vs us → PyData.showableAll ds = true → (∀ t ∈ PyData.shownAll ds, t.length ≤ sizeLine) →
    ∃ bs as, ReadAtMost s.heap (PyData.depthAll ds) bs ∧ ReadsAll s.heap us ds as ∧ ReprAllK X.prog X.w bs s.heap (PyData.depthAll ds) us (PyData.shownAll ds)
  | [], _, _, h, r, _, _ => by
    cases h
    cases r
    exact ⟨[], [], (fun _ h => nomatch h), .nil, by simp only [PyData.shownAll]; exact .nil⟩
  | d :: ds, _, _, h, r, hs, hz => by
    have hs2 : d.showable = true ∧ PyData.showableAll ds = true := by simpa [PyData.showableAll] using hs
    cases h with
    | cons h1 h2 =>
      cases r with
      | cons r1 r2 =>
        obtain ⟨b1, a1, hb1, q1, k1⟩ := Dq.rep I d _ _ h1 r1 hs2.1 (hz _ (by simp [PyData.shownAll]))
        obtain ⟨b2, a2, hb2, q2, k2⟩ := DqAll.rep I ds _ _ h2 r2 hs2.2 (fun t ht => hz t (by simp [PyData.shownAll, ht]))
        refine ⟨b1 ++ b2, a1 ++ a2, ?_, .cons q1 q2, ?_⟩
        · simp only [PyData.depthAll]
          exact (hb1.mono (Nat.le_max_left _ _)).append (hb2.mono (Nat.le_max_right _ _))
        · simp only [PyData.depthAll, PyData.shownAll]
          exact .cons ((k1.more fun b hb => List.mem_append_left _ hb).level_le (Nat.le_max_left _ _)) (k2.more_le (fun b hb => List.mem_append_right _ hb) (Nat.le_max_right _ _))
end
/-- repr(x), x data: what is shown of it -/
def rRepr : List V → Hp → VK → Prop := fun xs H Q => ∃ (D B : Addr) (v : V) (d : PyData), xs = [v] ∧ Dq D B H v d ∧ d.showable = true ∧ d.shown.length ≤ sizeLine ∧ d.depth ≤ 60 ∧ Q (.str d.shown) H
theorem call_reprD {X : Cx} (hg : X.A.guards = some []) (hu : X.A.units + 64 < cLine) : CallR X (.builtin "repr") rRepr := by
  intro pins s σ H xs us Q I r h
  obtain ⟨D, B, v, d, rfl, hd, hs, hz, hdp, q⟩ := h
  obtain ⟨u, rfl, ru⟩ := vals1 r
  have fin : ∀ (x : Str), x = d.shown → ∀ (h' : Heap) (t : Tok) (tk : Nat), (∀ b o, s.heap.get? b = some o → h'.get? b = some o) → EP X pins σ Q (.str x t) { s with heap := h', toks := tk } := fun x e h' t tk k => by
    subst e
    exact ⟨.str d.shown, H, I.kept (t' := tk) k, ⟨_, rfl⟩, q⟩
  cases hd with
  | non =>
    cases ru
    exact PySem.P.repr_of_none (fin _ (by simp only [PyData.shown]) _ _ _ fun _ _ z => z)
  | bl b =>
    cases ru
    exact PySem.P.repr_of_bool (fin _ (by simp only [PyData.shown]) _ _ _ fun _ _ z => z)
  | int i =>
    obtain ⟨t, rfl⟩ := ru
    exact PySem.P.repr_of_int (by simpa [PyData.showable] using hs) (fin _ (by simp only [PyData.shown]) _ _ _ fun _ _ z => z)
  | str x =>
    obtain ⟨t, rfl⟩ := ru
    exact PySem.P.repr_of_str (fin _ (by simp only [PyData.shown]) _ _ _ fun _ _ z => z) (by simpa only [PyData.shown] using hz)
  | @lst a xs ds _ _ e ha =>
    cases ru
    simp only [PyData.depth] at hdp
    have hz2 : (listText (PyData.shownAll ds)).length ≤ sizeLine := by simpa only [PyData.shown] using hz
    obtain ⟨_, its, n, rv, ho⟩ := I.hok _ _ e
    obtain ⟨bs, as, hb, hr, hk⟩ := DqAll.rep I ds _ its ha rv (by simpa [PyData.showable] using hs) (fun t ht => Nat.le_trans (listText_mem_le ht) hz2)
    have hr2 : ReadsAll s.heap its.toArray.toList ds as := hr
    have hna := not_mem_of_deeper (n := PyData.depthAll ds) (Reads.list ho rfl rfl hr2) (by simp only [PyData.depth]; omega) hb
    refine call_repr_slot (by omega) ⟨_, ho, rfl⟩ F.slot_list_repr.toG ?_
    cases its with
    | nil =>
      cases hr
      exact call_list_repr_empty ⟨_, ho, rfl⟩ ho rfl ⟨_, _, rfl, fin _ (by simp only [PyData.shown, PyData.shownAll, listText_nil]) _ _ _ fun _ _ z => z⟩
    | cons x l =>
      exact call_list_reprK ho rfl rfl hna (by simpa using hk.length_eq) (fun i y e => hk.item i y (by simpa using e)) hg (fun b _ => Clear.nil b) (by show X.A.units + 1 + _ < _; omega) (fun _ _ z => z)
        (fun h' t tk k => ⟨_, _, rfl, fin _ (by simp only [PyData.shown]) _ _ _ k⟩) hz2
  | @tup a xs ds e ha =>
    cases ru
    simp only [PyData.depth] at hdp
    have hz2 : (tupleText (PyData.shownAll ds)).length ≤ sizeLine := by simpa only [PyData.shown] using hz
    obtain ⟨_, its, rv, o, ho, hc, n, hd⟩ := I.hok _ _ e
    obtain ⟨bs, as, hb, hr, hk⟩ := DqAll.rep I ds _ its ha rv (by simpa [PyData.showable] using hs) (fun t ht => Nat.le_trans (tupleText_mem_le ht) hz2)
    have hr2 : ReadsAll s.heap its.toArray.toList ds as := hr
    have hna := not_mem_of_deeper (n := PyData.depthAll ds) (Reads.tuple ho hc hd hr2) (by simp only [PyData.depth]; omega) hb
    refine call_repr_slot (by omega) ⟨_, ho, hc⟩ F.slot_tuple_repr ?_
    exact call_tuple_reprK ho hc hd hna hk hg (fun b _ => Clear.nil b) (by show X.A.units + 1 + _ < _; omega) (fun _ _ z => z)
      (fun h' t tk k => ⟨_, _, rfl, fin _ (by simp only [PyData.shown]) _ _ _ k⟩) hz2
  | dct e =>
    cases ru
    have ho0 := Dq.rep (D := D) (B := B) I _ _ _ (.dct e) rfl hs hz
    obtain ⟨_, hsys, vs, hv, o, es, ep, ho, hx, hd, hes⟩ := I.hok _ _ e
    have he : es = #[] := by
      have h2 := hes.2.1
      cases hv
      cases hq : es.toList with
      | nil => simpa using hq
      | cons e r =>
        rw [hq] at h2
        cases h2
    subst he
    refine call_repr_slot (by omega) ⟨_, ho, hx.1⟩ F.slot_dict_repr ?_
    exact call_dict_reprK (d := 0) (as := []) ho hx.1 hd hsys (fun z => nomatch z) .nil hg (fun b _ => Clear.nil b) (by show X.A.units + 1 + _ < _; omega) (fun _ _ z => z)
      (fun h' t tk k => ⟨_, _, rfl, fin _ (by simp only [PyData.shown, PyData.shownKv]) _ _ _ k⟩) (by simpa only [PyData.shown, PyData.shownKv] using hz)
end
end Jg
namespace Jg
open PySem PySem.Spec PyProof.Rows L2
/-- a def's promise where no repr is under way around its call -/
def RunG (P : Program) (w : World) (K : PySem.W.Frag) (mg : Str → Option Value) (base : Heap) (k : Nat) (f : Addr) (fd : FuncData) (ps : List Str) (sp : Sp) : Prop :=
  ∀ (Ar : Around) (out : List Env) (s0 : Shared) (H : Hp) (ar : Args) (us : List Value) (vs : List V) (Q : VK) (E : XK), Ar.guards = some [] → Room k Ar → Env0 P w K mg base Ar out s0 H → BindsTo s0 fd ar (ps.zip us) → Vals vs us → sp vs H Q E →
    codeAny (model P w) Ar (.call (.ref f) ar) (CR CX0 out P w H s0 Q E) s0
theorem runG_of {P : Program} {w : World} {K : PySem.W.Frag} {mg : Str → Option Value} {base : Heap} {k : Nat} {x qual : Str} {st : Stmt} {f : Addr} {fd : FuncData} {N ps : List Str} {sp : Sp} (F : Fun K x qual st f fd) (S : FnScope N ps (defScope st)) (len : ∀ vs H Q E, sp vs H Q E → vs.length = ps.length)
    (hb : ∀ (cdv : Value) (Ar : Around) (out : List Env) (s0 : Shared) (H : Hp) (vs : List V) (Q : VK) (E : XK), (Ar.deeper (envOfC qual (defScope st) s0.heap.objs.size f cdv)).guards = some [] → Room k (Ar.deeper (envOfC qual (defScope st) s0.heap.objs.size f cdv)) → sp vs H Q E →
      ∃ t, PSs (cxOf CX0 P w K mg base N qual (defScope st) f cdv Ar out s0 H E).nox (defBody st) t ∧ t { nx := fun _ H1 => Q .non H1, rt := Q } (start N vs) H) : RunG P w K mg base (k + 1) f fd ps sp := by
  obtain ⟨oc, od, kV, doc, pm, an, cdv, ct, osl, rfl, lk, hcd⟩ := F.ex
  intro Ar out s0 H ar us vs Q E hg hr e0 bd rv hsp
  have KX : K.In s0.heap := e0.mod.kin.keeps fun b o z => (e0.bs b o z).1
  have NL : s0.heap.NoLimit := e0.mod.nolimit.keeps fun b o z => (e0.bs b o z).1
  have kinds : ∀ y ∈ ps.zip us, (defScope st).names.lookup y.1 = some .local ∨ ((defScope st).names.lookup y.1 = some .cell ∧ ((cellsFrom (s0.heap.objs.size + 1) (defScope st).names []).lookup y.1).isSome = true) := by
    rintro ⟨n, v⟩ hy
    cases S.par n (List.of_mem_zip hy).1 with
    | inl q => exact .inl q
    | inr q => exact .inr ⟨q, PySem.W.cellsFrom_some _ _ _ (.inl q)⟩
  refine codeAny_call_function hr.depth (KX _ _ lk) rfl S.co S.gen rfl (PySem.W.codeRec_of KX hcd) (bd _ _ _ _ (wpAny_newFunctionEnv_cells S.kind kinds fun env he s1 ic => ?_))
  subst he
  refine ⟨NL.keeps ic.toInCall.keep, codeAny_func ?_⟩
  obtain ⟨t, ht, hq⟩ := hb cdv Ar out s0 H vs Q E hg (hr.deeper _) hsp
  have I0 : Inv (cxOf CX0 P w K mg base N qual (defScope st) f cdv Ar out s0 H E) [] (start N vs) H s1 := inv_start S hr.hd e0 (len _ _ _ _ hsp) rv ic
  refine wpAny_mono (ht.nox.run [] s1 (start N vs) H _ I0 hq) (fun fl s2 hs => ?_) fun e s2 hs => hs
  cases fl with
  | ret u =>
    obtain ⟨v, σ2, H2, J, ru, q⟩ := hs
    exact ⟨v, H2, J.os, J.bare, J.base, J.hok, ru, q⟩
  | next =>
    obtain ⟨σ2, H2, J, q⟩ := hs
    exact ⟨V.non, H2, J.os, J.bare, J.base, J.hok, rfl, q⟩
  | brk =>
    obtain ⟨_, _, _, q⟩ := hs
    exact False.elim q
  | cont =>
    obtain ⟨_, _, _, q⟩ := hs
    exact False.elim q
end Jg
namespace Jg
open PySem PySem.Spec PyProof.Rows L2
/-- the heap in which at most the script at a is told: a list of ns -/
def onlyAt (a : Addr) (o : Obj) (ns : List Int) : Hp := fun b => if b = a then some (.frz o (.lst (ns.map V.int))) else none
theorem law_runG {P : Program} {w : World} {K : PySem.W.Frag} {mg mb : Str → Option Value} {k : Nat} {fa a : Addr} {fd : FuncData} {x : Str} {sp : Sp} {s1 : Shared} {vs : List Value} {ns : List Int}
    (KX : K.In s1.heap) (hns : s1.heap.Ns mainGlobals mg) (hb : s1.heap.Ns builtinsNs mb) (hbb : ∀ x : Str, x ≠ "__name__" → mb x = bootBuiltins x) (hlim : s1.heap.NoLimit) (hg : s1.gens = #[])
    (ha : s1.heap.get? a = some { cls := .type "list", data := .seq vs.toArray }) (hi : IntsAre vs ns) (hl : ns.length ≤ sizeLine) (hr : Room k callerA)
    (F : ∀ base : Heap, K.In base → base.Ns mainGlobals mg → RunG P w K mg base k fa fd [x] sp) (hbind : ∀ (s : Shared) (u : Value), BindsTo s fd ⟨[u], []⟩ [(x, u)])
    (hsp : ∀ H : Hp, Only H → SqL K H a (ns.map V.int) → sp [.ref a] H (fun v _ => v = .bl true) fun _ _ _ => False) :
    codeAny (model P w) callerA (.call (.ref fa) ⟨[.ref a], []⟩) (fun r s' => r = .ok (.ret (.bool true)) ∧ OldK s1.heap s'.heap ∧ s'.os = s1.os ∧ AllBare s'.gens) s1 := by
  have rv := vals_ints hi
  have nV := hi.length
  have main : ∀ H : Hp, Only H → SqL K H a (ns.map V.int) → HOk P w H s1.heap → (∀ b, H b ≠ none → b = a) → (H a ≠ none → K.lookup a = none) →
      codeAny (model P w) callerA (.call (.ref fa) ⟨[.ref a], []⟩) (fun r s' => r = .ok (.ret (.bool true)) ∧ OldK s1.heap s'.heap ∧ s'.os = s1.os ∧ AllBare s'.gens) s1 := by
    intro H hO hS hok hA hK
    have here : ∀ {b : Addr} {o : Obj}, s1.heap.get? b = some o → H b = none → (hidT s1.heap H).get? b = some o := fun e n => hidT_get e n
    have free_of : ∀ {b : Addr}, (b = a → False) → H b = none := fun {b} nb => by
      cases q : H b with
      | none => rfl
      | some u => exact (nb (hA b (by rw [q]; simp))).elim
    have nsK : ∀ {b : Addr} {m : Str → Option Value}, s1.heap.Ns b m → (hidT s1.heap H).Ns b m := by
      rintro b m ⟨o, es, ep, e, d, r⟩
      refine ⟨o, es, ep, here e (free_of fun z => ?_), d, r⟩
      subst z
      rw [ha] at e
      cases e
      cases d
    have hKb : K.In (hidT s1.heap H) := by
      intro b o e
      refine here (KX b o e) ?_
      cases q : H b with
      | none => rfl
      | some u =>
        have z := hA b (by rw [q]; simp)
        subst z
        rw [hK (by rw [q]; simp)] at e
        cases e
    obtain ⟨mc, l1, l2⟩ := hlim
    have e0 : Env0 P w K mg (hidT s1.heap H) callerA [] s1 H :=
      ⟨rfl, ⟨hKb, nsK hns, ⟨mb, nsK hb, hbb⟩, ⟨mc, nsK l1, l2⟩⟩, fun b o e => of_hidT e, Nat.le_of_eq (hidT_size _ _), trivial, fun b hb => absurd (show b ∈ ([] : List Addr) from hb) (by simp), hok, .of_eq hg⟩
    refine codeAny_mono (F _ hKb (nsK hns) callerA [] s1 H ⟨[.ref a], []⟩ [.ref a] [.ref a] _ _ rfl hr e0 (hbind s1 (.ref a)) (.cons rfl .nil) (hsp H hO hS)) fun r s2 h => ?_
    cases r with
    | error e => exact False.elim h
    | ok fl =>
      cases fl with
      | next => exact False.elim h
      | brk => exact False.elim h
      | cont => exact False.elim h
      | ret u =>
        obtain ⟨v, H2, os, bare, un, hok2, ru, q⟩ := h
        have qv : v = .bl true := q
        subst qv
        have ru2 : u = Value.bool true := ru
        subst ru2
        refine ⟨rfl, OldK.of_keep fun b o e => ?_, os, bare⟩
        cases q : H b with
        | none => exact un.keep b o e q (fun z => absurd (show b ∈ ([] : List Addr) from z) (by simp)) (by simp)
        | some u =>
          cases hO b with
          | inl z =>
            rw [q] at z
            cases z
          | inr z =>
            obtain ⟨ob, xs, z⟩ := z
            obtain ⟨e1, _⟩ := hok b _ z
            obtain ⟨e2, _⟩ := hok2 b _ (un.frzs b ob _ z)
            rw [e] at e1
            cases e1
            exact e2
  cases hk : K.lookup a with
  | some o =>
    have e := KX a o hk
    rw [ha] at e
    cases e
    exact main (fun _ => none) (fun _ => .inl rfl) (.inr ⟨_, vs.toArray, _, hk, rfl, rfl, rfl, by rw [List.size_toArray, nV]; exact hl, by simpa using rv⟩) (fun b u z => absurd (show (none : Option HO) = some u from z) (by simp)) (fun b z => absurd rfl z) fun z => absurd rfl z
  | none =>
    refine main (onlyAt a { cls := .type "list", data := .seq vs.toArray } ns) (fun b => ?_) (.inl (.inr ⟨_, if_pos rfl⟩)) (fun b u z => ?_) (fun b z => ?_) fun _ => hk
    · by_cases hb : b = a
      · exact .inr ⟨_, _, if_pos hb⟩
      · exact .inl (if_neg hb)
    · by_cases hb : b = a
      · have z2 := (show some _ = some u from (if_pos hb).symm.trans z)
        cases z2
        subst hb
        exact ⟨ha, by rw [List.length_map]; exact hl, vs, _, rv, ha⟩
      · exact absurd ((if_neg hb).symm.trans z) (by simp)
    · by_cases hb : b = a
      · exact hb
      · exact absurd (if_neg hb) z
theorem walk_ofG {l : PySem.W.OpenLaw} {n k : Nat} {q : Program} {loose : List Str} {XP : (Str → Option Value) → Heap → Prop} {YP : World → Heap → Prop} {d : DefRec} {K : Params → PySem.W.Frag} {sp : World → Sp} {x : Str}
    (hn : l.most = some n) (hn2 : n ≤ sizeLine) (hdf : d.params.defaults = []) (hr : Room k callerA) (hY : ∀ (w : World) (h : Heap), YP w h → (K w.params).In h)
    (F : ∀ (w : World) (mg : Str → Option Value) (fa : Addr) (h : Heap), (K w.params).In h → h.Ns mainGlobals mg → mg d.name = some (.ref fa) →
      ∃ fd : FuncData, (∀ (s : Shared) (u : Value), BindsTo s fd ⟨[u], []⟩ [(x, u)]) ∧ ∀ base : Heap, (K w.params).In base → base.Ns mainGlobals mg → RunG l.prog w (K w.params) mg base k fa fd [x] (sp w))
    (hsp : ∀ (w : World) (H : Hp) (a : Addr) (ns : List Int), ns.length ≤ n → Only H → SqL (K w.params) H a (ns.map V.int) → sp w [.ref a] H (fun v _ => v = .bl true) fun _ _ _ => False) :
    PySem.W.WalkO q loose XP YP l.row.toRowW d [] (fun f vs => PySem.call f vs) := by
  refine Att.attach_call hn hdf fun w s0 s1 mg mb fa o pm cd doc a vs ns G Y ho hd hcd hmg hobj hints hlen hg => ?_
  obtain ⟨fd, hb, hF⟩ := F w mg fa _ (hY w _ Y) G.T.g hmg
  exact law_runG (hY w _ Y) G.T.g G.T.b G.T.builtins G.T.nolimit hg hobj hints (Nat.le_trans hlen hn2) hr hF hb fun H hO hS => hsp w H a ns hlen hO hS
end Jg
namespace Jg
open PySem PySem.Spec PyProof.Rows L2
/-! ### t[::-1], t a tuple -/
theorem adjust_back (n : Nat) : Builtin.Slice.sliceAdjust none none (-1) (n : Int) = ((n : Int) - 1, -1) := by
  unfold Builtin.Slice.sliceAdjust
  simp
theorem places_back (n : Nat) : Builtin.Slice.slicePlaces ((n : Int) - 1) (-1) (-1) = n := by
  unfold Builtin.Slice.slicePlaces
  have h1 : ¬ ((-1 : Int) > 0) := by decide
  simp only [h1, if_false]
  split
  · rw [show (- -1 : Int) = 1 by decide, Int.ediv_one]
    omega
  · omega
theorem fm_congr {α β : Type} {f g : α → Option β} : ∀ l : List α, (∀ m ∈ l, f m = g m) → l.filterMap f = l.filterMap g
  | [], _ => rfl
  | a :: l, h => by
    have e := fm_congr l fun m hm => h m (List.mem_cons_of_mem _ hm)
    simp only [List.filterMap_cons, h a List.mem_cons_self, e]
theorem pick_back {α : Type} (xs : Array α) : ((List.range xs.size).filterMap fun (m : Nat) => xs[(((xs.size : Nat) : Int) - 1 + (m : Int) * (-1)).toNat]?).toArray = xs.toList.reverse.toArray := by
  have e : (List.range xs.size).filterMap (fun (m : Nat) => xs[(((xs.size : Nat) : Int) - 1 + (m : Int) * (-1)).toNat]?) = ((List.range xs.size).map fun k => xs.size - 1 - k).filterMap (xs[·]?) := by
    rw [List.filterMap_map]
    refine fm_congr _ fun m hm => ?_
    have hl := List.mem_range.mp hm
    show xs[(((xs.size : Nat) : Int) - 1 + (m : Int) * (-1)).toNat]? = xs[xs.size - 1 - m]?
    rw [show (((xs.size : Nat) : Int) - 1 + (m : Int) * (-1)).toNat = xs.size - 1 - m by omega]
  rw [e, PySem.W.krv_range, List.filterMap_reverse, PySem.W.krv_all]
section
variable {prog : Program} {w : World} {A : Around} {E : Value → Shared → Prop} {s : Shared}
theorem applied_back {sl : Addr} {va vb vc : Value} {n : Nat} {Q : Int × Int × Nat → Shared → Prop} (hs : s.heap.IsSliceOf sl va vb vc) (pa : IsPart va none) (pb : IsPart vb none) (pc : IsPart vc (some (-1)))
    (h : Q ((n : Int) - 1, -1, n) s) : wpAny (model prog w) A (Builtin.Slice.sliceApplied (.ref sl) (pure (n : Int))) Q E s := by
  obtain ⟨os, hos, hcs, hds⟩ := id hs
  unfold Builtin.Slice.sliceApplied Builtin.Slice.sliceFields
  refine wpAny_bind (wpAny_bind (wpAny_field hos hds (x := va) rfl (wpAny_bind (wpAny_field hos hds (x := vb) rfl (wpAny_bind (wpAny_field hos hds (x := vc) rfl (wpAny_pure ?_)))))))
  refine wpAny_bind (HT.slicePart_ pc ?_)
  show wpAny _ _ (if ((-1 : Int) == 0) = true then _ else _) _ _ s
  rw [if_neg (by decide)]
  refine wpAny_bind (HT.slicePart_ pa (wpAny_bind (HT.slicePart_ pb (wpAny_bind (wpAny_pure ?_)))))
  show wpAny _ _ (match Builtin.Slice.sliceAdjust none none (-1) (n : Int) with | (lo, hi) => pure (lo, (-1 : Int), Builtin.Slice.slicePlaces lo hi (-1))) _ _ s
  rw [adjust_back n]
  show wpAny _ _ (pure ((n : Int) - 1, (-1 : Int), Builtin.Slice.slicePlaces ((n : Int) - 1) (-1) (-1))) _ _ s
  rw [places_back]
  exact wpAny_pure h
theorem getItem_back {t sl : Addr} {its : Array Value} {va vb vc : Value} {Q : Value → Shared → Prop} (ht : IsTup s.heap t its) (hs : s.heap.IsSliceOf sl va vb vc) (pa : IsPart va none) (pb : IsPart vb none) (pc : IsPart vc (some (-1)))
    (h : Q (.ref s.heap.objs.size) { s with heap := s.heap.push { cls := .type "tuple", data := .seq its.toList.reverse.toArray } }) (hz : its.size ≤ sizeLine) : wpAny (model prog w) A (getItem (.ref t) (.ref sl)) Q E s := by
  have ok : sizeOk (.seq its.toList.reverse.toArray) := by
    show its.toList.reverse.toArray.size ≤ sizeLine
    rw [List.size_toArray, List.length_reverse, Array.length_toList]
    exact hz
  obtain ⟨os, hos, hcs, hds⟩ := id hs
  have hTs : s.TypeIs (.ref sl) "slice" := ⟨os, hos, hcs⟩
  unfold getItem
  first | (with_reducible refine wpAny_holding ?_) | skip
  first | refine wpAny_bind (wpAny_pure ?_) | skip
  refine wpAny_bind (wpAny_sequenceKey ht.typeIs (by decide) (wpAny_bind (wpAny_callSpecial?_slot (name := Str.ofString "__getitem__") ht.typeIs PyProof.Rows.slot_tuple_getitem (wpAny_call_entry PyProof.Rows.slot_tuple_getitem ht.typeIs entry_tuple_getitem ?_ (args_tuple_getitem _ _)))))
  show wpAny _ _ (Builtin.Tuple.tupleItemsOf (.ref t) >>= _) _ _ s
  refine wpAny_bind (tupleItemsOf_ ht (wpAny_bind (wpAny_typeOf hTs ?_)))
  rw [if_pos (by decide)]
  refine wpAny_bind (applied_back hs pa pb pc ?_)
  have no : ¬ ((((its.size : Nat) : Int) - 1 == 0 && (-1 : Int) == 1 && its.size == its.size) = true) := by
    intro q
    rw [Bool.and_eq_true, Bool.and_eq_true] at q
    exact absurd q.1.2 (by decide)
  show wpAny _ _ (if (((its.size : Nat) : Int) - 1 == 0 && (-1 : Int) == 1 && its.size == its.size) = true then _ else _) _ _ s
  rw [if_neg no, pick_back]
  first
    | exact wpAny_bind (m := Builtin.Tuple.tupleExact _) (wpAny_newObj_type (wpAny_pure ⟨_, rfl, wpAny_pure h⟩) ok)
    | exact wpAny_bind (wpAny_bind (m := Builtin.Tuple.tupleExact _) (wpAny_newObj_type (wpAny_pure (wpAny_pure ⟨_, rfl, wpAny_pure h⟩)) ok))
    | exact wpAny_bind (m := Builtin.Tuple.tupleExact _) (wpAny_newObj_type (wpAny_bind (wpAny_pure (wpAny_pure ⟨_, rfl, wpAny_pure h⟩))) ok)
end
section
variable {X : Cx}
def tRevT (K : PySem.W.Frag) (te : TE) : TE := fun σ H Q => te σ H fun x H1 => ∃ a xs, x = .ref a ∧ SqT K H1 a xs ∧ ∀ p, H1 p = none → Q (.ref p) (upd H1 p (.tup xs.reverse))
theorem pe_revT {e : Expr} {te : TE} {k : Nat} {p1 p2 p3 pos : Pos} (he : PE X e te) : PE X (.Subscript e (.Slice none none (some (.UnaryOp .USub (.Constant (.int 1) k p1) p2)) p3) pos) (tRevT X.K te) := by
  refine ⟨fun pins s σ H Q I h => Subscript_ (thn (he.run pins s σ H _ I h) fun v s1 ⟨x, H1, I1, r1, a, xs, ex, hx, q⟩ => ?_)⟩
  subst ex
  cases r1
  have hst : PO X (some (.UnaryOp .USub (.Constant (.int 1) k p1) p2)) (tPart (tUn (rU fun i => .int (-i)) (tC (.int 1)))) := po_some (pe_un un_neg pe_int)
  refine wpAny_Slice (thn (po_none.run pins s1 σ H1 (fun o G => o = none ∧ G = H1) I1 ⟨rfl, rfl⟩) fun va s2 ⟨l, H2, I2, pa, el, e2⟩ => ?_)
  subst el e2
  refine thn (po_none.run pins s2 σ H2 (fun o G => o = none ∧ G = H2) I2 ⟨rfl, rfl⟩) fun vb s3 ⟨u, H3, I3, pb, eu, e3⟩ => ?_
  subst eu e3
  refine thn (hst.run pins s3 σ H3 (fun o G => o = some (-1) ∧ G = H3) I3 ⟨1, rfl, -1, rfl, rfl, rfl⟩) fun vc s4 ⟨o, H4, I4, pc, eo, e4⟩ => ?_
  subst eo e4
  have I5 : Inv X pins σ H4 { s4 with heap := s4.heap.push { cls := .type "slice", data := .fields #[va, vb, vc] } } := I4.kept (t' := s4.toks) fun b ob z => Heap.get?_push_of_some _ z
  obtain ⟨its, r, ht, hz⟩ := I5.tuple hx
  have hl := r.length
  show wpAny (model X.prog X.w) X.A (subscriptTail e (.Slice none none (some (.UnaryOp .USub (.Constant (.int 1) k p1) p2)) p3) (.ref a) (.ref s4.heap.objs.size)) (EP X pins σ Q) X.xe { s4 with heap := s4.heap.push { cls := .type "slice", data := .fields #[va, vb, vc] } }
  refine tail_any (ops := [.ref a, .ref s4.heap.objs.size]) ht.typeIs (PyProof.Rows.slot_tuple_getitem.lookup) ?_ (by with_unfolding_all rfl)
  refine getItem_back ht (Heap.IsSliceOf.new _ va vb vc) pa pb pc ?_ (by rw [List.size_toArray]; omega)
  refine ⟨.ref _, _, I5.laid (t' := s4.toks) (o := .tup xs.reverse) (fun b ob z => Heap.get?_push_of_some _ z) (Nat.le_refl _) ?_, rfl, q _ (I5.hok.fresh (Nat.le_refl _))⟩
  exact ⟨by rw [List.length_reverse]; exact hz, _, r.reverse, IsTup.new _ _⟩
end
end Jg
namespace Jg
open PySem PySem.Spec PyProof.Rows L2
abbrev sDeck : Stmt := topS 14
abbrev sDraw : Stmt := topS 15
abbrev sOne : Stmt := topS 16
abbrev nDeck : List Str := ["_law_script", "_law_cells", "_law_cell"]
abbrev nDraw : List Str := ["_law_deck_here", "_law_many", "_law_rest", "_law_cell", "_law_mixed_here"]
abbrev nOne : List Str := ["_law_deck_here", "_law_items"]
theorem scDeck : FnScope nDeck ["_law_script"] (defScope sDeck) := ⟨rfl, rfl, rfl, by decide +kernel, rfl, by decide +kernel, by decide +kernel⟩
theorem scDraw : FnScope nDraw ["_law_deck_here", "_law_many"] (defScope sDraw) := ⟨rfl, rfl, rfl, by decide +kernel, rfl, by decide +kernel, by decide +kernel⟩
theorem scOne : FnScope nOne ["_law_deck_here", "_law_items"] (defScope sOne) := ⟨rfl, rfl, rfl, by decide +kernel, rfl, by decide +kernel, by decide +kernel⟩
/-! ### data of ints -/
theorem lay_ints : ∀ ns : List Int, PyData.canLayAll0 (ns.map PyData.int) = true
  | [] => by simp [PyData.canLayAll0]
  | n :: ns => by simp [PyData.canLayAll0, PyData.canLay0, lay_ints ns]
theorem dep_ints : ∀ ns : List Int, PyData.depthAll (ns.map PyData.int) ≤ 1
  | [] => by simp [PyData.depthAll]
  | n :: ns => by
    have h := dep_ints ns
    simp only [List.map_cons, PyData.depthAll, PyData.depth]
    omega
theorem shaped_ints (ns : List Int) : SeqAt.shaped (.list (ns.map PyData.int)) = true := by
  have h1 := dep_ints ns
  have h2 : PyData.depth (.list (ns.map PyData.int)) ≤ 64 := by
    simp only [PyData.depth]
    omega
  show (PyData.canLay0 (.list (ns.map PyData.int)) && decide (PyData.depth (.list (ns.map PyData.int)) ≤ 64)) = true
  rw [Bool.and_eq_true]
  exact ⟨by simp only [PyData.canLay0]; exact lay_ints ns, decide_eq_true h2⟩
theorem dp_ints {K : PySem.W.Frag} {H : Hp} : ∀ ns : List Int, DpAll K H (ns.map V.int) (ns.map PyData.int)
  | [] => .nil
  | n :: ns => .cons (.int n) (dp_ints ns)
/-! ### the deck -/
/-- the deck at D: its great cells at B, its cells at C, a count -/
structure DeckAt (D B C : Addr) (cells : List Int) (H : Hp) : Prop where
  db : D ≠ B
  dc : D ≠ C
  bc : B ≠ C
  ne : cells ≠ []
  len : cells.length ≤ 64
  top : ∃ n : Int, H D = some (.lst [.ref B, .ref C, .int n])
  big : ∃ bigs : List Int, bigs.length ≤ 63 ∧ H B = some (.lst (bigs.map V.int))
  cel : H C = some (.lst (cells.map V.int))
theorem Fr.refl (D B : Addr) (H : Hp) : Fr D B H H := fun _ _ _ _ h => h
theorem Fr.trans {D B : Addr} {H H1 H2 : Hp} (a : Fr D B H H1) (b : Fr D B H1 H2) : Fr D B H H2 := fun c o h1 h2 h => b c o h1 h2 (a c o h1 h2 h)
theorem Fr.of_same {D B : Addr} {H H' : Hp} (s : Same H H') : Fr D B H H' := fun b o _ _ h => s b o h
theorem same_upd {H : Hp} {p : Addr} {o : HO} (h : H p = none) : Same H (upd H p o) := fun b x e => by
  rw [upd_ne (ne_of_none e h)]
  exact e
theorem DeckAt.same {D B C : Addr} {cells : List Int} {H H' : Hp} (d : DeckAt D B C cells H) (s : Same H H') : DeckAt D B C cells H' := by
  obtain ⟨n, hn⟩ := d.top
  obtain ⟨bs, hl, hb⟩ := d.big
  exact ⟨d.db, d.dc, d.bc, d.ne, d.len, ⟨n, s _ _ hn⟩, ⟨bs, hl, s _ _ hb⟩, s _ _ d.cel⟩
def spDraw : Sp := fun vs H Q _ => ∃ (D B C : Addr) (cells : List Int) (m : Int), vs = [.ref D, .int m] ∧ DeckAt D B C cells H ∧ 0 < m ∧ m < 1073741824 ∧
  ∀ (i : Int) (H' : Hp), 0 ≤ i → i < m → DeckAt D B C cells H' → Fr D B H H' → Q (.int i) H'
section
variable {P : Program} {w : World} {K : PySem.W.Frag} {mg : Str → Option Value} {base : Heap}
theorem ok_draw {f : Addr} {fd : FuncData} (F : Fun K "_law_draw" "_law_draw" sDraw f fd) (mi : mg "int" = none) (ml : mg "len" = none) : FnOk P w K mg base CX0 1 f fd ["_law_deck_here", "_law_many"] spDraw := by
  refine F.ok scDraw (fun vs H Q E h => ?_) (fun cdv A outer s H vs Q E hr h => ?_)
  · obtain ⟨D, B, C, cells, m, rfl, _⟩ := h
    rfl
  · obtain ⟨D, B, C, cells, m, rfl, dk, hm0, hm1, q⟩ := h
    have hu := hr.units
    refine ⟨_, pss_cons (ps_if (pt_cmpR (op_neD hu) (pe_ix ix_list (pv 0) pe_int (fun _ _ => rfl)) (pe_lst pa_nil) (nomark _))
        (pss_cons (ps_set (i := 2) scDraw.nd rfl (.inl rfl) (pe_ix ix_list (pe_ix ix_list (pv 0) pe_int (fun _ _ => rfl)) pe_int (fun _ _ => rfl)))
        (pss_cons (ps_asg (pe_op op_fdiv (pv 2) (pv 1)) (pg_sub (pe_ix ix_list (pv 0) pe_int (fun _ _ => rfl)) pe_int set_list))
        (pss_cons (ps_if (pt_cmpR op_eq (pe_ix ix_list (pe_ix ix_list (pv 0) pe_int (fun _ _ => rfl)) pe_int (fun _ _ => rfl)) pe_int (nomark _))
          (pss_one (ps_expr (pe_bm PySem.F.plainAttrs_list PySem.F.slot_list_pop PySem.F.type_list_pop mt_popAt (pe_ix ix_list (pv 0) pe_int (fun _ _ => rfl)) (pa_cons pe_int pa_nil)))) pss_nil)
        (pss_one (ps_ret (pe_op op_mod (pe_callTy call_int1 (by rfl) mi PyProof.Rows.boot_int (pa_cons (pv 2) pa_nil)) (pv 1))))))) pss_nil)
      (pss_cons (ps_asg (pe_op op_add (pe_ix ix_list (pv 0) pe_int (fun _ _ => rfl)) pe_int) (pg_sub (pv 0) pe_int set_list))
      (pss_cons (ps_set (i := 3) scDraw.nd rfl (.inl rfl) (pe_ix ix_list (pe_ix ix_list (pv 0) pe_int (fun _ _ => rfl)) (pe_op op_mod (pe_callTy call_int1 (by rfl) mi PyProof.Rows.boot_int (pa_cons (pe_ix ix_list (pv 0) pe_int (fun _ _ => rfl)) pa_nil)) (pe_callB call_len_seq (by rfl) ml PySem.boot_len (pa_cons (pe_ix ix_list (pv 0) pe_int (fun _ _ => rfl)) pa_nil))) (fun _ _ => rfl)))
      (pss_cons (ps_set (i := 4) scDraw.nd rfl (.inl rfl) (pe_op op_mod (pe_callTy call_int1 (by rfl) mi PyProof.Rows.boot_int (pa_cons (pe_op op_add (pe_op op_mod (pe_callTy call_int1 (by rfl) mi PyProof.Rows.boot_int (pa_cons (pv 3) pa_nil)) pe_int) (pe_op op_mul pe_int (pe_ix ix_list (pv 0) pe_int (fun _ _ => rfl)))) pa_nil)) pe_int))
      (pss_cons (ps_set (i := 4) scDraw.nd rfl (.inl rfl) (pe_op op_mod (pe_callTy call_int1 (by rfl) mi PyProof.Rows.boot_int (pa_cons (pe_op op_add (pe_op op_mul (pv 4) (pv 4)) (pe_op op_mul pe_int (pe_ix ix_list (pv 0) pe_int (fun _ _ => rfl)))) pa_nil)) pe_int))
      (pss_one (ps_ret (pe_op op_mod (pe_op op_fdiv (pe_op op_mod (pe_callTy call_int1 (by rfl) mi PyProof.Rows.boot_int (pa_cons (pe_op op_mul (pv 4) (pv 4)) pa_nil)) pe_int) pe_int) (pv 1)))))))), ?_⟩
    obtain ⟨n, hD⟩ := dk.top
    obtain ⟨bigs, hbl, hB⟩ := dk.big
    have hC := dk.cel
    -- if deck[0] != []
    refine ⟨.ref D, rfl, D, _, 0, .ref B, rfl, rfl, SqL.of hD, atI_nat (j := 0) rfl, Nat.zero_le _, fun e ne => ?_⟩
    have s1 : Same H (upd H e (.lst [])) := same_upd ne
    have hD1 := s1 _ _ hD
    have hB1 := s1 _ _ hB
    have hC1 := s1 _ _ hC
    refine ⟨.list (bigs.map PyData.int), .list [], .lst (SqL.of hB1) (dp_ints bigs), .lst (SqL.of upd_same) .nil, shaped_ints bigs, shaped_ints [], _, rfl, ?_⟩
    cases bigs with
    | cons b0 bs =>
      refine iteT ?_
      -- rest = deck[0][0]
      refine ⟨.ref D, rfl, D, _, 0, .ref B, rfl, rfl, SqL.of hD1, atI_nat (j := 0) rfl, B, _, 0, .int b0, rfl, rfl, SqL.of hB1, atI_nat (j := 0) rfl, ?_⟩
      -- deck[0][0] = rest // many
      refine ⟨.int b0, rfl, .int m, rfl, _, _, rfl, rfl, ⟨hm0, hm1⟩, .ref D, rfl, D, _, 0, .ref B, rfl, rfl, SqL.of hD1, atI_nat (j := 0) rfl, B, _, 0, 0, rfl, rfl, hB1, by simp [ixN], ?_⟩
      have hB2 : (upd (upd H e (.lst [])) B (.lst (List.set ((b0 :: bs).map V.int) 0 (.int (b0 / m))))) B = some (.lst ((b0 / m :: bs).map V.int)) := upd_same
      have hD2 : (upd (upd H e (.lst [])) B (.lst (List.set ((b0 :: bs).map V.int) 0 (.int (b0 / m))))) D = some (.lst [.ref B, .ref C, .int n]) := by
        rw [upd_ne dk.db]
        exact hD1
      have hC2 : (upd (upd H e (.lst [])) B (.lst (List.set ((b0 :: bs).map V.int) 0 (.int (b0 / m))))) C = some (.lst (cells.map V.int)) := by
        rw [upd_ne dk.bc.symm]
        exact hC1
      have f2 : Fr D B H (upd (upd H e (.lst [])) B (.lst (List.set ((b0 :: bs).map V.int) 0 (.int (b0 / m))))) := fun b o h1 h2 h => by
        rw [upd_ne h2]
        exact s1 _ _ h
      have q0 : (0 : Int) ≤ b0 % m := Int.emod_nonneg _ (by omega)
      have q1 : b0 % m < m := Int.emod_lt_of_pos _ hm0
      generalize (upd (upd H e (.lst [])) B (.lst (List.set ((b0 :: bs).map V.int) 0 (.int (b0 / m))))) = H2 at hB2 hD2 hC2 f2 ⊢
      -- if deck[0][0] == 0
      refine ⟨.ref D, rfl, D, _, 0, .ref B, rfl, rfl, SqL.of hD2, atI_nat (j := 0) rfl, B, _, 0, .int (b0 / m), rfl, rfl, SqL.of hB2, atI_nat (j := 0) rfl, rfl, _, rfl, ite2 (fun _ => ?_) (fun _ => ?_)⟩
      · refine ⟨.ref D, rfl, D, _, 0, .ref B, rfl, rfl, SqL.of hD2, atI_nat (j := 0) rfl, .inl ⟨rfl, _, SqL.of hB2⟩, B, _, 0, 0, .int (b0 / m), rfl, rfl, hB2, by decide, by decide, by simp [seqIndex?], rfl, ?_⟩
        refine ⟨.int b0, rfl, .inl ⟨b0, rfl, .int m, rfl, _, _, rfl, rfl, hm0, q _ _ q0 q1 ⟨dk.db, dk.dc, dk.bc, dk.ne, dk.len, ⟨n, ?_⟩, ⟨bs, ?_, upd_same⟩, ?_⟩ fun b o h1 h2 h => ?_⟩⟩
        · rw [upd_ne dk.db]
          exact hD2
        · simp only [List.length_cons] at hbl
          omega
        · rw [upd_ne dk.bc.symm]
          exact hC2
        · rw [upd_ne h2]
          exact f2 b o h1 h2 h
      · exact ⟨.int b0, rfl, .inl ⟨b0, rfl, .int m, rfl, _, _, rfl, rfl, hm0, q _ _ q0 q1 ⟨dk.db, dk.dc, dk.bc, dk.ne, dk.len, ⟨n, hD2⟩, ⟨b0 / m :: bs, hbl, hB2⟩, hC2⟩ f2⟩⟩
    | nil =>
      refine iteF ?_
      -- deck[2] = deck[2] + 1
      refine ⟨.ref D, rfl, D, _, 2, .int n, rfl, rfl, SqL.of hD1, atI_nat (j := 2) rfl, _, _, rfl, rfl, .ref D, rfl, D, _, 2, 2, rfl, rfl, hD1, rfl, ?_⟩
      have hD2 : (upd (upd H e (.lst [])) D (.lst (List.set [.ref B, .ref C, .int n] 2 (.int (n + 1))))) D = some (.lst [.ref B, .ref C, .int (n + 1)]) := upd_same
      have hB2 : (upd (upd H e (.lst [])) D (.lst (List.set [.ref B, .ref C, .int n] 2 (.int (n + 1))))) B = some (.lst []) := by
        rw [upd_ne dk.db.symm]
        exact hB1
      have hC2 : (upd (upd H e (.lst [])) D (.lst (List.set [.ref B, .ref C, .int n] 2 (.int (n + 1))))) C = some (.lst (cells.map V.int)) := by
        rw [upd_ne dk.dc.symm]
        exact hC1
      have f2 : Fr D B H (upd (upd H e (.lst [])) D (.lst (List.set [.ref B, .ref C, .int n] 2 (.int (n + 1))))) := fun b o h1 h2 h => by
        rw [upd_ne h1]
        exact s1 _ _ h
      generalize (upd (upd H e (.lst [])) D (.lst (List.set [.ref B, .ref C, .int n] 2 (.int (n + 1))))) = H2 at hB2 hD2 hC2 f2 ⊢
      have dk2 : DeckAt D B C cells H2 := ⟨dk.db, dk.dc, dk.bc, dk.ne, dk.len, ⟨_, hD2⟩, ⟨[], by decide, hB2⟩, hC2⟩
      -- cell = deck[1][deck[2] % len(deck[1])]
      have hl0 : 0 < cells.length := List.length_pos_iff.mpr dk.ne
      have hlm : (((cells.map V.int).length : Nat) : Int) = (cells.length : Int) := by rw [List.length_map]
      have i0 : 0 ≤ (n + 1) % (cells.length : Int) := Int.emod_nonneg _ (by omega)
      have i1 : (n + 1) % (cells.length : Int) < (cells.length : Int) := Int.emod_lt_of_pos _ (by omega)
      obtain ⟨j, hj⟩ : ∃ j : Nat, (n + 1) % (cells.length : Int) = (j : Int) := ⟨((n + 1) % (cells.length : Int)).toNat, by omega⟩
      have hjl : j < cells.length := by omega
      have hget : (cells.map V.int)[j]? = some (.int cells[j]) := by
        rw [List.getElem?_map, List.getElem?_eq_getElem hjl]
        rfl
      have hix : atI (cells.map V.int) ((n + 1) % (((cells.map V.int).length : Nat) : Int)) = some (.int cells[j]) := by
        rw [hlm, hj]
        exact atI_nat hget
      refine ⟨.ref D, rfl, D, _, 1, .ref C, rfl, rfl, SqL.of hD2, atI_nat (j := 1) rfl, .ref D, rfl, D, _, 2, .int (n + 1), rfl, rfl, SqL.of hD2, atI_nat (j := 2) rfl, .inl ⟨n + 1, rfl, .ref D, rfl, D, _, 1, .ref C, rfl, rfl, SqL.of hD2, atI_nat (j := 1) rfl, C, _, rfl, .inl (SqL.of hC2), _, _, rfl, rfl, by rw [hlm]; omega, C, _, _, .int cells[j], rfl, rfl, SqL.of hC2, hix, ?_⟩⟩
      -- mixed
      refine ⟨.int cells[j], rfl, .inl ⟨cells[j], rfl, _, _, rfl, rfl, (by show (0 : Int) < 4294966297; decide), .ref D, rfl, D, _, 2, .int (n + 1), rfl, rfl, SqL.of hD2, atI_nat (j := 2) rfl, _, _, rfl, rfl, .inl ⟨by decide, by decide⟩, _, _, rfl, rfl, .inl ⟨_, rfl, _, _, rfl, rfl, (by show (0 : Int) < 4294966297; decide), ?_⟩⟩⟩
      have x0 : 0 ≤ (cells[j] % 4294966297 + 1640531527 * (n + 1)) % 4294966297 := Int.emod_nonneg _ (by decide)
      have x1 : (cells[j] % 4294966297 + 1640531527 * (n + 1)) % 4294966297 < 4294966297 := Int.emod_lt_of_pos _ (by decide)
      refine ⟨_, rfl, _, rfl, _, _, rfl, rfl, .inl ⟨Int.lt_of_lt_of_le (by decide) x0, Int.lt_trans x1 (by decide)⟩, .ref D, rfl, D, _, 2, .int (n + 1), rfl, rfl, SqL.of hD2, atI_nat (j := 2) rfl, _, _, rfl, rfl, .inl ⟨by decide, by decide⟩, _, _, rfl, rfl, .inl ⟨_, rfl, _, _, rfl, rfl, (by show (0 : Int) < 4294966237; decide), ?_⟩⟩
      have y0 : 0 ≤ ((cells[j] % 4294966297 + 1640531527 * (n + 1)) % 4294966297 * ((cells[j] % 4294966297 + 1640531527 * (n + 1)) % 4294966297) + 122949823 * (n + 1)) % 4294966237 := Int.emod_nonneg _ (by decide)
      have y1 : ((cells[j] % 4294966297 + 1640531527 * (n + 1)) % 4294966297 * ((cells[j] % 4294966297 + 1640531527 * (n + 1)) % 4294966297) + 122949823 * (n + 1)) % 4294966237 < 4294966237 := Int.emod_lt_of_pos _ (by decide)
      refine ⟨_, rfl, _, rfl, _, _, rfl, rfl, .inl ⟨Int.lt_of_lt_of_le (by decide) y0, Int.lt_trans y1 (by decide)⟩, .inl ⟨_, rfl, _, _, rfl, rfl, (by show (0 : Int) < 4294966187; decide), _, _, rfl, rfl, ⟨by decide, by decide⟩, .int m, rfl, _, _, rfl, rfl, hm0, q _ _ (Int.emod_nonneg _ (by omega)) (Int.emod_lt_of_pos _ hm0) dk2 f2⟩⟩
theorem sz1 {α : Type} {l : List α} (h : Nat.ble l.length 1000 = true) : l.length ≤ sizeLine := Nat.le_of_lt (small1000 (Nat.le_of_ble_eq_true h))
theorem tYes_if {σ : L2.St} {H : Hp} {T E : Hp → Prop} (h : T H) : tYes σ H (fun b H1 => if b = true then T H1 else E H1) := by
  show (if true = true then T H else E H)
  rw [if_pos rfl]
  exact h
def absI (i : Int) : Int := if i < 0 then -i else i
/-- law: the deck is made -/
def spDeck (K : PySem.W.Frag) : Sp := fun vs H Q _ => ∃ (a : Addr) (ns : List Int), vs = [.ref a] ∧ SqL K H a (ns.map V.int) ∧ ns.length ≤ 63 ∧
  ∀ (H' : Hp) (D B C : Addr) (cells : List Int), Same H H' → H D = none → H B = none → H C = none → DeckAt D B C cells H' → Q (.ref D) H'
theorem cut_ints (ns : List Int) (lo hi : Option Int) : ∃ ms : List Int, cutV (ns.map V.int) lo hi = ms.map V.int ∧ ms.length ≤ ns.length := by
  unfold cutV
  refine ⟨(ns.drop _).take _, by rw [List.map_take, List.map_drop], ?_⟩
  rw [List.length_take, List.length_drop]
  omega
theorem ok_deck {f : Addr} {fd : FuncData} (F : Fun K "_law_deck" "_law_deck" sDeck f fd) (ma : mg "abs" = none) (ml : mg "len" = none) : FnOk P w K mg base CX0 1 f fd ["_law_script"] (spDeck K) := by
  refine F.ok scDeck (fun vs H Q E h => ?_) (fun cdv A outer s H vs Q E hr h => ?_)
  · obtain ⟨a, ns, rfl, _⟩ := h
    rfl
  · obtain ⟨a, ns, rfl, hS, hn, q⟩ := h
    refine ⟨_, pss_cons (ps_setLc (i := 1) (own := [("_law_cell", 2)]) (g := gName 2) (tt := tYes) rfl scDeck.nd rfl rfl (sw_true rfl rfl rfl (by decide +kernel)) (pi_list (pe_slice sl_list (pv 0) po_none (po_some pe_int))) (blkOk_by (N := nDeck) (sc := defScope sDeck) (by decide +kernel))
        (fun _ _ _ _ _ => pg_name (i := 2) scDeck.nd rfl (.inl rfl)) (fun _ _ _ _ _ => pts_nil) (fun _ _ _ _ _ => pe_callB call_abs (by rfl) ma PyProof.Rows.boot_abs (pa_cons (pv 2) pa_nil)))
      (pss_one (ps_ret (pe_lst (pa_cons (pe_lc (own := [("_law_cell", 2)]) (g := gName 2) rfl scDeck.nd (pi_list (pv 1)) (blkOk_by (N := nDeck) (sc := defScope sDeck) (by decide +kernel))
          (fun _ _ _ _ _ => pg_name (i := 2) scDeck.nd rfl (.inl rfl)) (fun _ _ _ _ _ => pts_one (pt_cmpR op_ge (pv 2) (pe_op op_pow pe_int pe_int) (nomark _))) (fun _ _ _ _ _ => pv 2))
        (pa_cons (pe_op op_cat (pv 1) (pe_lst (pa_cons (pe_op op_add pe_int (pe_callB call_len_seq (by rfl) ml PySem.boot_len (pa_cons (pv 1) pa_nil))) pa_nil)))
        (pa_cons pe_int pa_nil)))))), ?_⟩
    obtain ⟨ms, hms, hml⟩ := cut_ints ns none (some 63)
    refine ⟨.ref a, rfl, 63, rfl, a, ns.map V.int, rfl, hS, fun c nc => ⟨c, rfl, ⟨_, SqL.of upd_same⟩, fun D1 nD1 => ?_⟩⟩
    rw [hms] at nD1 ⊢
    have s1 : Same H (upd H c (.lst (ms.map V.int))) := same_upd nc
    have s2 : Same (upd H c (.lst (ms.map V.int))) (upd (upd H c (.lst (ms.map V.int))) D1 (.lst [])) := same_upd nD1
    have nD1' : H D1 = none := s1.free nD1
    have nDc : D1 ≠ c := fun e => by
      rw [e, upd_same] at nD1
      cases nD1
    refine lc_list (K := K) (a := c) (xs := ms.map V.int) (fun i H3 => H3 D1 = some (.lst (((ms.take i).map absI).map V.int)) ∧ H3 c = some (.lst (ms.map V.int)) ∧ Same H H3) ⟨upd_same, ?_, s1.trans s2⟩ (fun i H3 _ h => SqL.of h.2.1) ?_ ?_
    · rw [upd_ne nDc.symm]
      exact upd_same
    · rintro i x H3 hi ⟨e1, e2, e3⟩
      have hil : i < ms.length := by
        have := (List.getElem?_eq_some_iff.mp hi).1
        rw [List.length_map] at this
        exact this
      have ex : x = .int ms[i] := by
        rw [List.getElem?_map, List.getElem?_eq_getElem hil] at hi
        exact (Option.some.inj hi).symm
      subst ex
      refine ⟨rfl, tYes_if ?_⟩
      refine ⟨_, rfl, ms[i], rfl, _, e1, ?_, ?_, ?_, ?_⟩
      · simp only [List.length_map, List.length_take]
        exact Nat.lt_of_le_of_lt (Nat.min_le_left _ _) (small1000 (by omega))
      · rw [upd_same, List.take_add_one, List.getElem?_eq_getElem hil, List.map_append, List.map_append]
        rfl
      · rw [upd_ne nDc.symm]
        exact e2
      · intro b o hb
        rw [upd_ne (ne_of_none hb nD1')]
        exact e3 b o hb
    · rintro H3 ⟨e1, e2, e3⟩
      rw [List.length_map, List.take_length] at e1
      refine ⟨_, rfl, D1, rfl, ⟨_, SqL.of e1⟩, fun D2 nD2 => ?_⟩
      have nDD : D2 ≠ D1 := fun e => by
        rw [e, e1] at nD2
        cases nD2
      have sB : Same H3 (upd H3 D2 (.lst [])) := same_upd nD2
      refine lc_list (K := K) (a := D1) (xs := (ms.map absI).map V.int) (fun i H4 => ∃ bs : List Int, bs.length ≤ i ∧ H4 D2 = some (.lst (bs.map V.int)) ∧ H4 D1 = some (.lst ((ms.map absI).map V.int)) ∧ Same H3 H4) ⟨[], Nat.le_refl _, upd_same, ?_, sB⟩ (fun i H3 _ ⟨_, _, _, h, _⟩ => SqL.of h) ?_ ?_
      · rw [upd_ne nDD.symm]
        exact e1
      · rintro i x H4 hi ⟨bs, hb, g1, g2, g3⟩
        obtain ⟨z, rfl⟩ : ∃ z, x = V.int z := by
          rw [List.getElem?_map] at hi
          cases e : (ms.map absI)[i]? with
          | none =>
            rw [e] at hi
            cases hi
          | some z =>
            rw [e] at hi
            exact ⟨z, (Option.some.inj hi).symm⟩
        have hil : i < (ms.map absI).length := by
          have := (List.getElem?_eq_some_iff.mp hi).1
          rw [List.length_map] at this
          exact this
        rw [List.length_map] at hil
        refine ⟨rfl, .int z, rfl, _, _, rfl, rfl, ⟨by decide, by decide, by decide⟩, _, _, rfl, rfl, _, rfl, ite2 (fun _ => ?_) (fun _ => ?_)⟩
        · refine ⟨_, rfl, _, g1, ?_, bs ++ [z], ?_, ?_, ?_, ?_⟩
          · rw [List.length_map]
            exact small1000 (by omega)
          · rw [List.length_append]
            show bs.length + 1 ≤ i + 1
            omega
          · rw [upd_same, List.map_append]
            rfl
          · rw [upd_ne nDD.symm]
            exact g2
          · intro b o hb
            rw [upd_ne (ne_of_none hb nD2)]
            exact g3 b o hb
        · exact ⟨bs, by omega, g1, g2, g3⟩
      · rintro H4 ⟨bs, hb, g1, g2, g3⟩
        rw [List.length_map, List.length_map] at hb
        refine ⟨_, rfl, _, rfl, D1, _, rfl, .inl (SqL.of g2), _, _, rfl, rfl, sz1 rfl, fun e ne => ?_⟩
        have s4 : Same H4 (upd H4 e (.lst [.int (11246 + (((ms.map absI).map V.int).length : Nat))])) := same_upd ne
        refine ⟨D1, e, _, _, rfl, rfl, s4 _ _ g2, upd_same, ?_, fun C nC => ?_⟩
        · rw [List.length_map, List.length_map]
          exact Nat.le_of_lt (small1000 (by simp only [List.length_singleton]; omega))
        refine ⟨sz1 rfl, fun D nD => ?_⟩
        have s5 := same_upd (o := .lst ((ms.map absI).map V.int ++ [.int (11246 + (((ms.map absI).map V.int).length : Nat))])) nC
        have s6 := same_upd (o := .lst [.ref D2, .ref C, .int 0]) nD
        have sE : Same H _ := e3.trans (g3.trans (s4.trans (s5.trans s6)))
        have n4 : H4 D = none := s4.free (s5.free nD)
        have n4C : H4 C = none := s4.free nC
        have hD2 : D2 ≠ D := ne_of_none g1 n4
        have hD2C : D2 ≠ C := ne_of_none g1 n4C
        have hDC : D ≠ C := fun z => by
          rw [z, upd_same] at nD
          cases nD
        refine q _ D D2 C ((ms.map absI) ++ [(11246 : Int) + ((((ms.map absI).map V.int).length : Nat) : Int)]) sE (e3.free (g3.free n4)) (e3.free nD2) (e3.free (g3.free n4C)) ⟨hD2.symm, hDC, hD2C, by simp, ?_, ⟨0, upd_same⟩, ⟨bs, by omega, s6 _ _ (s5 _ _ (s4 _ _ g1))⟩, ?_⟩
        · rw [List.length_append, List.length_map]
          show ms.length + 1 ≤ 64
          omega
        · rw [upd_ne hDC.symm, upd_same, List.map_append]
          rfl

theorem DeckAt.isD {D B C : Addr} {cells : List Int} {H : Hp} (d : DeckAt D B C cells H) : ∃ xs, H D = some (.lst xs) := by
  obtain ⟨n, hn⟩ := d.top
  exact ⟨_, hn⟩
theorem DeckAt.isB {D B C : Addr} {cells : List Int} {H : Hp} (d : DeckAt D B C cells H) : ∃ xs, H B = some (.lst xs) := by
  obtain ⟨bs, _, hb⟩ := d.big
  exact ⟨_, hb⟩
theorem DeckAt.data {D B C : Addr} {cells : List Int} {H H' : Hp} {v : V} {d : PyData} (k : DeckAt D B C cells H) (f : Fr D B H H') (h : Dq D B H v d) : Dq D B H' v d := Dq.keep k.isD k.isB f d v h
theorem DeckAt.dataAll {D B C : Addr} {cells : List Int} {H H' : Hp} {v : List V} {d : List PyData} (k : DeckAt D B C cells H) (f : Fr D B H H') (h : DqAll D B H v d) : DqAll D B H' v d := DqAll.keep k.isD k.isB f d v h
/-- one of the items of a list that is not the deck's -/
def spOne : Sp := fun vs H Q _ => ∃ (D B C : Addr) (cells : List Int) (L : Addr) (xs : List V), vs = [.ref D, .ref L] ∧ DeckAt D B C cells H ∧ H L = some (.lst xs) ∧ L ≠ D ∧ L ≠ B ∧ 0 < xs.length ∧ xs.length < 1073741824 ∧
  ∀ (i : Nat) (v : V) (H' : Hp), xs[i]? = some v → DeckAt D B C cells H' → Fr D B H H' → Q v H'
theorem ok_one {f fd' : Addr} {fd fdD : FuncData} (F : Fun K "_law_one" "_law_one" sOne f fd) (FD : Fun K "_law_draw" "_law_draw" sDraw fd' fdD) (bD : Binds K fdD ["_law_deck_here", "_law_many"] []) (gD : mg "_law_draw" = some (.ref fd')) (mi : mg "int" = none) (ml : mg "len" = none) :
    FnOk P w K mg base CX0 2 f fd ["_law_deck_here", "_law_items"] spOne := by
  have GD : FnOk P w K mg base CX0 1 fd' fdD ["_law_deck_here", "_law_many"] spDraw := ok_draw FD mi ml
  refine F.ok scOne (fun vs H Q E h => ?_) (fun cdv A outer s H vs Q E hr h => ?_)
  · obtain ⟨D, B, C, cells, L, xs, rfl, _⟩ := h
    rfl
  · obtain ⟨D, B, C, cells, L, xs, rfl, dk, hL, nD, nB, h0, h1, q⟩ := h
    refine ⟨_, pss_one (ps_ret (pe_ix ix_list (pv 1) (pe_call GD hr (by rfl) gD FD.kp bD .nil pass0 (pa_cons (pv 0) (pa_cons (pe_callB call_len_seq (by rfl) ml PySem.boot_len (pa_cons (pv 1) pa_nil)) pa_nil))) (fun _ _ => rfl))), ?_⟩
    refine ⟨_, rfl, _, rfl, _, rfl, L, xs, rfl, .inl (SqL.of hL), D, B, C, cells, _, rfl, dk, by omega, by omega, fun i H' i0 i1 dk' f' => ?_⟩
    have hL' := f' _ _ nD nB hL
    obtain ⟨j, rfl⟩ : ∃ j : Nat, i = (j : Int) := ⟨i.toNat, by omega⟩
    have hj : j < xs.length := by omega
    have hg : xs[j]? = some xs[j] := List.getElem?_eq_getElem hj
    exact ⟨L, xs, _, _, rfl, rfl, SqL.of hL', atI_nat hg, q j _ H' hg dk' f'⟩
end
end Jg
namespace Jg
open PySem PySem.Spec PyProof.Rows L2
/-! ### looks at data -/
def tyN : PyData → String
  | .none => "NoneType" | .bool _ => "bool" | .int _ => "int" | .str _ => "str" | .list _ => "list" | .tuple _ => "tuple" | .dict _ => "dict"
def isIB : PyData → Bool
  | .int _ => true | .bool _ => true | _ => false
def isBo : PyData → Bool
  | .bool _ => true | _ => false
def isIn : PyData → Bool
  | .int _ => true | _ => false
def isTu : PyData → Bool
  | .tuple _ => true | _ => false
def within (lo hi : Int) : PyData → Bool
  | .int i => decide (lo ≤ i) && decide (i ≤ hi) | _ => false
def tupOf (n : Int) : PyData → Bool
  | .tuple ds => decide ((ds.length : Int) = n) | _ => false
abbrev M20 : Int := 10 ^ 20
theorem Dq.ty {K : PySem.W.Frag} {D B : Addr} {H : Hp} {v : V} {d : PyData} (h : Dq D B H v d) : TyX K H v (.type (tyN d)) := by
  cases h with
  | non => exact .base .non
  | bl b => exact .base (.bl b)
  | int i => exact .base (.int i)
  | str x => exact .base (.str x)
  | lst _ _ e _ => exact .base (.lst e)
  | tup e _ => exact .base (.tup e)
  | dct e => exact .base (.dK e)
theorem kInt {K : PySem.W.Frag} : ∀ d : PyData, PySem.W.kitOne K (.type (tyN d)) (.type "int") = some (isIB d)
  | .none => kit_ty (a := "NoneType") (by show kitB "NoneType" "int" = some false; decide +kernel)
  | .bool _ => kit_ty (a := "bool") (by show kitB "bool" "int" = some true; decide +kernel)
  | .int _ => kit_ty (a := "int") (by show kitB "int" "int" = some true; decide +kernel)
  | .str _ => kit_ty (a := "str") (by show kitB "str" "int" = some false; decide +kernel)
  | .list _ => kit_ty (a := "list") (by show kitB "list" "int" = some false; decide +kernel)
  | .tuple _ => kit_ty (a := "tuple") (by show kitB "tuple" "int" = some false; decide +kernel)
  | .dict _ => kit_ty (a := "dict") (by show kitB "dict" "int" = some false; decide +kernel)
theorem kBool {K : PySem.W.Frag} : ∀ d : PyData, PySem.W.kitOne K (.type (tyN d)) (.type "bool") = some (isBo d)
  | .none => kit_ty (a := "NoneType") (by show kitB "NoneType" "bool" = some false; decide +kernel)
  | .bool _ => kit_ty (a := "bool") (by show kitB "bool" "bool" = some true; decide +kernel)
  | .int _ => kit_ty (a := "int") (by show kitB "int" "bool" = some false; decide +kernel)
  | .str _ => kit_ty (a := "str") (by show kitB "str" "bool" = some false; decide +kernel)
  | .list _ => kit_ty (a := "list") (by show kitB "list" "bool" = some false; decide +kernel)
  | .tuple _ => kit_ty (a := "tuple") (by show kitB "tuple" "bool" = some false; decide +kernel)
  | .dict _ => kit_ty (a := "dict") (by show kitB "dict" "bool" = some false; decide +kernel)
theorem kTup {K : PySem.W.Frag} : ∀ d : PyData, PySem.W.kitOne K (.type (tyN d)) (.type "tuple") = some (isTu d)
  | .none => kit_ty (a := "NoneType") (by show kitB "NoneType" "tuple" = some false; decide +kernel)
  | .bool _ => kit_ty (a := "bool") (by show kitB "bool" "tuple" = some false; decide +kernel)
  | .int _ => kit_ty (a := "int") (by show kitB "int" "tuple" = some false; decide +kernel)
  | .str _ => kit_ty (a := "str") (by show kitB "str" "tuple" = some false; decide +kernel)
  | .list _ => kit_ty (a := "list") (by show kitB "list" "tuple" = some false; decide +kernel)
  | .tuple _ => kit_ty (a := "tuple") (by show kitB "tuple" "tuple" = some true; decide +kernel)
  | .dict _ => kit_ty (a := "dict") (by show kitB "dict" "tuple" = some false; decide +kernel)
/-- a look: a bool comes, nothing is changed -/
def spLook (n : Nat) (ok : PyData → List V → Prop) (b : PyData → List V → Bool) : Sp := fun vs H Q _ => ∃ (D B : Addr) (v : V) (d : PyData) (ws : List V), vs = v :: ws ∧ ws.length = n ∧ Dq D B H v d ∧ ok d ws ∧ Q (.bl (b d ws)) H
/-! ### the texts -/
abbrev sInt : Stmt := topS 4
abbrev sWith : Stmt := topS 5
abbrev sTupO : Stmt := topS 6
abbrev sWhole : Stmt := topS 19
theorem scInt : FnScope ["value"] ["value"] (defScope sInt) := ⟨rfl, rfl, rfl, by decide +kernel, rfl, by decide +kernel, by decide +kernel⟩
theorem scWith : FnScope ["value", "low", "high"] ["value", "low", "high"] (defScope sWith) := ⟨rfl, rfl, rfl, by decide +kernel, rfl, by decide +kernel, by decide +kernel⟩
theorem scTupO : FnScope ["value", "many"] ["value", "many"] (defScope sTupO) := ⟨rfl, rfl, rfl, by decide +kernel, rfl, by decide +kernel, by decide +kernel⟩
theorem scWhole : FnScope ["_law_value", "_law_least", "_law_most"] ["_law_value", "_law_least", "_law_most"] (defScope sWhole) := ⟨rfl, rfl, rfl, by decide +kernel, rfl, by decide +kernel, by decide +kernel⟩
/-- the built-in names that no def of the text takes -/
structure Bn (mg : Str → Option Value) : Prop where
  isi : mg "isinstance" = none
  int : mg "int" = none
  bool : mg "bool" = none
  tup : mg "tuple" = none
  len : mg "len" = none
  all : mg "all" = none
  rng : mg "range" = none
  lst : mg "list" = none
  str : mg "str" = none
  min : mg "min" = none
  rep : mg "repr" = none
  abs : mg "abs" = none
  max : mg "max" = none
  sum : mg "sum" = none
  enu : mg "enumerate" = none
theorem dec_int2 {i j : Int} : decide (V.int i = V.int j) = decide (i = j) := by
  rw [dec_int]
  rfl
theorem boot_bool' : bootBuiltins "bool" = some (.type "bool") := by decide +kernel
theorem boot_tuple' : bootBuiltins "tuple" = some (.type "tuple") := by decide +kernel
theorem boot_all' : bootBuiltins "all" = some (.builtin "all") := by decide +kernel
section
variable {P : Program} {w : World} {K : PySem.W.Frag} {mg : Str → Option Value} {base : Heap}
def spInt : Sp := fun vs H Q _ => ∃ (D B : Addr) (v : V) (d : PyData), vs = [v] ∧ Dq D B H v d ∧ Q (.bl (isIn d)) H
theorem ok_int {f : Addr} {fd : FuncData} (F : Fun K "is_integer" "is_integer" sInt f fd) (T : Bn mg) : FnOk P w K mg base CX0 1 f fd ["value"] spInt := by
  refine F.ok scInt (fun vs H Q E h => ?_) (fun cdv A outer s H vs Q E hr h => ?_)
  · obtain ⟨D, B, v, d, rfl, _⟩ := h
    rfl
  · obtain ⟨D, B, v, d, rfl, hd, q⟩ := h
    refine ⟨_, pss_one (ps_ret (pe_and (pe_callB call_isi (by rfl) T.isi PyProof.Rows.boot_isinstance (pa_cons (pv 0) (pa_cons (pe_bltn (by rfl) T.int PyProof.Rows.boot_int (v := .ty "int") rfl) pa_nil)))
      (pe_one (pe_not (pe_callB call_isi (by rfl) T.isi PyProof.Rows.boot_isinstance (pa_cons (pv 0) (pa_cons (pe_bltn (by rfl) T.bool boot_bool' (v := .ty "bool") rfl) pa_nil))))))), ?_⟩
    refine ⟨v, rfl, v, .ty "int", _, _, _, rfl, .ty "int", hd.ty, kInt d, _, rfl, ?_⟩
    cases hb : isIB d with
    | false =>
      refine iteF ?_
      have e : isIn d = false := by
        cases d <;> first | rfl | cases hb
      rw [e] at q
      exact q
    | true =>
      refine iteT ⟨v, rfl, v, .ty "bool", _, _, _, rfl, .ty "bool", hd.ty, kBool d, _, rfl, ?_⟩
      have e : isIn d = !isBo d := by
        cases d <;> first | rfl | cases hb
      rw [e] at q
      exact q
def spWith : Sp := fun vs H Q _ => ∃ (D B : Addr) (v : V) (d : PyData) (lo hi : Int), vs = [v, .int lo, .int hi] ∧ Dq D B H v d ∧ Q (.bl (within lo hi d)) H
theorem within_no {lo hi : Int} {d : PyData} (h : isIn d = false) : within lo hi d = false := by
  cases d <;> first | rfl | cases h
theorem isIn_of {D B : Addr} {H : Hp} {v : V} {d : PyData} (hd : Dq D B H v d) (h : isIn d = true) : ∃ i, d = .int i ∧ v = .int i := by
  cases hd <;> first | exact ⟨_, rfl, rfl⟩ | cases h
theorem ok_with {f f1 : Addr} {fd fd1 : FuncData} (F : Fun K "is_within" "is_within" sWith f fd) (F1 : Fun K "is_integer" "is_integer" sInt f1 fd1) (b1 : Binds K fd1 ["value"] []) (g1 : mg "is_integer" = some (.ref f1)) (T : Bn mg) : FnOk P w K mg base CX0 2 f fd ["value", "low", "high"] spWith := by
  have G1 : FnOk P w K mg base CX0 1 f1 fd1 ["value"] spInt := ok_int F1 T
  refine F.ok scWith (fun vs H Q E h => ?_) (fun cdv A outer s H vs Q E hr h => ?_)
  · obtain ⟨D, B, v, d, lo, hi, rfl, _⟩ := h
    rfl
  · obtain ⟨D, B, v, d, lo, hi, rfl, hd, q⟩ := h
    refine ⟨_, pss_one (ps_ret (pe_and (pe_call G1 hr (by rfl) g1 F1.kp b1 .nil pass0 (pa_cons (pv 0) pa_nil)) (pe_one (pe_chain op_le op_le (pv 1) (pv 0) (pv 2))))), ?_⟩
    refine ⟨v, rfl, D, B, v, d, rfl, hd, _, rfl, ?_⟩
    cases hb : isIn d with
    | false =>
      refine iteF ?_
      rw [within_no hb] at q
      exact q
    | true =>
      obtain ⟨i, rfl, rfl⟩ := isIn_of hd hb
      refine iteT ⟨_, rfl, _, rfl, _, _, rfl, rfl, _, rfl, ?_⟩
      have q2 : Q (.bl (decide (lo ≤ i) && decide (i ≤ hi))) H := q
      cases h1 : decide (lo ≤ i) with
      | false =>
        refine iteF ?_
        rw [h1] at q2
        exact q2
      | true =>
        refine iteT ⟨_, rfl, _, _, rfl, rfl, ?_⟩
        rw [h1] at q2
        exact q2
def spTupO : Sp := fun vs H Q _ => ∃ (D B : Addr) (v : V) (d : PyData) (n : Int), vs = [v, .int n] ∧ Dq D B H v d ∧ Q (.bl (tupOf n d)) H
theorem isTu_of {D B : Addr} {H : Hp} {v : V} {d : PyData} (hd : Dq D B H v d) (h : isTu d = true) : ∃ a xs ds, d = .tuple ds ∧ v = .ref a ∧ H a = some (.tup xs) ∧ DqAll D B H xs ds := by
  cases hd with
  | tup e ha => exact ⟨_, _, _, rfl, rfl, e, ha⟩
  | _ => cases h
theorem tupOf_no {n : Int} {d : PyData} (h : isTu d = false) : tupOf n d = false := by
  cases d <;> first | rfl | cases h
theorem ok_tupO {f : Addr} {fd : FuncData} (F : Fun K "is_tuple_of" "is_tuple_of" sTupO f fd) (T : Bn mg) : FnOk P w K mg base CX0 1 f fd ["value", "many"] spTupO := by
  refine F.ok scTupO (fun vs H Q E h => ?_) (fun cdv A outer s H vs Q E hr h => ?_)
  · obtain ⟨D, B, v, d, n, rfl, _⟩ := h
    rfl
  · obtain ⟨D, B, v, d, n, rfl, hd, q⟩ := h
    refine ⟨_, pss_one (ps_ret (pe_and (pe_callB call_isi (by rfl) T.isi PyProof.Rows.boot_isinstance (pa_cons (pv 0) (pa_cons (pe_bltn (by rfl) T.tup boot_tuple' (v := .ty "tuple") rfl) pa_nil)))
      (pe_one (pe_cmpR op_eq (pe_callB call_len_seq (by rfl) T.len PySem.boot_len (pa_cons (pv 0) pa_nil)) (pv 1) (nomark _))))), ?_⟩
    refine ⟨v, rfl, v, .ty "tuple", _, _, _, rfl, .ty "tuple", hd.ty, kTup d, _, rfl, ?_⟩
    cases hb : isTu d with
    | false =>
      refine iteF ?_
      rw [tupOf_no hb] at q
      exact q
    | true =>
      obtain ⟨a, xs, ds, rfl, rfl, e, ha⟩ := isTu_of hd hb
      refine iteT ⟨_, rfl, a, xs, rfl, .inr (SqT.of e), _, rfl, rfl, ?_⟩
      have q2 : Q (.bl (decide ((ds.length : Int) = n))) H := q
      rw [← ha.len, ← dec_int2] at q2
      exact q2
end
end Jg
namespace Jg
open PySem PySem.Spec PyProof.Rows L2
theorem smallM {n : Nat} (h : n ≤ 1000000) : n < sizeLine := Nat.lt_of_le_of_lt h (by rw [sizeLine_eq]; decide)
theorem DqAll.at_ {D B : Addr} {H : Hp} : ∀ {xs : List V} {ds : List PyData}, DqAll D B H xs ds → ∀ (i : Nat) (x : V), xs[i]? = some x → ∃ d, ds[i]? = some d ∧ Dq D B H x d
  | _, _, .nil, _, _, e => by simp at e
  | _, _, .cons h _, 0, _, e => by
    simp at e
    subst e
    exact ⟨_, rfl, h⟩
  | _, _, .cons _ h, i + 1, x, e => by
    obtain ⟨d, e2, q⟩ := h.at_ i x (by simpa using e)
    exact ⟨d, by simpa using e2, q⟩
/-- data stays where all that was stays -/
theorem Dq.same {D B : Addr} {H H' : Hp} {v : V} {d : PyData} (s : Same H H') (h : Dq D B H v d) : Dq D B H' v d := by
  refine Dq.rec (D := D) (B := B) (H := H) (motive_1 := fun v d _ => Dq D B H' v d) (motive_2 := fun vs ds _ => DqAll D B H' vs ds) .non .bl .int .str ?_ ?_ ?_ .nil ?_ h
  · exact fun h1 h2 e _ k => .lst h1 h2 (s _ _ e) k
  · exact fun e _ k => .tup (s _ _ e) k
  · exact fun e => .dct (s _ _ e)
  · exact fun _ _ k1 k2 => .cons k1 k2
theorem DqAll.same {D B : Addr} {H H' : Hp} (s : Same H H') : ∀ {vs : List V} {ds : List PyData}, DqAll D B H vs ds → DqAll D B H' vs ds
  | _, _, .nil => .nil
  | _, _, .cons a b => .cons (a.same s) (b.same s)
theorem take_map_next {α β : Type} {f : α → β} {xs : List α} {i : Nat} {x : α} (h : xs[i]? = some x) : (xs.take (i + 1)).map f = (xs.take i).map f ++ [f x] := by
  rw [List.take_add_one, h, List.map_append]
  rfl
/-! ### tuples made of tuples, whatever is shared -/
theorem cut_whole {xs : List V} {lo hi : Option Int} (h : HT.sIx xs.length 0 lo = 0 ∧ HT.sIx xs.length xs.length hi = xs.length) : cutV xs lo hi = xs := by
  unfold cutV
  rw [h.1, h.2, List.drop_zero, Nat.sub_zero, List.take_length]
theorem sl_read {K : PySem.W.Frag} {H : Hp} {a : Addr} {xs : List V} {lo hi : Option Int} {Q : VK} (e : H a = some (.tup xs)) (q : ∀ b H', Same H H' → H' b = some (.tup (cutV xs lo hi)) → Q (.ref b) H') : rSlA K (.ref a) lo hi H Q :=
  ⟨a, xs, rfl, SqT.of e, fun z => q a H (Same.refl H) (by rw [cut_whole z]; exact e), fun _ p np => q p _ (same_upd np) upd_same⟩
theorem cat_read {K : PySem.W.Frag} {H : Hp} {a b : Addr} {xs ys : List V} {Q : VK} (e : H a = some (.tup xs)) (e2 : H b = some (.tup ys)) (hz : xs.length + ys.length ≤ 1000) (q : ∀ c H', Same H H' → H' c = some (.tup (xs ++ ys)) → Q (.ref c) H') : rCatA K (.ref a) (.ref b) H Q := by
  refine ⟨a, b, xs, ys, rfl, rfl, SqT.of e, SqT.of e2, Nat.le_of_lt (small1000 hz), fun z => q b H (Same.refl H) ?_, fun _ z => q a H (Same.refl H) ?_, fun _ _ p np => q p _ (same_upd np) upd_same⟩
  · rw [z, List.nil_append]
    exact e2
  · rw [z, List.append_nil]
    exact e
theorem cutV_from (xs : List V) (k : Nat) : cutV xs (some (k : Int)) none = xs.drop k := by
  unfold cutV
  rw [HT.sIx_nat, HT.sIx_none]
  by_cases h : k ≤ xs.length
  · rw [Nat.min_eq_left h, List.take_of_length_le (by rw [List.length_drop]; omega)]
  · rw [Nat.min_eq_right (by omega), List.drop_eq_nil_of_le (Nat.le_refl _), List.drop_eq_nil_of_le (by omega), List.take_nil]
theorem cutV_to (xs : List V) (k : Nat) : cutV xs none (some (k : Int)) = xs.take k := by
  unfold cutV
  rw [HT.sIx_nat, HT.sIx_none, List.drop_zero, Nat.sub_zero]
  by_cases h : k ≤ xs.length
  · rw [Nat.min_eq_left h]
  · rw [Nat.min_eq_right (by omega), List.take_length, List.take_of_length_le (by omega)]
theorem Dq.tupE {D B : Addr} {H : Hp} {v : V} {ds : List PyData} (h : Dq D B H v (.tuple ds)) : ∃ a xs, v = .ref a ∧ H a = some (.tup xs) ∧ DqAll D B H xs ds := by
  cases h with
  | tup e ha => exact ⟨_, _, rfl, e, ha⟩
theorem Dq.intE {D B : Addr} {H : Hp} {v : V} {i : Int} (h : Dq D B H v (.int i)) : v = .int i := by
  cases h
  rfl
theorem DqAll.take {D B : Addr} {H : Hp} : ∀ {xs : List V} {ds : List PyData} (k : Nat), DqAll D B H xs ds → DqAll D B H (xs.take k) (ds.take k)
  | _, _, 0, _ => by
    rw [List.take_zero, List.take_zero]
    exact .nil
  | _, _, _ + 1, .nil => .nil
  | _, _, k + 1, .cons a b => .cons a (b.take k)
theorem DqAll.drop {D B : Addr} {H : Hp} : ∀ {xs : List V} {ds : List PyData} (k : Nat), DqAll D B H xs ds → DqAll D B H (xs.drop k) (ds.drop k)
  | _, _, 0, h => h
  | _, _, _ + 1, .nil => .nil
  | _, _, k + 1, .cons _ b => b.drop k
theorem DqAll.append {D B : Addr} {H : Hp} {ys : List V} {es : List PyData} (h2 : DqAll D B H ys es) : ∀ {xs : List V} {ds : List PyData}, DqAll D B H xs ds → DqAll D B H (xs ++ ys) (ds ++ es)
  | _, _, .nil => h2
  | _, _, .cons a b => .cons a (DqAll.append h2 b)
/-- the defs that draw -/
structure Dr (K : PySem.W.Frag) (mg : Str → Option Value) (fD : Addr) (fdD : FuncData) : Prop where
  F : Fun K "_law_draw" "_law_draw" sDraw fD fdD
  b : Binds K fdD ["_law_deck_here", "_law_many"] []
  g : mg "_law_draw" = some (.ref fD)
structure On (K : PySem.W.Frag) (mg : Str → Option Value) (fO : Addr) (fdO : FuncData) : Prop where
  F : Fun K "_law_one" "_law_one" sOne fO fdO
  b : Binds K fdO ["_law_deck_here", "_law_items"] []
  g : mg "_law_one" = some (.ref fO)
theorem tupOf_yes {D B : Addr} {H : Hp} {v : V} {d : PyData} {n : Int} (hd : Dq D B H v d) (h : tupOf n d = true) : ∃ a xs ds, d = .tuple ds ∧ v = .ref a ∧ H a = some (.tup xs) ∧ DqAll D B H xs ds ∧ (ds.length : Int) = n := by
  cases hd with
  | tup e ha => exact ⟨_, _, _, rfl, rfl, e, ha, of_decide_eq_true h⟩
  | _ => cases h
section
variable {P : Program} {w : World} {K : PySem.W.Frag} {mg : Str → Option Value} {base : Heap}
theorem ok_whole {f : Addr} {fd : FuncData} (F : Fun K "_law_whole" "_law_whole" sWhole f fd) (T : Bn mg) : FnOk P w K mg base CX0 1 f fd ["_law_value", "_law_least", "_law_most"] spWith := by
  refine F.ok scWhole (fun vs H Q E h => ?_) (fun cdv A outer s H vs Q E hr h => ?_)
  · obtain ⟨D, B, v, d, lo, hi, rfl, _⟩ := h
    rfl
  · obtain ⟨D, B, v, d, lo, hi, rfl, hd, q⟩ := h
    refine ⟨_, pss_one (ps_ret (pe_and (pe_callB call_isi (by rfl) T.isi PyProof.Rows.boot_isinstance (pa_cons (pv 0) (pa_cons (pe_bltn (by rfl) T.int PyProof.Rows.boot_int (v := .ty "int") rfl) pa_nil)))
      (pe_and (pe_not (pe_callB call_isi (by rfl) T.isi PyProof.Rows.boot_isinstance (pa_cons (pv 0) (pa_cons (pe_bltn (by rfl) T.bool boot_bool' (v := .ty "bool") rfl) pa_nil))))
        (pe_one (pe_chain op_le op_le (pv 1) (pv 0) (pv 2)))))), ?_⟩
    refine ⟨v, rfl, v, .ty "int", _, _, _, rfl, .ty "int", hd.ty, kInt d, _, rfl, ?_⟩
    cases hb : isIB d with
    | false =>
      have e : isIn d = false := by
        cases d <;> first | rfl | cases hb
      rw [within_no e] at q
      exact iteF q
    | true =>
      refine iteT ⟨v, rfl, v, .ty "bool", _, _, _, rfl, .ty "bool", hd.ty, kBool d, _, rfl, ?_⟩
      cases hb2 : isBo d with
      | true =>
        have e : isIn d = false := by
          cases d <;> first | rfl | cases hb2
        rw [within_no e] at q
        exact ⟨_, rfl, iteF q⟩
      | false =>
        have hi2 : isIn d = true := by
          cases d <;> first | rfl | exact Bool.noConfusion (show false = true from hb) | exact Bool.noConfusion (show true = false from hb2)
        obtain ⟨i, rfl, rfl⟩ := isIn_of hd hi2
        refine ⟨_, rfl, iteT ⟨_, rfl, _, rfl, _, _, rfl, rfl, _, rfl, ?_⟩⟩
        have q2 : Q (.bl (decide (lo ≤ i) && decide (i ≤ hi))) H := q
        cases h1 : decide (lo ≤ i) with
        | false =>
          rw [h1] at q2
          exact iteF q2
        | true =>
          rw [h1] at q2
          exact iteT ⟨_, rfl, _, _, rfl, rfl, q2⟩

end
end Jg
namespace Jg
open PySem PySem.Spec PyProof.Rows L2
/-! ### t * 1 is t, t * 0 is () -/
theorem tmul_one (l : Addr) (its : Array Value) (n : Nat) (dd : Option Addr) (sl : Array (Option Value)) (u : Tok) :
    Meets (Builtin.«tuple.__mul__» ⟨[.ref l, .int 1 u], []⟩) (fun _ R s => s.heap.get? l = some { cls := .type "tuple", dict := dd, data := .seq its n, slots := sl } ∧ R (.ok (.ret (Value.ref l))) s) := by
  refine .of_wp fun prog w A R s h => ?_
  obtain ⟨hp, g, d, tk, os⟩ := s
  obtain ⟨hl, h⟩ := h
  have f1 := AutoSeq1.idx_int
  have c1 : (its.isEmpty || (1 : Int) == 1) = true := by simp
  wp_walk using AutoSeq1.wpAny_loadPart' hl
  exact ⟨_, rfl, h⟩
theorem tmul_nought (l : Addr) (its : Array Value) (n : Nat) (dd : Option Addr) (sl : Array (Option Value)) (u : Tok) (hi : its.isEmpty = false) :
    Meets (Builtin.«tuple.__mul__» ⟨[.ref l, .int 0 u], []⟩) (fun _ R s => s.heap.get? l = some { cls := .type "tuple", dict := dd, data := .seq its n, slots := sl } ∧
      R (.ok (.ret (Value.ref s.heap.objs.size))) { s with heap := s.heap.push { cls := Value.type "tuple", data := Data.seq #[] }, toks := s.toks }) := by
  refine .of_wp fun prog w A R s h => ?_
  obtain ⟨hp, g, d, tk, os⟩ := s
  obtain ⟨hl, h⟩ := h
  have f1 := AutoSeq1.idx_int
  have c1 : (its.isEmpty || (0 : Int) == 1) = false := by rw [hi]; rfl
  wp_walk using AutoSeq1.wpAny_loadPart' hl
  first
    | exact ⟨_, rfl, h⟩
    | (refine wpAny_ite_false (decide_eq_false (by rw [c1]; exact Bool.false_ne_true)) ?_
       wp_walk using AutoSeq1.wpAny_loadPart' hl
       exact ⟨_, rfl, h⟩)
section
variable {X : Cx}
/-- t * k, k from 0 to 8 -/
def rRepA : R2 := fun x y H Q => ∃ (l : Addr) (k : Nat) (xs : List V), x = .ref l ∧ y = .int (k : Int) ∧ H l = some (.tup xs) ∧ xs ≠ [] ∧ k ≤ 8 ∧ xs.length ≤ 100 ∧ ∀ p H', Same H H' → H' p = some (.tup (List.replicate k xs).flatten) → Q (.ref p) H'
theorem op_repA : OpR X (binaryOp .Mult) rRepA := by
  intro pins s σ H x y v u Q I rx ry h
  obtain ⟨l, k, xs, rfl, rfl, hT, hne, hk, hz, q⟩ := h
  by_cases h2 : 2 ≤ k
  · refine op_repT pins s σ H _ _ v u Q I rx ry ⟨l, (k : Int), xs, rfl, rfl, SqT.of hT, hne, by omega, by omega, by omega, fun p np => q p _ (same_upd np) ?_⟩
    rw [upd_same]
    rfl
  · cases rx
    obtain ⟨t, rfl⟩ := ry
    obtain ⟨its, r, ⟨⟨cls, dd, data, sl⟩, ho, hc, n, hd⟩, hs⟩ := I.tuple (SqT.of hT)
    simp only at hc hd
    subst hc hd
    have hi : its.toArray.isEmpty = false := by
      cases its with
      | nil =>
        cases r
        exact absurd rfl hne
      | cons a b => rfl
    have two : k = 0 ∨ k = 1 := by omega
    rcases two with rfl | rfl
    · refine wpAny_binaryOp_repeat_ref (T := "tuple") (U := "int") (by decide) ⟨_, ho, rfl⟩ (fun s' => typeIs_int s' _ t) noFill_tuple_mul F.fills_int_mul F.slot_int_rmul repeat_tuple F.slot_int_index.lookup
        (call_meets F.slot_int_rmul (typeIs_int s _ t) F.entry_int_rmul (F.args_int_rmul_2 _ _) (int_rmul_tuple _ t l its.toArray n dd sl) ⟨ho, rfl, ⟨_, ho, rfl⟩, call_meets F.slot_tuple_mul ⟨_, ho, rfl⟩ F.entry_tuple_mul (F.args_tuple_mul_2 _ _) (tmul_nought l its.toArray n dd sl t hi) ⟨ho, ?_⟩⟩)
      have nf : H s.heap.objs.size = none := I.hok.fresh (Nat.le_refl _)
      refine ⟨.ref s.heap.objs.size, _, I.laid (t' := s.toks) (o := .tup []) (fun b ob z => Heap.get?_push_of_some _ z) (Nat.le_refl _) ?_, rfl, q _ _ (same_upd nf) upd_same⟩
      exact ⟨Nat.zero_le _, [], .nil, IsTup.new _ _⟩
    · refine wpAny_binaryOp_repeat_ref (T := "tuple") (U := "int") (by decide) ⟨_, ho, rfl⟩ (fun s' => typeIs_int s' _ t) noFill_tuple_mul F.fills_int_mul F.slot_int_rmul repeat_tuple F.slot_int_index.lookup
        (call_meets F.slot_int_rmul (typeIs_int s _ t) F.entry_int_rmul (F.args_int_rmul_2 _ _) (int_rmul_tuple _ t l its.toArray n dd sl) ⟨ho, rfl, ⟨_, ho, rfl⟩, call_meets F.slot_tuple_mul ⟨_, ho, rfl⟩ F.entry_tuple_mul (F.args_tuple_mul_2 _ _) (tmul_one l its.toArray n dd sl t) ⟨ho, ?_⟩⟩)
      exact ⟨.ref l, H, I, rfl, q l H (Same.refl H) (by rw [hT, List.replicate_one, List.flatten_cons, List.flatten_nil, List.append_nil])⟩
end
end Jg
namespace Jg
open PySem PySem.Spec PyProof.Rows L2
/-! ### written data -/
theorem pe_imp {X : Cx} {e : Expr} {t t' : TE} (h : PE X e t) (k : ∀ σ H Q, t' σ H Q → t σ H Q) : PE X e t' := ⟨fun pins s σ H Q I q => h.run pins s σ H Q I (k σ H Q q)⟩
theorem pa_imp {X : Cx} {es : List Expr} {t t' : TA} (h : PA X es t) (k : ∀ σ H Q, t' σ H Q → t σ H Q) : PA X es t' := ⟨fun pos pins s σ H Q I q => h.run pos pins s σ H Q I (k σ H Q q)⟩
def tLit (d : PyData) : TE := fun σ H Q => ∀ v H', Same H H' → (∀ D B, H D ≠ none → H B ≠ none → Dq D B H' v d) → Q v H'
def tLits (ds : List PyData) : TA := fun σ H Q => ∀ vs H', Same H H' → vs.length = ds.length → (∀ D B, H D ≠ none → H B ≠ none → DqAll D B H' vs ds) → Q vs H'
theorem Same.some {H H' : Hp} (s : Same H H') {a : Addr} (h : H a ≠ none) : H' a ≠ none := by
  cases e : H a with
  | none => exact absurd e h
  | some o =>
    rw [s a o e]
    exact fun z => nomatch z
section
variable {X : Cx} {pos : Pos}
theorem lit_int {i : Int} {j} : PE X (.Constant (.int i) j pos) (tLit (.int i)) := pe_imp pe_int fun σ H Q q => q (.int i) H (Same.refl H) fun _ _ _ _ => .int i
theorem lit_bl {b : Bool} {j} : PE X (.Constant (.bool b) j pos) (tLit (.bool b)) := pe_imp pe_bl fun σ H Q q => q (.bl b) H (Same.refl H) fun _ _ _ _ => .bl b
theorem lit_non {j} : PE X (.Constant .none j pos) (tLit .none) := pe_imp pe_non fun σ H Q q => q .non H (Same.refl H) fun _ _ _ _ => .non
theorem lit_str {x : Str} {j} : PE X (.Constant (.str x) j pos) (tLit (.str x)) := pe_imp pe_str fun σ H Q q => q (.str x) H (Same.refl H) fun _ _ _ _ => .str x
theorem lit_neg {i : Int} {j} {p : Pos} : PE X (.UnaryOp .USub (.Constant (.int i) j p) pos) (tLit (.int (-i))) := pe_imp (pe_un un_neg pe_int) fun σ H Q q => ⟨i, rfl, q (.int (-i)) H (Same.refl H) fun _ _ _ _ => .int (-i)⟩
theorem lit_pow {i j : Int} {a b} {p1 p2 : Pos} (h : CPow i j) : PE X (.BinOp (.Constant (.int i) a p1) .Pow (.Constant (.int j) b p2) pos) (tLit (.int (i ^ j.toNat))) := pe_imp (pe_op op_pow pe_int pe_int) fun σ H Q q => ⟨i, j, rfl, rfl, h, q _ H (Same.refl H) fun _ _ _ _ => .int _⟩
theorem lits_nil : PA X [] (tLits []) := pa_imp pa_nil fun σ H Q q => q [] H (Same.refl H) rfl fun _ _ _ _ => .nil
theorem lits_cons {e : Expr} {es : List Expr} {d : PyData} {ds : List PyData} (h : PE X e (tLit d)) (hr : PA X es (tLits ds)) (hs : starEach (e :: es) X.env = (false, eval e X.env) :: starEach es X.env := by rfl) : PA X (e :: es) (tLits (d :: ds)) :=
  pa_imp (pa_cons h hr hs) fun σ H Q q v H1 s1 h1 vs H2 s2 l2 h2 => q (v :: vs) H2 (s1.trans s2) (congrArg Nat.succ l2) fun D B nD nB => .cons ((h1 D B nD nB).same s2) (h2 D B (Same.some s1 nD) (Same.some s1 nB))
theorem lit_tup {es : List Expr} {ds : List PyData} {k} (h : PA X es (tLits ds)) (hz : Nat.ble ds.length 1000 = true := by rfl) : PE X (.Tuple es k pos) (tLit (.tuple ds)) :=
  pe_imp (pe_tup h) fun σ H Q q vs H1 s1 l1 h1 => ⟨by rw [l1]; exact sz1 hz, fun p np => q (.ref p) _ (s1.trans (same_upd np)) fun D B nD nB => .tup upd_same ((h1 D B nD nB).same (same_upd np))⟩
theorem lit_lst {es : List Expr} {ds : List PyData} (h : PA X es (tLits ds)) (hz : Nat.ble ds.length 1000 = true := by rfl) : PE X (.List es pos) (tLit (.list ds)) :=
  pe_imp (pe_lst h) fun σ H Q q vs H1 s1 l1 h1 => ⟨by rw [l1]; exact sz1 hz, fun p np => q (.ref p) _ (s1.trans (same_upd np)) fun D B nD nB =>
    .lst (fun z => Same.some s1 nD (by rw [← z]; exact np)) (fun z => Same.some s1 nB (by rw [← z]; exact np)) upd_same ((h1 D B nD nB).same (same_upd np))⟩
theorem lit_dct : PE X (.Dict [] [] pos) (tLit (.dict [])) := pe_imp pe_dnewK fun σ H Q q p np => q (.ref p) _ (same_upd np) fun _ _ _ _ => .dct upd_same
/-- a list display of written data, as a list -/
theorem lit_list {es : List Expr} {ds : List PyData} (h : PA X es (tLits ds)) (hz : Nat.ble ds.length 1000 = true := by rfl) :
    PE X (.List es pos) (fun σ H Q => ∀ p vs H', Same H H' → H p = none → H' p = some (.lst vs) → vs.length = ds.length → (∀ D B, H D ≠ none → H B ≠ none → DqAll D B H' vs ds) → Q (.ref p) H') :=
  pe_imp (pe_lst h) fun σ H Q q vs H1 s1 l1 h1 => ⟨by rw [l1]; exact sz1 hz, fun p np => q p vs _ (s1.trans (same_upd np)) (s1.free np) upd_same l1 fun D B nD nB => (h1 D B nD nB).same (same_upd np)⟩
end
def S (x : String) : Str := Str.ofString x
def odd1 : List PyData := [.none, .bool true, .bool false, .int 0, .int 1, .int 2, .int (-1), .int (10 ^ (30 : Int).toNat), .str (S ""), .str (S "0"), .str (S "in"), .tuple [], .list [], .dict [], .tuple [.int 0], .tuple [.int 1], .tuple [.int 0, .int 1], .tuple [.bool true, .int 0], .list [.int 0]]
def odd2 : List PyData := [.tuple [.str (S "in"), .int 0], .tuple [.str (S "set"), .int 1], .tuple [.str (S "neg"), .int 0], .tuple [.str (S "+"), .int 0, .int 0], .tuple [.str (S "*"), .int 0], .tuple [.str (S "in"), .bool true], .tuple [.str (S "+"), .int 0, .int (-1)], .tuple [.str (S "/"), .int 0, .int 0]]
def odd3 : List PyData := [.tuple [.none], .tuple [.int (-1)], .tuple [.int 1, .tuple [.tuple [.str (S "in"), .int 0]], .tuple [.int 0]], .tuple [.int 0, .tuple [], .tuple []], .tuple [.tuple [.int 0], .int 1], .tuple [.str (S "in")], .int 64, .int 65]
def oddD : List PyData := (odd1 ++ odd2) ++ odd3
abbrev sOdd : Stmt := topS 21
theorem scOdd : FnScope ["_law_deck_here", "_law_some"] ["_law_deck_here"] (defScope sOdd) := ⟨rfl, rfl, rfl, by decide +kernel, rfl, by decide +kernel, by decide +kernel⟩
theorem DeckAt.nD {D B C : Addr} {cells : List Int} {H : Hp} (d : DeckAt D B C cells H) : H D ≠ none := by
  obtain ⟨xs, h⟩ := d.isD
  rw [h]
  exact fun z => nomatch z
theorem DeckAt.nB {D B C : Addr} {cells : List Int} {H : Hp} (d : DeckAt D B C cells H) : H B ≠ none := by
  obtain ⟨xs, h⟩ := d.isB
  rw [h]
  exact fun z => nomatch z
theorem DeckAt.neD {D B C : Addr} {cells : List Int} {H : Hp} (d : DeckAt D B C cells H) {p : Addr} (h : H p = none) : p ≠ D := fun z => d.nD (by rw [← z]; exact h)
theorem DeckAt.neB {D B C : Addr} {cells : List Int} {H : Hp} (d : DeckAt D B C cells H) {p : Addr} (h : H p = none) : p ≠ B := fun z => d.nB (by rw [← z]; exact h)
mutual
/-- what lies at neither D nor B stays, said of any two others -/
theorem Dq.two {D B Z Y : Addr} {H H' : Hp} (hD : ∃ xs, H D = some (.lst xs)) (hB : ∃ xs, H B = some (.lst xs)) (f : Fr D B H H') : ∀ (d : PyData) (v : V), Dq D B H v d → Dq Z Y H v d → Dq Z Y H' v d
  | .none, _, _, h => by
    cases h
    exact .non
  | .bool _, _, _, h => by
    cases h
    exact .bl _
  | .int _, _, _, h => by
    cases h
    exact .int _
  | .str _, _, _, h => by
    cases h
    exact .str _
  | .list ds, _, k, h => by
    cases k with
    | lst k1 k2 k3 k4 =>
      cases h with
      | lst h1 h2 h3 h4 =>
        rw [k3] at h3
        cases h3
        exact .lst h1 h2 (f _ _ k1 k2 k3) (DqAll.two hD hB f ds _ k4 h4)
  | .tuple ds, _, k, h => by
    obtain ⟨xD, eD⟩ := hD
    obtain ⟨xB, eB⟩ := hB
    cases k with
    | tup k3 k4 =>
      cases h with
      | tup h3 h4 =>
        rw [k3] at h3
        cases h3
        refine .tup (f _ _ (fun z => ?_) (fun z => ?_) k3) (DqAll.two ⟨xD, eD⟩ ⟨xB, eB⟩ f ds _ k4 h4)
        · rw [z, eD] at k3
          cases k3
        · rw [z, eB] at k3
          cases k3
  | .dict ds, _, k, h => by
    obtain ⟨xD, eD⟩ := hD
    obtain ⟨xB, eB⟩ := hB
    cases h with
    | dct h3 =>
      refine .dct (f _ _ (fun z => ?_) (fun z => ?_) h3)
      · rw [z, eD] at h3
        cases h3
      · rw [z, eB] at h3
        cases h3
theorem DqAll.two {D B Z Y : Addr} {H H' : Hp} (hD : ∃ xs, H D = some (.lst xs)) (hB : ∃ xs, H B = some (.lst xs)) (f : Fr D B H H') : ∀ (ds : List PyData) (vs : List V), DqAll D B H vs ds → DqAll Z Y H vs ds → DqAll Z Y H' vs ds
  | [], _, _, h => by
    cases h
    exact .nil
  | d :: ds, _, k, h => by
    cases k with
    | cons k1 k2 =>
      cases h with
      | cons h1 h2 => exact .cons (Dq.two hD hB f d _ k1 h1) (DqAll.two hD hB f ds _ k2 h2)
end
theorem DeckAt.two {D B C Z Y : Addr} {cells : List Int} {H H' : Hp} {v : V} {d : PyData} (k : DeckAt D B C cells H) (f : Fr D B H H') (h : Dq D B H v d) (z : Dq Z Y H v d) : Dq Z Y H' v d := Dq.two k.isD k.isB f d v h z
theorem DeckAt.alive {D B C Z : Addr} {cells : List Int} {H H' : Hp} (k : DeckAt D B C cells H') (f : Fr D B H H') (h : H Z ≠ none) : H' Z ≠ none := by
  by_cases hD : Z = D
  · rw [hD]
    exact k.nD
  · by_cases hB : Z = B
    · rw [hB]
      exact k.nB
    · cases e : H Z with
      | none => exact absurd e h
      | some o =>
        rw [f Z o hD hB e]
        exact fun z => nomatch z
def spOdd : Sp := fun vs H Q _ => ∃ (D B C : Addr) (cells : List Int), vs = [.ref D] ∧ DeckAt D B C cells H ∧ ∀ (v : V) (d : PyData) (H' : Hp), d ∈ oddD → Dq D B H' v d → (∀ Z, H Z ≠ none → Dq Z Z H' v d) → DeckAt D B C cells H' → Fr D B H H' → Q v H'
section
variable {P : Program} {w : World} {K : PySem.W.Frag} {mg : Str → Option Value} {base : Heap}
theorem ok_odd {f fO fD : Addr} {fd fdO fdD : FuncData} (F : Fun K "_law_odd" "_law_odd" sOdd f fd) (FO : Fun K "_law_one" "_law_one" sOne fO fdO) (bO : Binds K fdO ["_law_deck_here", "_law_items"] []) (gO : mg "_law_one" = some (.ref fO))
    (FD : Fun K "_law_draw" "_law_draw" sDraw fD fdD) (bD : Binds K fdD ["_law_deck_here", "_law_many"] []) (gD : mg "_law_draw" = some (.ref fD)) (T : Bn mg) : FnOk P w K mg base CX0 3 f fd ["_law_deck_here"] spOdd := by
  have GO : FnOk P w K mg base CX0 2 fO fdO ["_law_deck_here", "_law_items"] spOne := ok_one FO FD bD gD T.int T.len
  refine F.ok scOdd (fun vs H Q E h => ?_) (fun cdv A outer s H vs Q E hr h => ?_)
  · obtain ⟨D, B, C, cells, rfl, _⟩ := h
    rfl
  · obtain ⟨D, B, C, cells, rfl, dk, q⟩ := h
    refine ⟨_, pss_cons (ps_set (i := 1) scOdd.nd rfl (.inl rfl) (lit_list (ds := odd1) (lits_cons lit_non (lits_cons lit_bl (lits_cons lit_bl (lits_cons lit_int (lits_cons lit_int (lits_cons lit_int (lits_cons lit_neg (lits_cons (lit_pow ⟨by decide, by decide, by decide⟩)
        (lits_cons lit_str (lits_cons lit_str (lits_cons lit_str (lits_cons (lit_tup lits_nil) (lits_cons (lit_lst lits_nil) (lits_cons lit_dct (lits_cons (lit_tup (lits_cons lit_int lits_nil)) (lits_cons (lit_tup (lits_cons lit_int lits_nil))
        (lits_cons (lit_tup (lits_cons lit_int (lits_cons lit_int lits_nil))) (lits_cons (lit_tup (lits_cons lit_bl (lits_cons lit_int lits_nil))) (lits_cons (lit_lst (lits_cons lit_int lits_nil)) lits_nil)))))))))))))))))))))
      (pss_cons (ps_set (i := 1) scOdd.nd rfl (.inl rfl) (pe_op op_cat (pv 1) (lit_list (ds := odd2) (lits_cons (lit_tup (lits_cons lit_str (lits_cons lit_int lits_nil))) (lits_cons (lit_tup (lits_cons lit_str (lits_cons lit_int lits_nil))) (lits_cons (lit_tup (lits_cons lit_str (lits_cons lit_int lits_nil)))
        (lits_cons (lit_tup (lits_cons lit_str (lits_cons lit_int (lits_cons lit_int lits_nil)))) (lits_cons (lit_tup (lits_cons lit_str (lits_cons lit_int lits_nil))) (lits_cons (lit_tup (lits_cons lit_str (lits_cons lit_bl lits_nil)))
        (lits_cons (lit_tup (lits_cons lit_str (lits_cons lit_int (lits_cons lit_neg lits_nil)))) (lits_cons (lit_tup (lits_cons lit_str (lits_cons lit_int (lits_cons lit_int lits_nil)))) lits_nil)))))))))))
      (pss_one (ps_ret (pe_call GO hr (by rfl) gO FO.kp bO .nil pass0 (pa_cons (pv 0) (pa_cons (pe_op op_cat (pv 1) (lit_list (ds := odd3) (lits_cons (lit_tup (lits_cons lit_non lits_nil)) (lits_cons (lit_tup (lits_cons lit_neg lits_nil))
        (lits_cons (lit_tup (lits_cons lit_int (lits_cons (lit_tup (lits_cons (lit_tup (lits_cons lit_str (lits_cons lit_int lits_nil))) lits_nil)) (lits_cons (lit_tup (lits_cons lit_int lits_nil)) lits_nil))))
        (lits_cons (lit_tup (lits_cons lit_int (lits_cons (lit_tup lits_nil) (lits_cons (lit_tup lits_nil) lits_nil)))) (lits_cons (lit_tup (lits_cons (lit_tup (lits_cons lit_int lits_nil)) (lits_cons lit_int lits_nil)))
        (lits_cons (lit_tup (lits_cons lit_str lits_nil)) (lits_cons lit_int (lits_cons lit_int lits_nil)))))))))) pa_nil)))))), ?_⟩
    intro p1 v1 H1 s1 n1 e1 l1 a1
    have A1 := a1 D B dk.nD dk.nB
    have dk1 := dk.same s1
    refine ⟨_, rfl, fun p2 v2 H2 s2 n2 e2 l2 a2 => ⟨p1, p2, v1, v2, rfl, rfl, s2 _ _ e1, e2, by rw [l1, l2]; exact sz1 (l := odd1 ++ odd2) rfl, fun p3 n3 => ?_⟩⟩
    have A2 := a2 D B dk1.nD dk1.nB
    have s3 := same_upd (o := .lst (v1 ++ v2)) n3
    have dk3 := (dk1.same s2).same s3
    refine ⟨_, rfl, _, rfl, fun p4 v4 H4 s4 n4 e4 l4 a4 => ⟨p3, p4, v1 ++ v2, v4, rfl, rfl, s4 _ _ upd_same, e4, by rw [List.length_append, l1, l2, l4]; exact sz1 (l := oddD) rfl, fun p5 n5 => ?_⟩⟩
    have A4 := a4 D B dk3.nD dk3.nB
    have s5 := same_upd (o := .lst ((v1 ++ v2) ++ v4)) n5
    have dk5 := (dk3.same s4).same s5
    have A5 : DqAll D B _ ((v1 ++ v2) ++ v4) oddD := DqAll.append (A4.same s5) (DqAll.append (((A2.same s3).same s4).same s5) ((((A1.same s2).same s3).same s4).same s5))
    have hl5 : ((v1 ++ v2) ++ v4).length = 35 := by rw [A5.len]; rfl
    refine ⟨D, B, C, cells, p5, _, rfl, dk5, upd_same, (dk3.same s4).neD n5, (dk3.same s4).neB n5, by rw [hl5]; decide, by rw [hl5]; decide, fun i v H' hv dk' f' => ?_⟩
    obtain ⟨d, hd, hq⟩ := A5.at_ i v hv
    refine q v d H' (List.mem_of_getElem? hd) (dk5.data f' hq) (fun Z nZ => ?_) dk' ((Fr.of_same (s1.trans (s2.trans (s3.trans (s4.trans s5))))).trans f')
    have z1 := Same.some s1 nZ
    have z3 := Same.some s3 (Same.some s2 z1)
    have A5Z : DqAll Z Z _ ((v1 ++ v2) ++ v4) oddD := DqAll.append ((a4 Z Z z3 z3).same s5) (DqAll.append ((((a2 Z Z z1 z1).same s3).same s4).same s5) (((((a1 Z Z nZ nZ).same s2).same s3).same s4).same s5))
    obtain ⟨d2, hd2, hq2⟩ := A5Z.at_ i v hv
    rw [hd] at hd2
    cases hd2
    exact dk5.two f' hq hq2
end
end Jg
namespace Jg
open PySem PySem.Spec PyProof.Rows L2
/-! ### how long what is shown may be -/
structure Ok (k c : Nat) (d : PyData) : Prop where
  sh : d.showable = true
  dp : d.depth ≤ k
  ln : d.shown.length ≤ c
theorem Ok.mono {k c k' c' : Nat} {d : PyData} (h : Ok k c d) (hk : k ≤ k') (hc : c ≤ c') : Ok k' c' d := ⟨h.sh, Nat.le_trans h.dp hk, Nat.le_trans h.ln hc⟩
theorem ok_all {k c : Nat} : ∀ {ds : List PyData}, (∀ d ∈ ds, Ok k c d) → PyData.showableAll ds = true ∧ PyData.depthAll ds ≤ k ∧ ((PyData.shownAll ds).map (·.length)).sum ≤ c * ds.length ∧ (PyData.shownAll ds).length = ds.length
  | [], _ => by simp [PyData.showableAll, PyData.depthAll, PyData.shownAll]
  | d :: ds, h => by
    have h1 := h d List.mem_cons_self
    obtain ⟨a, b, e, f⟩ := ok_all (ds := ds) fun x hx => h x (List.mem_cons_of_mem _ hx)
    refine ⟨?_, ?_, ?_, ?_⟩
    · simp only [PyData.showableAll, h1.sh, a, Bool.and_self]
    · simp only [PyData.depthAll]
      exact Nat.max_le.mpr ⟨h1.dp, b⟩
    · simp only [PyData.shownAll, List.map_cons, List.sum_cons, List.length_cons, Nat.mul_succ]
      have := h1.ln
      omega
    · simp only [PyData.shownAll, List.length_cons, f]
theorem ok_bound {k c n : Nat} {ds : List PyData} (h : ∀ d ∈ ds, Ok k c d) (hn : ds.length ≤ n) : ((PyData.shownAll ds).map (·.length)).sum + 2 * (PyData.shownAll ds).length + 3 ≤ n * (c + 2) + 3 := by
  obtain ⟨_, _, e, f⟩ := ok_all h
  rw [f]
  have h1 : c * ds.length ≤ c * n := Nat.mul_le_mul_left c hn
  have h2 : n * (c + 2) = c * n + 2 * n := by rw [Nat.mul_add, Nat.mul_comm n c, Nat.mul_comm n 2]
  omega
theorem ok_tup {k c n : Nat} {ds : List PyData} (h : ∀ d ∈ ds, Ok k c d) (hn : ds.length ≤ n) : Ok (k + 1) (n * (c + 2) + 3) (.tuple ds) := by
  obtain ⟨a, b, _, _⟩ := ok_all h
  refine ⟨by simpa only [PyData.showable] using a, by simp only [PyData.depth]; omega, ?_⟩
  simp only [PyData.shown]
  exact Nat.le_trans (tupleText_len_le _) (ok_bound h hn)
theorem ok_lst {k c n : Nat} {ds : List PyData} (h : ∀ d ∈ ds, Ok k c d) (hn : ds.length ≤ n) : Ok (k + 1) (n * (c + 2) + 3) (.list ds) := by
  obtain ⟨a, b, _, _⟩ := ok_all h
  refine ⟨by simpa only [PyData.showable] using a, by simp only [PyData.depth]; omega, ?_⟩
  simp only [PyData.shown]
  exact Nat.le_trans (listText_len_le _) (ok_bound h hn)
theorem ok_intW {i : Int} {k : Nat} (hk : 0 < k) (hk2 : k ≤ 1920) (h : i.natAbs < 2 ^ k) : Ok 0 (k + 1) (.int i) := by
  have hl : i.natAbs.log2 < k := PySem.Flt.log2_lt_of hk h
  refine ⟨?_, Nat.le_of_eq (by simp only [PyData.depth]), ?_⟩
  · simp only [PyData.showable]
    exact decide_eq_true (by omega)
  · simp only [PyData.shown]
    rw [PySem.ofString_length]
    exact int_text_length_le hk hl
theorem ok_int25 {i : Int} (h : i.natAbs < 10 ^ 25) : Ok 0 26 (.int i) := by
  have h2 : i.natAbs < 2 ^ 90 := Nat.lt_trans h (by decide)
  refine ⟨(ok_intW (k := 90) (by decide) (by decide) h2).sh, (ok_intW (k := 90) (by decide) (by decide) h2).dp, ?_⟩
  simp only [PyData.shown]
  rw [PySem.ofString_length]
  exact int_text_length_le10 (by decide) h
theorem ok_bl (b : Bool) : Ok 0 26 (.bool b) := by
  refine ⟨by simp only [PyData.showable], Nat.le_of_eq (by simp only [PyData.depth]), ?_⟩
  simp only [PyData.shown]
  cases b <;> decide
theorem ok_non : Ok 0 26 .none := by
  refine ⟨by simp only [PyData.showable], Nat.le_of_eq (by simp only [PyData.depth]), ?_⟩
  simp only [PyData.shown]
  decide
theorem ok_str {x : Str} (h : (reprText x).length ≤ 40) : Ok 0 40 (.str x) := by
  refine ⟨by simp only [PyData.showable], Nat.le_of_eq (by simp only [PyData.depth]), ?_⟩
  simp only [PyData.shown]
  exact h
theorem ok_dct : Ok 1 26 (.dict []) := by
  refine ⟨by simp only [PyData.showable, PyData.showableKv], by simp only [PyData.depth, PyData.depthKv]; decide, ?_⟩
  simp only [PyData.shown, PyData.shownKv]
  decide
/-- what a data is made of: its length, at most -/
def lens : PyData → Nat
  | .str x => (reprText x).length | .int _ => 40 | _ => 26
theorem odd_ok : ∀ d ∈ oddD, Ok 3 1197 d := by
  have i40 : ∀ i : Int, i.natAbs < 10 ^ 31 → Ok 0 40 (.int i) := fun i h => by
    have h2 : i.natAbs < 2 ^ 120 := Nat.lt_trans h (by decide)
    refine ⟨(ok_intW (k := 120) (by decide) (by decide) h2).sh, (ok_intW (k := 120) (by decide) (by decide) h2).dp, ?_⟩
    simp only [PyData.shown]
    rw [PySem.ofString_length]
    exact Nat.le_trans (int_text_length_le10 (k := 31) (by decide) h) (by decide)
  have b40 : ∀ b, Ok 0 40 (.bool b) := fun b => (ok_bl b).mono (Nat.le_refl _) (by decide)
  have n40 : Ok 0 40 .none := ok_non.mono (Nat.le_refl _) (by decide)
  have s40 : ∀ x : Str, (reprText x).length ≤ 40 → Ok 0 40 (.str x) := fun x h => ok_str h
  have t1 : ∀ ds : List PyData, (∀ d ∈ ds, Ok 0 40 d) → ds.length ≤ 3 → Ok 1 129 (.tuple ds) := fun ds h hl => ok_tup h hl
  have l1 : ∀ ds : List PyData, (∀ d ∈ ds, Ok 0 40 d) → ds.length ≤ 3 → Ok 1 129 (.list ds) := fun ds h hl => ok_lst h hl
  have t2 : ∀ ds : List PyData, (∀ d ∈ ds, Ok 1 129 d) → ds.length ≤ 3 → Ok 2 396 (.tuple ds) := fun ds h hl => ok_tup h hl
  have t3 : ∀ ds : List PyData, (∀ d ∈ ds, Ok 2 396 d) → ds.length ≤ 3 → Ok 3 1197 (.tuple ds) := fun ds h hl => ok_tup h hl
  have m1 : ∀ {d : PyData}, Ok 0 40 d → Ok 1 129 d := fun h => h.mono (by decide) (by decide)
  have m2 : ∀ {d : PyData}, Ok 1 129 d → Ok 2 396 d := fun h => h.mono (by decide) (by decide)
  have fin : ∀ {d : PyData} {k c : Nat}, Ok k c d → k ≤ 3 → c ≤ 1197 → Ok 3 1197 d := fun h a b => h.mono a b
  have all0 : ∀ {k c : Nat}, ∀ d ∈ ([] : List PyData), Ok k c d := fun _ h => nomatch h
  have cons : ∀ {k c : Nat} {d : PyData} {ds : List PyData}, Ok k c d → (∀ x ∈ ds, Ok k c x) → ∀ x ∈ d :: ds, Ok k c x := fun h1 h2 x hx => by
    rcases List.mem_cons.mp hx with rfl | hx
    · exact h1
    · exact h2 x hx
  have sOk : ∀ y : String, y ∈ ["", "0", "in", "set", "neg", "+", "*", "/"] → Ok 0 40 (.str (S y)) := fun y hy => by
    refine s40 _ ?_
    revert y
    decide +kernel
  have up : ∀ {ds : List PyData} {k c : Nat}, k ≤ 3 → c ≤ 1197 → (∀ d ∈ ds, Ok k c d) → ∀ d ∈ ds, Ok 3 1197 d := fun a b h d hd => (h d hd).mono a b
  have A1 : ∀ d ∈ odd1, Ok 2 396 d := by
    unfold odd1
    refine cons (m2 (m1 n40)) (cons (m2 (m1 (b40 _))) (cons (m2 (m1 (b40 _))) (cons (m2 (m1 (i40 _ (by decide)))) (cons (m2 (m1 (i40 _ (by decide)))) (cons (m2 (m1 (i40 _ (by decide)))) (cons (m2 (m1 (i40 _ (by decide)))) (cons (m2 (m1 (i40 _ (by decide)))) ?_)))))))
    refine cons (m2 (m1 (sOk _ (by decide)))) (cons (m2 (m1 (sOk _ (by decide)))) (cons (m2 (m1 (sOk _ (by decide)))) (cons (m2 (t1 _ all0 (by decide))) (cons (m2 (l1 _ all0 (by decide))) (cons (m2 (ok_dct.mono (by decide) (by decide))) ?_)))))
    exact cons (m2 (t1 _ (cons (i40 _ (by decide)) all0) (by decide))) (cons (m2 (t1 _ (cons (i40 _ (by decide)) all0) (by decide))) (cons (m2 (t1 _ (cons (i40 _ (by decide)) (cons (i40 _ (by decide)) all0)) (by decide))) (cons (m2 (t1 _ (cons (b40 _) (cons (i40 _ (by decide)) all0)) (by decide))) (cons (m2 (l1 _ (cons (i40 _ (by decide)) all0) (by decide))) all0))))
  have A2 : ∀ d ∈ odd2, Ok 1 129 d := by
    unfold odd2
    have I : ∀ i : Int, i.natAbs < 10 ^ 31 → Ok 0 40 (.int i) := i40
    exact cons (t1 _ (cons (sOk _ (by decide)) (cons (I _ (by decide)) all0)) (by decide)) (cons (t1 _ (cons (sOk _ (by decide)) (cons (I _ (by decide)) all0)) (by decide)) (cons (t1 _ (cons (sOk _ (by decide)) (cons (I _ (by decide)) all0)) (by decide)) (cons (t1 _ (cons (sOk _ (by decide)) (cons (I _ (by decide)) (cons (I _ (by decide)) all0))) (by decide))
      (cons (t1 _ (cons (sOk _ (by decide)) (cons (I _ (by decide)) all0)) (by decide)) (cons (t1 _ (cons (sOk _ (by decide)) (cons (b40 _) all0)) (by decide)) (cons (t1 _ (cons (sOk _ (by decide)) (cons (I _ (by decide)) (cons (I _ (by decide)) all0))) (by decide)) (cons (t1 _ (cons (sOk _ (by decide)) (cons (I _ (by decide)) (cons (I _ (by decide)) all0))) (by decide)) all0)))))))
  have A3 : ∀ d ∈ odd3, Ok 3 1197 d := by
    unfold odd3
    have I : ∀ i : Int, i.natAbs < 10 ^ 31 → Ok 0 40 (.int i) := i40
    have m3 : ∀ {d : PyData}, Ok 1 129 d → Ok 3 1197 d := fun h => h.mono (by decide) (by decide)
    refine cons (m3 (t1 _ (cons n40 all0) (by decide))) (cons (m3 (t1 _ (cons (I _ (by decide)) all0) (by decide))) (cons (t3 _ (cons (m2 (m1 (I _ (by decide)))) (cons (t2 _ (cons (t1 _ (cons (sOk _ (by decide)) (cons (I _ (by decide)) all0)) (by decide)) all0) (by decide)) (cons (m2 (t1 _ (cons (I _ (by decide)) all0) (by decide))) all0))) (by decide)) ?_))
    refine cons ((t2 _ (cons (m1 (I _ (by decide))) (cons (t1 _ all0 (by decide)) (cons (t1 _ all0 (by decide)) all0))) (by decide)).mono (by decide) (by decide)) (cons ((t2 _ (cons (t1 _ (cons (I _ (by decide)) all0) (by decide)) (cons (m1 (I _ (by decide))) all0)) (by decide)).mono (by decide) (by decide)) ?_)
    exact cons (m3 (t1 _ (cons (sOk _ (by decide)) all0) (by decide))) (cons (m3 (m1 (I _ (by decide)))) (cons (m3 (m1 (I _ (by decide)))) all0))
  intro d hd
  unfold oddD at hd
  rcases List.mem_append.mp hd with hd | hd
  · rcases List.mem_append.mp hd with hd | hd
    · exact up (by decide) (by decide) A1 d hd
    · exact up (by decide) (by decide) A2 d hd
  · exact up (by decide) (by decide) A3 d hd
end Jg
namespace Jg
open PySem PySem.Spec PyProof.Rows L2
/-! ### bent values -/
theorem cps_lt (s : String) : ∀ c ∈ (Str.ofString s).cps.toList, c < 16 ^ 8 := by
  intro c hc
  rw [Str.ofString_eq_toList] at hc
  simp at hc
  obtain ⟨a, _, rfl⟩ := hc
  exact a.val.toNat_lt
theorem ok_text {i : Int} (h : i.natAbs < 10 ^ 25) : Ok 3 1200 (.str (toString i)) := by
  refine ⟨by simp only [PyData.showable], by simp only [PyData.depth]; omega, ?_⟩
  simp only [PyData.shown]
  refine Nat.le_trans (PySem.StrLaws.reprText_len _ (cps_lt _)) ?_
  rw [PySem.ofString_length]
  have := int_text_length_le10 (k := 25) (by decide) h
  omega
/-- how wide a tuple may be, so many levels above the last -/
def wd : Nat → Nat
  | 2 => 5 | 3 => 61 | 4 => 3 | _ => 0
theorem wd_le : ∀ n, wd n ≤ 61
  | 0 => by decide | 1 => by decide | 2 => by decide | 3 => by decide | 4 => by decide | _ + 5 => Nat.zero_le _
def Leaf (d : PyData) : Prop := (∃ i : Int, d = .int i ∧ i.natAbs ≤ 10 ^ 20) ∨ (∃ x : Str, d = .str x ∧ (reprText x).length ≤ 40 ∧ PyData.strOk x = true)
def Plain : Nat → PyData → Prop
  | 0, d => Leaf d
  | n + 1, d => Leaf d ∨ ∃ ds, d = .tuple ds ∧ ds.length ≤ wd (n + 1) ∧ ∀ x ∈ ds, Plain n x
theorem Leaf.plain {d : PyData} (h : Leaf d) : ∀ n, Plain n d
  | 0 => h
  | _ + 1 => .inl h
theorem Leaf.no {d : PyData} (h : Leaf d) : isTu d = false := by
  rcases h with ⟨i, rfl, _⟩ | ⟨x, rfl, _⟩ <;> rfl
theorem plain_leaf : ∀ {n : Nat} {d : PyData}, Plain n d → isTu d = false → Leaf d
  | 0, _, h, _ => h
  | _ + 1, _, .inl h, _ => h
  | _ + 1, _, .inr ⟨_, e, _⟩, hb => by
    rw [e] at hb
    cases hb
theorem plain_no {d : PyData} (h : Plain 0 d) (hb : isTu d = true) : False := by
  rw [Leaf.no h] at hb
  cases hb
theorem plain_tup {n : Nat} {d : PyData} (h : Plain (n + 1) d) (hb : isTu d = true) : ∃ ds, d = .tuple ds ∧ ds.length ≤ wd (n + 1) ∧ ∀ x ∈ ds, Plain n x := by
  rcases h with h | h
  · rw [h.no] at hb
    cases hb
  · exact h
def cB : Nat → Nat
  | 0 => 1200 | n + 1 => (2 * wd (n + 1) + 1) * (cB n + 2) + 3
theorem cB_up (n : Nat) : cB n ≤ cB (n + 1) := by
  show cB n ≤ (2 * wd (n + 1) + 1) * (cB n + 2) + 3
  have h : 1 * (cB n + 2) ≤ (2 * wd (n + 1) + 1) * (cB n + 2) := Nat.mul_le_mul_right _ (by omega)
  omega
theorem cB_le : ∀ n, 1200 ≤ cB n
  | 0 => Nat.le_refl _
  | n + 1 => Nat.le_trans (cB_le n) (cB_up n)
theorem leaf_ok {d : PyData} (h : Leaf d) : Ok 3 1200 d := by
  rcases h with ⟨i, rfl, hi⟩ | ⟨x, rfl, hx⟩
  · exact (ok_int25 (Nat.lt_of_le_of_lt hi (by decide))).mono (by decide) (by decide)
  · exact (ok_str hx.1).mono (by decide) (by decide)
theorem plain_ok : ∀ (n : Nat) (d : PyData), Plain n d → Ok (3 + n) (cB n) d
  | 0, d, h => leaf_ok h
  | n + 1, d, h => by
    rcases h with h | ⟨ds, rfl, hl, hx⟩
    · exact (leaf_ok h).mono (by omega) (cB_le _)
    · exact ok_tup (fun x hm => plain_ok n x (hx x hm)) (Nat.le_trans hl (by omega))
theorem leaf_lay {d : PyData} (h : Leaf d) : d.canLay0 = true ∧ d.depth ≤ 0 := by
  rcases h with ⟨i, rfl, _⟩ | ⟨x, rfl, _, hs⟩
  · exact ⟨by simp only [PyData.canLay0], by simp only [PyData.depth]; exact Nat.le_refl _⟩
  · exact ⟨by simp only [PyData.canLay0]; exact hs, by simp only [PyData.depth]; exact Nat.le_refl _⟩
theorem plain_lay : ∀ (n : Nat) (d : PyData), Plain n d → d.canLay0 = true ∧ d.depth ≤ n
  | 0, d, h => leaf_lay h
  | n + 1, d, h => by
    rcases h with h | ⟨ds, rfl, hl, hx⟩
    · exact ⟨(leaf_lay h).1, Nat.le_trans (leaf_lay h).2 (Nat.zero_le _)⟩
    · have key : ∀ l : List PyData, (∀ x ∈ l, Plain n x) → PyData.canLayAll0 l = true ∧ PyData.depthAll l ≤ n := by
        intro l
        induction l with
        | nil => intro _; exact ⟨by simp only [PyData.canLayAll0], by simp only [PyData.depthAll]; omega⟩
        | cons y r ih =>
          intro hy
          obtain ⟨a, b⟩ := plain_lay n y (hy y List.mem_cons_self)
          obtain ⟨c, e⟩ := ih fun x hm => hy x (List.mem_cons_of_mem _ hm)
          exact ⟨by simp only [PyData.canLayAll0, a, c, Bool.and_self], by simp only [PyData.depthAll]; exact Nat.max_le.mpr ⟨b, e⟩⟩
      obtain ⟨a, b⟩ := key ds hx
      exact ⟨by simpa only [PyData.canLay0] using a, by simp only [PyData.depth]; omega⟩
theorem leaf_dp {K : PySem.W.Frag} {D B : Addr} {H : Hp} {d : PyData} {v : V} (h : Leaf d) (hd : Dq D B H v d) : Dp K H v d := by
  rcases h with ⟨i, rfl, _⟩ | ⟨x, rfl, _⟩
  · cases hd
    exact .int i
  · cases hd
    exact .str x
theorem leaf_any {D B Z Y : Addr} {H : Hp} {d : PyData} {v : V} (h : Leaf d) (hd : Dq D B H v d) : Dq Z Y H v d := by
  rcases h with ⟨i, rfl, _⟩ | ⟨x, rfl, _⟩
  · cases hd
    exact .int i
  · cases hd
    exact .str x
theorem plain_dp {K : PySem.W.Frag} {D B : Addr} {H : Hp} : ∀ (n : Nat) (d : PyData) (v : V), Plain n d → Dq D B H v d → Dp K H v d
  | 0, d, v, h, hd => leaf_dp h hd
  | n + 1, d, v, h, hd => by
    rcases h with h | ⟨ds, rfl, hl, hx⟩
    · exact leaf_dp h hd
    · obtain ⟨a, xs, rfl, e, ha⟩ := hd.tupE
      refine .tup (SqT.of e) ?_
      clear e hl hd
      induction ha using DqAll.rec (motive_1 := fun _ _ _ => True) with
      | nil => exact .nil
      | cons h1 h2 _ ih => exact .cons (plain_dp n _ _ (hx _ List.mem_cons_self) h1) (ih fun x hm => hx x (List.mem_cons_of_mem _ hm))
      | _ => trivial
theorem plain_any {D B Z Y : Addr} {H : Hp} : ∀ (n : Nat) (d : PyData) (v : V), Plain n d → Dq D B H v d → Dq Z Y H v d
  | 0, d, v, h, hd => leaf_any h hd
  | n + 1, d, v, h, hd => by
    rcases h with h | ⟨ds, rfl, hl, hx⟩
    · exact leaf_any h hd
    · obtain ⟨a, xs, rfl, e, ha⟩ := hd.tupE
      refine .tup e ?_
      clear e hl hd
      induction ha using DqAll.rec (motive_1 := fun _ _ _ => True) with
      | nil => exact .nil
      | cons h1 h2 _ ih => exact .cons (plain_any n _ _ (hx _ List.mem_cons_self) h1) (ih fun x hm => hx x (List.mem_cons_of_mem _ hm))
      | _ => trivial
theorem plain_anyAll {D B Z Y : Addr} {H : Hp} {n : Nat} : ∀ {xs : List V} {ds : List PyData}, (∀ x ∈ ds, Plain n x) → DqAll D B H xs ds → DqAll Z Y H xs ds
  | _, _, _, .nil => .nil
  | _, _, hx, .cons a b => .cons (plain_any n _ _ (hx _ List.mem_cons_self) a) (plain_anyAll (fun x hm => hx x (List.mem_cons_of_mem _ hm)) b)
theorem plain_shaped {n : Nat} {d : PyData} (h : Plain n d) (hn : n ≤ 64) : SeqAt.shaped d = true := by
  obtain ⟨a, b⟩ := plain_lay n d h
  show (d.canLay0 && decide (d.depth ≤ 64)) = true
  rw [a, decide_eq_true (Nat.le_trans b hn)]
  rfl
theorem eqv_empty (ds : List PyData) : PyData.eqv (.tuple ds) (.tuple []) = ds.isEmpty := by
  cases ds with
  | nil => simp [PyData.eqv, PyData.eqvAll]
  | cons d ds => simp [PyData.eqv, PyData.eqvAll]
theorem pt_imp {X : Cx} {e : Expr} {t t' : TT} (h : PT X e t) (k : ∀ σ H Q, t' σ H Q → t σ H Q) : PT X e t' := ⟨fun pins s σ H Q I q => h.run pins s σ H Q I (k σ H Q q)⟩
/-- the first test of a bent tuple -/
def tBent : TT := fun σ H Q => ∃ (D B C : Addr) (cells : List Int) (v : V) (d : PyData) (n : Nat), σ[0]? = some (some (.ref D)) ∧ σ[1]? = some (some v) ∧ σ[2]? = some (some (.int (n : Int))) ∧ DeckAt D B C cells H ∧ Dq D B H v d ∧ Plain n d ∧ n ≤ 60 ∧
  (∀ H2, DeckAt D B C cells H2 → Fr D B H H2 → isTu d = true → 0 < n → d ≠ .tuple [] → Q true H2) ∧ (∀ H2, DeckAt D B C cells H2 → Fr D B H H2 → Q false H2)
abbrev sBent : Stmt := topS 18
abbrev nBent : List Str := ["_law_deck_here", "_law_value", "_law_deep", "_law_at", "_law_near", "_law_some"]
theorem scBent : FnScope nBent ["_law_deck_here", "_law_value", "_law_deep"] (defScope sBent) := ⟨rfl, rfl, rfl, by decide +kernel, rfl, by decide +kernel, by decide +kernel⟩
theorem boot_list' : bootBuiltins "list" = some (.type "list") := by decide +kernel
theorem boot_str' : bootBuiltins "str" = some (.type "str") := by decide +kernel
structure Od (K : PySem.W.Frag) (mg : Str → Option Value) (f : Addr) (fd : FuncData) : Prop where
  F : Fun K "_law_odd" "_law_odd" sOdd f fd
  b : Binds K fd ["_law_deck_here"] []
  g : mg "_law_odd" = some (.ref f)
def spB : Nat → Sp
  | 0 => fun _ _ _ _ => False
  | n + 1 => fun vs H Q _ => ∃ (D B C : Addr) (cells : List Int) (v : V) (d : PyData), vs = [.ref D, v, .int (n : Int)] ∧ DeckAt D B C cells H ∧ Dq D B H v d ∧ Plain n d ∧
    ∀ (v' : V) (d' : PyData) (H' : Hp), Ok (3 + n) (cB n) d' → Dq D B H' v' d' → (∀ Z, H Z ≠ none → Dq Z Z H' v' d') → DeckAt D B C cells H' → Fr D B H H' → Q v' H'
theorem cut_data {D B : Addr} {H : Hp} {xs : List V} {ds : List PyData} (h : DqAll D B H xs ds) (lo hi : Option Int) : ∃ es, DqAll D B H (cutV xs lo hi) es ∧ (∀ e ∈ es, e ∈ ds) ∧ es.length ≤ ds.length := by
  unfold cutV
  refine ⟨(ds.drop _).take _, (h.drop _).take _, fun e he => List.mem_of_mem_drop (List.mem_of_mem_take he), ?_⟩
  rw [List.length_take, List.length_drop]
  omega
theorem DqAll.rev {D B : Addr} {H : Hp} : ∀ {xs : List V} {ds : List PyData}, DqAll D B H xs ds → DqAll D B H xs.reverse ds.reverse
  | _, _, .nil => .nil
  | _, _, .cons a b => by
    rw [List.reverse_cons, List.reverse_cons]
    exact DqAll.append (.cons a .nil) b.rev
section
variable {P : Program} {w : World} {K : PySem.W.Frag} {mg : Str → Option Value} {base : Heap}
theorem ok_bent {f fO fD fd' : Addr} {k n : Nat} {fd fdO fdD fdd : FuncData} (hk : 3 ≤ k) (hn : n ≤ 60) (F : Fun K "_law_bent" "_law_bent" sBent f fd) (bB : Binds K fd ["_law_deck_here", "_law_value", "_law_deep"] []) (gB : mg "_law_bent" = some (.ref f))
    (GB : FnOk P w K mg base CX0 k f fd ["_law_deck_here", "_law_value", "_law_deep"] (spB n)) (FX : Od K mg fd' fdd) (FO : On K mg fO fdO) (FD : Dr K mg fD fdD) (T : Bn mg) :
    FnOk P w K mg base CX0 (k + 1) f fd ["_law_deck_here", "_law_value", "_law_deep"] (spB (n + 1)) := by
  have GD : FnOk P w K mg base CX0 1 fD fdD ["_law_deck_here", "_law_many"] spDraw := ok_draw FD.F T.int T.len
  have GO : FnOk P w K mg base CX0 2 fO fdO ["_law_deck_here", "_law_items"] spOne := ok_one FO.F FD.F FD.b FD.g T.int T.len
  have GX : FnOk P w K mg base CX0 3 fd' fdd ["_law_deck_here"] spOdd := ok_odd FX.F FO.F FO.b FO.g FD.F FD.b FD.g T
  refine F.ok scBent (fun vs H Q E h => ?_) (fun cdv A outer s H vs Q E hr h => ?_)
  · obtain ⟨D, B, C, cells, v, d, rfl, _⟩ := h
    rfl
  · obtain ⟨D, B, C, cells, v, d, rfl, dk, hd, hp, q⟩ := h
    have hr1 : Room 1 _ := hr.mono (by omega)
    have hr2 : Room 2 _ := hr.mono (by omega)
    have hr3 : Room 3 _ := hr.mono hk
    have hu := hr.units
    refine ⟨_, pss_cons (ps_if (pt_imp (t' := tBent) (PW.pt (pw_and (pt_val (pe_callB call_isi (by rfl) T.isi PyProof.Rows.boot_isinstance (pa_cons (pv 1) (pa_cons (pe_bltn (by rfl) T.tup boot_tuple' (v := .ty "tuple") rfl) pa_nil))))
          (pw_and (pt_cmpR (op_neD hu) (pv 1) (pe_tup pa_nil) (nomark _)) (pw_and (pt_cmpR op_gt (pv 2) pe_int (nomark _))
            (pw_and1 (pt_cmpR op_gt (pe_call GD hr1 (by rfl) FD.g FD.F.kp FD.b .nil pass0 (pa_cons (pv 0) (pa_cons pe_int pa_nil))) pe_int (nomark _))))))) ?_)
        (pss_cons (ps_set (i := 3) scBent.nd rfl (.inl rfl) (pe_call GD hr1 (by rfl) FD.g FD.F.kp FD.b .nil pass0 (pa_cons (pv 0) (pa_cons (pe_callB call_len_seq (by rfl) T.len PySem.boot_len (pa_cons (pv 1) pa_nil)) pa_nil))))
        (pss_one (ps_ret (pe_op op_catA (pe_op op_catA (pe_slice sl_tupA (pv 1) po_none (po_some (pv 3)))
          (pe_tup (pa_cons (pe_call GB hr (by rfl) gB F.kp bB .nil pass0 (pa_cons (pv 0) (pa_cons (pe_ix ix_tup (pv 1) (pv 3) (fun _ _ => rfl)) (pa_cons (pe_op op_sub (pv 2) pe_int) pa_nil)))) pa_nil)))
          (pe_slice sl_tupA (pv 1) (po_some (pe_op op_add (pv 3) pe_int)) po_none))))) pss_nil)
      (pss_cons (ps_if (pt_not (pt_val (pe_callB call_isi (by rfl) T.isi PyProof.Rows.boot_isinstance (pa_cons (pv 1) (pa_cons (pe_bltn (by rfl) T.tup boot_tuple' (v := .ty "tuple") rfl) pa_nil)))))
        (pss_cons (ps_set (i := 4) scBent.nd rfl (.inl rfl) (pe_ifExp (pt_val (pe_callB call_isi (by rfl) T.isi PyProof.Rows.boot_isinstance (pa_cons (pv 1) (pa_cons (pe_bltn (by rfl) T.int PyProof.Rows.boot_int (v := .ty "int") rfl) pa_nil))))
          (pe_lst (pa_cons (pe_op op_add (pv 1) pe_int) (pa_cons (pe_op op_sub (pv 1) pe_int) (pa_cons (pe_op op_sub pe_int (pv 1)) (pa_cons (pe_callTy call_bool1 (by rfl) T.bool boot_bool' (pa_cons (pv 1) pa_nil))
            (pa_cons (pe_callTy call_str_int (by rfl) T.str boot_str' (pa_cons (pv 1) pa_nil)) pa_nil)))))) (pe_lst pa_nil)))
        (pss_one (ps_ret (pe_call GO hr2 (by rfl) FO.g FO.F.kp FO.b .nil pass0 (pa_cons (pv 0) (pa_cons (pe_op op_cat (pv 4) (pe_lst (pa_cons (pe_call GX hr3 (by rfl) FX.g FX.F.kp FX.b .nil pass0 (pa_cons (pv 0) pa_nil))
          (pa_cons (pe_call GX hr3 (by rfl) FX.g FX.F.kp FX.b .nil pass0 (pa_cons (pv 0) pa_nil)) pa_nil)))) pa_nil)))))) pss_nil)
      (pss_cons (ps_set (i := 3) scBent.nd rfl (.inl rfl) (pe_call GD hr1 (by rfl) FD.g FD.F.kp FD.b .nil pass0 (pa_cons (pv 0) (pa_cons (pe_op op_add (pe_callB call_len_seq (by rfl) T.len PySem.boot_len (pa_cons (pv 1) pa_nil)) pe_int) pa_nil))))
      (pss_cons (ps_set (i := 5) scBent.nd rfl (.inl rfl) (pe_lst (pa_cons (pe_call GX hr3 (by rfl) FX.g FX.F.kp FX.b .nil pass0 (pa_cons (pv 0) pa_nil))
        (pa_cons (pe_slice sl_tupA (pv 1) (po_some pe_int) po_none) (pa_cons (pe_slice sl_tupA (pv 1) po_none (po_some (pe_un un_neg pe_int))) (pa_cons (pe_revT (pv 1)) (pa_cons (pe_callTy call_list_of (by rfl) T.lst boot_list' (pa_cons (pv 1) pa_nil))
        (pa_cons (pe_op op_catA (pv 1) (pe_slice sl_tupA (pv 1) (po_some (pe_un un_neg pe_int)) po_none)) pa_nil))))))))
      (pss_one (ps_ret (pe_call GO hr2 (by rfl) FO.g FO.F.kp FO.b .nil pass0 (pa_cons (pv 0) (pa_cons (pe_op op_cat (pv 5) (pe_lst (pa_cons (pe_op op_catA (pe_op op_catA (pe_slice sl_tupA (pv 1) po_none (po_some (pv 3)))
          (pe_tup (pa_cons (pe_call GX hr3 (by rfl) FX.g FX.F.kp FX.b .nil pass0 (pa_cons (pv 0) pa_nil)) pa_nil))) (pe_slice sl_tupA (pv 1) (po_some (pv 3)) po_none))
        (pa_cons (pe_op op_catA (pe_slice sl_tupA (pv 1) po_none (po_some (pv 3))) (pe_slice sl_tupA (pv 1) (po_some (pe_op op_add (pv 3) pe_int)) po_none)) pa_nil)))) pa_nil)))))))), ?_⟩
    case refine_2.refine_1 =>
      intro σ H0 R ht
      obtain ⟨D, B, C, cells, v, d, m, g0, g1, g2, dk, hd, hp, hm, qt, qf⟩ := ht
      refine ⟨v, g1, v, .ty "tuple", _, _, _, rfl, .ty "tuple", hd.ty, kTup d, _, rfl, ?_⟩
      cases hb : isTu d with
      | false => exact iteF (qf H0 dk (Fr.refl D B H0))
      | true =>
        cases m with
        | zero => exact (plain_no hp hb).elim
        | succ m =>
          obtain ⟨ds, rfl, hl, hx⟩ := plain_tup hp hb
          refine iteT ⟨v, g1, Nat.zero_le _, fun e ne => ?_⟩
          have s1 := same_upd (o := .tup []) ne
          refine ⟨.tuple ds, .tuple [], plain_dp (m + 1) _ _ hp (hd.same s1), .tup (SqT.of upd_same) .nil, plain_shaped hp (by omega), by decide, _, rfl, ?_⟩
          rw [eqv_empty]
          cases ds with
          | nil => exact iteF (qf _ (dk.same s1) (Fr.of_same s1))
          | cons d0 dr =>
            refine iteT ⟨_, g2, _, _, rfl, rfl, _, rfl, ?_⟩
            rw [decide_eq_true (show (0 : Int) < ((m + 1 : Nat) : Int) by omega)]
            refine iteT ⟨_, g0, D, B, C, cells, 4, rfl, dk.same s1, by decide, by decide, fun j H3 j0 j1 dk3 f3 => ⟨_, _, rfl, rfl, _, rfl, ?_⟩⟩
            have f13 := (Fr.of_same (D := D) (B := B) s1).trans f3
            by_cases hj : (0 : Int) < j
            · rw [decide_eq_true hj]
              exact qt H3 dk3 f13 rfl (by omega) (fun z => by cases z)
            · rw [decide_eq_false hj]
              exact qf H3 dk3 f13
    refine ⟨D, B, C, cells, v, d, n, rfl, rfl, rfl, dk, hd, hp, hn, fun H2 dk2 f2 hb h0 hne => iteT ?_, fun H2 dk2 f2 => iteF ?_⟩
    · -- one item bent
      cases n with
      | zero => exact absurd h0 (Nat.lt_irrefl 0)
      | succ m =>
        obtain ⟨ds, rfl, hl, hx⟩ := plain_tup hp hb
        have hw := wd_le (m + 1)
        obtain ⟨a, xs, rfl, e2, ha2⟩ := (dk.data f2 hd).tupE
        have hlx : xs.length = ds.length := ha2.len
        have hl0 : 0 < ds.length := by
          cases ds with
          | nil => exact absurd rfl hne
          | cons _ _ => exact Nat.succ_pos _
        have tD : ∀ {G : Hp} {zs : List V} {b : Addr}, DeckAt D B C cells G → G b = some (.tup zs) → b ≠ D ∧ b ≠ B := fun {G zs b} k e => by
          obtain ⟨x1, g1⟩ := k.isD
          obtain ⟨x2, g2⟩ := k.isB
          exact ⟨(fun z => by rw [z, g1] at e; cases e), (fun z => by rw [z, g2] at e; cases e)⟩
        refine ⟨_, rfl, _, rfl, a, xs, rfl, .inr (SqT.of e2), D, B, C, cells, _, rfl, dk2, by omega, by omega, fun at_ H3 at0 at1 dk3 f3 => ?_⟩
        obtain ⟨j, rfl⟩ : ∃ j : Nat, at_ = (j : Int) := ⟨at_.toNat, by omega⟩
        have hj : j < xs.length := by omega
        have e3 := f3 _ _ (tD dk2 e2).1 (tD dk2 e2).2 e2
        have ha3 := dk2.dataAll f3 ha2
        refine ⟨_, rfl, _, rfl, _, rfl, sl_read e3 fun c1 H4 s4 g4 => ?_⟩
        have dk4 := dk3.same s4
        have e4 := s4 _ _ e3
        have ha4 := ha3.same s4
        obtain ⟨dj, hdj, qj⟩ := ha4.at_ j xs[j] (List.getElem?_eq_getElem hj)
        refine ⟨_, rfl, _, rfl, _, rfl, a, xs, _, _, rfl, rfl, SqT.of e4, atI_nat (List.getElem?_eq_getElem hj), _, rfl, _, _, rfl, rfl, D, B, C, cells, xs[j], dj, ?_, dk4, qj, hx _ (List.mem_of_getElem? hdj), fun v5 d5 H5 o5 q5 z5 dk5 f5 => ?_⟩
        · show [V.ref D, xs[j], V.int (((m + 1 : Nat) : Int) - 1)] = [V.ref D, xs[j], V.int (m : Int)]
          rw [show (((m + 1 : Nat) : Int) - 1) = (m : Int) by omega]
        have e5 := f5 _ _ (tD dk4 e4).1 (tD dk4 e4).2 e4
        have g5 := f5 _ _ (tD dk4 g4).1 (tD dk4 g4).2 g4
        have ha5 := dk4.dataAll f5 ha4
        obtain ⟨es1, hes1, mem1, len1⟩ := cut_data ha5 none (some (j : Int))
        refine ⟨sz1 rfl, fun t nt => ?_⟩
        have s6 := same_upd (o := .tup [v5]) nt
        refine cat_read (s6 _ _ g5) upd_same (by rw [hes1.len]; show _ + 1 ≤ 1000; omega) fun c7 H7 s7 g7 => ?_
        have s57 := s6.trans s7
        refine ⟨_, rfl, _, rfl, _, _, rfl, rfl, _, rfl, ?_⟩
        dsimp only [tNoPart]
        refine sl_read (s57 _ _ e5) fun c8 H8 s8 g8 => ?_
        have s58 := s57.trans s8
        obtain ⟨es2, hes2, mem2, len2⟩ := cut_data (ha5.same s58) (some ((j : Int) + 1)) none
        refine cat_read (s8 _ _ g7) g8 (by rw [List.length_append, hes1.len, hes2.len]; show _ + 1 + _ ≤ 1000; omega) fun c9 H9 s9 g9 => ?_
        have s59 := s58.trans s9
        refine q (.ref c9) (.tuple ((es1 ++ [d5]) ++ es2)) H9 ?_ (.tup g9 (DqAll.append (hes2.same s9) (DqAll.append (.cons (q5.same s59) .nil) (hes1.same s59)))) (fun Z nZ => .tup g9 (DqAll.append ((plain_anyAll (fun x hm => hx x (mem2 x hm)) hes2).same s9) (DqAll.append (.cons ((z5 Z (Same.some s4 (dk3.alive f3 (dk2.alive f2 nZ)))).same s59) .nil) ((plain_anyAll (fun x hm => hx x (mem1 x hm)) hes1).same s59)))) (dk5.same s59) ((f2.trans (f3.trans (Fr.of_same s4))).trans (f5.trans (Fr.of_same s59)))
        refine ok_tup (n := 2 * wd (m + 1) + 1) (fun x hm => ?_) (by rw [List.length_append, List.length_append]; show es1.length + 1 + es2.length ≤ 2 * wd (m + 1) + 1; omega)
        rcases List.mem_append.mp hm with hm | hm
        · rcases List.mem_append.mp hm with hm | hm
          · exact plain_ok m x (hx x (mem1 x hm))
          · rw [List.mem_singleton.mp hm]
            exact o5
        · exact plain_ok m x (hx x (mem2 x hm))
    · have hd2 := dk.data f2 hd
      refine ⟨v, rfl, v, .ty "tuple", _, _, _, rfl, .ty "tuple", hd2.ty, kTup d, _, rfl, ?_⟩
      cases hb : isTu d with
      | false =>
        rcases plain_leaf hp hb with ⟨i, rfl, hi⟩ | ⟨x, rfl, hxl⟩
        · cases hd2.intE
          have oki := ok_int25 (i := i) (Nat.lt_of_le_of_lt hi (by decide))
          have hlog : i.natAbs.log2 < 1920 := by
            have h1 := oki.sh
            simp only [PyData.showable] at h1
            exact of_decide_eq_true h1
          refine iteT ⟨_, rfl, _, .ty "int", _, _, _, rfl, .ty "int", hd2.ty, kInt (.int i), _, rfl, iteT ⟨_, rfl, _, _, rfl, rfl, _, rfl, _, _, rfl, rfl, _, rfl, _, _, rfl, rfl, _, rfl, .inl ⟨i, rfl, _, rfl, i, rfl, hlog, sz1 rfl, fun L nL => ?_⟩⟩⟩
          have s3 := same_upd (o := .lst [.int (i + 1), .int (i - 1), .int (0 - i), .bl (i != 0), .str (toString i)]) nL
          have dk3 := dk2.same s3
          have nLD := dk2.neD nL
          have nLB := dk2.neB nL
          refine ⟨_, rfl, _, rfl, _, rfl, D, B, C, cells, rfl, dk3, fun v1 d1 H4 m1 q1 z1 dk4 f4 => ⟨_, rfl, D, B, C, cells, rfl, dk4, fun v2 d2 H5 m2 q2 z2 dk5 f5 => ⟨sz1 rfl, fun L2 nL2 => ?_⟩⟩⟩
          have s6 := same_upd (o := .lst [v1, v2]) nL2
          have eL := s6 _ _ (f5 _ _ nLD nLB (f4 _ _ nLD nLB upd_same))
          refine ⟨L, L2, _, _, rfl, rfl, eL, upd_same, sz1 (l := [(0 : Nat), 0, 0, 0, 0, 0, 0]) rfl, fun p np => ?_⟩
          have s7 := same_upd (o := .lst ([.int (i + 1), .int (i - 1), .int (0 - i), .bl (i != 0), .str (toString i)] ++ [v1, v2])) np
          have dk6 := dk5.same s6
          have all : DqAll D B _ ([.int (i + 1), .int (i - 1), .int (0 - i), .bl (i != 0), .str (toString i)] ++ [v1, v2]) ([.int (i + 1), .int (i - 1), .int (0 - i), .bool (i != 0), .str (toString i), d1, d2]) :=
            .cons (.int _) (.cons (.int _) (.cons (.int _) (.cons (.bl _) (.cons (.str _) (.cons (((dk4.data f5 q1).same s6).same s7) (.cons ((q2.same s6).same s7) .nil))))))
          refine ⟨D, B, C, cells, p, _, rfl, dk6.same s7, upd_same, dk6.neD np, dk6.neB np, by show 0 < 7; decide, by show 7 < 1073741824; decide, fun j v8 H8 hv dk8 f8 => ?_⟩
          obtain ⟨d8, hd8, q8⟩ := all.at_ j v8 hv
          refine q v8 d8 H8 ?_ ((dk6.same s7).data f8 q8) (fun Z nZ => ?_) dk8 (f2.trans ((Fr.of_same s3).trans (f4.trans (f5.trans ((Fr.of_same s6).trans ((Fr.of_same s7).trans f8))))))
          rotate_left
          · have nZ3 := Same.some s3 (dk2.alive f2 nZ)
            have allZ : DqAll Z Z (upd (upd H5 L2 (.lst [v1, v2])) p (.lst ([.int (i + 1), .int (i - 1), .int (0 - i), .bl (i != 0), .str (toString i)] ++ [v1, v2]))) ([.int (i + 1), .int (i - 1), .int (0 - i), .bl (i != 0), .str (toString i)] ++ [v1, v2]) ([.int (i + 1), .int (i - 1), .int (0 - i), .bool (i != 0), .str (toString i), d1, d2]) :=
              .cons (.int _) (.cons (.int _) (.cons (.int _) (.cons (.bl _) (.cons (.str _) (.cons (((dk4.two f5 q1 (z1 Z nZ3)).same s6).same s7) (.cons (((z2 Z (dk4.alive f4 nZ3)).same s6).same s7) .nil))))))
            obtain ⟨d9, hd9, q9⟩ := allZ.at_ j v8 hv
            rw [hd8] at hd9
            cases hd9
            exact (dk6.same s7).two f8 q8 q9
          have up : ∀ {x : PyData}, Ok 3 1200 x → Ok (3 + n) (cB n) x := fun h => h.mono (by omega) (cB_le n)
          have hint : ∀ z : Int, z.natAbs ≤ 10 ^ 20 + 1 → Ok 3 1200 (.int z) := fun z hz => (ok_int25 (Nat.lt_of_le_of_lt hz (by decide))).mono (by decide) (by decide)
          have hodd : ∀ x ∈ oddD, Ok 3 1200 x := fun x hx => (odd_ok x hx).mono (Nat.le_refl _) (by decide)
          match j, hd8 with
          | 0, h => exact by obtain rfl := Option.some.inj h; exact up (hint _ (by omega))
          | 1, h => exact by obtain rfl := Option.some.inj h; exact up (hint _ (by omega))
          | 2, h => exact by obtain rfl := Option.some.inj h; exact up (hint _ (by omega))
          | 3, h => exact by obtain rfl := Option.some.inj h; exact up ((ok_bl _).mono (by decide) (by decide))
          | 4, h => exact by obtain rfl := Option.some.inj h; exact up (ok_text (Nat.lt_of_le_of_lt hi (by decide)))
          | 5, h => exact by obtain rfl := Option.some.inj h; exact up (hodd _ m1)
          | 6, h => exact by obtain rfl := Option.some.inj h; exact up (hodd _ m2)
          | j + 7, h => cases h
        · refine iteT ⟨_, rfl, _, .ty "int", _, _, _, rfl, .ty "int", hd2.ty, kInt (.str x), _, rfl, iteF ⟨sz1 rfl, fun L nL => ?_⟩⟩
          have s3 := same_upd (o := .lst []) nL
          have dk3 := dk2.same s3
          have nLD := dk2.neD nL
          have nLB := dk2.neB nL
          refine ⟨_, rfl, _, rfl, _, rfl, D, B, C, cells, rfl, dk3, fun v1 d1 H4 m1 q1 z1 dk4 f4 => ⟨_, rfl, D, B, C, cells, rfl, dk4, fun v2 d2 H5 m2 q2 z2 dk5 f5 => ⟨sz1 rfl, fun L2 nL2 => ?_⟩⟩⟩
          have s6 := same_upd (o := .lst [v1, v2]) nL2
          have eL := s6 _ _ (f5 _ _ nLD nLB (f4 _ _ nLD nLB upd_same))
          refine ⟨L, L2, _, _, rfl, rfl, eL, upd_same, sz1 (l := [(0 : Nat), 0]) rfl, fun p np => ?_⟩
          have s7 := same_upd (o := .lst ([] ++ [v1, v2])) np
          have dk6 := dk5.same s6
          have all : DqAll D B _ ([] ++ [v1, v2]) ([d1, d2]) := .cons (((dk4.data f5 q1).same s6).same s7) (.cons ((q2.same s6).same s7) .nil)
          refine ⟨D, B, C, cells, p, _, rfl, dk6.same s7, upd_same, dk6.neD np, dk6.neB np, by show 0 < 2; decide, by show 2 < 1073741824; decide, fun j v8 H8 hv dk8 f8 => ?_⟩
          obtain ⟨d8, hd8, q8⟩ := all.at_ j v8 hv
          refine q v8 d8 H8 ?_ ((dk6.same s7).data f8 q8) (fun Z nZ => ?_) dk8 (f2.trans ((Fr.of_same s3).trans (f4.trans (f5.trans ((Fr.of_same s6).trans ((Fr.of_same s7).trans f8))))))
          rotate_left
          · have nZ3 := Same.some s3 (dk2.alive f2 nZ)
            have allZ : DqAll Z Z (upd (upd H5 L2 (.lst [v1, v2])) p (.lst ([] ++ [v1, v2]))) ([] ++ [v1, v2]) ([d1, d2]) :=
              .cons (((dk4.two f5 q1 (z1 Z nZ3)).same s6).same s7) (.cons (((z2 Z (dk4.alive f4 nZ3)).same s6).same s7) .nil)
            obtain ⟨d9, hd9, q9⟩ := allZ.at_ j v8 hv
            rw [hd8] at hd9
            cases hd9
            exact (dk6.same s7).two f8 q8 q9
          have hodd : ∀ x ∈ oddD, Ok (3 + n) (cB n) x := fun x hx => (odd_ok x hx).mono (by omega) (Nat.le_trans (by decide) (cB_le n))
          match j, hd8 with
          | 0, h => exact Option.some.inj h ▸ hodd _ m1
          | 1, h => exact Option.some.inj h ▸ hodd _ m2
          | j + 2, h => cases h
      | true =>
        cases n with
        | zero => exact (plain_no hp hb).elim
        | succ m =>
          obtain ⟨ds, rfl, hl, hx⟩ := plain_tup hp hb
          have hw := wd_le (m + 1)
          obtain ⟨a, xs, rfl, e2, ha2⟩ := hd2.tupE
          have hlx : xs.length = ds.length := ha2.len
          have tD : ∀ {G : Hp} {zs : List V} {b : Addr}, DeckAt D B C cells G → G b = some (.tup zs) → b ≠ D ∧ b ≠ B := fun {G zs b} k e => by
            obtain ⟨x1, g1⟩ := k.isD
            obtain ⟨x2, g2⟩ := k.isB
            exact ⟨(fun z => by rw [z, g1] at e; cases e), (fun z => by rw [z, g2] at e; cases e)⟩
          have itemOk : ∀ x, x ∈ ds ∨ x ∈ oddD → Ok (3 + m) (cB m) x := fun x hm => by
            rcases hm with hm | hm
            · exact plain_ok m x (hx x hm)
            · exact (odd_ok x hm).mono (by omega) (Nat.le_trans (by decide) (cB_le m))
          have oddOk : ∀ x ∈ oddD, Ok (3 + (m + 1)) (cB (m + 1)) x := fun x hm => (odd_ok x hm).mono (by omega) (Nat.le_trans (by decide) (cB_le (m + 1)))
          have tupOk : ∀ es : List PyData, (∀ x ∈ es, x ∈ ds ∨ x ∈ oddD) → es.length ≤ 2 * wd (m + 1) + 1 → Ok (3 + (m + 1)) (cB (m + 1)) (.tuple es) := fun es h hn => ok_tup (fun x hm => itemOk x (h x hm)) hn
          have lstOk : ∀ es : List PyData, (∀ x ∈ es, x ∈ ds ∨ x ∈ oddD) → es.length ≤ 2 * wd (m + 1) + 1 → Ok (3 + (m + 1)) (cB (m + 1)) (.list es) := fun es h hn => ok_lst (fun x hm => itemOk x (h x hm)) hn
          refine iteF ⟨_, rfl, _, rfl, a, xs, rfl, .inr (SqT.of e2), _, _, rfl, rfl, D, B, C, cells, _, rfl, dk2, by omega, by omega, fun at_ H3 at0 at1 dk3 f3 => ?_⟩
          obtain ⟨j, rfl⟩ : ∃ j : Nat, at_ = (j : Int) := ⟨at_.toNat, by omega⟩
          have e3 := f3 _ _ (tD dk2 e2).1 (tD dk2 e2).2 e2
          have ha3 := dk2.dataAll f3 ha2
          -- the list of six
          refine ⟨_, rfl, D, B, C, cells, rfl, dk3, fun v1 d1 H4 m1 q1 z1 dk4 f4 => ?_⟩
          have e4 := f4 _ _ (tD dk3 e3).1 (tD dk3 e3).2 e3
          have ha4 := dk3.dataAll f4 ha3
          refine ⟨_, rfl, _, rfl, ?_⟩
          dsimp only [tNoPart]
          refine sl_read e4 fun c1 H5 s5 g5 => ?_
          obtain ⟨es1, hes1, mem1, len1⟩ := cut_data (ha4.same s5) (some 1) none
          refine ⟨_, rfl, _, rfl, _, rfl, sl_read (s5 _ _ e4) fun c2 H6 s6 g6 => ?_⟩
          have e6 := s6 _ _ (s5 _ _ e4)
          have ha6 := (ha4.same s5).same s6
          obtain ⟨es2, hes2, mem2, len2⟩ := cut_data ha6 none (some (-1))
          refine ⟨_, rfl, a, xs, rfl, SqT.of e6, fun c3 n3 => ?_⟩
          have s7 := same_upd (o := .tup xs.reverse) n3
          have dk7 := ((dk4.same s5).same s6).same s7
          refine ⟨_, rfl, a, xs, rfl, .inr (SqT.of (s7 _ _ e6)), fun c4 n4 => ?_⟩
          have s8 := same_upd (o := .lst xs) n4
          have dk8 := dk7.same s8
          have e8 := s8 _ _ (s7 _ _ e6)
          have ha8 := (ha6.same s7).same s8
          refine ⟨_, rfl, _, rfl, _, rfl, _, rfl, ?_⟩
          dsimp only [tNoPart]
          refine sl_read e8 fun c5 H9 s9 g9 => ?_
          obtain ⟨es5, hes5, mem5, len5⟩ := cut_data (ha8.same s9) (some (-1)) none
          refine cat_read (s9 _ _ e8) g9 (by rw [hes5.len]; omega) fun c6 H10 s10 g10 => ⟨sz1 rfl, fun L nL => ?_⟩
          have dk10 := (dk8.same s9).same s10
          have s11 := same_upd (o := .lst [v1, .ref c1, .ref c2, .ref c3, .ref c4, .ref c6]) nL
          have dk11 := dk10.same s11
          have nLD := dk10.neD nL
          have nLB := dk10.neB nL
          have e11 := s11 _ _ (s10 _ _ (s9 _ _ e8))
          have ha11 := ((ha8.same s9).same s10).same s11
          -- the two behind
          refine ⟨_, rfl, _, rfl, _, rfl, _, rfl, _, rfl, sl_read e11 fun x1 H12 s12 g12 => ?_⟩
          have dk12 := dk11.same s12
          refine ⟨_, rfl, D, B, C, cells, rfl, dk12, fun v2 d2 H13 m2 q2 z2 dk13 f13 => ?_⟩
          have e13 := f13 _ _ (tD dk12 (s12 _ _ e11)).1 (tD dk12 (s12 _ _ e11)).2 (s12 _ _ e11)
          have g13 := f13 _ _ (tD dk12 g12).1 (tD dk12 g12).2 g12
          have ha13 := dk12.dataAll f13 (ha11.same s12)
          obtain ⟨ex1, hex1, memx1, lenx1⟩ := cut_data ha13 none (some (j : Int))
          refine ⟨sz1 rfl, fun t nt => ?_⟩
          have s14 := same_upd (o := .tup [v2]) nt
          refine cat_read (s14 _ _ g13) upd_same (by rw [hex1.len]; show _ + 1 ≤ 1000; omega) fun x2 H15 s15 g15 => ?_
          have s1315 := s14.trans s15
          refine ⟨_, rfl, _, rfl, _, rfl, ?_⟩
          dsimp only [tNoPart]
          refine sl_read (s1315 _ _ e13) fun x3 H16 s16 g16 => ?_
          have s1316 := s1315.trans s16
          obtain ⟨ex3, hex3, memx3, lenx3⟩ := cut_data (ha13.same s1316) (some (j : Int)) none
          refine cat_read (s16 _ _ g15) g16 (by rw [List.length_append, hex1.len, hex3.len]; show _ + 1 + _ ≤ 1000; omega) fun x4 H17 s17 g17 => ?_
          have s1317 := s1316.trans s17
          refine ⟨_, rfl, _, rfl, _, rfl, sl_read (s1317 _ _ e13) fun y1 H18 s18 g18 => ?_⟩
          have s1318 := s1317.trans s18
          obtain ⟨ey1, hey1, memy1, leny1⟩ := cut_data (ha13.same s1318) none (some (j : Int))
          refine ⟨_, rfl, _, rfl, _, _, rfl, rfl, _, rfl, ?_⟩
          dsimp only [tNoPart]
          refine sl_read (s1318 _ _ e13) fun y2 H19 s19 g19 => ?_
          have s1319 := s1318.trans s19
          obtain ⟨ey2, hey2, memy2, leny2⟩ := cut_data (ha13.same s1319) (some ((j : Int) + 1)) none
          refine cat_read (s19 _ _ g18) g19 (by rw [hey1.len, hey2.len]; omega) fun y3 H20 s20 g20 => ⟨sz1 rfl, fun M nM => ?_⟩
          have s21 := same_upd (o := .lst [.ref x4, .ref y3]) nM
          have s1321 := (s1319.trans s20).trans s21
          have f1121 := ((Fr.of_same s12).trans f13).trans (Fr.of_same s1321)
          refine ⟨L, M, _, _, rfl, rfl, f1121 _ _ nLD nLB upd_same, upd_same, sz1 (l := [(0 : Nat), 0, 0, 0, 0, 0, 0, 0]) rfl, fun p np => ?_⟩
          have s22 := same_upd (o := .lst ([v1, .ref c1, .ref c2, .ref c3, .ref c4, .ref c6] ++ [.ref x4, .ref y3])) np
          have dk21 := dk13.same s1321
          have dk22 := dk21.same s22
          have f1122 := f1121.trans (Fr.of_same s22)
          have s1322 := s1321.trans s22
          have s1011 : Same H10 _ := s11
          have s911 := s10.trans s11
          have s811 := s9.trans s911
          have s711 := s8.trans s811
          have s611 := s7.trans s711
          have s511 := s6.trans s611
          have s411 := s5.trans s511
          have all : DqAll D B (upd (upd H20 M (.lst [.ref x4, .ref y3])) p (.lst ([v1, .ref c1, .ref c2, .ref c3, .ref c4, .ref c6] ++ [.ref x4, .ref y3]))) ([v1, .ref c1, .ref c2, .ref c3, .ref c4, .ref c6] ++ [.ref x4, .ref y3]) ([d1, .tuple es1, .tuple es2, .tuple ds.reverse, .list ds, .tuple (ds ++ es5)] ++ [.tuple ((ex1 ++ [d2]) ++ ex3), .tuple (ey1 ++ ey2)]) := by
            refine DqAll.append (.cons (.tup ((s18.trans (s19.trans (s20.trans (s21.trans s22)))) _ _ g17) ?_) (.cons (.tup ((s21.trans s22) _ _ g20) ?_) .nil)) (dk11.dataAll f1122 (.cons (q1.same s411) (.cons (.tup (s511 _ _ g5) (hes1.same s511)) (.cons (.tup (s611 _ _ g6) (hes2.same s611)) (.cons (.tup (s711 _ _ upd_same) ((ha6.rev.same s7).same s711))
              (.cons (.lst (dk7.neD n4) (dk7.neB n4) (s811 _ _ upd_same) (ha8.same s811)) (.cons (.tup (s1011 _ _ g10) (DqAll.append ((hes5.same s10).same s1011) (ha8.same s811))) .nil)))))))
            · exact DqAll.append (hex3.same ((s17.trans (s18.trans (s19.trans s20))).trans (s21.trans s22))) (DqAll.append (.cons (q2.same s1322) .nil) (hex1.same s1322))
            · exact DqAll.append (hey2.same (s20.trans (s21.trans s22))) (hey1.same ((s19.trans s20).trans (s21.trans s22)))
          refine ⟨D, B, C, cells, p, _, rfl, dk22, upd_same, dk21.neD np, dk21.neB np, by show 0 < 8; decide, by show 8 < 1073741824; decide, fun i8 v8 H23 hv dk23 f23 => ?_⟩
          obtain ⟨d8, hd8, q8⟩ := all.at_ i8 v8 hv
          have fH4 : Fr D B H H4 := f2.trans (f3.trans f4)
          refine q v8 d8 H23 ?_ (dk22.data f23 q8) (fun Z nZ => ?_) dk23 ((fH4.trans (Fr.of_same s411)).trans (f1122.trans f23))
          rotate_left
          · have nZ3 := dk3.alive f3 (dk2.alive f2 nZ)
            have nZ4 := dk4.alive f4 nZ3
            have nZ7 := Same.some s7 (Same.some s6 (Same.some s5 nZ4))
            have nZ12 := Same.some s12 (Same.some (s8.trans s811) nZ7)
            have cZ : c4 ≠ Z := fun z => nZ7 (by rw [← z]; exact n4)
            have P1 : ∀ {es : List PyData}, (∀ e ∈ es, e ∈ ds) → ∀ x ∈ es, Plain m x := fun h x hm => hx x (h x hm)
            have aZ : ∀ {G : Hp}, DqAll D B G xs ds → DqAll Z Z G xs ds := fun h => plain_anyAll hx h
            have q1Z := (dk11.two f1122 (q1.same s411) ((z1 Z nZ3).same s411))
            have allZ : DqAll Z Z (upd (upd H20 M (.lst [.ref x4, .ref y3])) p (.lst ([v1, .ref c1, .ref c2, .ref c3, .ref c4, .ref c6] ++ [.ref x4, .ref y3]))) ([v1, .ref c1, .ref c2, .ref c3, .ref c4, .ref c6] ++ [.ref x4, .ref y3]) ([d1, .tuple es1, .tuple es2, .tuple ds.reverse, .list ds, .tuple (ds ++ es5)] ++ [.tuple ((ex1 ++ [d2]) ++ ex3), .tuple (ey1 ++ ey2)]) := by
              have tup1 : ∀ {c : Addr} {zs : List V} {es : List PyData}, (∀ x ∈ es, Plain m x) → Dq D B (upd H10 L (.lst [v1, .ref c1, .ref c2, .ref c3, .ref c4, .ref c6])) (.ref c) (.tuple es) → (upd H10 L (.lst [v1, .ref c1, .ref c2, .ref c3, .ref c4, .ref c6])) c = some (.tup zs) → Dq Z Z (upd (upd H20 M (.lst [.ref x4, .ref y3])) p (.lst ([v1, .ref c1, .ref c2, .ref c3, .ref c4, .ref c6] ++ [.ref x4, .ref y3]))) (.ref c) (.tuple es) := fun h k e => by
                refine dk11.two f1122 k ?_
                cases k with
                | tup e2 ha => exact .tup e2 (plain_anyAll h ha)
              refine DqAll.append (.cons (.tup ((s18.trans (s19.trans (s20.trans (s21.trans s22)))) _ _ g17) ?_) (.cons (.tup ((s21.trans s22) _ _ g20) ?_) .nil)) (.cons q1Z (.cons (tup1 (P1 mem1) (.tup (s511 _ _ g5) (hes1.same s511)) (s511 _ _ g5)) (.cons (tup1 (P1 mem2) (.tup (s611 _ _ g6) (hes2.same s611)) (s611 _ _ g6))
                (.cons (tup1 (fun x hm => hx x (List.mem_reverse.mp hm)) (.tup (s711 _ _ upd_same) ((ha6.rev.same s7).same s711)) (s711 _ _ upd_same)) (.cons ?_ (.cons (tup1 (fun x hm => (List.mem_append.mp hm).elim (hx x) (fun hm => hx x (mem5 x hm))) (.tup (s1011 _ _ g10) (DqAll.append ((hes5.same s10).same s1011) (ha8.same s811))) (s1011 _ _ g10)) .nil))))))
              · exact DqAll.append ((plain_anyAll (P1 memx3) hex3).same ((s17.trans (s18.trans (s19.trans s20))).trans (s21.trans s22))) (DqAll.append (.cons ((z2 Z nZ12).same s1322) .nil) ((plain_anyAll (P1 memx1) hex1).same s1322))
              · exact DqAll.append ((plain_anyAll (P1 memy2) hey2).same (s20.trans (s21.trans s22))) ((plain_anyAll (P1 memy1) hey1).same ((s19.trans s20).trans (s21.trans s22)))
              · exact dk11.two f1122 (.lst (dk7.neD n4) (dk7.neB n4) (s811 _ _ upd_same) (ha8.same s811)) (.lst cZ cZ (s811 _ _ upd_same) (aZ (ha8.same s811)))
            obtain ⟨d9, hd9, q9⟩ := allZ.at_ i8 v8 hv
            rw [hd8] at hd9
            cases hd9
            exact dk22.two f23 q8 q9
          have inl : ∀ {es : List PyData}, (∀ e ∈ es, e ∈ ds) → ∀ x ∈ es, x ∈ ds ∨ x ∈ oddD := fun h x hm => .inl (h x hm)
          have app : ∀ {es fs : List PyData}, (∀ x ∈ es, x ∈ ds ∨ x ∈ oddD) → (∀ x ∈ fs, x ∈ ds ∨ x ∈ oddD) → ∀ x ∈ es ++ fs, x ∈ ds ∨ x ∈ oddD := fun h1 h2 x hm => (List.mem_append.mp hm).elim (h1 x) (h2 x)
          have self : ∀ x ∈ ds, x ∈ ds ∨ x ∈ oddD := fun x hm => .inl hm
          match i8, hd8 with
          | 0, h => exact Option.some.inj h ▸ oddOk _ m1
          | 1, h => exact Option.some.inj h ▸ tupOk _ (inl mem1) (by omega)
          | 2, h => exact Option.some.inj h ▸ tupOk _ (inl mem2) (by omega)
          | 3, h => exact Option.some.inj h ▸ tupOk _ (fun x hm => .inl (List.mem_reverse.mp hm)) (by rw [List.length_reverse]; omega)
          | 4, h => exact Option.some.inj h ▸ lstOk _ self (by omega)
          | 5, h => exact Option.some.inj h ▸ tupOk _ (app self (inl mem5)) (by rw [List.length_append]; omega)
          | 6, h => exact Option.some.inj h ▸ tupOk _ (app (app (inl memx1) (fun x hm => .inr (List.mem_singleton.mp hm ▸ m2))) (inl memx3)) (by rw [List.length_append, List.length_append]; show ex1.length + 1 + ex3.length ≤ 2 * wd (m + 1) + 1; omega)
          | 7, h => exact Option.some.inj h ▸ tupOk _ (app (inl memy1) (inl memy2)) (by rw [List.length_append]; omega)
          | i8 + 8, h => cases h
end
end Jg
namespace Jg
open PySem PySem.Spec PyProof.Rows L2
open Sem (wp)
/-! ### enumerate of a tuple -/
def enumObj (i : Addr) : Obj := { cls := .type "enumerate", data := .fields #[.none, .bool false, .ref i, rawInt 0, .none, .none] }
set_option maxHeartbeats 1000000 in
theorem enumBorn {v : Value} {ob : Obj} {Z : Heap → Prop} (bg : Begins v ob Z) :
    Meets (Builtin.«enumerate.__new__» ⟨[.type "enumerate", v], []⟩) (fun _ R z => Z z.heap ∧
      R (.ok (.ret (.ref (z.heap.push ob).objs.size))) { z with heap := (z.heap.push ob).push (enumObj z.heap.objs.size) }) :=
  .of_wp fun prog w A R z hz => by
    obtain ⟨hp, g, d, tk, os⟩ := z
    obtain ⟨hz1, hz2⟩ := hz
    have hsub := sub_enumerate
    have goB : ∀ {A' : Around} {E : Value → Shared → Prop} {Q : Value → Shared → Prop}, Q (.ref hp.objs.size) ⟨hp.push ob, g, d, tk, os⟩ → wpAny (model prog w) A' (pyIter v) Q E ⟨hp, g, d, tk, os⟩ := fun q => bg.iter prog w _ _ ⟨hp, g, d, tk, os⟩ _ hz1 q
    wp_walk using goB
    refine wpAny_stack_any fun st => wpAny_pure ?_
    split
    · rename_i c _ _ _ _ _
      cases (c == Value.type "enumerate") <;> (wp_walk using goB) <;> exact ⟨_, rfl, hz2⟩
    · wp_walk using goB
      exact ⟨_, rfl, hz2⟩
theorem enumMade {prog : Program} {w : World} {A : Around} {E : Value → Shared → Prop} {z : Shared} {v : Value} {ob : Obj} {Z : Heap → Prop} {Q : Value → Shared → Prop} (bg : Begins v ob Z) (hz : Z z.heap)
    (h : ∀ h', IsEnum h' (z.heap.objs.size + 1) z.heap.objs.size 0 .none → h'.get? z.heap.objs.size = some ob → (∀ b o, z.heap.get? b = some o → h'.get? b = some o) → Q (.ref (z.heap.objs.size + 1)) { z with heap := h' }) :
    wpAny (model prog w) A (call (.type "enumerate") [v]) Q E z := by
  refine callType_new F.called_enumerate (by decide) (F.typeCall_enumerate_1 _) (F.newCall_enumerate_1 _) (fun obj => F.args_object_init_2 obj _) F.entry_enumerate_new (enumBorn bg) ⟨hz, ?_⟩
  have sz1 : (z.heap.push ob).objs.size = z.heap.objs.size + 1 := Heap.size_push ..
  have born : IsEnum ((z.heap.push ob).push (enumObj z.heap.objs.size)) (z.heap.objs.size + 1) z.heap.objs.size 0 .none := sz1 ▸ Heap.get?_push_size (z.heap.push ob) (o := enumObj z.heap.objs.size) rfl
  show _ ∧ _
  rw [sz1]
  exact ⟨⟨_, born, rfl⟩, h _ born (Heap.get?_push_of_some _ (Heap.get?_push_size _ bg.free)) fun b o x => Heap.get?_push_of_some _ (Heap.get?_push_of_some _ x)⟩
/-- the tuple at a, each item in a new pair with its number -/
def IteT (K : PySem.W.Frag) (a : Addr) : It where
  go := fun i H => ∃ (xs : List V) (x : V), SqT K H a xs ∧ xs[i]? = some x
  yld := fun i H v H' => ∃ T x, v = .ref T ∧ H T = none ∧ H' = upd H T (.tup [.int (i : Nat), x]) ∧ ∀ xs, SqT K H a xs → xs[i]? = some x
  stop := fun i H => ∃ xs : List V, SqT K H a xs ∧ xs.length ≤ i
theorem turn_enumT {P : Program} {w : World} {K : PySem.W.Frag} {elts : List Expr} {kk : Nat} {tpos : Pos} (a e it : Addr) :
    Turn P w K (.Tuple elts kk tpos) (IteT K a) [e, it] e (fun i h => (∃ old, IsEnum h e it ((i : Nat) : Int) old) ∧ h.IsTupleIter it a i ∧ e ≠ it) where
  mem := List.mem_cons_self ..
  obj := fun i h ⟨⟨old, he⟩, ⟨o, ho, _, hd⟩, _⟩ b hb => by
    rcases List.mem_cons.mp hb with z | z
    · subst z
      exact ⟨_, he, fun v q => nomatch q⟩
    · exact ⟨o, List.mem_singleton.mp z ▸ ho, fun v q => by rw [hd] at q; cases q⟩
  keep := fun i h h' ⟨⟨old, he⟩, hi, hne⟩ k => ⟨⟨old, k e (by simp) _ he⟩, hi.at fun o q => k it (by simp) o q, hne⟩
  item := by
    intro X hP hw hK hc i pins s σ H E I hf st hg
    subst hP hw hK
    obtain ⟨⟨old, he⟩, hit, hne⟩ := st
    obtain ⟨xs, x, hq, hx⟩ := hg
    obtain ⟨its, rv, p, hz⟩ := I.tuple hq
    have pT : s.heap.IsTuple a its.toArray := p
    have e_a : e ≠ a := fun z => by
      obtain ⟨o, ho, hcl, _⟩ := pT
      rw [← z, he] at ho
      cases ho
      exact absurd (Value.type.inj hcl) (by decide)
    have it_a : a ≠ it := fun z => by
      obtain ⟨o, ho, hcl, _⟩ := pT
      obtain ⟨o2, ho2, hcl2, _⟩ := hit
      rw [z, ho2] at ho
      cases ho
      rw [hcl] at hcl2
      exact absurd (Value.type.inj hcl2) (by decide)
    obtain ⟨u, hu, ru⟩ := rv.get hx
    have hel : e < s.heap.objs.size := Heap.lt_size he
    have hil : it < s.heap.objs.size := by
      obtain ⟨_, q, _⟩ := hit
      exact Heap.lt_size q
    have hlt : i < its.toArray.size := by
      obtain ⟨hh, _⟩ := List.getElem?_eq_some_iff.mp hu
      simpa using hh
    refine wpAny_pyNext_enum_itemD (Draws.tuple (A := X.A.in1) (I.ok.hd hc) it a it_a its.toArray) he ⟨hit, pT⟩ hlt hne (by simp [hne, e_a]) fun x' h1 tk hx' ho hs' hT hsz hk => ?_
    have hxu : x' = u := by
      have q1 : its.toArray[i]? = some x' := hx'
      have q2 : its.toArray[i]? = some u := by simpa using hu
      exact Option.some.inj (q1.symm.trans q2)
    subst hxu
    refine ⟨_, rfl, wpAny_letOwnedTupleGo_enum (s := { s with heap := h1, toks := tk + 1 }) ho fun h2 he2 sb => ?_⟩
    have hT2 : h2.get? s.heap.objs.size = some { cls := .type "tuple", data := .seq #[.int i tk, x'] } := (sb.2 _ (Nat.ne_of_gt hel)).trans hT
    have fresh : ObjOk X.prog X.w (upd H s.heap.objs.size (.tup [.int (i : Nat), x])) h2 s.heap.objs.size (.tup [.int (i : Nat), x]) := ⟨by show 2 ≤ sizeLine; decide, [.int i tk, x'], .cons ⟨_, rfl⟩ (.cons ru .nil), ⟨_, hT2, rfl, _, rfl⟩⟩
    have I1 : Inv X pins σ (upd H s.heap.objs.size (.tup [.int (i : Nat), x])) { s with heap := h2, toks := tk + 1 } := I.turnedNew (ch := [e, it]) (fun b ob hb q => (sb.2 b (fun z => hb (by simp [z]))).trans (hk b ob (fun z => hb (by simp [z])) (fun z => hb (by simp [z])) q)) hf (Nat.le_refl _) fresh
    have e1 : ((i + 1 : Nat) : Int) = (i : Int) + 1 := by omega
    refine ⟨.ref s.heap.objs.size, _, I1, rfl, ⟨_, x, rfl, I.hok.fresh (Nat.le_refl _), rfl, fun ys hy => I.tuple_inj hy hq ▸ hx⟩, ⟨⟨x', e1 ▸ he2⟩, hs'.1.at fun o q => (sb.2 it (Ne.symm hne)).trans q, hne⟩, fun b hb => ?_⟩
    have hb2 : b < s.heap.objs.size := by
      rcases List.mem_cons.mp hb with z | z
      · exact z ▸ hel
      · exact List.mem_singleton.mp z ▸ hil
    rw [upd_ne (Nat.ne_of_lt hb2)]
    exact (hf b hb).1
  done := by
    intro X hP hw hK hc i pins s σ H E I hf st hg
    subst hP hw hK
    obtain ⟨⟨old, he⟩, hit, hne⟩ := st
    obtain ⟨xs, hq, hx⟩ := hg
    obtain ⟨its, rv, p, hz⟩ := I.tuple hq
    have pT : s.heap.IsTuple a its.toArray := p
    obtain ⟨f0, f1, f2, f3, f4, f5⟩ := hf it (by simp)
    have hl := rv.length
    have hT : s.TypeIs (.ref e) "enumerate" := ⟨_, he, rfl⟩
    unfold pyNext
    refine wpAny_bind (wpAny_attempt (wpAny_callSpecial?_slot (name := Str.ofString "__next__") hT F.slot_enumerate_next (wpAny_call_entry F.slot_enumerate_next hT F.entry_enumerate_next ?_ (F.args_enumerate_next_1 _))))
    show wpAny _ _ (field (.ref e) 2 >>= _) _ _ _
    refine wpAny_bind (wpAny_field he rfl (x := .ref it) rfl (wpAny_bind (wpAny_nextOf_tuple_end (I.ok.hd hc) hit pT (by simp; omega) fun h2 y he2 ⟨o, ho, hcl⟩ => ?_)))
    refine wpAny_bind (wpAny_isInstance (T := "StopIteration") (b := true) ⟨o, ho, hcl⟩ isSubtype_stop (wpAny_pure ⟨rfl, ?_⟩))
    exact I.turned (t' := s.toks) (fun b ob hb q => he2 b ob hb q) f0 f1 f3 f4 f5
  self := fun A i s Q E ⟨⟨_, he⟩, _⟩ h => wpAny_pyIter_enum he h
def iEnumT (K : PySem.W.Frag) (ta : TA) : TI := fun σ H R => ta σ H fun vs H1 => ∃ a xs, vs = [.ref a] ∧ SqT K H1 a xs ∧ R (IteT K a) H1
theorem pi_enumT {X : Cx} {e : Expr} {ta : TA} {p pos tpos : Pos} {elts : List Expr} {kk : Nat} (gl : Gl X "enumerate") (no : X.mg "enumerate" = none) (pa : PA X [e] ta) (hs : starEach [e] X.env = [(false, eval e X.env)] := by rfl) :
    PI X (.Tuple elts kk tpos) (.Call (.Name "enumerate" p) [e] [] pos) (iEnumT X.K ta) := by
  refine ⟨fun pins s σ H R I h => Call_ (ld_blt I gl no boot_enumerate (PyProof.Rows.callWith_type1 (thn (pa.run pos pins s σ H _ I h) fun us s1 ⟨vs, H1, I1, r1, a, xs, ex, hq, q⟩ => ?_) hs rfl))⟩
  subst ex
  cases r1 with
  | cons r rr =>
    cases rr
    cases r
    obtain ⟨its, rv, pp, hz⟩ := I1.tuple hq
    have pT : s1.heap.IsTuple a its.toArray := pp
    refine enumMade (begins_tuple a its.toArray) pT fun h1 he hi hk => wpAny_pyIter_enum he ?_
    have I2 : Inv X pins σ H1 { s1 with heap := h1 } := I1.kept (t' := s1.toks) hk
    refine ⟨s1.heap.objs.size + 1, [s1.heap.objs.size + 1, s1.heap.objs.size], _, _, H1, rfl, I2, turn_enumT a (s1.heap.objs.size + 1) s1.heap.objs.size, ⟨⟨.none, he⟩, ⟨_, hi, rfl, rfl⟩, Nat.succ_ne_self _⟩, fun b hb => ?_, q⟩
    have hle : s1.heap.objs.size ≤ b := by
      rcases List.mem_cons.mp hb with z | z
      · exact z ▸ Nat.le_add_right _ _
      · exact List.mem_singleton.mp z ▸ Nat.le_refl _
    exact I1.fpOk hle (I1.hok.fresh hle)
end Jg
namespace Jg
open PySem PySem.Spec PyProof.Rows L2
def isSt : PyData → Bool
  | .str _ => true | _ => false
theorem kStr {K : PySem.W.Frag} : ∀ d : PyData, PySem.W.kitOne K (.type (tyN d)) (.type "str") = some (isSt d)
  | .none => kit_ty (a := "NoneType") (by show kitB "NoneType" "str" = some false; decide +kernel)
  | .bool _ => kit_ty (a := "bool") (by show kitB "bool" "str" = some false; decide +kernel)
  | .int _ => kit_ty (a := "int") (by show kitB "int" "str" = some false; decide +kernel)
  | .str _ => kit_ty (a := "str") (by show kitB "str" "str" = some true; decide +kernel)
  | .list _ => kit_ty (a := "list") (by show kitB "list" "str" = some false; decide +kernel)
  | .tuple _ => kit_ty (a := "tuple") (by show kitB "tuple" "str" = some false; decide +kernel)
  | .dict _ => kit_ty (a := "dict") (by show kitB "dict" "str" = some false; decide +kernel)
theorem isSt_of {D B : Addr} {H : Hp} {v : V} {d : PyData} (hd : Dq D B H v d) (h : isSt d = true) : ∃ x, d = .str x ∧ v = .str x := by
  cases hd <;> first | exact ⟨_, rfl, rfl⟩ | cases h
theorem inV3 (x a b c : Str) : inV (.str x) [.str a, .str b, .str c] = (decide (x = a) || decide (x = b) || decide (x = c)) := by
  have h : ∀ k : Str, eqV (.str k) (.str x) = decide (x = k) := fun k => by
    show decide (k = x) = decide (x = k)
    by_cases e : x = k
    · rw [decide_eq_true e, decide_eq_true e.symm]
    · rw [decide_eq_false e, decide_eq_false fun z => e z.symm]
  show (eqV (.str a) (.str x) || (eqV (.str b) (.str x) || (eqV (.str c) (.str x) || false))) = _
  rw [h, h, h, Bool.or_false, Bool.or_assoc]
theorem ones_eqv (m : Nat) : PyData.eqv (.list ((List.replicate m (1 : Int)).map PyData.int)) (.list []) = decide (m = 0) := by
  cases m with
  | zero => simp [PyData.eqv, PyData.eqvAll]
  | succ m => simp [PyData.eqv, PyData.eqvAll, List.replicate_succ]
theorem dq_one {D B : Addr} {H : Hp} {xs : List V} {d : PyData} (h : DqAll D B H xs [d]) : ∃ x, xs = [x] ∧ Dq D B H x d := by
  cases h with
  | cons a h =>
    cases h
    exact ⟨_, rfl, a⟩
theorem dq_two {D B : Addr} {H : Hp} {xs : List V} {d e : PyData} (h : DqAll D B H xs [d, e]) : ∃ x y, xs = [x, y] ∧ Dq D B H x d ∧ Dq D B H y e := by
  cases h with
  | cons a h =>
    cases h with
    | cons b h =>
      cases h
      exact ⟨_, _, rfl, a, b⟩
theorem within_is {lo hi : Int} {d : PyData} (h : within lo hi d = true) : ∃ i, d = .int i ∧ lo ≤ i ∧ i ≤ hi := by
  cases d <;> first | cases h | skip
  rename_i i
  have h2 : (decide (lo ≤ i) && decide (i ≤ hi)) = true := h
  rw [Bool.and_eq_true] at h2
  exact ⟨i, rfl, of_decide_eq_true h2.1, of_decide_eq_true h2.2⟩
theorem inV2 (x a b : Str) : inV (.str x) [.str a, .str b] = (decide (x = a) || decide (x = b)) := by
  have h : ∀ k : Str, eqV (.str k) (.str x) = decide (x = k) := fun k => by
    show decide (k = x) = decide (x = k)
    by_cases e : x = k
    · rw [decide_eq_true e, decide_eq_true e.symm]
    · rw [decide_eq_false e, decide_eq_false fun z => e z.symm]
  show (eqV (.str a) (.str x) || (eqV (.str b) (.str x) || false)) = _
  rw [h, h, Bool.or_false]
theorem boot_max' : bootBuiltins "max" = some (.builtin "max") := by decide +kernel
theorem boot_sum' : bootBuiltins "sum" = some (.builtin "sum") := by decide +kernel
def wr (x : Str) : PyData := .tuple [.none, .str x]
theorem dq_three {D B : Addr} {H : Hp} {xs : List V} {d e f : PyData} (h : DqAll D B H xs [d, e, f]) : ∃ x y z, xs = [x, y, z] ∧ Dq D B H x d ∧ Dq D B H y e ∧ Dq D B H z f := by
  cases h with
  | cons a h =>
    obtain ⟨y, z, rfl, h1, h2⟩ := dq_two h
    exact ⟨_, _, _, rfl, a, h1, h2⟩
theorem three_of {ds : List PyData} (h : ds.length = 3) : ∃ a b c, ds = [a, b, c] := by
  match ds, h with
  | [a, b, c], _ => exact ⟨a, b, c, rfl⟩
theorem dq_wr {D B p : Addr} {H : Hp} {x : Str} (e : H p = some (.tup [.non, .str x])) : Dq D B H (.ref p) (wr x) := .tup e (.cons .non (.cons (.str _) .nil))
theorem dq_nr {D B p : Addr} {H : Hp} {i : Int} {x : Str} (e : H p = some (.tup [.int i, .str x])) : Dq D B H (.ref p) (.tuple [.int i, .str x]) := .tup e (.cons (.int _) (.cons (.str _) .nil))
theorem ix_tupK {X : Cx} {K : PySem.W.Frag} (h : X.K = K) : IxR X (rIxT K) := h ▸ ix_tup
def rLenQ (K : PySem.W.Frag) : List V → Hp → VK → Prop := fun zs H Q => ∃ p ys, zs = [.ref p] ∧ (SqL K H p ys ∨ SqT K H p ys) ∧ Q (.int ys.length) H
theorem call_lenK {X : Cx} {K : PySem.W.Frag} (h : X.K = K) : CallR X (.builtin "len") (rLenQ K) := h ▸ call_len_seq
theorem for_enumT {K : PySem.W.Frag} {a : Addr} {xs : List V} {g : TG} {tb : TS} {D : Ends} {σ : L2.St} {H : Hp} (Pv : Nat → L2.St → Hp → Prop) (h0 : Pv 0 σ H) (hl : ∀ i σ H, i ≤ xs.length → Pv i σ H → SqT K H a xs)
    (hs : ∀ i x T σ H, xs[i]? = some x → Pv i σ H → H T = none → g (.ref T) σ (upd H T (.tup [.int (i : Nat), x])) fun σ2 H2 => tb { D with nx := Pv (i + 1), ct := Pv (i + 1), bk := D.nx } σ2 H2) (hd : ∀ σ H, Pv xs.length σ H → D.nx σ H) :
    ∃ W : Nat → Nat → L2.St → Hp → Prop, (∃ m, W 0 m σ H) ∧ ∀ i m σ H, W i m σ H →
      ((IteT K a).stop i H ∧ D.nx σ H) ∨ ((IteT K a).go i H ∧ ∃ N : L2.St → Hp → Prop, (∀ σ' H', N σ' H' → ∃ m', m' < m ∧ W (i + 1) m' σ' H') ∧ ∀ x H', (IteT K a).yld i H x H' → g x σ H' fun σ2 H2 => tb { D with nx := N, ct := N, bk := D.nx } σ2 H2) := by
  refine ⟨fun i m σ H => m = xs.length - i ∧ i ≤ xs.length ∧ Pv i σ H, ⟨xs.length, rfl, Nat.zero_le _, h0⟩, ?_⟩
  rintro i m σ H ⟨rfl, hi, p⟩
  have q := hl i σ H hi p
  by_cases lt : i < xs.length
  · refine .inr ⟨⟨xs, xs[i], q, List.getElem?_eq_getElem lt⟩, Pv (i + 1), fun σ' H' p' => ⟨xs.length - (i + 1), by omega, rfl, lt, p'⟩, fun x H' y => ?_⟩
    obtain ⟨T, z, rfl, hT, rfl, hz⟩ := y
    exact hs i z T σ H (hz xs q) p hT
  · obtain rfl : i = xs.length := by omega
    exact .inl ⟨⟨xs, q, Nat.le_refl _⟩, hd σ H p⟩
structure Nm (K : PySem.W.Frag) (mg : Str → Option Value) (x : Str) (st : Stmt) (ps : List Str) (f : Addr) (fd : FuncData) : Prop where
  F : Fun K x x st f fd
  b : Binds K fd ps []
  g : mg x = some (.ref f)
def isNo : PyData → Bool
  | .none => true | _ => false
theorem dq_isN {D B : Addr} {H : Hp} {v : V} {d : PyData} (h : Dq D B H v d) : decide (v = .non) = isNo d := by
  cases h <;> rfl
section
variable {X : Cx} {CX : CXT} {k : Nat} {f : Addr} {fd : FuncData} {ps ks : List Str} {sp : Sp} {E : XK} {x : Str} {p pos : Pos} {kws : List Keyword} {tk : TA} {g : List Value → List Value → List Value} {gV : List V → List V → List V}
/-- f(k = v, ..), keywords alone -/
theorem pe_callKO (F : FnOk X.prog X.w X.K X.mg X.base CX k f fd ps sp) (hr : Room k X.A) (hg : Gl X x) (hm : X.mg x = some (.ref f)) (hk : PySem.W.keepIn X.K (.ref f) = true) (hb : KBinds X.K fd ps ks g gV) (hx : Passes CX X E) (hkw : PK X kws tk)
    (hall : (backToKw pos (keywordEach kws X.env)).all (·.1.isSome) = true := by rfl) (hks : (backToKw pos (keywordEach kws X.env)).filterMap (·.1) = ks := by rfl) (hdb : (x == ("__debug__" : Str)) = false := by decide)
    (hpl : ((backTo pos (starEach [] X.env)).any (·.1) || (backToKw pos (keywordEach kws X.env)).any (·.1.isNone)) = false := by rfl) : PE X (.Call (.Name x p) [] kws pos) (tCallK sp gV E tNil tk) := by
  refine ⟨fun pins s σ H Q I h => wpAny_Call_Name_kw (ld_glob I hg hm (PySem.W.callWith_KW0 (h₀ := X.base) I.ok.mod.kin hk hall ?_ hpl) hdb)⟩
  refine thn (hkw.run pos pins s σ H _ I h) fun ws s2 ⟨zs, H2, I2, rz, q2⟩ => ⟨I2.kIn, ?_⟩
  rw [hks]
  exact run_fnk (us := []) (vs := []) F hr hb hx I2 .nil rz q2
end
theorem ps_imp {X : Cx} {st : Stmt} {t t' : TS} (h : PS X st t) (k : ∀ D σ H, t' D σ H → t D σ H) : PS X st t' := ⟨fun pins s σ H D I q => h.run pins s σ H D I (k D σ H q)⟩
def fnd (ns : List Int) (i : Int) : Int := ns.getD i.toNat 0
theorem fnd_at {ns : List Int} {i : Int} (h0 : 0 ≤ i) (h1 : i < (ns.length : Int)) : atI (ns.map V.int) i = some (.int (fnd ns i)) := by
  obtain ⟨j, rfl⟩ : ∃ j : Nat, i = (j : Int) := ⟨i.toNat, by omega⟩
  have hj : j < ns.length := by omega
  refine atI_nat ?_
  rw [List.getElem?_map, List.getElem?_eq_getElem hj]
  show some (V.int ns[j]) = some (V.int (ns.getD j 0))
  rw [List.getD_eq_getElem?_getD, List.getElem?_eq_getElem hj]
  rfl
/-- a def that is called -/
structure Cal (P : Program) (w : World) (K : PySem.W.Frag) (mg : Str → Option Value) (base : Heap) (x : Str) (k : Nat) (ps : List Str) (sp : Sp) (f : Addr) (fd : FuncData) : Prop where
  F : FnOk P w K mg base CX0 k f fd ps sp
  g : mg x = some (.ref f)
  kp : PySem.W.keepIn K (.ref f) = true
  b : Binds K fd ps []
def kwOne : List Value → List Value → List Value
  | [], [v] => [v] | _, _ => []
def kwOneV : List V → List V → List V
  | [], [v] => [v] | _, _ => []
def forBody : Stmt → List Stmt
  | .For _ _ b _ _ => b | _ => []
theorem tup_ne {D B C : Addr} {cells : List Int} {H : Hp} {xs : List V} {b : Addr} (k : DeckAt D B C cells H) (e : H b = some (.tup xs)) : b ≠ D ∧ b ≠ B := by
  obtain ⟨x1, g1⟩ := k.isD
  obtain ⟨x2, g2⟩ := k.isB
  exact ⟨(fun z => by rw [z, g1] at e; cases e), (fun z => by rw [z, g2] at e; cases e)⟩
section
variable {σ : L2.St} {v : Option V}
theorem get_set_ne {i j : Nat} (h : i ≠ j) : (σ.set i v)[j]? = σ[j]? := List.getElem?_set_ne h
theorem get_set_eq {i : Nat} (h : i < σ.length) : (σ.set i v)[i]? = some v := by
  rw [List.getElem?_set_self h]
end
section
variable {σ : L2.St} {i j k : Nat} {x y : Option V}
theorem wipe1 : wipe ((wipe σ [i]).set i x) [i] = wipe σ [i] := by
  show ((σ.set i none).set i x).set i none = σ.set i none
  rw [List.set_set, List.set_set]
theorem wipe2 (h : i ≠ j) : wipe (((wipe σ [i, j]).set i x).set j y) [i, j] = wipe σ [i, j] := by
  show (((((σ.set j none).set i none).set i x).set j y).set j none).set i none = (σ.set j none).set i none
  rw [List.set_set, List.set_set, List.set_comm _ _ h, List.set_set, List.set_set]
theorem w1_own (h : i < σ.length) : ((wipe σ [i]).set i x)[i]? = some x := get_set_eq (by rw [wipe_length]; exact h)
theorem w1_out (h : i ≠ k) : ((wipe σ [i]).set i x)[k]? = σ[k]? := by
  rw [get_set_ne h]
  exact get_set_ne h
theorem w2_one (h : i < σ.length) (hij : i ≠ j) : (((wipe σ [i, j]).set i x).set j y)[i]? = some x := by
  rw [get_set_ne hij.symm]
  exact get_set_eq (by rw [wipe_length]; exact h)
theorem w2_two (h : j < σ.length) : (((wipe σ [i, j]).set i x).set j y)[j]? = some y := get_set_eq (by rw [List.length_set, wipe_length]; exact h)
theorem w2_out (h1 : i ≠ k) (h2 : j ≠ k) : (((wipe σ [i, j]).set i x).set j y)[k]? = σ[k]? := by
  rw [get_set_ne h2, get_set_ne h1]
  show ((σ.set j none).set i none)[k]? = σ[k]?
  rw [get_set_ne h1, get_set_ne h2]
end
theorem DeckAt.but {D B C L : Addr} {cells : List Int} {H H' : Hp} (d : DeckAt D B C cells H) (f : ∀ b o, b ≠ L → H b = some o → H' b = some o) (hD : D ≠ L) (hB : B ≠ L) (hC : C ≠ L) : DeckAt D B C cells H' := by
  obtain ⟨n, hn⟩ := d.top
  obtain ⟨bs, hl, hb⟩ := d.big
  exact ⟨d.db, d.dc, d.bc, d.ne, d.len, ⟨n, f _ _ hD hn⟩, ⟨bs, hl, f _ _ hB hb⟩, f _ _ hC d.cel⟩
/-- plain data stays where all but one list stays -/
theorem plain_keep {D B L : Addr} {H H' : Hp} {ys : List V} (eL : H L = some (.lst ys)) (f : ∀ b o, b ≠ L → H b = some o → H' b = some o) : ∀ (n : Nat) (d : PyData) (v : V), Plain n d → Dq D B H v d → Dq D B H' v d
  | 0, d, v, h, hd => by
    rcases h with ⟨i, rfl, _⟩ | ⟨x, rfl, _⟩
    · cases hd
      exact .int i
    · cases hd
      exact .str x
  | n + 1, d, v, h, hd => by
    rcases h with h | ⟨ds, rfl, hl, hx⟩
    · rcases h with ⟨i, rfl, _⟩ | ⟨x, rfl, _⟩
      · cases hd
        exact .int i
      · cases hd
        exact .str x
    · obtain ⟨a, xs, rfl, e, ha⟩ := hd.tupE
      refine .tup (f _ _ (fun z => by rw [z, eL] at e; cases e) e) ?_
      clear e hl hd
      induction ha using DqAll.rec (motive_1 := fun _ _ _ => True) with
      | nil => exact .nil
      | cons h1 h2 _ ih => exact .cons (plain_keep eL f n _ _ (hx _ List.mem_cons_self) h1) (ih fun x hm => hx x (List.mem_cons_of_mem _ hm))
      | _ => trivial
theorem plain_keepAll {D B L : Addr} {H H' : Hp} {ys : List V} (eL : H L = some (.lst ys)) (f : ∀ b o, b ≠ L → H b = some o → H' b = some o) {n : Nat} : ∀ {xs : List V} {ds : List PyData}, (∀ x ∈ ds, Plain n x) → DqAll D B H xs ds → DqAll D B H' xs ds
  | _, _, _, .nil => .nil
  | _, _, hx, .cons a b => .cons (plain_keep eL f n _ _ (hx _ List.mem_cons_self) a) (plain_keepAll eL f (fun x hm => hx x (List.mem_cons_of_mem _ hm)) b)
abbrev sFar : Stmt := topS 20
abbrev sNum : Stmt := topS 22
theorem scFar : FnScope ["_law_deck_here", "_law_many", "_law_found", "_law_turn"] ["_law_deck_here", "_law_many"] (defScope sFar) := ⟨rfl, rfl, rfl, by decide +kernel, rfl, by decide +kernel, by decide +kernel⟩
theorem scNum : FnScope ["_law_deck_here", "_law_most"] ["_law_deck_here"] (defScope sNum) := ⟨rfl, rfl, rfl, by decide +kernel, rfl, by decide +kernel, by decide +kernel⟩
structure Fa (K : PySem.W.Frag) (mg : Str → Option Value) (f : Addr) (fd : FuncData) : Prop where
  F : Fun K "_law_far" "_law_far" sFar f fd
  b : Binds K fd ["_law_deck_here", "_law_many"] []
  g : mg "_law_far" = some (.ref f)
structure Nu (K : PySem.W.Frag) (mg : Str → Option Value) (f : Addr) (fd : FuncData) : Prop where
  F : Fun K "_law_number" "_law_number" sNum f fd
  b : Binds K fd ["_law_deck_here"] []
  g : mg "_law_number" = some (.ref f)
def spFar : Sp := fun vs H Q _ => ∃ (D B C : Addr) (cells : List Int) (m : Int), vs = [.ref D, .int m] ∧ DeckAt D B C cells H ∧ 0 < m ∧
  ∀ (i : Int) (H' : Hp), 0 ≤ i → i < m → DeckAt D B C cells H' → Fr D B H H' → Q (.int i) H'
def spNum : Sp := fun vs H Q _ => ∃ (D B C : Addr) (cells : List Int), vs = [.ref D] ∧ DeckAt D B C cells H ∧
  ∀ (i : Int) (H' : Hp), -M20 ≤ i → i ≤ M20 → DeckAt D B C cells H' → Fr D B H H' → Q (.int i) H'
section
variable {P : Program} {w : World} {K : PySem.W.Frag} {mg : Str → Option Value} {base : Heap}
theorem ok_far {f fD : Addr} {fd fdD : FuncData} (F : Fa K mg f fd) (FD : Dr K mg fD fdD) (T : Bn mg) : FnOk P w K mg base CX0 2 f fd ["_law_deck_here", "_law_many"] spFar := by
  have GD : FnOk P w K mg base CX0 1 fD fdD ["_law_deck_here", "_law_many"] spDraw := ok_draw FD.F T.int T.len
  refine F.F.ok scFar (fun vs H Q E h => ?_) (fun cdv A outer s H vs Q E hr h => ?_)
  · obtain ⟨D, B, C, cells, m, rfl, _⟩ := h
    rfl
  · obtain ⟨D, B, C, cells, m, rfl, dk, hm, q⟩ := h
    refine ⟨_, pss_cons (ps_set (i := 2) scFar.nd rfl (.inl rfl) pe_int)
      (pss_cons (ps_for PassesOwn.never rfl (pi_range1 rfl T.rng (pa_cons pe_int pa_nil)) (pg_name (i := 3) scFar.nd rfl (.inl rfl))
        (pss_one (ps_set (i := 2) scFar.nd rfl (.inl rfl) (pe_op op_add (pe_op op_mul (pv 2) pe_int) (pe_call GD hr (by rfl) FD.g FD.F.kp FD.b .nil pass0 (pa_cons (pv 0) (pa_cons pe_int pa_nil)))))))
      (pss_one (ps_ret (pe_op op_mod (pe_callTy call_int1 (by rfl) T.int PyProof.Rows.boot_int (pa_cons (pv 2) pa_nil)) (pv 1))))), ?_⟩
    refine ⟨12, rfl, by decide, by decide, for_range (n := 12) (fun i σ H3 => ∃ (y : Int) (y3 : Option V), σ = [some (.ref D), some (.int m), some (.int y), y3] ∧ DeckAt D B C cells H3 ∧ Fr D B H H3) ⟨0, none, rfl, dk, Fr.refl D B H⟩ ?_ ?_⟩
    · rintro i σ H3 hi ⟨y, y3, rfl, dk3, f3⟩
      refine ⟨_, rfl, _, _, rfl, rfl, .inr ⟨by decide, by decide⟩, _, rfl, D, B, C, cells, 1000, rfl, dk3, by decide, by decide, fun j H4 j0 j1 dk4 f4 => ⟨_, _, rfl, rfl, _, _, rfl, dk4, f3.trans f4⟩⟩
    · rintro σ H3 ⟨y, y3, rfl, dk3, f3⟩
      exact ⟨_, rfl, .inl ⟨y, rfl, _, rfl, _, _, rfl, rfl, hm, q _ _ (Int.emod_nonneg _ (by omega)) (Int.emod_lt_of_pos _ hm) dk3 f3⟩⟩
theorem ok_num {f fO fD fF : Addr} {fd fdO fdD fdF : FuncData} (F : Nu K mg f fd) (FF : Fa K mg fF fdF) (FO : On K mg fO fdO) (FD : Dr K mg fD fdD) (T : Bn mg) : FnOk P w K mg base CX0 3 f fd ["_law_deck_here"] spNum := by
  have GO : FnOk P w K mg base CX0 2 fO fdO ["_law_deck_here", "_law_items"] spOne := ok_one FO.F FD.F FD.b FD.g T.int T.len
  have GF : FnOk P w K mg base CX0 2 fF fdF ["_law_deck_here", "_law_many"] spFar := ok_far FF FD T
  refine F.F.ok scNum (fun vs H Q E h => ?_) (fun cdv A outer s H vs Q E hr h => ?_)
  · obtain ⟨D, B, C, cells, rfl, _⟩ := h
    rfl
  · obtain ⟨D, B, C, cells, rfl, dk, q⟩ := h
    refine ⟨_, pss_cons (ps_set (i := 1) scNum.nd rfl (.inl rfl) (pe_call GO hr (by rfl) FO.g FO.F.kp FO.b .nil pass0 (pa_cons (pv 0) (pa_cons (pe_lst (pa_cons pe_int (pa_cons pe_int (pa_cons pe_int (pa_cons (pe_op op_pow pe_int pe_int) (pa_cons (pe_op op_pow pe_int pe_int) pa_nil)))))) pa_nil))))
      (pss_one (ps_ret (pe_op op_mul (pe_call GO hr (by rfl) FO.g FO.F.kp FO.b .nil pass0 (pa_cons (pv 0) (pa_cons (pe_lst (pa_cons pe_int (pa_cons (pe_un un_neg pe_int) pa_nil))) pa_nil)))
        (pe_call GF hr (by rfl) FF.g FF.F.kp FF.b .nil pass0 (pa_cons (pv 0) (pa_cons (pe_op op_add (pv 1) pe_int) pa_nil)))))), ?_⟩
    refine ⟨_, rfl, _, _, rfl, rfl, ⟨by decide, by decide, by decide⟩, _, _, rfl, rfl, ⟨by decide, by decide, by decide⟩, sz1 rfl, fun p1 n1 => ?_⟩
    have s1 := same_upd (o := .lst [.int 3, .int 10, .int 1000, .int (10 ^ (9 : Int).toNat), .int (10 ^ (20 : Int).toNat)]) n1
    refine ⟨D, B, C, cells, p1, _, rfl, dk.same s1, upd_same, dk.neD n1, dk.neB n1, by show 0 < 5; decide, by show 5 < 1073741824; decide, fun i v H2 hv dk2 f2 => ?_⟩
    obtain ⟨m, rfl, m0, m1⟩ : ∃ m : Int, v = .int m ∧ 0 ≤ m ∧ m ≤ M20 := by
      match i, hv with
      | 0, hv => exact ⟨3, (Option.some.inj hv).symm, by decide, by decide⟩
      | 1, hv => exact ⟨10, (Option.some.inj hv).symm, by decide, by decide⟩
      | 2, hv => exact ⟨1000, (Option.some.inj hv).symm, by decide, by decide⟩
      | 3, hv => exact ⟨_, (Option.some.inj hv).symm, by decide, by decide⟩
      | 4, hv => exact ⟨_, (Option.some.inj hv).symm, by decide, by decide⟩
      | n + 5, hv => cases hv
    refine ⟨_, rfl, _, rfl, sz1 rfl, fun p3 n3 => ?_⟩
    have s3 := same_upd (o := .lst [.int 1, .int (-1)]) n3
    refine ⟨D, B, C, cells, p3, _, rfl, dk2.same s3, upd_same, dk2.neD n3, dk2.neB n3, by show 0 < 2; decide, by show 2 < 1073741824; decide, fun i4 v4 H4 hv4 dk4 f4 => ?_⟩
    refine ⟨_, rfl, _, rfl, _, _, rfl, rfl, D, B, C, cells, m + 1, rfl, dk4, by omega, fun j H5 j0 j1 dk5 f5 => ?_⟩
    have fAll : Fr D B H H5 := ((Fr.of_same s1).trans f2).trans (((Fr.of_same s3).trans f4).trans f5)
    match i4, hv4 with
    | 0, hv4 =>
      have e : v4 = .int 1 := (Option.some.inj hv4).symm
      subst e
      refine ⟨1, j, rfl, rfl, .inl ⟨by decide, by decide⟩, q (1 * j) H5 ?_ ?_ dk5 fAll⟩
      · have e : (M20 : Int) = 100000000000000000000 := by decide
        omega
      · omega
    | 1, hv4 =>
      have e : v4 = .int (-1) := (Option.some.inj hv4).symm
      subst e
      refine ⟨-1, j, rfl, rfl, .inl ⟨by decide, by decide⟩, q (-1 * j) H5 ?_ ?_ dk5 fAll⟩
      · omega
      · have e : (M20 : Int) = 100000000000000000000 := by decide
        omega
    | n + 2, hv4 => cases hv4
end
end Jg
namespace Jg
open PySem PySem.Spec PyProof.Rows L2
/-! ### moves and degrees -/
def spotsOf (x : Str) : Option (Nat × Bool) := if x = Str.ofString "gain" then some (2, true) else if x = Str.ofString "add" then some (3, true) else if x = Str.ofString "swap" then some (2, false) else if x = Str.ofString "turn" then some (1, false) else if x = Str.ofString "more" then some (1, true) else none
def eqI (i : Int) : PyData → Bool
  | .int j => decide (j = i) | _ => false
def apart : List PyData → Bool
  | .int i :: r => !r.any (eqI i) | _ => true
def isMv (pl : Int) : PyData → Bool
  | .tuple (.str x :: ds) => match spotsOf x with
    | some (k, b) => decide (ds.length = k + b.toNat) && ((ds.take k).all (within 0 (pl - 1)) && (apart (ds.take k) && (ds.drop k).all isIn))
    | none => false
  | _ => false
theorem isIn_is {d : PyData} (h : isIn d = true) : ∃ i, d = .int i := by
  cases d <;> first | exact ⟨_, rfl⟩ | cases h
theorem spots_is {x : Str} {k : Nat} {b : Bool} (h : spotsOf x = some (k, b)) : (x = Str.ofString "gain" ∧ k = 2 ∧ b = true) ∨ (x = Str.ofString "add" ∧ k = 3 ∧ b = true) ∨ (x = Str.ofString "swap" ∧ k = 2 ∧ b = false) ∨ (x = Str.ofString "turn" ∧ k = 1 ∧ b = false) ∨ (x = Str.ofString "more" ∧ k = 1 ∧ b = true) := by
  unfold spotsOf at h
  split at h
  · cases h
    exact .inl ⟨‹_›, rfl, rfl⟩
  · split at h
    · cases h
      exact .inr (.inl ⟨‹_›, rfl, rfl⟩)
    · split at h
      · cases h
        exact .inr (.inr (.inl ⟨‹_›, rfl, rfl⟩))
      · split at h
        · cases h
          exact .inr (.inr (.inr (.inl ⟨‹_›, rfl, rfl⟩)))
        · split at h
          · cases h
            exact .inr (.inr (.inr (.inr ⟨‹_›, rfl, rfl⟩)))
          · cases h
theorem isMv_parts {pl : Int} {d : PyData} (h : isMv pl d = true) : ∃ x ds k b, d = .tuple (.str x :: ds) ∧ spotsOf x = some (k, b) ∧ ds.length = k + b.toNat ∧ (ds.take k).all (within 0 (pl - 1)) = true ∧ apart (ds.take k) = true ∧ (ds.drop k).all isIn = true := by
  unfold isMv at h
  split at h
  · rename_i x ds
    split at h
    · rename_i k b hs
      rw [Bool.and_eq_true, Bool.and_eq_true, Bool.and_eq_true] at h
      exact ⟨x, ds, k, b, rfl, hs, of_decide_eq_true h.1, h.2.1, h.2.2.1, h.2.2.2⟩
    · cases h
  · cases h
/-- the five moves -/
inductive Mv (pl : Int) : PyData → Prop
  | gain {i j c : Int} : 0 ≤ i → i < pl → 0 ≤ j → j < pl → Mv pl (.tuple [.str (Str.ofString "gain"), .int i, .int j, .int c])
  | add {i j k c : Int} : 0 ≤ i → i < pl → 0 ≤ j → j < pl → 0 ≤ k → k < pl → Mv pl (.tuple [.str (Str.ofString "add"), .int i, .int j, .int k, .int c])
  | swap {i j : Int} : 0 ≤ i → i < pl → 0 ≤ j → j < pl → Mv pl (.tuple [.str (Str.ofString "swap"), .int i, .int j])
  | turn {i : Int} : 0 ≤ i → i < pl → Mv pl (.tuple [.str (Str.ofString "turn"), .int i])
  | more {i c : Int} : 0 ≤ i → i < pl → Mv pl (.tuple [.str (Str.ofString "more"), .int i, .int c])
theorem all1 {f : PyData → Bool} {a : PyData} (h : [a].all f = true) : f a = true := by simpa using h
theorem all2 {f : PyData → Bool} {a b : PyData} (h : [a, b].all f = true) : f a = true ∧ f b = true := by simpa using h
theorem all3 {f : PyData → Bool} {a b c : PyData} (h : [a, b, c].all f = true) : f a = true ∧ f b = true ∧ f c = true := by simpa using h
theorem mv_of {pl : Int} {d : PyData} (h : isMv pl d = true) : Mv pl d := by
  obtain ⟨x, ds, k, b, rfl, hs, hl, h1, _, h2⟩ := isMv_parts h
  rcases spots_is hs with ⟨rfl, rfl, rfl⟩ | ⟨rfl, rfl, rfl⟩ | ⟨rfl, rfl, rfl⟩ | ⟨rfl, rfl, rfl⟩ | ⟨rfl, rfl, rfl⟩
  · match ds, hl with
    | [a, b, c], _ =>
      obtain ⟨w1, w2⟩ := all2 h1
      obtain ⟨i, rfl, i0, i1⟩ := within_is w1
      obtain ⟨j, rfl, j0, j1⟩ := within_is w2
      obtain ⟨c, rfl⟩ := isIn_is (all1 h2)
      exact .gain i0 (by omega) j0 (by omega)
  · match ds, hl with
    | [a, b, c, e], _ =>
      obtain ⟨w1, w2, w3⟩ := all3 h1
      obtain ⟨i, rfl, i0, i1⟩ := within_is w1
      obtain ⟨j, rfl, j0, j1⟩ := within_is w2
      obtain ⟨k, rfl, k0, k1⟩ := within_is w3
      obtain ⟨c, rfl⟩ := isIn_is (all1 h2)
      exact .add i0 (by omega) j0 (by omega) k0 (by omega)
  · match ds, hl with
    | [a, b], _ =>
      obtain ⟨w1, w2⟩ := all2 h1
      obtain ⟨i, rfl, i0, i1⟩ := within_is w1
      obtain ⟨j, rfl, j0, j1⟩ := within_is w2
      exact .swap i0 (by omega) j0 (by omega)
  · match ds, hl with
    | [a], _ =>
      obtain ⟨i, rfl, i0, i1⟩ := within_is (all1 h1)
      exact .turn i0 (by omega)
  · match ds, hl with
    | [a, c], _ =>
      obtain ⟨i, rfl, i0, i1⟩ := within_is (all1 h1)
      obtain ⟨c, rfl⟩ := isIn_is (all1 h2)
      exact .more i0 (by omega)
def mx (a b : Int) : Int := if b > a then b else a
def degD (dg : List Int) : PyData → List Int
  | .tuple [.str x, .int i, .int j] => if x = Str.ofString "swap" then (dg.set i.toNat (fnd dg j)).set j.toNat (fnd dg i) else dg
  | .tuple [.str x, .int i, .int j, .int _] => if x = Str.ofString "gain" then dg.set i.toNat (mx (fnd dg i) (fnd dg j)) else dg
  | .tuple [.str x, .int i, .int j, .int k, .int _] => if x = Str.ofString "add" then dg.set i.toNat (mx (fnd dg i) (fnd dg j + fnd dg k)) else dg
  | _ => dg
def plc : PyData → Int
  | .tuple (_ :: .int i :: _) => i | _ => 0
theorem degD_3 {dg : List Int} {x : Str} {i j : Int} : degD dg (.tuple [.str x, .int i, .int j]) = if x = Str.ofString "swap" then (dg.set i.toNat (fnd dg j)).set j.toNat (fnd dg i) else dg := rfl
theorem degD_4 {dg : List Int} {x : Str} {i j c : Int} : degD dg (.tuple [.str x, .int i, .int j, .int c]) = if x = Str.ofString "gain" then dg.set i.toNat (mx (fnd dg i) (fnd dg j)) else dg := rfl
theorem degD_5 {dg : List Int} {x : Str} {i j k c : Int} : degD dg (.tuple [.str x, .int i, .int j, .int k, .int c]) = if x = Str.ofString "add" then dg.set i.toNat (mx (fnd dg i) (fnd dg j + fnd dg k)) else dg := rfl
theorem degD_gain {dg : List Int} {i j c : Int} : degD dg (.tuple [.str (Str.ofString "gain"), .int i, .int j, .int c]) = dg.set i.toNat (mx (fnd dg i) (fnd dg j)) := by rw [degD_4, if_pos rfl]
theorem degD_add {dg : List Int} {i j k c : Int} : degD dg (.tuple [.str (Str.ofString "add"), .int i, .int j, .int k, .int c]) = dg.set i.toNat (mx (fnd dg i) (fnd dg j + fnd dg k)) := by rw [degD_5, if_pos rfl]
theorem degD_swap {dg : List Int} {i j : Int} : degD dg (.tuple [.str (Str.ofString "swap"), .int i, .int j]) = (dg.set i.toNat (fnd dg j)).set j.toNat (fnd dg i) := by rw [degD_3, if_pos rfl]
theorem degD_more {dg : List Int} {i c : Int} : degD dg (.tuple [.str (Str.ofString "more"), .int i, .int c]) = dg := by
  have h : ¬ Str.ofString "more" = Str.ofString "swap" := by decide +kernel
  have e : degD dg (.tuple [.str (Str.ofString "more"), .int i, .int c]) = if Str.ofString "more" = Str.ofString "swap" then (dg.set i.toNat (fnd dg c)).set c.toNat (fnd dg i) else dg := rfl
  rw [e, if_neg h]
theorem degD_len {pl : Int} {dg : List Int} {d : PyData} (m : Mv pl d) : (degD dg d).length = dg.length := by
  cases m with
  | gain => rw [degD_gain, List.length_set]
  | add => rw [degD_add, List.length_set]
  | swap => rw [degD_swap, List.length_set, List.length_set]
  | turn => rfl
  | more => rw [degD_more]
theorem ixN_at {n : Nat} {i : Int} (h0 : 0 ≤ i) (h1 : i < (n : Int)) : ixN n i = some i.toNat := by
  unfold ixN
  rw [if_pos h0, if_pos (by omega)]
theorem map_set {dg : List Int} {n : Nat} {v : Int} : (dg.map V.int).set n (.int v) = (dg.set n v).map V.int := by
  rw [List.map_set]
theorem fnd_le {ns : List Int} (h : ∀ n ∈ ns, n ≤ 64) (i : Int) : fnd ns i ≤ 64 := by
  show ns.getD i.toNat 0 ≤ 64
  rw [List.getD_eq_getElem?_getD]
  cases hq : ns[i.toNat]? with
  | none => decide
  | some x => exact h x (List.mem_of_getElem? hq)
theorem fnd_set {ns : List Int} {i j v : Int} (h0 : 0 ≤ i) (h1 : i < (ns.length : Int)) (j0 : 0 ≤ j) : fnd (ns.set i.toNat v) j = if i = j then v else fnd ns j := by
  show (ns.set i.toNat v).getD j.toNat 0 = if i = j then v else ns.getD j.toNat 0
  rw [List.getD_eq_getElem?_getD, List.getD_eq_getElem?_getD]
  by_cases e : i = j
  · subst e
    rw [List.getElem?_set_self (by omega), if_pos rfl]
    rfl
  · rw [List.getElem?_set_ne (by omega), if_neg e]
theorem mem_set {ns : List Int} {k : Nat} {v n : Int} (h : n ∈ ns.set k v) : n ∈ ns ∨ n = v := List.mem_or_eq_of_mem_set h
/-- a degree too great behind a move is that of its place -/
theorem deg_small {pl : Int} {dg : List Int} {d : PyData} (m : Mv pl d) (hl : (dg.length : Int) = pl) (h : ∀ n ∈ dg, n ≤ 64) (hs : fnd (degD dg d) (plc d) ≤ 64) : ∀ n ∈ degD dg d, n ≤ 64 := by
  cases m with
  | @gain i j c i0 i1 j0 j1 =>
    rw [degD_gain] at hs ⊢
    have hs2 : fnd (dg.set i.toNat (mx (fnd dg i) (fnd dg j))) i ≤ 64 := hs
    rw [fnd_set i0 (by omega) i0, if_pos rfl] at hs2
    intro n hn
    rcases mem_set hn with hn | rfl
    · exact h n hn
    · exact hs2
  | @add i j k c i0 i1 j0 j1 k0 k1 =>
    rw [degD_add] at hs ⊢
    have hs2 : fnd (dg.set i.toNat (mx (fnd dg i) (fnd dg j + fnd dg k))) i ≤ 64 := hs
    rw [fnd_set i0 (by omega) i0, if_pos rfl] at hs2
    intro n hn
    rcases mem_set hn with hn | rfl
    · exact h n hn
    · exact hs2
  | swap i0 i1 j0 j1 =>
    rw [degD_swap]
    intro n hn
    rcases mem_set hn with hn | rfl
    · rcases mem_set hn with hn | rfl
      · exact h n hn
      · exact fnd_le h _
    · exact fnd_le h _
  | turn => exact h
  | more =>
    rw [degD_more]
    exact h
theorem deg_big {pl : Int} {dg : List Int} {d : PyData} (m : Mv pl d) (hl : (dg.length : Int) = pl) : fnd (degD dg d) (plc d) ∈ degD dg d := by
  have hl2 := degD_len (dg := dg) m
  have key : ∀ i : Int, 0 ≤ i → i < pl → fnd (degD dg d) i ∈ degD dg d := fun i i0 i1 => by
    show (degD dg d).getD i.toNat 0 ∈ _
    rw [List.getD_eq_getElem?_getD, List.getElem?_eq_getElem (by omega)]
    exact List.getElem_mem _
  cases m with
  | gain i0 i1 => exact key _ i0 i1
  | add i0 i1 => exact key _ i0 i1
  | swap i0 i1 => exact key _ i0 i1
  | turn i0 i1 => exact key _ i0 i1
  | more i0 i1 => exact key _ i0 i1
abbrev sDeepen : Stmt := topS 12
theorem scDeepen : FnScope ["degrees", "move", "word", "place"] ["degrees", "move"] (defScope sDeepen) := ⟨rfl, rfl, rfl, by decide +kernel, rfl, by decide +kernel, by decide +kernel⟩
abbrev sDegs : Stmt := topS 25
abbrev nDegs : List Str := ["_law_degrees_here", "_law_move_here", "_law_found", "_law_first", "_law_second"]
theorem scDegs : FnScope nDegs ["_law_degrees_here", "_law_move_here"] (defScope sDegs) := ⟨rfl, rfl, rfl, by decide +kernel, rfl, by decide +kernel, by decide +kernel⟩
theorem w_ne : ¬ Str.ofString "add" = Str.ofString "gain" ∧ ¬ Str.ofString "swap" = Str.ofString "gain" ∧ ¬ Str.ofString "swap" = Str.ofString "add" ∧ ¬ Str.ofString "turn" = Str.ofString "gain" ∧ ¬ Str.ofString "turn" = Str.ofString "add" ∧ ¬ Str.ofString "turn" = Str.ofString "swap" ∧
    ¬ Str.ofString "more" = Str.ofString "gain" ∧ ¬ Str.ofString "more" = Str.ofString "add" ∧ ¬ Str.ofString "more" = Str.ofString "swap" ∧ ¬ Str.ofString "more" = Str.ofString "turn" := by decide +kernel
theorem dqInts {D B : Addr} {H : Hp} {x : Str} : ∀ {xs : List V} {ns : List Int}, DqAll D B H xs (.str x :: ns.map PyData.int) → xs = .str x :: ns.map V.int := by
  intro xs ns h
  cases h with
  | cons a r =>
    cases a
    have key : ∀ {zs : List V} {ms : List Int}, DqAll D B H zs (ms.map PyData.int) → zs = ms.map V.int := by
      intro zs ms
      induction ms generalizing zs with
      | nil =>
        intro h
        cases h
        rfl
      | cons m ms ih =>
        intro h
        cases h with
        | cons a r =>
          cases a
          rw [ih r]
          rfl
    rw [key r]
section
variable {P : Program} {w : World} {K : PySem.W.Frag} {mg : Str → Option Value} {base : Heap}
def spDeepen : Sp := fun vs H Q _ => ∃ (D B L : Addr) (v : V) (d : PyData) (pl : Int) (dg : List Int), vs = [.ref L, v] ∧ Dq D B H v d ∧ Mv pl d ∧ H L = some (.lst (dg.map V.int)) ∧ (dg.length : Int) = pl ∧
  ∀ H', H' L = some (.lst ((degD dg d).map V.int)) → (∀ b o, b ≠ L → H b = some o → H' b = some o) → Q (.bl (decide (fnd (degD dg d) (plc d) ≤ 64))) H'
set_option maxHeartbeats 4000000 in
theorem ok_deepen {f : Addr} {fd : FuncData} {tk : Tok} (F : Nm K mg "_deepen" sDeepen ["degrees", "move"] f fd) (gS : mg "MAX_SIZE" = some (.int 64 tk)) (T : Bn mg) : FnOk P w K mg base CX0 1 f fd ["degrees", "move"] spDeepen := by
  refine F.F.ok scDeepen (fun vs H Q E h => ?_) (fun cdv A outer s H vs Q E hr h => ?_)
  · obtain ⟨D, B, L, v, d, pl, dg, rfl, _⟩ := h
    rfl
  · obtain ⟨D, B, L, v, d, pl, dg, rfl, hd, m, eL, hl, q⟩ := h
    refine ⟨_, pss_cons (ps_par (i := 2) (j := 3) rfl scDeepen.nd rfl rfl (by decide) rfl rfl (pa_cons (pe_ix ix_tup (pv 1) pe_int (fun _ _ => rfl)) (pa_cons (pe_ix ix_tup (pv 1) pe_int (fun _ _ => rfl)) pa_nil)) rfl)
      (pss_cons (ps_if (pt_cmpR op_eq (pv 2) pe_str (nomark _)) (pss_one (ps_asg (pe_callB (call_max2 rfl) (by rfl) T.max boot_max' (pa_cons (pe_ix ix_list (pv 0) (pv 3) (fun _ _ => rfl)) (pa_cons (pe_ix ix_list (pv 0) (pe_ix ix_tup (pv 1) pe_int (fun _ _ => rfl)) (fun _ _ => rfl)) pa_nil))) (pg_sub (pv 0) (pv 3) set_list)))
        (pss_one (ps_if (pt_cmpR op_eq (pv 2) pe_str (nomark _)) (pss_one (ps_asg (pe_callB (call_max2 rfl) (by rfl) T.max boot_max' (pa_cons (pe_ix ix_list (pv 0) (pv 3) (fun _ _ => rfl)) (pa_cons (pe_op op_add (pe_ix ix_list (pv 0) (pe_ix ix_tup (pv 1) pe_int (fun _ _ => rfl)) (fun _ _ => rfl)) (pe_ix ix_list (pv 0) (pe_ix ix_tup (pv 1) pe_int (fun _ _ => rfl)) (fun _ _ => rfl))) pa_nil))) (pg_sub (pv 0) (pv 3) set_list)))
          (pss_one (ps_if (pt_cmpR op_eq (pv 2) pe_str (nomark _)) (pss_one (ps_asg (pe_tup (pa_cons (pe_ix ix_list (pv 0) (pe_ix ix_tup (pv 1) pe_int (fun _ _ => rfl)) (fun _ _ => rfl)) (pa_cons (pe_ix ix_list (pv 0) (pv 3) (fun _ _ => rfl)) pa_nil)))
            (pg_tup rfl (pgs_cons (pg_sub (pv 0) (pv 3) set_list) (pgs_cons (pg_sub (pv 0) (pe_ix ix_tup (pv 1) pe_int (fun _ _ => rfl)) set_list) pgs_nil))))) pss_nil)))))
      (pss_one (ps_ret (pe_cmpR op_le (pe_ix ix_list (pv 0) (pv 3) (fun _ _ => rfl)) (pe_glob (v := .int 64) rfl gS ⟨_, rfl⟩) (nomark _))))), ?_⟩
    obtain ⟨n1, n2, n3, n4, n5, n6, n7, n8, n9, _⟩ := w_ne
    have keep : ∀ {o : HO} (b : Addr) (o' : HO), b ≠ L → H b = some o' → (upd H L o) b = some o' := fun b o' hb h => by
      rw [upd_ne hb]
      exact h
    have fin : ∀ {i : Int} {dg' : List Int}, 0 ≤ i → i < pl → dg'.length = dg.length → atI (dg'.map V.int) i = some (.int (fnd dg' i)) := fun i0 i1 e => fnd_at i0 (by omega)
    cases m with
    | @gain i j c i0 i1 j0 j1 =>
      rw [degD_gain] at q
      obtain ⟨a, xs, rfl, e, ha⟩ := hd.tupE
      obtain rfl := dqInts (ns := [i, j, c]) ha
      refine ⟨_, rfl, a, _, 0, .str (Str.ofString "gain"), rfl, rfl, SqT.of e, atI_nat (j := 0) rfl, _, rfl, a, _, 1, .int i, rfl, rfl, SqT.of e, atI_nat (j := 1) rfl, _, _, rfl, ?_⟩
      refine ⟨_, rfl, rfl, _, rfl, ite2 (fun _ => ?_) (fun c => absurd (decide_eq_true rfl) c)⟩
      refine ⟨_, rfl, _, rfl, L, _, i, .int (fnd dg i), rfl, rfl, SqL.of eL, fin i0 i1 rfl, _, rfl, _, rfl, a, _, 2, .int j, rfl, rfl, SqT.of e, atI_nat (j := 2) rfl, L, _, j, .int (fnd dg j), rfl, rfl, SqL.of eL, fin j0 j1 rfl, _, _, rfl, ?_⟩
      refine ⟨_, rfl, _, rfl, L, _, i, i.toNat, rfl, rfl, eL, ixN_at i0 (by rw [List.length_map]; omega), ?_⟩
      refine ⟨_, rfl, _, rfl, L, _, i, .int (fnd (dg.set i.toNat (mx (fnd dg i) (fnd dg j))) i), rfl, rfl, SqL.of upd_same, ?_, _, _, rfl, rfl, q _ ?_ keep⟩
      · rw [show (if fnd dg j > fnd dg i then fnd dg j else fnd dg i) = mx (fnd dg i) (fnd dg j) from rfl, map_set]
        exact fin i0 i1 (by rw [List.length_set])
      · rw [upd_same, ← map_set]
        rfl
    | @add i j k c i0 i1 j0 j1 k0 k1 =>
      rw [degD_add] at q
      obtain ⟨a, xs, rfl, e, ha⟩ := hd.tupE
      obtain rfl := dqInts (ns := [i, j, k, c]) ha
      refine ⟨_, rfl, a, _, 0, .str (Str.ofString "add"), rfl, rfl, SqT.of e, atI_nat (j := 0) rfl, _, rfl, a, _, 1, .int i, rfl, rfl, SqT.of e, atI_nat (j := 1) rfl, _, _, rfl, ?_⟩
      refine ⟨_, rfl, rfl, _, rfl, ite2 (fun c => absurd (V.str.inj (of_decide_eq_true c)) n1) (fun _ => ?_)⟩
      refine ⟨_, rfl, rfl, _, rfl, ite2 (fun _ => ?_) (fun c => absurd (decide_eq_true rfl) c)⟩
      refine ⟨_, rfl, _, rfl, L, _, i, .int (fnd dg i), rfl, rfl, SqL.of eL, fin i0 i1 rfl, _, rfl, _, rfl, a, _, 2, .int j, rfl, rfl, SqT.of e, atI_nat (j := 2) rfl, L, _, j, .int (fnd dg j), rfl, rfl, SqL.of eL, fin j0 j1 rfl, _, rfl, _, rfl, a, _, 3, .int k, rfl, rfl, SqT.of e, atI_nat (j := 3) rfl, L, _, k, .int (fnd dg k), rfl, rfl, SqL.of eL, fin k0 k1 rfl, _, _, rfl, rfl, _, _, rfl, ?_⟩
      refine ⟨_, rfl, _, rfl, L, _, i, i.toNat, rfl, rfl, eL, ixN_at i0 (by rw [List.length_map]; omega), ?_⟩
      refine ⟨_, rfl, _, rfl, L, _, i, .int (fnd (dg.set i.toNat (mx (fnd dg i) (fnd dg j + fnd dg k))) i), rfl, rfl, SqL.of upd_same, ?_, _, _, rfl, rfl, q _ ?_ keep⟩
      · rw [show (if fnd dg j + fnd dg k > fnd dg i then fnd dg j + fnd dg k else fnd dg i) = mx (fnd dg i) (fnd dg j + fnd dg k) from rfl, map_set]
        exact fin i0 i1 (by rw [List.length_set])
      · rw [upd_same, ← map_set]
        rfl
    | @swap i j i0 i1 j0 j1 =>
      rw [degD_swap] at q
      obtain ⟨a, xs, rfl, e, ha⟩ := hd.tupE
      obtain rfl := dqInts (ns := [i, j]) ha
      refine ⟨_, rfl, a, _, 0, .str (Str.ofString "swap"), rfl, rfl, SqT.of e, atI_nat (j := 0) rfl, _, rfl, a, _, 1, .int i, rfl, rfl, SqT.of e, atI_nat (j := 1) rfl, _, _, rfl, ?_⟩
      refine ⟨_, rfl, rfl, _, rfl, ite2 (fun c => absurd (V.str.inj (of_decide_eq_true c)) n2) (fun _ => ?_)⟩
      refine ⟨_, rfl, rfl, _, rfl, ite2 (fun c => absurd (V.str.inj (of_decide_eq_true c)) n3) (fun _ => ?_)⟩
      refine ⟨_, rfl, rfl, _, rfl, ite2 (fun _ => ?_) (fun c => absurd (decide_eq_true rfl) c)⟩
      refine ⟨_, rfl, _, rfl, a, _, 2, .int j, rfl, rfl, SqT.of e, atI_nat (j := 2) rfl, L, _, j, .int (fnd dg j), rfl, rfl, SqL.of eL, fin j0 j1 rfl, _, rfl, _, rfl, L, _, i, .int (fnd dg i), rfl, rfl, SqL.of eL, fin i0 i1 rfl, sz1 rfl, fun t nt => ?_⟩
      have st := same_upd (o := .tup [.int (fnd dg j), .int (fnd dg i)]) nt
      have eLt := st _ _ eL
      have et := st _ _ e
      refine ⟨t, _, rfl, SqT.of upd_same, rfl, .int (fnd dg j), [.int (fnd dg i)], rfl, ?_⟩
      refine ⟨_, rfl, _, rfl, L, _, i, i.toNat, rfl, rfl, eLt, ixN_at i0 (by rw [List.length_map]; omega), ?_⟩
      have fL : ∀ b o, b ≠ L → (upd H t (.tup [.int (fnd dg j), .int (fnd dg i)])) b = some o → (upd (upd H t (.tup [.int (fnd dg j), .int (fnd dg i)])) L (.lst ((dg.map V.int).set i.toNat (.int (fnd dg j))))) b = some o := fun b o hb h => by
        rw [upd_ne hb]
        exact h
      have aL : a ≠ L := fun z => by
        rw [z, eL] at e
        cases e
      refine ⟨.int (fnd dg i), [], rfl, _, rfl, _, rfl, a, _, 2, .int j, rfl, rfl, SqT.of (fL _ _ aL et), atI_nat (j := 2) rfl, L, _, j, j.toNat, rfl, rfl, upd_same, ixN_at j0 (by rw [List.length_set, List.length_map]; omega), rfl, ?_⟩
      have kAll : ∀ b o, b ≠ L → H b = some o → (upd (upd (upd H t (.tup [.int (fnd dg j), .int (fnd dg i)])) L (.lst ((dg.map V.int).set i.toNat (.int (fnd dg j))))) L (.lst (((dg.map V.int).set i.toNat (.int (fnd dg j))).set j.toNat (.int (fnd dg i))))) b = some o := fun b o hb h => by
        rw [upd_ne hb]
        exact fL b o hb (st b o h)
      have eF : ((dg.map V.int).set i.toNat (.int (fnd dg j))).set j.toNat (.int (fnd dg i)) = ((dg.set i.toNat (fnd dg j)).set j.toNat (fnd dg i)).map V.int := by rw [map_set, map_set]
      refine ⟨_, rfl, _, rfl, L, _, i, .int (fnd ((dg.set i.toNat (fnd dg j)).set j.toNat (fnd dg i)) i), rfl, rfl, SqL.of upd_same, ?_, _, _, rfl, rfl, q _ ?_ kAll⟩
      · rw [eF]
        exact fin i0 i1 (by rw [List.length_set, List.length_set])
      · rw [upd_same, eF]
    | @turn i i0 i1 =>
      have q2 : ∀ H', H' L = some (.lst (dg.map V.int)) → (∀ b o, b ≠ L → H b = some o → H' b = some o) → Q (.bl (decide (fnd dg i ≤ 64))) H' := q
      obtain ⟨a, xs, rfl, e, ha⟩ := hd.tupE
      obtain rfl := dqInts (ns := [i]) ha
      refine ⟨_, rfl, a, _, 0, .str (Str.ofString "turn"), rfl, rfl, SqT.of e, atI_nat (j := 0) rfl, _, rfl, a, _, 1, .int i, rfl, rfl, SqT.of e, atI_nat (j := 1) rfl, _, _, rfl, ?_⟩
      refine ⟨_, rfl, rfl, _, rfl, ite2 (fun c => absurd (V.str.inj (of_decide_eq_true c)) n4) (fun _ => ?_)⟩
      refine ⟨_, rfl, rfl, _, rfl, ite2 (fun c => absurd (V.str.inj (of_decide_eq_true c)) n5) (fun _ => ?_)⟩
      refine ⟨_, rfl, rfl, _, rfl, ite2 (fun c => absurd (V.str.inj (of_decide_eq_true c)) n6) (fun _ => ?_)⟩
      exact ⟨_, rfl, _, rfl, L, _, i, .int (fnd dg i), rfl, rfl, SqL.of eL, fin i0 i1 rfl, _, _, rfl, rfl, q2 H eL (fun _ _ _ h => h)⟩
    | @more i c i0 i1 =>
      rw [degD_more] at q
      have q2 : ∀ H', H' L = some (.lst (dg.map V.int)) → (∀ b o, b ≠ L → H b = some o → H' b = some o) → Q (.bl (decide (fnd dg i ≤ 64))) H' := q
      obtain ⟨a, xs, rfl, e, ha⟩ := hd.tupE
      obtain rfl := dqInts (ns := [i, c]) ha
      refine ⟨_, rfl, a, _, 0, .str (Str.ofString "more"), rfl, rfl, SqT.of e, atI_nat (j := 0) rfl, _, rfl, a, _, 1, .int i, rfl, rfl, SqT.of e, atI_nat (j := 1) rfl, _, _, rfl, ?_⟩
      refine ⟨_, rfl, rfl, _, rfl, ite2 (fun c => absurd (V.str.inj (of_decide_eq_true c)) n7) (fun _ => ?_)⟩
      refine ⟨_, rfl, rfl, _, rfl, ite2 (fun c => absurd (V.str.inj (of_decide_eq_true c)) n8) (fun _ => ?_)⟩
      refine ⟨_, rfl, rfl, _, rfl, ite2 (fun c => absurd (V.str.inj (of_decide_eq_true c)) n9) (fun _ => ?_)⟩
      exact ⟨_, rfl, _, rfl, L, _, i, .int (fnd dg i), rfl, rfl, SqL.of eL, fin i0 i1 rfl, _, _, rfl, rfl, q2 H eL (fun _ _ _ h => h)⟩
end
end Jg
namespace Jg
open PySem PySem.Spec PyProof.Rows L2
/-! ### the program's judging of moves -/
def lookS (x : Str) : Option Int := (spotsOf x).map fun q => (q.1 : Int)
/-- a table of the program by words -/
structure Tb (K : PySem.W.Frag) (w : World) (mg : Str → Option Value) (name : Str) (look : Str → Option Int) (d : Addr) : Prop where
  g : mg name = some (.ref d)
  D : ∃ es n, KDict K w d es n
  none : ∀ x, look x = .none → PySem.W.nsIn K d x = some .none
  some : ∀ x i, look x = some i → ∃ tk, PySem.W.nsIn K d x = some (some (.int i tk))
/-- the words with a number -/
structure Wn (K : PySem.W.Frag) (mg : Str → Option Value) (d : Addr) : Prop where
  g : mg "WITH_NUMBER" = some (.ref d)
  t : ∀ H, SqT K H d [.str (Str.ofString "gain"), .str (Str.ofString "add"), .str (Str.ofString "more")]
theorem isMv_no {pl : Int} {d : PyData} (h : isTu d = false) : isMv pl d = false := by
  cases d <;> first | rfl | cases h
theorem isMv_str {pl : Int} {a : PyData} {ds : List PyData} (h : isSt a = false) : isMv pl (.tuple (a :: ds)) = false := by
  cases a <;> first | rfl | cases h
theorem isMv_word {pl : Int} {x : Str} {ds : List PyData} (h : spotsOf x = none) : isMv pl (.tuple (.str x :: ds)) = false := by
  show (match spotsOf x with | some (k, b) => _ | none => false) = false
  rw [h]
theorem isMv_some {pl : Int} {x : Str} {ds : List PyData} {k : Nat} {b : Bool} (h : spotsOf x = some (k, b)) : isMv pl (.tuple (.str x :: ds)) = (decide (ds.length = k + b.toNat) && ((ds.take k).all (within 0 (pl - 1)) && (apart (ds.take k) && (ds.drop k).all isIn))) := by
  show (match spotsOf x with | some (k, b) => decide (ds.length = k + b.toNat) && ((ds.take k).all (within 0 (pl - 1)) && (apart (ds.take k) && (ds.drop k).all isIn)) | none => false) = _
  rw [h]
theorem spots_pos {x : Str} {k : Nat} {b : Bool} (h : spotsOf x = some (k, b)) : 1 ≤ k ∧ k ≤ 3 := by
  rcases spots_is h with ⟨_, rfl, _⟩ | ⟨_, rfl, _⟩ | ⟨_, rfl, _⟩ | ⟨_, rfl, _⟩ | ⟨_, rfl, _⟩ <;> decide
theorem spots_b {x : Str} {k : Nat} {b : Bool} (h : spotsOf x = some (k, b)) : (decide (x = Str.ofString "gain") || decide (x = Str.ofString "add") || decide (x = Str.ofString "more")) = b := by
  rcases spots_is h with ⟨rfl, _, rfl⟩ | ⟨rfl, _, rfl⟩ | ⟨rfl, _, rfl⟩ | ⟨rfl, _, rfl⟩ | ⟨rfl, _, rfl⟩ <;> decide +kernel
theorem cutV_mid (x : V) (ys : List V) (k : Nat) : cutV (x :: ys) (some 1) (some (1 + (k : Int))) = ys.take k := by
  have e : (1 : Int) + (k : Int) = ((1 + k : Nat) : Int) := by omega
  rw [e]
  unfold cutV
  rw [show (some (1 : Int)) = some ((1 : Nat) : Int) from rfl, HT.sIx_nat, HT.sIx_nat, List.length_cons]
  have h1 : min 1 (ys.length + 1) = 1 := by omega
  rw [h1, List.drop_succ_cons, List.drop_zero]
  by_cases h : k ≤ ys.length
  · rw [show min (1 + k) (ys.length + 1) - 1 = k by omega]
  · rw [show min (1 + k) (ys.length + 1) - 1 = ys.length by omega, List.take_length, List.take_of_length_le (by omega)]
theorem cutV_rest (x : V) (ys : List V) (k : Nat) : cutV (x :: ys) (some (1 + (k : Int))) none = ys.drop k := by
  have e : (1 : Int) + (k : Int) = ((1 + k : Nat) : Int) := by omega
  rw [e, cutV_from, Nat.add_comm, List.drop_succ_cons]
theorem ints_of {pl : Int} : ∀ {ds : List PyData}, ds.all (within 0 (pl - 1)) = true → ∃ ns : List Int, ds = ns.map PyData.int
  | [], _ => ⟨[], rfl⟩
  | d :: ds, h => by
    rw [List.all_cons, Bool.and_eq_true] at h
    obtain ⟨i, rfl, _, _⟩ := within_is h.1
    obtain ⟨ns, rfl⟩ := ints_of h.2
    exact ⟨i :: ns, rfl⟩
theorem dqI {D B : Addr} {H : Hp} : ∀ {xs : List V} {ms : List Int}, DqAll D B H xs (ms.map PyData.int) → xs = ms.map V.int
  | _, [], h => by
    cases h
    rfl
  | _, m :: ms, h => by
    cases h with
    | cons a r =>
      cases a
      rw [dqI r]
      rfl
theorem flat_ints (ms : List Int) : (ms.map V.int).all flatV = true := by
  rw [List.all_map, List.all_eq_true]
  intro _ _
  rfl
theorem inV_ints (i : Int) (ms : List Int) : inV (.int i) (ms.map V.int) = (ms.map PyData.int).any (eqI i) := by
  unfold inV
  rw [List.any_map, List.any_map]
  congr 1
theorem hw2 {pl : Int} {ds : List PyData} {ns : List Int} (h : ds = ns.map PyData.int) (hw : ds.all (within 0 (pl - 1)) = true) : (ns.map PyData.int).all (within 0 (pl - 1)) = true := h ▸ hw
abbrev sIsM : Stmt := topS 11
abbrev nIsM : List Str := ["value", "places", "word", "spots", "rest", "spot", "number"]
theorem scIsM : FnScope nIsM ["value", "places"] (defScope sIsM) := ⟨rfl, rfl, rfl, by decide +kernel, rfl, by decide +kernel, by decide +kernel⟩
section
variable {P : Program} {w : World} {K : PySem.W.Frag} {mg : Str → Option Value} {base : Heap}
def spIsM : Sp := fun vs H Q _ => ∃ (D B : Addr) (v : V) (d : PyData) (pl : Int), vs = [v, .int pl] ∧ Dq D B H v d ∧ ∀ H', Same H H' → Q (.bl (isMv pl d)) H'
set_option maxHeartbeats 4000000 in
theorem ok_isM {nm : Str} {f f1 f2 dT dW : Addr} {fd fd1 fd2 : FuncData} (F : Nm K mg nm sIsM ["value", "places"] f fd) (N1 : Nm K mg "is_integer" sInt ["value"] f1 fd1) (N2 : Nm K mg "is_within" sWith ["value", "low", "high"] f2 fd2) (N : Tb K w mg "SPOTS" lookS dT) (W : Wn K mg dW) (T : Bn mg) :
    FnOk P w K mg base CX0 3 f fd ["value", "places"] spIsM := by
  have G1 : FnOk P w K mg base CX0 1 f1 fd1 ["value"] spInt := ok_int N1.F T
  have G2 : FnOk P w K mg base CX0 2 f2 fd2 ["value", "low", "high"] spWith := ok_with N2.F N1.F N1.b N1.g T
  obtain ⟨es, n, ND⟩ := N.D
  refine F.F.ok scIsM (fun vs H Q E h => ?_) (fun cdv A outer s H vs Q E hr h => ?_)
  · obtain ⟨D, B, v, d, pl, rfl, _⟩ := h
    rfl
  · obtain ⟨D, B, v, d, pl, rfl, hd, q⟩ := h
    have hu := hr.units
    have hr1 : Room 1 _ := hr.mono (by decide)
    refine ⟨_, pss_cons (ps_if (PW.pt (pw_or (pt_not (pt_val (pe_callB call_isi (by rfl) T.isi PyProof.Rows.boot_isinstance (pa_cons (pv 0) (pa_cons (pe_bltn (by rfl) T.tup boot_tuple' (v := .ty "tuple") rfl) pa_nil)))))
        (pw_or (pt_not (pt_truth (pv 0) (by intro _; rfl)))
          (pw_or1 (pt_not (pt_val (pe_callB call_isi (by rfl) T.isi PyProof.Rows.boot_isinstance (pa_cons (pe_ix ix_tup (pv 0) pe_int (fun _ _ => rfl)) (pa_cons (pe_bltn (by rfl) T.str boot_str' (v := .ty "str") rfl) pa_nil))))))))) (pss_one (ps_ret pe_bl)) pss_nil)
      (pss_cons (ps_set (i := 2) scIsM.nd rfl (.inl rfl) (pe_ix ix_tup (pv 0) pe_int (fun _ _ => rfl)))
      (pss_cons (ps_if (pt_cmpR (op_notIn_kd ND) (pv 2) (pe_glob (v := .ref dT) rfl N.g rfl) (by rfl)) (pss_one (ps_ret pe_bl)) pss_nil)
      (pss_cons (ps_par (i := 3) (j := 4) rfl scIsM.nd rfl rfl (by decide) rfl rfl (pa_cons (pe_slice sl_tupA (pv 0) (po_some pe_int) (po_some (pe_op op_add pe_int (pe_ix ix_kdict (pe_glob (v := .ref dT) rfl N.g rfl) (pv 2) (fun _ _ => rfl)))))
          (pa_cons (pe_slice sl_tupA (pv 0) (po_some (pe_op op_add pe_int (pe_ix ix_kdict (pe_glob (v := .ref dT) rfl N.g rfl) (pv 2) (fun _ _ => rfl)))) po_none) pa_nil)) rfl)
      (pss_cons (ps_if (PW.pt (pw_or (pt_cmpR op_ne (pe_callB call_len_seq (by rfl) T.len PySem.boot_len (pa_cons (pv 3) pa_nil)) (pe_ix ix_kdict (pe_glob (v := .ref dT) rfl N.g rfl) (pv 2) (fun _ _ => rfl)) (nomark _))
          (pw_or1 (pt_cmpR op_ne (pe_callB call_len_seq (by rfl) T.len PySem.boot_len (pa_cons (pv 4) pa_nil)) (pe_ifExp (pt_cmpR op_in_seq (pv 2) (pe_glob (v := .ref dW) rfl W.g rfl) (by rfl)) pe_int pe_int) (nomark _))))) (pss_one (ps_ret pe_bl)) pss_nil)
      (pss_cons (ps_if (pt_not (pt_val (pe_callB (cr_all rfl) (by rfl) T.all boot_all' (pa_cons (pe_lc (own := [("spot", 5)]) (g := gName 5) (tt := tYes) rfl scIsM.nd (pi_tup (pv 3)) (blkOk_by (N := nIsM) (sc := defScope sIsM) (by decide +kernel))
        (fun _ _ _ _ _ => pg_name (i := 5) scIsM.nd rfl (.inl rfl)) (fun _ _ _ _ _ => pts_nil) (fun _ _ _ _ _ => pe_call G2 (hr.mono (by decide)) (by rfl) N2.g N2.F.kp N2.b .nil pass0 (pa_cons (pv 5) (pa_cons pe_int (pa_cons (pe_op op_sub (pv 1) pe_int) pa_nil))))) pa_nil)))) (pss_one (ps_ret pe_bl)) pss_nil)
      (pss_one (ps_ret (pe_and (pe_cmpR op_notIn_seq (pe_ix ix_tup (pv 3) pe_int (fun _ _ => rfl)) (pe_slice sl_tupA (pv 3) (po_some pe_int) po_none) (by rfl))
        (pe_one (pe_callB (cr_all rfl) (by rfl) T.all boot_all' (pa_cons (pe_lc (own := [("number", 6)]) (g := gName 6) (tt := tYes) rfl scIsM.nd (pi_tup (pv 4)) (blkOk_by (N := nIsM) (sc := defScope sIsM) (by decide +kernel))
          (fun _ _ _ _ _ => pg_name (i := 6) scIsM.nd rfl (.inl rfl)) (fun _ _ _ _ _ => pts_nil) (fun _ _ _ _ _ => pe_call G1 hr1 (by rfl) N1.g N1.F.kp N1.b .nil pass0 (pa_cons (pv 6) pa_nil))) pa_nil))))))))))), ?_⟩
    refine ⟨v, rfl, v, .ty "tuple", _, _, _, rfl, .ty "tuple", hd.ty, kTup d, _, rfl, ?_⟩
    cases hb : isTu d with
    | false =>
      have q2 := q H (Same.refl H)
      rw [isMv_no hb] at q2
      exact iteT (iteT q2)
    | true =>
      obtain ⟨a, xs, ds, rfl, rfl, e, ha⟩ := isTu_of hd hb
      refine iteF ⟨_, rfl, _, .inr (.inl ⟨xs, SqT.of e, rfl⟩), ?_⟩
      cases ha with
      | nil => exact iteT (iteT (q H (Same.refl H)))
      | @cons x1 ys d1 dr h1 hr1 =>
        refine iteF ⟨_, rfl, a, _, 0, x1, rfl, rfl, SqT.of e, atI_nat (j := 0) rfl, x1, .ty "str", _, _, _, rfl, .ty "str", h1.ty, kStr d1, _, rfl, ?_⟩
        cases hs : isSt d1 with
        | false =>
          have q2 := q H (Same.refl H)
          rw [isMv_str hs] at q2
          exact iteT q2
        | true =>
          obtain ⟨x, rfl, rfl⟩ := isSt_of h1 hs
          refine iteF ⟨_, rfl, a, _, 0, .str x, rfl, rfl, SqT.of e, atI_nat (j := 0) rfl, ?_⟩
          cases hn : spotsOf x with
          | none =>
            have q2 := q H (Same.refl H)
            rw [isMv_word hn] at q2
            exact ⟨_, rfl, x, _, rfl, rfl, N.none x (by unfold lookS; rw [hn]; rfl), _, rfl, iteT q2⟩
          | some kb =>
            obtain ⟨k, b⟩ := kb
            obtain ⟨tk2, hk⟩ := N.some x (k : Int) (by unfold lookS; rw [hn]; rfl)
            obtain ⟨k1, k3⟩ := spots_pos hn
            rw [isMv_some hn] at q
            have kd : ∀ {H1 : Hp} {Q1 : VK}, Q1 (.int (k : Int)) H1 → rIxD K w (.ref dT) (.str x) H1 Q1 := fun h => ⟨dT, x, .int (k : Int), rfl, rfl, ⟨es, n, _, ND.at_, ND.lit, hk, ⟨_, rfl⟩⟩, h⟩
            refine ⟨_, rfl, x, _, rfl, rfl, hk, _, rfl, iteF ?_⟩
            refine ⟨_, rfl, _, rfl, _, rfl, kd ⟨_, _, rfl, rfl, _, rfl, sl_read e fun c1 H1 s1 g1 => ?_⟩⟩
            have g1' : H1 c1 = some (.tup (ys.take k)) := g1.trans (congrArg (fun z => some (HO.tup z)) (cutV_mid _ ys k))
            refine ⟨_, rfl, _, rfl, kd ⟨_, _, rfl, rfl, _, rfl, ?_⟩⟩
            dsimp only [tNoPart]
            refine sl_read (s1 _ _ e) fun c2 H2 s2 g2 => ⟨_, _, rfl, ?_⟩
            have g2' : H2 c2 = some (.tup (ys.drop k)) := g2.trans (congrArg (fun z => some (HO.tup z)) (cutV_rest _ ys k))
            have g12 := s2 _ _ g1'
            have s12 := s1.trans s2
            have hyl := hr1.len
            have hd1 := hr1.take k
            have hd2 := hr1.drop k
            have no : ∀ {H' : Hp}, Same H H' → ¬ (dr.length = k + b.toNat) → Q (.bl false) H' := fun s hne => by
              have q2 := q _ s
              rw [decide_eq_false hne] at q2
              exact q2
            refine ⟨_, rfl, c1, _, rfl, .inr (SqT.of g12), _, rfl, kd ⟨rfl, _, rfl, ?_⟩⟩
            show (fun z H1 => _) (!decide (V.int (((ys.take k).length : Nat) : Int) = V.int (k : Int))) H2
            by_cases hk1 : k ≤ ys.length
            · have e1 : (ys.take k).length = k := by rw [List.length_take]; omega
              rw [dec_int2, decide_eq_true (by rw [e1])]
              refine iteF ⟨_, rfl, c2, _, rfl, .inr (SqT.of g2'), _, rfl, dW, _, rfl, .inr (W.t _), rfl, rfl, _, rfl, ?_⟩
              rw [if_neg Bool.false_ne_true, inV3, spots_b hn]
              cases b
              · refine iteF ⟨rfl, _, rfl, ?_⟩
                show (fun z H1 => _) (!decide (V.int (((ys.drop k).length : Nat) : Int) = V.int 0)) H2
                by_cases hk2 : dr.length = k + Bool.toNat false
                · have e2 : (ys.drop k).length = 0 := by
                    rw [List.length_drop, hyl, hk2]
                    show k + 0 - k = 0
                    omega
                  rw [dec_int2, decide_eq_true (by rw [e2]; rfl)]
                  refine iteF ?_
                  rw [decide_eq_true hk2, Bool.true_and] at q
                  refine ⟨_, rfl, c1, rfl, ⟨_, SqT.of g12⟩, fun D1 nD1 => ?_⟩
                  refine lc_tup (K := K) (a := c1) (xs := ys.take k) (fun i H3 => H3 D1 = some (.lst ((((dr.take k).take i).map (within 0 (pl - 1))).map V.bl)) ∧ Same H2 H3) ⟨upd_same, same_upd nD1⟩ (fun i H3 _ h => SqT.of (h.2 _ _ g12)) ?_ ?_
                  · rintro i y H3 hi ⟨k5, s5⟩
                    obtain ⟨dx, hdx, hx⟩ := hd1.at_ i y hi
                    have hil : i < (ys.take k).length := (List.getElem?_eq_some_iff.mp hi).1
                    refine ⟨rfl, tYes_if ⟨y, rfl, _, rfl, _, _, rfl, rfl, D, B, y, dx, 0, pl - 1, rfl, hx.same (s12.trans s5), _, k5, ?_, ?_, ?_⟩⟩
                    · simp only [List.length_map, List.length_take]
                      exact Nat.lt_of_le_of_lt (Nat.min_le_right _ _) (smallM (by omega))
                    · rw [upd_same, take_map_next hdx, List.map_append]
                      rfl
                    · intro z o hz
                      rw [upd_ne (ne_of_none hz nD1)]
                      exact s5 z o hz
                  · rintro H3 ⟨k5, s5⟩
                    refine ⟨D1, _, rfl, SqL.of k5, _, rfl, ?_⟩
                    have s25 := s12.trans s5
                    have eall : (((dr.take k).take (ys.take k).length).map (within 0 (pl - 1))).all id = (dr.take k).all (within 0 (pl - 1)) := by
                      rw [hd1.len, List.take_length, List.all_map]
                      rfl
                    rw [eall]
                    cases hw : (dr.take k).all (within 0 (pl - 1)) with
                    | false =>
                      have q2 := q _ s25
                      rw [hw] at q2
                      exact iteT q2
                    | true =>
                      obtain ⟨ns, hns⟩ := ints_of hw
                      have hyn : ys.take k = ns.map V.int := dqI (hns ▸ hd1)
                      have hnl : ns.length = k := by
                        have := congrArg List.length hyn
                        rw [e1, List.length_map] at this
                        exact this.symm
                      match ns, hnl with
                      | [], z => exact absurd z (by show ¬ 0 = k; omega)
                      | n0 :: nr, hnl =>
                        have g5 : H3 c1 = some (.tup ((n0 :: nr).map V.int)) := (s5 _ _ g12).trans (congrArg (fun z => some (HO.tup z)) hyn)
                        refine iteF ⟨_, rfl, c1, _, 0, .int n0, rfl, rfl, SqT.of g5, atI_nat (j := 0) rfl, _, rfl, _, rfl, ?_⟩
                        dsimp only [tNoPart]
                        refine sl_read g5 fun c6 H6 s6 g6 => ?_
                        have g6' : H6 c6 = some (.tup (nr.map V.int)) := g6.trans (congrArg (fun z => some (HO.tup z)) (cutV_from ((n0 :: nr).map V.int) 1))
                        refine ⟨c6, _, rfl, .inr (SqT.of g6'), rfl, flat_ints nr, _, rfl, ?_⟩
                        have s26 := s25.trans s6
                        rw [if_pos rfl, inV_ints]
                        rw [hns, hw2 hns hw, Bool.true_and] at q
                        have ap : apart ((n0 :: nr).map PyData.int) = !(nr.map PyData.int).any (eqI n0) := rfl
                        rw [ap] at q
                        cases hap : (nr.map PyData.int).any (eqI n0) with
                        | true =>
                          have q2 := q _ s26
                          rw [hap] at q2
                          exact iteF q2
                        | false =>
                          have g7 := s26.trans (Same.refl _) |> fun s => (s5.trans s6) _ _ g2'
                          refine iteT ⟨_, rfl, c2, rfl, ⟨_, SqT.of g7⟩, fun D2 nD2 => ?_⟩
                          refine lc_tup (K := K) (a := c2) (xs := ys.drop k) (fun i H7 => H7 D2 = some (.lst ((((dr.drop k).take i).map isIn).map V.bl)) ∧ Same H6 H7) ⟨upd_same, same_upd nD2⟩ (fun i H7 _ h => SqT.of (h.2 _ _ g7)) ?_ ?_
                          · rintro i y H7 hi ⟨k8, s8⟩
                            obtain ⟨dx, hdx, hx⟩ := hd2.at_ i y hi
                            have hil : i < (ys.drop k).length := (List.getElem?_eq_some_iff.mp hi).1
                            refine ⟨rfl, tYes_if ⟨y, rfl, D, B, y, dx, rfl, hx.same (s26.trans s8), _, k8, ?_, ?_, ?_⟩⟩
                            · simp only [List.length_map, List.length_take]
                              exact Nat.lt_of_le_of_lt (Nat.min_le_left _ _) (smallM (by omega))
                            · rw [upd_same, take_map_next hdx, List.map_append]
                              rfl
                            · intro z o hz
                              rw [upd_ne (ne_of_none hz nD2)]
                              exact s8 z o hz
                          · rintro H7 ⟨k8, s8⟩
                            refine ⟨D2, _, rfl, SqL.of k8, ?_⟩
                            have q2 := q _ (s26.trans s8)
                            have eall2 : (((dr.drop k).take (ys.drop k).length).map isIn).all id = (dr.drop k).all isIn := by
                              rw [hd2.len, List.take_length, List.all_map]
                              rfl
                            rw [hap] at q2
                            rw [eall2]
                            exact q2
                · have e2 : ¬ ((((ys.drop k).length : Nat) : Int) = 0) := fun z => hk2 (by
                    rw [List.length_drop, hyl] at z
                    show dr.length = k + 0
                    omega)
                  rw [dec_int2, decide_eq_false e2]
                  exact iteT (no s12 hk2)
              · refine iteT ⟨rfl, _, rfl, ?_⟩
                show (fun z H1 => _) (!decide (V.int (((ys.drop k).length : Nat) : Int) = V.int 1)) H2
                by_cases hk2 : dr.length = k + Bool.toNat true
                · have e2 : (ys.drop k).length = 1 := by
                    rw [List.length_drop, hyl, hk2]
                    show k + 1 - k = 1
                    omega
                  rw [dec_int2, decide_eq_true (by rw [e2]; rfl)]
                  refine iteF ?_
                  rw [decide_eq_true hk2, Bool.true_and] at q
                  refine ⟨_, rfl, c1, rfl, ⟨_, SqT.of g12⟩, fun D1 nD1 => ?_⟩
                  refine lc_tup (K := K) (a := c1) (xs := ys.take k) (fun i H3 => H3 D1 = some (.lst ((((dr.take k).take i).map (within 0 (pl - 1))).map V.bl)) ∧ Same H2 H3) ⟨upd_same, same_upd nD1⟩ (fun i H3 _ h => SqT.of (h.2 _ _ g12)) ?_ ?_
                  · rintro i y H3 hi ⟨k5, s5⟩
                    obtain ⟨dx, hdx, hx⟩ := hd1.at_ i y hi
                    have hil : i < (ys.take k).length := (List.getElem?_eq_some_iff.mp hi).1
                    refine ⟨rfl, tYes_if ⟨y, rfl, _, rfl, _, _, rfl, rfl, D, B, y, dx, 0, pl - 1, rfl, hx.same (s12.trans s5), _, k5, ?_, ?_, ?_⟩⟩
                    · simp only [List.length_map, List.length_take]
                      exact Nat.lt_of_le_of_lt (Nat.min_le_right _ _) (smallM (by omega))
                    · rw [upd_same, take_map_next hdx, List.map_append]
                      rfl
                    · intro z o hz
                      rw [upd_ne (ne_of_none hz nD1)]
                      exact s5 z o hz
                  · rintro H3 ⟨k5, s5⟩
                    refine ⟨D1, _, rfl, SqL.of k5, _, rfl, ?_⟩
                    have s25 := s12.trans s5
                    have eall : (((dr.take k).take (ys.take k).length).map (within 0 (pl - 1))).all id = (dr.take k).all (within 0 (pl - 1)) := by
                      rw [hd1.len, List.take_length, List.all_map]
                      rfl
                    rw [eall]
                    cases hw : (dr.take k).all (within 0 (pl - 1)) with
                    | false =>
                      have q2 := q _ s25
                      rw [hw] at q2
                      exact iteT q2
                    | true =>
                      obtain ⟨ns, hns⟩ := ints_of hw
                      have hyn : ys.take k = ns.map V.int := dqI (hns ▸ hd1)
                      have hnl : ns.length = k := by
                        have := congrArg List.length hyn
                        rw [e1, List.length_map] at this
                        exact this.symm
                      match ns, hnl with
                      | [], z => exact absurd z (by show ¬ 0 = k; omega)
                      | n0 :: nr, hnl =>
                        have g5 : H3 c1 = some (.tup ((n0 :: nr).map V.int)) := (s5 _ _ g12).trans (congrArg (fun z => some (HO.tup z)) hyn)
                        refine iteF ⟨_, rfl, c1, _, 0, .int n0, rfl, rfl, SqT.of g5, atI_nat (j := 0) rfl, _, rfl, _, rfl, ?_⟩
                        dsimp only [tNoPart]
                        refine sl_read g5 fun c6 H6 s6 g6 => ?_
                        have g6' : H6 c6 = some (.tup (nr.map V.int)) := g6.trans (congrArg (fun z => some (HO.tup z)) (cutV_from ((n0 :: nr).map V.int) 1))
                        refine ⟨c6, _, rfl, .inr (SqT.of g6'), rfl, flat_ints nr, _, rfl, ?_⟩
                        have s26 := s25.trans s6
                        rw [if_pos rfl, inV_ints]
                        rw [hns, hw2 hns hw, Bool.true_and] at q
                        have ap : apart ((n0 :: nr).map PyData.int) = !(nr.map PyData.int).any (eqI n0) := rfl
                        rw [ap] at q
                        cases hap : (nr.map PyData.int).any (eqI n0) with
                        | true =>
                          have q2 := q _ s26
                          rw [hap] at q2
                          exact iteF q2
                        | false =>
                          have g7 := s26.trans (Same.refl _) |> fun s => (s5.trans s6) _ _ g2'
                          refine iteT ⟨_, rfl, c2, rfl, ⟨_, SqT.of g7⟩, fun D2 nD2 => ?_⟩
                          refine lc_tup (K := K) (a := c2) (xs := ys.drop k) (fun i H7 => H7 D2 = some (.lst ((((dr.drop k).take i).map isIn).map V.bl)) ∧ Same H6 H7) ⟨upd_same, same_upd nD2⟩ (fun i H7 _ h => SqT.of (h.2 _ _ g7)) ?_ ?_
                          · rintro i y H7 hi ⟨k8, s8⟩
                            obtain ⟨dx, hdx, hx⟩ := hd2.at_ i y hi
                            have hil : i < (ys.drop k).length := (List.getElem?_eq_some_iff.mp hi).1
                            refine ⟨rfl, tYes_if ⟨y, rfl, D, B, y, dx, rfl, hx.same (s26.trans s8), _, k8, ?_, ?_, ?_⟩⟩
                            · simp only [List.length_map, List.length_take]
                              exact Nat.lt_of_le_of_lt (Nat.min_le_left _ _) (smallM (by omega))
                            · rw [upd_same, take_map_next hdx, List.map_append]
                              rfl
                            · intro z o hz
                              rw [upd_ne (ne_of_none hz nD2)]
                              exact s8 z o hz
                          · rintro H7 ⟨k8, s8⟩
                            refine ⟨D2, _, rfl, SqL.of k8, ?_⟩
                            have q2 := q _ (s26.trans s8)
                            have eall2 : (((dr.drop k).take (ys.drop k).length).map isIn).all id = (dr.drop k).all isIn := by
                              rw [hd2.len, List.take_length, List.all_map]
                              rfl
                            rw [hap] at q2
                            rw [eall2]
                            exact q2
                · have e2 : ¬ ((((ys.drop k).length : Nat) : Int) = 1) := fun z => hk2 (by
                    rw [List.length_drop, hyl] at z
                    show dr.length = k + 1
                    omega)
                  rw [dec_int2, decide_eq_false e2]
                  exact iteT (no s12 hk2)
            · have e1 : ¬ ((((ys.take k).length : Nat) : Int) = (k : Int)) := by
                rw [List.length_take]
                omega
              rw [dec_int2, decide_eq_false e1]
              exact iteT (iteT (no s12 (by omega)))
end
end Jg
namespace Jg
open PySem PySem.Spec PyProof.Rows L2
/-! ### what is wrong first with a tape -/
def mvGo (pl : Int) : List PyData → Nat → List Int → PyData
  | [], _, _ => .none
  | d :: ds, k, dg => if isMv pl d = true then (if fnd (degD dg d) (plc d) ≤ 64 then mvGo pl ds (k + 1) (degD dg d) else .tuple [.int (k : Int), .str (Str.ofString "degree")]) else .tuple [.int (k : Int), .str (Str.ofString "move")]
def ones (pl : Int) : List Int := List.replicate pl.toNat 1
def mvsErr (pl : Int) : PyData → PyData
  | .tuple ds => if (ds.length : Int) ≤ 600 then mvGo pl ds 0 (ones pl) else wr (Str.ofString "moves")
  | _ => wr (Str.ofString "moves")
def tapeErr : PyData → PyData
  | .tuple [a, b] => match a with
    | .int i => if within 1 80 (.int i) = true then mvsErr i b else wr (Str.ofString "places")
    | _ => wr (Str.ofString "places")
  | _ => wr (Str.ofString "tape")
theorem two_of {ds : List PyData} (h : ds.length = 2) : ∃ a b, ds = [a, b] := by
  match ds, h with
  | [a, b], _ => exact ⟨a, b, rfl⟩
section
variable {pl : Int} {a b c d : PyData} {ds : List PyData}
theorem tapeErr_tu (h : isTu d = false) : tapeErr d = wr (Str.ofString "tape") := by
  cases d <;> first | rfl | cases h
theorem tapeErr_len (h : ¬ ds.length = 2) : tapeErr (.tuple ds) = wr (Str.ofString "tape") := by
  match ds, h with
  | [], _ => rfl
  | [_], _ => rfl
  | [_, _], h => exact absurd rfl h
  | _ :: _ :: _ :: _, _ => rfl
theorem tapeErr_pl (h : within 1 80 a = false) : tapeErr (.tuple [a, b]) = wr (Str.ofString "places") := by
  cases a with
  | int i => exact if_neg (by rw [h]; exact Bool.false_ne_true)
  | _ => rfl
theorem tapeErr_go {i : Int} (h : within 1 80 (.int i) = true) : tapeErr (.tuple [.int i, b]) = mvsErr i b := if_pos h
theorem mvsErr_tu (h : isTu b = false) : mvsErr pl b = wr (Str.ofString "moves") := by
  cases b <;> first | rfl | cases h
theorem mvsErr_len (h : ¬ (ds.length : Int) ≤ 600) : mvsErr pl (.tuple ds) = wr (Str.ofString "moves") := if_neg h
theorem mvsErr_go (h : (ds.length : Int) ≤ 600) : mvsErr pl (.tuple ds) = mvGo pl ds 0 (ones pl) := if_pos h
theorem mvGo_at {i k : Nat} {dx : PyData} {dg : List Int} (h : ds[i]? = some dx) : mvGo pl (ds.drop i) k dg = if isMv pl dx = true then (if fnd (degD dg dx) (plc dx) ≤ 64 then mvGo pl (ds.drop (i + 1)) (k + 1) (degD dg dx) else .tuple [.int (k : Int), .str (Str.ofString "degree")]) else .tuple [.int (k : Int), .str (Str.ofString "move")] := by
  obtain ⟨hl, e⟩ := List.getElem?_eq_some_iff.mp h
  rw [List.drop_eq_getElem_cons hl, e]
  rfl
end
theorem ones_v (n : Nat) : (List.replicate n [V.int 1]).flatten = (List.replicate n (1 : Int)).map V.int := by
  induction n with
  | zero => rfl
  | succ n ih =>
    rw [List.replicate_succ, List.replicate_succ, List.flatten_cons, ih]
    rfl
theorem ones_len {pl : Int} (h : 0 ≤ pl) : ((ones pl).length : Int) = pl := by
  unfold ones
  rw [List.length_replicate]
  omega
theorem ones_64 {pl : Int} : ∀ n ∈ ones pl, n ≤ 64 := fun n hn => by
  rw [(List.mem_replicate.mp hn).2]
  decide
theorem dq_tapeN {d : PyData} (h : tupOf 2 d = false) : tapeErr d = wr (Str.ofString "tape") := by
  cases hb : isTu d with
  | false => exact tapeErr_tu hb
  | true =>
    cases d with
    | tuple ds => exact tapeErr_len (fun z => of_decide_eq_false (show decide ((ds.length : Int) = 2) = false from h) (by rw [z]; rfl))
    | _ => cases hb
abbrev sTErr : Stmt := topS 10
abbrev nTErr : List Str := ["value", "places", "moves", "degrees", "index", "move"]
theorem scTErr : FnScope nTErr ["value"] (defScope sTErr) := ⟨rfl, rfl, rfl, by decide +kernel, rfl, by decide +kernel, by decide +kernel⟩
section
variable {P : Program} {w : World} {K : PySem.W.Frag} {mg : Str → Option Value} {base : Heap}
/-- the program's defs that look at tapes -/
structure Pg (K : PySem.W.Frag) (w : World) (mg : Str → Option Value) (nm : Str) : Prop where
  int : ∃ f fd, Nm K mg "is_integer" sInt ["value"] f fd
  wit : ∃ f fd, Nm K mg "is_within" sWith ["value", "low", "high"] f fd
  tup : ∃ f fd, Nm K mg "is_tuple_of" sTupO ["value", "many"] f fd
  ism : ∃ f fd, Nm K mg nm sIsM ["value", "places"] f fd
  dee : ∃ f fd, Nm K mg "_deepen" sDeepen ["degrees", "move"] f fd
  spo : ∃ d, Tb K w mg "SPOTS" lookS d
  wit2 : ∃ d, Wn K mg d
  mxS : ∃ t, mg "MAX_SIZE" = some (.int 64 t)
  mxP : ∃ t, mg "MAX_PLACES" = some (.int 80 t)
  mxM : ∃ t, mg "MAX_MOVES" = some (.int 600 t)
def spTErr : Sp := fun vs H Q _ => ∃ (D B : Addr) (v : V) (d : PyData), vs = [v] ∧ Dq D B H v d ∧ ∀ u H', Same H H' → Dq D B H' u (tapeErr d) → Q u H'
set_option maxHeartbeats 4000000 in
theorem ok_tErr {f : Addr} {fd : FuncData} (F : Nm K mg "tape_error" sTErr ["value"] f fd) (G : Pg K w mg "is_move") (T : Bn mg) : FnOk P w K mg base CX0 4 f fd ["value"] spTErr := by
  obtain ⟨f1, fd1, N1⟩ := G.int
  obtain ⟨f2, fd2, N2⟩ := G.wit
  obtain ⟨f3, fd3, N3⟩ := G.tup
  obtain ⟨f4, fd4, N4⟩ := G.ism
  obtain ⟨f5, fd5, N5⟩ := G.dee
  obtain ⟨dT, NT⟩ := G.spo
  obtain ⟨dW, NW⟩ := G.wit2
  obtain ⟨_, gS⟩ := G.mxS
  obtain ⟨_, gP⟩ := G.mxP
  obtain ⟨_, gM⟩ := G.mxM
  have G2 : FnOk P w K mg base CX0 2 f2 fd2 ["value", "low", "high"] spWith := ok_with N2.F N1.F N1.b N1.g T
  have G3 : FnOk P w K mg base CX0 1 f3 fd3 ["value", "many"] spTupO := ok_tupO N3.F T
  have G4 : FnOk P w K mg base CX0 3 f4 fd4 ["value", "places"] spIsM := ok_isM N4 N1 N2 NT NW T
  have G5 : FnOk P w K mg base CX0 1 f5 fd5 ["degrees", "move"] spDeepen := ok_deepen N5 gS T
  refine F.F.ok scTErr (fun vs H Q E h => ?_) (fun cdv A outer s H vs Q E hr h => ?_)
  · obtain ⟨D, B, v, d, rfl, _⟩ := h
    rfl
  · obtain ⟨D, B, v, d, rfl, hd, q⟩ := h
    have hu := hr.units
    have hr1 : Room 1 _ := hr.mono (by decide)
    refine ⟨_, pss_cons (ps_if (pt_not (pt_val (pe_call G3 hr1 (by rfl) N3.g N3.F.kp N3.b .nil pass0 (pa_cons (pv 0) (pa_cons pe_int pa_nil))))) (pss_one (ps_ret (pe_tup (pa_cons pe_non (pa_cons pe_str pa_nil))))) pss_nil)
      (pss_cons (ps_asg (pv 0) (pg_tup rfl (pgs_cons (pg_name (i := 1) scTErr.nd rfl (.inl rfl)) (pgs_cons (pg_name (i := 2) scTErr.nd rfl (.inl rfl)) pgs_nil))))
      (pss_cons (ps_if (pt_not (pt_val (pe_call G2 (hr.mono (by decide)) (by rfl) N2.g N2.F.kp N2.b .nil pass0 (pa_cons (pv 1) (pa_cons pe_int (pa_cons (pe_glob (v := .int 80) rfl gP ⟨_, rfl⟩) pa_nil)))))) (pss_one (ps_ret (pe_tup (pa_cons pe_non (pa_cons pe_str pa_nil))))) pss_nil)
      (pss_cons (ps_if (PW.pt (pw_or (pt_not (pt_val (pe_callB call_isi (by rfl) T.isi PyProof.Rows.boot_isinstance (pa_cons (pv 2) (pa_cons (pe_bltn (by rfl) T.tup boot_tuple' (v := .ty "tuple") rfl) pa_nil)))))
        (pw_or1 (pt_cmpR op_gt (pe_callB call_len_seq (by rfl) T.len PySem.boot_len (pa_cons (pv 2) pa_nil)) (pe_glob (v := .int 600) rfl gM ⟨_, rfl⟩) (nomark _))))) (pss_one (ps_ret (pe_tup (pa_cons pe_non (pa_cons pe_str pa_nil))))) pss_nil)
      (pss_cons (ps_set (i := 3) scTErr.nd rfl (.inl rfl) (pe_op op_rep (pe_lst (pa_cons pe_int pa_nil)) (pv 1)))
      (pss_cons (ps_for PassesOwn.never rfl (pi_enumT (by rfl) T.enu (pa_cons (pv 2) pa_nil)) (pg_tup rfl (pgs_cons (pg_name (i := 4) scTErr.nd rfl (.inl rfl)) (pgs_cons (pg_name (i := 5) scTErr.nd rfl (.inl rfl)) pgs_nil)))
        (pss_cons (ps_if (pt_not (pt_val (pe_call G4 (hr.mono (by decide)) (by rfl) N4.g N4.F.kp N4.b .nil pass0 (pa_cons (pv 5) (pa_cons (pv 1) pa_nil))))) (pss_one (ps_ret (pe_tup (pa_cons (pv 4) (pa_cons pe_str pa_nil))))) pss_nil)
        (pss_one (ps_if (pt_not (pt_val (pe_call G5 hr1 (by rfl) N5.g N5.F.kp N5.b .nil pass0 (pa_cons (pv 3) (pa_cons (pv 5) pa_nil))))) (pss_one (ps_ret (pe_tup (pa_cons (pv 4) (pa_cons pe_str pa_nil))))) pss_nil))))
      (pss_one (ps_ret pe_non))))))), ?_⟩
    refine ⟨_, rfl, D, B, v, d, 2, rfl, hd, _, rfl, ?_⟩
    cases hb : tupOf 2 d with
    | false =>
      rw [dq_tapeN hb] at q
      exact iteT ⟨sz1 rfl, fun p np => q _ _ (same_upd np) (dq_wr upd_same)⟩
    | true =>
      obtain ⟨a, xs, ds, rfl, rfl, e, ha, hl⟩ := tupOf_yes hd hb
      obtain ⟨da, db, rfl⟩ := two_of (ds := ds) (by omega)
      obtain ⟨x1, x2, rfl, h1, h2⟩ := dq_two ha
      refine iteF ⟨_, rfl, a, _, rfl, SqT.of e, rfl, x1, [x2], rfl, x2, [], rfl, rfl, ?_⟩
      refine ⟨_, rfl, D, B, x1, da, 1, 80, rfl, h1, _, rfl, ?_⟩
      cases hw : within 1 80 da with
      | false =>
        rw [tapeErr_pl hw] at q
        exact iteT ⟨sz1 rfl, fun p np => q _ _ (same_upd np) (dq_wr upd_same)⟩
      | true =>
        obtain ⟨pl, rfl, i0, i1⟩ := within_is hw
        cases h1.intE
        rw [tapeErr_go hw] at q
        refine iteF ⟨_, rfl, x2, .ty "tuple", _, _, _, rfl, .ty "tuple", h2.ty, kTup db, _, rfl, ?_⟩
        cases hb3 : isTu db with
        | false =>
          rw [mvsErr_tu hb3] at q
          exact iteT (iteT ⟨sz1 rfl, fun p np => q _ _ (same_upd np) (dq_wr upd_same)⟩)
        | true =>
          obtain ⟨a2, ys, dys, rfl, rfl, e2, ha2⟩ := isTu_of h2 hb3
          have hly := ha2.len
          refine iteF ⟨_, rfl, a2, ys, rfl, .inr (SqT.of e2), _, _, rfl, rfl, _, rfl, ite2 (fun c => ?_) (fun c => ?_)⟩
          · have c2 := of_decide_eq_true c
            rw [mvsErr_len (by rw [← hly]; omega)] at q
            exact ⟨sz1 rfl, fun p np => q _ _ (same_upd np) (dq_wr upd_same)⟩
          · have c2 : ((ys.length : Nat) : Int) ≤ 600 := Int.not_lt.mp fun z => c (decide_eq_true z)
            rw [mvsErr_go (by rw [← hly]; exact c2)] at q
            refine ⟨sz1 rfl, fun l nl => ⟨_, rfl, l, pl, [.int 1], rfl, rfl, upd_same, by omega, by omega, Nat.le_of_lt (small1000 (by show 1 * pl.toNat ≤ 1000; omega)), fun L nL => ?_⟩⟩
            have sl := same_upd (o := .lst [.int 1]) nl
            have sL := same_upd (o := .lst (List.replicate pl.toNat [V.int 1]).flatten) nL
            have nLH : H L = none := by
              cases hz : H L with
              | none => rfl
              | some o =>
                rw [sl _ _ hz] at nL
                cases nL
            have s0 := sl.trans sL
            have eL0 : (upd (upd H l (.lst [.int 1])) L (.lst (List.replicate pl.toNat [V.int 1]).flatten)) L = some (.lst ((ones pl).map V.int)) := by
              rw [upd_same, ones_v]
              rfl
            refine ⟨_, rfl, a2, ys, rfl, SqT.of (s0 _ _ e2), for_enumT (K := K) (a := a2) (xs := ys) (fun i σ H3 => ∃ (dg : List Int) (y4 y5 : Option V), σ = [some (.ref a), some (.int pl), some (.ref a2), some (.ref L), y4, y5] ∧ (dg.length : Int) = pl ∧ mvGo pl dys 0 (ones pl) = mvGo pl (dys.drop i) i dg ∧ H3 L = some (.lst (dg.map V.int)) ∧ Same H H3)
              ⟨ones pl, none, none, rfl, ones_len (by omega), rfl, eL0, s0⟩ (fun i σ H3 _ ⟨_, _, _, _, _, _, _, s⟩ => SqT.of (s _ _ e2)) ?_ ?_⟩
            · rintro i y Tt σ H3 hy ⟨dg, y4, y5, rfl, hdl, heq, eL, s3⟩ hT
              have hi : i < ys.length := (List.getElem?_eq_some_iff.mp hy).1
              have sT := same_upd (o := .tup [.int ((i : Nat) : Int), y]) hT
              have s3T := s3.trans sT
              obtain ⟨dx, hdx, hxx⟩ := ha2.at_ i _ hy
              have hx3 := hxx.same s3T
              rw [mvGo_at hdx] at heq
              refine ⟨Tt, _, rfl, SqT.of upd_same, rfl, .int ((i : Nat) : Int), [y], rfl, y, [], rfl, rfl, ?_⟩
              refine ⟨_, rfl, _, rfl, D, B, y, dx, pl, rfl, hx3, fun H4 s4 => ⟨_, rfl, ?_⟩⟩
              have s34 := s3T.trans s4
              cases kM : isMv pl dx with
              | false =>
                rw [heq, if_neg (by rw [kM]; exact Bool.false_ne_true)] at q
                exact iteT ⟨_, rfl, sz1 rfl, fun p np => q _ _ (s34.trans (same_upd np)) (dq_nr upd_same)⟩
              | true =>
                rw [if_pos kM] at heq
                have m := mv_of kM
                have eL4 := s4 _ _ (sT _ _ eL)
                refine iteF ⟨_, rfl, _, rfl, D, B, L, y, dx, pl, dg, rfl, hx3.same s4, m, eL4, hdl, fun H5 e5 k5 => ⟨_, rfl, ?_⟩⟩
                have s5 : Same H H5 := fun b o hb => k5 b o (ne_of_none hb nLH) (s34 b o hb)
                by_cases c3 : fnd (degD dg dx) (plc dx) ≤ 64
                · rw [decide_eq_true c3]
                  rw [if_pos c3] at heq
                  exact iteF ⟨degD dg dx, _, _, rfl, by rw [degD_len m]; exact hdl, heq, e5, s5⟩
                · rw [decide_eq_false c3]
                  rw [heq, if_neg c3] at q
                  exact iteT ⟨_, rfl, sz1 rfl, fun p np => q _ _ (s5.trans (same_upd np)) (dq_nr upd_same)⟩
            · rintro σ H3 ⟨dg, y4, y5, rfl, hdl, heq, eL, s3⟩
              rw [List.drop_eq_nil_of_le (by omega)] at heq
              rw [heq] at q
              exact q _ _ s3 .non
end
end Jg
namespace Jg
open PySem PySem.Spec PyProof.Rows L2
/-! ### a tuple held against () -/
theorem op_eqNil {X : Cx} (hu : X.A.units + 64 < cLine) : OpR X (compareOp .Eq) (fun x y H Q => ∃ a b xs, x = .ref a ∧ y = .ref b ∧ H a = some (.tup xs) ∧ H b = some (.tup []) ∧ Q (.bl xs.isEmpty) H) := by
  intro pins s σ H x y v u Q I rx ry h
  obtain ⟨a, b, xs, rfl, rfl, ea, eb, q⟩ := h
  cases rx
  cases ry
  obtain ⟨its, rv, p, _⟩ := I.tuple (SqT.of (K := X.K) ea)
  obtain ⟨its2, rv2, p2, _⟩ := I.tuple (SqT.of (K := X.K) eb)
  cases rv2
  refine SeqAt.eq_tupleAt (e := fun _ => true) (show s.heap.IsTuple a its.toArray from p) (show s.heap.IsTuple b ([] : List Value).toArray from p2) (by omega) (fun j h1 h2 => absurd h2 (Nat.not_lt_zero j)) ⟨.bl xs.isEmpty, H, I, ?_, q⟩
  cases rv with
  | nil => rfl
  | cons r rr => rfl
/-! ### the law's judging of moves -/
def kit5 : List (Key × V) := [(.inr (Str.ofString "gain"), .int 4), (.inr (Str.ofString "add"), .int 5), (.inr (Str.ofString "swap"), .int 3), (.inr (Str.ofString "turn"), .int 2), (.inr (Str.ofString "more"), .int 3)]
theorem kit5_merge : mergeK [] kit5 = kit5 := by rfl
def manyOf (x : Str) : Int := match spotsOf x with | some (k, b) => (k : Int) + 1 + (b.toNat : Int) | none => 0
theorem many_no {x : Str} (h : spotsOf x = none) : manyOf x = 0 := by
  unfold manyOf
  rw [h]
theorem many_yes {x : Str} {k : Nat} {b : Bool} (h : spotsOf x = some (k, b)) : manyOf x = (k : Int) + 1 + (b.toNat : Int) := by
  unfold manyOf
  rw [h]
theorem kit5_get (x : Str) : (valV kit5 (.inr x)).getD (.int 0) = .int (manyOf x) := by
  unfold kit5 manyOf spotsOf
  by_cases h1 : x = Str.ofString "gain"
  · rw [if_pos h1, valV_pos (by rw [h1])]
    rfl
  · rw [if_neg h1, valV_neg (fun z => h1 (Sum.inr.inj z).symm)]
    by_cases h2 : x = Str.ofString "add"
    · rw [if_pos h2, valV_pos (by rw [h2])]
      rfl
    · rw [if_neg h2, valV_neg (fun z => h2 (Sum.inr.inj z).symm)]
      by_cases h3 : x = Str.ofString "swap"
      · rw [if_pos h3, valV_pos (by rw [h3])]
        rfl
      · rw [if_neg h3, valV_neg (fun z => h3 (Sum.inr.inj z).symm)]
        by_cases h4 : x = Str.ofString "turn"
        · rw [if_pos h4, valV_pos (by rw [h4])]
          rfl
        · rw [if_neg h4, valV_neg (fun z => h4 (Sum.inr.inj z).symm)]
          by_cases h5 : x = Str.ofString "more"
          · rw [if_pos h5, valV_pos (by rw [h5])]
            rfl
          · rw [if_neg h5, valV_neg (fun z => h5 (Sum.inr.inj z).symm)]
            rfl
theorem cutV_in (x : V) (ys : List V) : cutV (x :: ys) (some 1) (some (-1)) = ys.take (ys.length - 1) := by
  unfold cutV
  rw [show (some (1 : Int)) = some ((1 : Nat) : Int) from rfl, HT.sIx_nat, List.length_cons]
  have h1 : min 1 (ys.length + 1) = 1 := by omega
  have h2 : HT.sIx (ys.length + 1) (ys.length + 1) (some (-1)) = ys.length := by
    show (if (-1 : Int) < 0 then ((-1 : Int) + ((ys.length + 1 : Nat) : Int)).toNat else min (-1 : Int).toNat (ys.length + 1)) = ys.length
    rw [if_pos (by decide)]
    omega
  rw [h1, h2, List.drop_succ_cons, List.drop_zero]
abbrev sLM : Stmt := topS 27
abbrev nLM : List Str := ["_law_places", "_law_value", "_law_many", "_law_spots", "_law_spot"]
theorem scLM : FnScope nLM ["_law_places", "_law_value"] (defScope sLM) := ⟨rfl, rfl, rfl, by decide +kernel, rfl, by decide +kernel, by decide +kernel⟩
theorem spotsB_of {x : Str} (h : spotsOf x = none) : (decide (x = Str.ofString "gain") || decide (x = Str.ofString "add") || decide (x = Str.ofString "more")) = false := by
  have a1 : ¬ x = Str.ofString "gain" := fun z => by
    subst z
    exact absurd h (by decide +kernel)
  have a2 : ¬ x = Str.ofString "add" := fun z => by
    subst z
    exact absurd h (by decide +kernel)
  have a3 : ¬ x = Str.ofString "more" := fun z => by
    subst z
    exact absurd h (by decide +kernel)
  rw [decide_eq_false a1, decide_eq_false a2, decide_eq_false a3]
  rfl
theorem kInt' {K : PySem.W.Frag} (d : PyData) : PySem.W.kitOne K (.type (tyN d)) (.type "int") = some (isIB d) := kInt d
theorem last_of {D B : Addr} {H : Hp} {ys : List V} {dr : List PyData} (h : DqAll D B H ys dr) (hl : 0 < ys.length) : ∃ yi yl di dl, ys = yi ++ [yl] ∧ dr = di ++ [dl] ∧ Dq D B H yl dl := by
  have hr := h.rev
  cases hy : ys.reverse with
  | nil =>
    rw [List.reverse_eq_nil_iff.mp hy] at hl
    cases hl
  | cons y yr =>
    cases hd : dr.reverse with
    | nil =>
      rw [hy, hd] at hr
      cases hr
    | cons e er =>
      rw [hy, hd] at hr
      cases hr with
      | cons a r =>
        refine ⟨yr.reverse, y, er.reverse, e, ?_, ?_, a⟩
        · rw [← List.reverse_reverse ys, hy, List.reverse_cons]
        · rw [← List.reverse_reverse dr, hd, List.reverse_cons]
theorem isIn_bo {d : PyData} (h : isBo d = true) : isIn d = false := by
  cases d <;> first | rfl | cases h
theorem isIn_ib {d : PyData} (h : isIB d = false) : isIn d = false := by
  cases d <;> first | rfl | cases h
theorem isIn_yes {d : PyData} (h : isIB d = true) (h2 : isBo d = false) : isIn d = true := by
  cases d <;> first | rfl | exact Bool.noConfusion (show false = true from h) | exact Bool.noConfusion (show true = false from h2)
theorem last_in {pl : Int} {dr di : List PyData} {dl : PyData} {k : Nat} (h : dr = di ++ [dl]) (hl : dr.length = k) (hw : (dr.take k).all (within 0 (pl - 1)) = true) : (dr.drop k).all isIn = isIn dl := by
  rw [List.drop_eq_nil_of_le (by omega)]
  rw [List.take_of_length_le (by omega), h, List.all_append, Bool.and_eq_true] at hw
  obtain ⟨i, rfl, _, _⟩ := within_is (all1 hw.2)
  rfl
theorem last_out {dr di : List PyData} {dl : PyData} {k : Nat} (h : dr = di ++ [dl]) (hl : dr.length = k + 1) : (dr.drop k).all isIn = isIn dl := by
  have e : di.length = k := by
    rw [h, List.length_append] at hl
    exact Nat.succ.inj hl
  rw [h, ← e, List.drop_left]
  show (isIn dl && true) = isIn dl
  rw [Bool.and_true]
section
variable {P : Program} {w : World} {K : PySem.W.Frag} {mg : Str → Option Value} {base : Heap}
def spLM : Sp := fun vs H Q _ => ∃ (D B : Addr) (v : V) (d : PyData) (pl : Int), vs = [.int pl, v] ∧ Dq D B H v d ∧ ∀ H', Same H H' → Q (.bl (isMv pl d)) H'
set_option maxHeartbeats 4000000 in
theorem ok_lM {f fW : Addr} {fd fdW : FuncData} (F : Nm K mg "_law_is_move" sLM ["_law_places", "_law_value"] f fd) (FW : Nm K mg "_law_whole" sWhole ["_law_value", "_law_least", "_law_most"] fW fdW) (T : Bn mg) : FnOk P w K mg base CX0 2 f fd ["_law_places", "_law_value"] spLM := by
  have GW : FnOk P w K mg base CX0 1 fW fdW ["_law_value", "_law_least", "_law_most"] spWith := ok_whole FW.F T
  refine F.F.ok scLM (fun vs H Q E h => ?_) (fun cdv A outer s H vs Q E hr h => ?_)
  · obtain ⟨D, B, v, d, pl, rfl, _⟩ := h
    rfl
  · obtain ⟨D, B, v, d, pl, rfl, hd, q⟩ := h
    have hu := hr.units
    have hu1 : (A.deeper (envOfC "_law_is_move" (defScope sLM) s.heap.objs.size f cdv)).units + 1 < cLine := by omega
    refine ⟨_, pss_cons (ps_if (PW.pt (pw_or (pt_not (pt_val (pe_callB call_isi (by rfl) T.isi PyProof.Rows.boot_isinstance (pa_cons (pv 1) (pa_cons (pe_bltn (by rfl) T.tup boot_tuple' (v := .ty "tuple") rfl) pa_nil)))))
        (pw_or (pt_cmpR (op_eqNil hu) (pv 1) (pe_tup pa_nil) (nomark _))
          (pw_or1 (pt_not (pt_val (pe_callB call_isi (by rfl) T.isi PyProof.Rows.boot_isinstance (pa_cons (pe_ix ix_tup (pv 1) pe_int (fun _ _ => rfl)) (pa_cons (pe_bltn (by rfl) T.str boot_str' (v := .ty "str") rfl) pa_nil))))))))) (pss_one (ps_ret pe_bl)) pss_nil)
      (pss_cons (ps_set (i := 2) scLM.nd rfl (.inl rfl) (pe_dget2 hu1 (pe_disp (pps_cons pe_str pe_int (pps_cons pe_str pe_int (pps_cons pe_str pe_int (pps_cons pe_str pe_int (pps_cons pe_str pe_int pps_nil))))) (by rfl) (by rfl) (fun z => by cases z) (by decide)) (pe_ix ix_tup (pv 1) pe_int (fun _ _ => rfl)) pe_int ⟨by rfl, by rfl, by rfl, by rfl⟩))
      (pss_cons (ps_if (pt_cmpR op_ne (pe_callB call_len_seq (by rfl) T.len PySem.boot_len (pa_cons (pv 1) pa_nil)) (pv 2) (nomark _)) (pss_one (ps_ret pe_bl)) pss_nil)
      (pss_cons (ps_set (i := 3) scLM.nd rfl (.inl rfl) (pe_ifExp (pt_cmpR op_in_seq (pe_ix ix_tup (pv 1) pe_int (fun _ _ => rfl)) (pe_tup (pa_cons pe_str (pa_cons pe_str (pa_cons pe_str pa_nil)))) (by rfl)) (pe_slice sl_tupA (pv 1) (po_some pe_int) (po_some (pe_un un_neg pe_int))) (pe_slice sl_tupA (pv 1) (po_some pe_int) po_none)))
      (pss_cons (ps_if (PW.pt (pw_or (pt_cmpR (op_neD hu) (pe_lc (own := [("_law_spot", 4)]) (g := gName 4) rfl scLM.nd (pi_tup (pv 3)) (blkOk_by (N := nLM) (sc := defScope sLM) (by decide +kernel))
            (fun _ _ _ _ _ => pg_name (i := 4) scLM.nd rfl (.inl rfl)) (fun _ _ _ _ _ => pts_one (pt_not (pt_val (pe_call GW (hr.mono (by decide)) (by rfl) FW.g FW.F.kp FW.b .nil pass0 (pa_cons (pv 4) (pa_cons pe_int (pa_cons (pe_op op_sub (pv 0) pe_int) pa_nil))))))) (fun _ _ _ _ _ => pe_int)) (pe_lst pa_nil) (nomark _))
          (pw_or1 (pt_val (pe_callB call_isi (by rfl) T.isi PyProof.Rows.boot_isinstance (pa_cons (pe_ix ix_tup (pv 1) (pe_un un_neg pe_int) (fun _ _ => rfl)) (pa_cons (pe_bltn (by rfl) T.bool boot_bool' (v := .ty "bool") rfl) pa_nil))))))) (pss_one (ps_ret pe_bl)) pss_nil)
      (pss_one (ps_ret (pe_and (pe_callB call_isi (by rfl) T.isi PyProof.Rows.boot_isinstance (pa_cons (pe_ix ix_tup (pv 1) (pe_un un_neg pe_int) (fun _ _ => rfl)) (pa_cons (pe_bltn (by rfl) T.int PyProof.Rows.boot_int (v := .ty "int") rfl) pa_nil)))
        (pe_one (pe_cmpR op_notIn_seq (pe_ix ix_tup (pv 3) pe_int (fun _ _ => rfl)) (pe_slice sl_tupA (pv 3) (po_some pe_int) po_none) (by rfl)))))))))), ?_⟩
    refine ⟨v, rfl, v, .ty "tuple", _, _, _, rfl, .ty "tuple", hd.ty, kTup d, _, rfl, ?_⟩
    cases hb : isTu d with
    | false =>
      have q2 := q H (Same.refl H)
      rw [isMv_no hb] at q2
      exact iteT (iteT q2)
    | true =>
      obtain ⟨a, xs, ds, rfl, rfl, e, ha⟩ := isTu_of hd hb
      refine iteF ⟨_, rfl, Nat.zero_le _, fun p0 n0 => ?_⟩
      have s0 := same_upd (o := .tup []) n0
      refine ⟨a, p0, xs, rfl, rfl, s0 _ _ e, upd_same, _, rfl, ?_⟩
      cases ha with
      | nil => exact iteT (iteT (q _ s0))
      | @cons x1 ys d1 dr h1 hr1 =>
        refine iteF ⟨_, rfl, a, _, 0, x1, rfl, rfl, SqT.of (s0 _ _ e), atI_nat (j := 0) rfl, x1, .ty "str", _, _, _, rfl, .ty "str", (h1.same s0).ty, kStr d1, _, rfl, ?_⟩
        cases hs : isSt d1 with
        | false =>
          have q2 := q _ s0
          rw [isMv_str hs] at q2
          exact iteT q2
        | true =>
          obtain ⟨x, rfl, rfl⟩ := isSt_of h1 hs
          refine iteF (fun pd nd => ⟨upd_same, kit5, rfl, by show 5 ≤ 15; decide, ?_⟩)
          rw [kit5_merge]
          have sd : Same H (upd (upd (upd H p0 (.tup [])) pd (.dK [])) pd (.dK kit5)) := fun b o hb => by
            have hb2 := s0 _ _ hb
            rw [upd_ne (ne_of_none hb2 nd), upd_ne (ne_of_none hb2 nd)]
            exact hb2
          have e1 := sd _ _ e
          refine ⟨pd, rfl, .inl ⟨kit5, .inl upd_same⟩, _, rfl, a, _, 0, .str x, rfl, rfl, SqT.of e1, atI_nat (j := 0) rfl, _, .inl ⟨kit5, .inr x, .inl upd_same, rfl, rfl⟩, ?_⟩
          rw [kit5_get]
          have no : ∀ {H' : Hp} {k : Nat} {b : Bool}, spotsOf x = some (k, b) → Same H H' → ¬ (dr.length = k + b.toNat) → Q (.bl false) H' := fun hn s hne => by
            have q2 := q _ s
            rw [isMv_some hn, decide_eq_false hne] at q2
            exact q2
          have hyl := hr1.len
          cases hn : spotsOf x with
          | none =>
            have q2 := q _ sd
            rw [isMv_word hn] at q2
            refine ⟨_, rfl, a, _, rfl, .inr (SqT.of e1), _, rfl, rfl, _, rfl, ?_⟩
            rw [dec_int2, decide_eq_false (by rw [List.length_cons, many_no hn]; omega)]
            exact iteT q2
          | some kb =>
            obtain ⟨k, b⟩ := kb
            obtain ⟨k1, k3⟩ := spots_pos hn
            refine ⟨_, rfl, a, _, rfl, .inr (SqT.of e1), _, rfl, rfl, _, rfl, ?_⟩
            by_cases hk2 : dr.length = k + b.toNat
            · rw [dec_int2, decide_eq_true (by rw [List.length_cons, hyl, hk2, many_yes hn]; omega)]
              rw [isMv_some hn, decide_eq_true hk2, Bool.true_and] at q
              have hd1 := hr1.take k
              refine iteF ⟨_, rfl, a, _, 0, .str x, rfl, rfl, SqT.of e1, atI_nat (j := 0) rfl, sz1 rfl, fun p3 n3 => ?_⟩
              have s3 := same_upd (o := .tup [.str (Str.ofString "gain"), .str (Str.ofString "add"), .str (Str.ofString "more")]) n3
              refine ⟨p3, _, rfl, .inr (SqT.of upd_same), rfl, rfl, _, rfl, ?_⟩
              rw [if_neg Bool.false_ne_true, inV3, spots_b hn]
              cases b
              · refine iteF ⟨_, rfl, _, rfl, ?_⟩
                dsimp only [tNoPart]
                refine sl_read (s3 _ _ e1) fun c H4 s4 g4a => ?_
                have hlen : ys.length = k := by rw [hyl, hk2]; rfl
                have g4 : H4 c = some (.tup (ys.take k)) := g4a.trans (congrArg (fun z => some (HO.tup z)) ((cutV_from (V.str x :: ys) 1).trans (by rw [List.take_of_length_le (by omega)]; rfl)))
                have s04 := sd.trans (s3.trans s4)
                refine ⟨_, rfl, c, rfl, ⟨_, SqT.of g4⟩, fun D1 nD1 => ?_⟩
                refine lc_tup (K := K) (a := c) (xs := ys.take k) (fun i H5 => ∃ m : Nat, m ≤ i ∧ H5 D1 = some (.lst ((List.replicate m (1 : Int)).map V.int)) ∧ decide (m = 0) = ((dr.take k).take i).all (within 0 (pl - 1)) ∧ Same H4 H5) ⟨0, Nat.le_refl _, upd_same, rfl, same_upd nD1⟩ (fun i H5 _ ⟨_, _, _, _, h⟩ => SqT.of (h _ _ g4)) ?_ ?_
                · rintro i y H5 hi ⟨m, hm, k5, k6, s5⟩
                  obtain ⟨dx, hdx, hx⟩ := hd1.at_ i y hi
                  have hil : i < (ys.take k).length := (List.getElem?_eq_some_iff.mp hi).1
                  have hal : ((dr.take k).take (i + 1)).all (within 0 (pl - 1)) = (((dr.take k).take i).all (within 0 (pl - 1)) && within 0 (pl - 1) dx) := by
                    rw [List.take_add_one, hdx, List.all_append]
                    simp
                  refine ⟨rfl, y, rfl, _, rfl, _, _, rfl, rfl, D, B, y, dx, 0, pl - 1, rfl, hx.same (s04.trans s5), _, rfl, ?_⟩
                  cases hk : within 0 (pl - 1) dx with
                  | true =>
                    refine iteF ⟨m, by omega, k5, ?_, s5⟩
                    rw [hal, hk, Bool.and_true]
                    exact k6
                  | false =>
                    refine iteT ⟨_, k5, ?_, m + 1, by omega, ?_, ?_, ?_⟩
                    · rw [List.length_map, List.length_replicate]
                      have : (ys.take k).length ≤ k := by rw [List.length_take]; omega
                      exact smallM (by omega)
                    · rw [upd_same, List.replicate_succ', List.map_append]
                      rfl
                    · rw [hal, hk, Bool.and_false]
                      rfl
                    · intro z o hz
                      rw [upd_ne (ne_of_none hz nD1)]
                      exact s5 z o hz
                · rintro H5 ⟨m, hm, k5, k6, s5⟩
                  refine ⟨Nat.zero_le _, fun p6 np6 => ?_⟩
                  have s6 : Same H5 (upd H5 p6 (.lst [])) := same_upd np6
                  have s56 := s5.trans s6
                  have s06 := s04.trans s56
                  refine ⟨.list ((List.replicate m (1 : Int)).map PyData.int), .list [], .lst (SqL.of (s6 _ _ k5)) (dp_ints _), .lst (SqL.of upd_same) .nil, shaped_ints _, shaped_ints [], _, rfl, ?_⟩
                  rw [ones_eqv m, k6, hd1.len, List.take_length]
                  cases hw : (dr.take k).all (within 0 (pl - 1)) with
                  | false =>
                    have q2 := q _ s06
                    rw [hw] at q2
                    exact iteT (iteT q2)
                  | true =>
                    have e6 := s06 _ _ e
                    obtain ⟨yi, yl, di, dl, hyl2, hdl2, hq⟩ := last_of hr1 (by omega)
                    have hlast : atI (V.str x :: ys) (-1) = some yl := by
                      rw [hyl2]
                      exact atI_last (V.str x :: yi) yl
                    have hend : (dr.drop k).all isIn = isIn dl := last_in hdl2 (by rw [← hyl]; exact hlen) hw
                    rw [hw, Bool.true_and, hend] at q
                    refine iteF ⟨_, rfl, _, rfl, a, _, -1, yl, rfl, rfl, SqT.of e6, hlast, yl, .ty "bool", _, _, _, rfl, .ty "bool", (hq.same s06).ty, kBool dl, _, rfl, ?_⟩
                    cases hbo : isBo dl with
                    | true =>
                      have q2 := q _ s06
                      rw [isIn_bo hbo, Bool.and_false] at q2
                      exact iteT q2
                    | false =>
                      refine iteF ⟨_, rfl, _, rfl, a, _, -1, yl, rfl, rfl, SqT.of e6, hlast, yl, .ty "int", _, _, _, rfl, .ty "int", (hq.same s06).ty, kInt dl, _, rfl, ?_⟩
                      cases hib : isIB dl with
                      | false =>
                        have q2 := q _ s06
                        rw [isIn_ib hib, Bool.and_false] at q2
                        exact iteF q2
                      | true =>
                        rw [isIn_yes hib hbo, Bool.and_true] at q
                        obtain ⟨ns, hns⟩ := ints_of hw
                        have hyn : ys.take k = ns.map V.int := dqI (hns ▸ hd1)
                        have hnl : ns.length = k := by
                          have := congrArg List.length hyn
                          rw [List.length_take, List.length_map] at this
                          omega
                        match ns, hnl with
                        | [], z => exact absurd z (by show ¬ 0 = k; omega)
                        | n0 :: nr, hnl =>
                          have g5 : (upd H5 p6 (.lst [])) c = some (.tup ((n0 :: nr).map V.int)) := (s56 _ _ g4).trans (congrArg (fun z => some (HO.tup z)) hyn)
                          refine iteT ⟨_, rfl, c, _, 0, .int n0, rfl, rfl, SqT.of g5, atI_nat (j := 0) rfl, _, rfl, _, rfl, ?_⟩
                          dsimp only [tNoPart]
                          refine sl_read g5 fun c7 H7 s7 g7 => ?_
                          have g7' : H7 c7 = some (.tup (nr.map V.int)) := g7.trans (congrArg (fun z => some (HO.tup z)) (cutV_from ((n0 :: nr).map V.int) 1))
                          refine ⟨c7, _, rfl, .inr (SqT.of g7'), rfl, flat_ints nr, ?_⟩
                          rw [if_pos rfl, inV_ints]
                          rw [hns] at q
                          exact q _ (s06.trans s7)
              · refine iteT ⟨_, rfl, _, rfl, _, rfl, _, rfl, sl_read (s3 _ _ e1) fun c H4 s4 g4a => ?_⟩
                have hlen : ys.length = k + 1 := by rw [hyl, hk2]; rfl
                have g4 : H4 c = some (.tup (ys.take k)) := g4a.trans (congrArg (fun z => some (HO.tup z)) ((cutV_in (V.str x) ys).trans (by rw [hlen, Nat.add_sub_cancel])))
                have s04 := sd.trans (s3.trans s4)
                refine ⟨_, rfl, c, rfl, ⟨_, SqT.of g4⟩, fun D1 nD1 => ?_⟩
                refine lc_tup (K := K) (a := c) (xs := ys.take k) (fun i H5 => ∃ m : Nat, m ≤ i ∧ H5 D1 = some (.lst ((List.replicate m (1 : Int)).map V.int)) ∧ decide (m = 0) = ((dr.take k).take i).all (within 0 (pl - 1)) ∧ Same H4 H5) ⟨0, Nat.le_refl _, upd_same, rfl, same_upd nD1⟩ (fun i H5 _ ⟨_, _, _, _, h⟩ => SqT.of (h _ _ g4)) ?_ ?_
                · rintro i y H5 hi ⟨m, hm, k5, k6, s5⟩
                  obtain ⟨dx, hdx, hx⟩ := hd1.at_ i y hi
                  have hil : i < (ys.take k).length := (List.getElem?_eq_some_iff.mp hi).1
                  have hal : ((dr.take k).take (i + 1)).all (within 0 (pl - 1)) = (((dr.take k).take i).all (within 0 (pl - 1)) && within 0 (pl - 1) dx) := by
                    rw [List.take_add_one, hdx, List.all_append]
                    simp
                  refine ⟨rfl, y, rfl, _, rfl, _, _, rfl, rfl, D, B, y, dx, 0, pl - 1, rfl, hx.same (s04.trans s5), _, rfl, ?_⟩
                  cases hk : within 0 (pl - 1) dx with
                  | true =>
                    refine iteF ⟨m, by omega, k5, ?_, s5⟩
                    rw [hal, hk, Bool.and_true]
                    exact k6
                  | false =>
                    refine iteT ⟨_, k5, ?_, m + 1, by omega, ?_, ?_, ?_⟩
                    · rw [List.length_map, List.length_replicate]
                      have : (ys.take k).length ≤ k := by rw [List.length_take]; omega
                      exact smallM (by omega)
                    · rw [upd_same, List.replicate_succ', List.map_append]
                      rfl
                    · rw [hal, hk, Bool.and_false]
                      rfl
                    · intro z o hz
                      rw [upd_ne (ne_of_none hz nD1)]
                      exact s5 z o hz
                · rintro H5 ⟨m, hm, k5, k6, s5⟩
                  refine ⟨Nat.zero_le _, fun p6 np6 => ?_⟩
                  have s6 : Same H5 (upd H5 p6 (.lst [])) := same_upd np6
                  have s56 := s5.trans s6
                  have s06 := s04.trans s56
                  refine ⟨.list ((List.replicate m (1 : Int)).map PyData.int), .list [], .lst (SqL.of (s6 _ _ k5)) (dp_ints _), .lst (SqL.of upd_same) .nil, shaped_ints _, shaped_ints [], _, rfl, ?_⟩
                  rw [ones_eqv m, k6, hd1.len, List.take_length]
                  cases hw : (dr.take k).all (within 0 (pl - 1)) with
                  | false =>
                    have q2 := q _ s06
                    rw [hw] at q2
                    exact iteT (iteT q2)
                  | true =>
                    have e6 := s06 _ _ e
                    obtain ⟨yi, yl, di, dl, hyl2, hdl2, hq⟩ := last_of hr1 (by omega)
                    have hlast : atI (V.str x :: ys) (-1) = some yl := by
                      rw [hyl2]
                      exact atI_last (V.str x :: yi) yl
                    have hend : (dr.drop k).all isIn = isIn dl := last_out hdl2 (by rw [← hyl]; exact hlen)
                    rw [hw, Bool.true_and, hend] at q
                    refine iteF ⟨_, rfl, _, rfl, a, _, -1, yl, rfl, rfl, SqT.of e6, hlast, yl, .ty "bool", _, _, _, rfl, .ty "bool", (hq.same s06).ty, kBool dl, _, rfl, ?_⟩
                    cases hbo : isBo dl with
                    | true =>
                      have q2 := q _ s06
                      rw [isIn_bo hbo, Bool.and_false] at q2
                      exact iteT q2
                    | false =>
                      refine iteF ⟨_, rfl, _, rfl, a, _, -1, yl, rfl, rfl, SqT.of e6, hlast, yl, .ty "int", _, _, _, rfl, .ty "int", (hq.same s06).ty, kInt dl, _, rfl, ?_⟩
                      cases hib : isIB dl with
                      | false =>
                        have q2 := q _ s06
                        rw [isIn_ib hib, Bool.and_false] at q2
                        exact iteF q2
                      | true =>
                        rw [isIn_yes hib hbo, Bool.and_true] at q
                        obtain ⟨ns, hns⟩ := ints_of hw
                        have hyn : ys.take k = ns.map V.int := dqI (hns ▸ hd1)
                        have hnl : ns.length = k := by
                          have := congrArg List.length hyn
                          rw [List.length_take, List.length_map] at this
                          omega
                        match ns, hnl with
                        | [], z => exact absurd z (by show ¬ 0 = k; omega)
                        | n0 :: nr, hnl =>
                          have g5 : (upd H5 p6 (.lst [])) c = some (.tup ((n0 :: nr).map V.int)) := (s56 _ _ g4).trans (congrArg (fun z => some (HO.tup z)) hyn)
                          refine iteT ⟨_, rfl, c, _, 0, .int n0, rfl, rfl, SqT.of g5, atI_nat (j := 0) rfl, _, rfl, _, rfl, ?_⟩
                          dsimp only [tNoPart]
                          refine sl_read g5 fun c7 H7 s7 g7 => ?_
                          have g7' : H7 c7 = some (.tup (nr.map V.int)) := g7.trans (congrArg (fun z => some (HO.tup z)) (cutV_from ((n0 :: nr).map V.int) 1))
                          refine ⟨c7, _, rfl, .inr (SqT.of g7'), rfl, flat_ints nr, ?_⟩
                          rw [if_pos rfl, inV_ints]
                          rw [hns] at q
                          exact q _ (s06.trans s7)
            · rw [dec_int2, decide_eq_false (by rw [List.length_cons, many_yes hn]; omega)]
              exact iteT (no hn sd hk2)
end
end Jg
namespace Jg
open PySem PySem.Spec PyProof.Rows L2
/-! ### the law's degrees, the law's judging of tapes -/
abbrev sLTE : Stmt := topS 28
abbrev nLTE : List Str := ["_law_value", "_law_degrees_here", "_law_index", "_law_move_here"]
theorem scLTE : FnScope nLTE ["_law_value"] (defScope sLTE) := ⟨rfl, rfl, rfl, by decide +kernel, rfl, by decide +kernel, by decide +kernel⟩
section
variable {P : Program} {w : World} {K : PySem.W.Frag} {mg : Str → Option Value} {base : Heap}
def spDegs : Sp := fun vs H Q _ => ∃ (D B L : Addr) (v : V) (d : PyData) (pl : Int) (dg : List Int), vs = [.ref L, v] ∧ Dq D B H v d ∧ Mv pl d ∧ H L = some (.lst (dg.map V.int)) ∧ (dg.length : Int) = pl ∧
  ∀ M H', H M = none → Same H H' → H' M = some (.lst ((degD dg d).map V.int)) → Q (.ref M) H'
set_option maxHeartbeats 4000000 in
theorem ok_degs {f : Addr} {fd : FuncData} (F : Nm K mg "_law_degrees" sDegs ["_law_degrees_here", "_law_move_here"] f fd) (T : Bn mg) : FnOk P w K mg base CX0 1 f fd ["_law_degrees_here", "_law_move_here"] spDegs := by
  refine F.F.ok scDegs (fun vs H Q E h => ?_) (fun cdv A outer s H vs Q E hr h => ?_)
  · obtain ⟨D, B, L, v, d, pl, dg, rfl, _⟩ := h
    rfl
  · obtain ⟨D, B, L, v, d, pl, dg, rfl, hd, m, eL, hl, q⟩ := h
    refine ⟨_, pss_cons (ps_set (i := 2) scDegs.nd rfl (.inl rfl) (pe_callTy call_list_of (by rfl) T.lst boot_list' (pa_cons (pv 0) pa_nil)))
      (pss_cons (ps_if (pt_cmpR op_eq (pe_ix ix_tup (pv 1) pe_int (fun _ _ => rfl)) pe_str (nomark _)) (pss_one (ps_asg (pe_callB (call_max2 rfl) (by rfl) T.max boot_max' (pa_cons (pe_callTy call_int1 (by rfl) T.int PyProof.Rows.boot_int (pa_cons (pe_ix ix_list (pv 0) (pe_ix ix_tup (pv 1) pe_int (fun _ _ => rfl)) (fun _ _ => rfl)) pa_nil))
            (pa_cons (pe_callTy call_int1 (by rfl) T.int PyProof.Rows.boot_int (pa_cons (pe_ix ix_list (pv 0) (pe_ix ix_tup (pv 1) pe_int (fun _ _ => rfl)) (fun _ _ => rfl)) pa_nil)) pa_nil))) (pg_sub (pv 2) (pe_ix ix_tup (pv 1) pe_int (fun _ _ => rfl)) set_list)))
        (pss_one (ps_if (pt_cmpR op_eq (pe_ix ix_tup (pv 1) pe_int (fun _ _ => rfl)) pe_str (nomark _)) (pss_one (ps_asg (pe_callB (call_max2 rfl) (by rfl) T.max boot_max' (pa_cons (pe_callTy call_int1 (by rfl) T.int PyProof.Rows.boot_int (pa_cons (pe_ix ix_list (pv 0) (pe_ix ix_tup (pv 1) pe_int (fun _ _ => rfl)) (fun _ _ => rfl)) pa_nil))
            (pa_cons (pe_callTy call_int1 (by rfl) T.int PyProof.Rows.boot_int (pa_cons (pe_op op_add (pe_ix ix_list (pv 0) (pe_ix ix_tup (pv 1) pe_int (fun _ _ => rfl)) (fun _ _ => rfl)) (pe_ix ix_list (pv 0) (pe_ix ix_tup (pv 1) pe_int (fun _ _ => rfl)) (fun _ _ => rfl))) pa_nil)) pa_nil))) (pg_sub (pv 2) (pe_ix ix_tup (pv 1) pe_int (fun _ _ => rfl)) set_list)))
          (pss_one (ps_if (pt_cmpR op_eq (pe_ix ix_tup (pv 1) pe_int (fun _ _ => rfl)) pe_str (nomark _)) (pss_cons (ps_par (i := 3) (j := 4) rfl scDegs.nd rfl rfl (by decide) rfl rfl (pa_cons (pe_ix ix_list (pv 0) (pe_ix ix_tup (pv 1) pe_int (fun _ _ => rfl)) (fun _ _ => rfl)) (pa_cons (pe_ix ix_list (pv 0) (pe_ix ix_tup (pv 1) pe_int (fun _ _ => rfl)) (fun _ _ => rfl)) pa_nil)) rfl)
            (pss_one (ps_asg (pe_tup (pa_cons (pv 4) (pa_cons (pv 3) pa_nil))) (pg_tup rfl (pgs_cons (pg_sub (pv 2) (pe_ix ix_tup (pv 1) pe_int (fun _ _ => rfl)) set_list) (pgs_cons (pg_sub (pv 2) (pe_ix ix_tup (pv 1) pe_int (fun _ _ => rfl)) set_list) pgs_nil)))))) pss_nil)))))
      (pss_one (ps_ret (pv 2)))), ?_⟩
    obtain ⟨n1, n2, n3, n4, n5, n6, n7, n8, n9, _⟩ := w_ne
    refine ⟨_, rfl, L, _, rfl, .inl (SqL.of eL), fun M nM => ?_⟩
    have sM := same_upd (o := .lst (dg.map V.int)) nM
    have eL1 := sM _ _ eL
    have fin : ∀ {i : Int}, 0 ≤ i → i < pl → atI (dg.map V.int) i = some (.int (fnd dg i)) := fun i0 i1 => fnd_at i0 (by omega)
    have put : ∀ {o : HO} {H1 : Hp}, Same H H1 → Same H (upd H1 M o) := fun s b o hb => by
      rw [upd_ne (ne_of_none hb nM)]
      exact s b o hb
    cases m with
    | @gain i j c i0 i1 j0 j1 =>
      rw [degD_gain] at q
      obtain ⟨a, xs, rfl, e, ha⟩ := hd.tupE
      obtain rfl := dqInts (ns := [i, j, c]) ha
      have e1 := sM _ _ e
      refine ⟨_, rfl, a, _, 0, .str (Str.ofString "gain"), rfl, rfl, SqT.of e1, atI_nat (j := 0) rfl, rfl, _, rfl, ite2 (fun _ => ?_) (fun c => absurd (decide_eq_true rfl) c)⟩
      refine ⟨_, rfl, _, rfl, a, _, 1, .int i, rfl, rfl, SqT.of e1, atI_nat (j := 1) rfl, L, _, i, .int (fnd dg i), rfl, rfl, SqL.of eL1, fin i0 i1, .inl ⟨_, rfl, ?_⟩⟩
      refine ⟨_, rfl, _, rfl, a, _, 2, .int j, rfl, rfl, SqT.of e1, atI_nat (j := 2) rfl, L, _, j, .int (fnd dg j), rfl, rfl, SqL.of eL1, fin j0 j1, .inl ⟨_, rfl, _, _, rfl, ?_⟩⟩
      refine ⟨_, rfl, _, rfl, a, _, 1, .int i, rfl, rfl, SqT.of e1, atI_nat (j := 1) rfl, M, _, i, i.toNat, rfl, rfl, upd_same, ixN_at i0 (by rw [List.length_map]; omega), ?_⟩
      refine ⟨_, rfl, q M _ nM (put sM) ?_⟩
      rw [upd_same, ← map_set]
      rfl
    | @add i j k c i0 i1 j0 j1 k0 k1 =>
      rw [degD_add] at q
      obtain ⟨a, xs, rfl, e, ha⟩ := hd.tupE
      obtain rfl := dqInts (ns := [i, j, k, c]) ha
      have e1 := sM _ _ e
      refine ⟨_, rfl, a, _, 0, .str (Str.ofString "add"), rfl, rfl, SqT.of e1, atI_nat (j := 0) rfl, rfl, _, rfl, ite2 (fun c => absurd (V.str.inj (of_decide_eq_true c)) n1) (fun _ => ?_)⟩
      refine ⟨_, rfl, a, _, 0, .str (Str.ofString "add"), rfl, rfl, SqT.of e1, atI_nat (j := 0) rfl, rfl, _, rfl, ite2 (fun _ => ?_) (fun c => absurd (decide_eq_true rfl) c)⟩
      refine ⟨_, rfl, _, rfl, a, _, 1, .int i, rfl, rfl, SqT.of e1, atI_nat (j := 1) rfl, L, _, i, .int (fnd dg i), rfl, rfl, SqL.of eL1, fin i0 i1, .inl ⟨_, rfl, ?_⟩⟩
      refine ⟨_, rfl, _, rfl, a, _, 2, .int j, rfl, rfl, SqT.of e1, atI_nat (j := 2) rfl, L, _, j, .int (fnd dg j), rfl, rfl, SqL.of eL1, fin j0 j1, ?_⟩
      refine ⟨_, rfl, _, rfl, a, _, 3, .int k, rfl, rfl, SqT.of e1, atI_nat (j := 3) rfl, L, _, k, .int (fnd dg k), rfl, rfl, SqL.of eL1, fin k0 k1, _, _, rfl, rfl, .inl ⟨_, rfl, _, _, rfl, ?_⟩⟩
      refine ⟨_, rfl, _, rfl, a, _, 1, .int i, rfl, rfl, SqT.of e1, atI_nat (j := 1) rfl, M, _, i, i.toNat, rfl, rfl, upd_same, ixN_at i0 (by rw [List.length_map]; omega), ?_⟩
      refine ⟨_, rfl, q M _ nM (put sM) ?_⟩
      rw [upd_same, ← map_set]
      rfl
    | @swap i j i0 i1 j0 j1 =>
      rw [degD_swap] at q
      obtain ⟨a, xs, rfl, e, ha⟩ := hd.tupE
      obtain rfl := dqInts (ns := [i, j]) ha
      have e1 := sM _ _ e
      refine ⟨_, rfl, a, _, 0, .str (Str.ofString "swap"), rfl, rfl, SqT.of e1, atI_nat (j := 0) rfl, rfl, _, rfl, ite2 (fun c => absurd (V.str.inj (of_decide_eq_true c)) n2) (fun _ => ?_)⟩
      refine ⟨_, rfl, a, _, 0, .str (Str.ofString "swap"), rfl, rfl, SqT.of e1, atI_nat (j := 0) rfl, rfl, _, rfl, ite2 (fun c => absurd (V.str.inj (of_decide_eq_true c)) n3) (fun _ => ?_)⟩
      refine ⟨_, rfl, a, _, 0, .str (Str.ofString "swap"), rfl, rfl, SqT.of e1, atI_nat (j := 0) rfl, rfl, _, rfl, ite2 (fun _ => ?_) (fun c => absurd (decide_eq_true rfl) c)⟩
      refine ⟨_, rfl, _, rfl, a, _, 1, .int i, rfl, rfl, SqT.of e1, atI_nat (j := 1) rfl, L, _, i, .int (fnd dg i), rfl, rfl, SqL.of eL1, fin i0 i1, ?_⟩
      refine ⟨_, rfl, _, rfl, a, _, 2, .int j, rfl, rfl, SqT.of e1, atI_nat (j := 2) rfl, L, _, j, .int (fnd dg j), rfl, rfl, SqL.of eL1, fin j0 j1, _, _, rfl, ?_⟩
      refine ⟨_, rfl, _, rfl, sz1 rfl, fun t nt => ?_⟩
      have st := same_upd (o := .tup [.int (fnd dg j), .int (fnd dg i)]) nt
      have et := st _ _ e1
      have tM := st _ _ (upd_same (H := H) (a := M) (o := .lst (dg.map V.int)))
      have aM : a ≠ M := ne_of_none e nM
      refine ⟨t, _, rfl, SqT.of upd_same, rfl, .int (fnd dg j), [.int (fnd dg i)], rfl, ?_⟩
      refine ⟨_, rfl, _, rfl, a, _, 1, .int i, rfl, rfl, SqT.of et, atI_nat (j := 1) rfl, M, _, i, i.toNat, rfl, rfl, tM, ixN_at i0 (by rw [List.length_map]; omega), ?_⟩
      refine ⟨.int (fnd dg i), [], rfl, _, rfl, _, rfl, a, _, 2, .int j, rfl, rfl, SqT.of ((upd_ne aM).trans et), atI_nat (j := 2) rfl, M, _, j, j.toNat, rfl, rfl, upd_same, ixN_at j0 (by rw [List.length_set, List.length_map]; omega), rfl, ?_⟩
      refine ⟨_, rfl, q M _ nM (put (put (sM.trans st))) ?_⟩
      rw [upd_same, map_set, map_set]
    | @turn i i0 i1 =>
      have q2 : ∀ M H', H M = none → Same H H' → H' M = some (.lst (dg.map V.int)) → Q (.ref M) H' := q
      obtain ⟨a, xs, rfl, e, ha⟩ := hd.tupE
      obtain rfl := dqInts (ns := [i]) ha
      have e1 := sM _ _ e
      refine ⟨_, rfl, a, _, 0, .str (Str.ofString "turn"), rfl, rfl, SqT.of e1, atI_nat (j := 0) rfl, rfl, _, rfl, ite2 (fun c => absurd (V.str.inj (of_decide_eq_true c)) n4) (fun _ => ?_)⟩
      refine ⟨_, rfl, a, _, 0, .str (Str.ofString "turn"), rfl, rfl, SqT.of e1, atI_nat (j := 0) rfl, rfl, _, rfl, ite2 (fun c => absurd (V.str.inj (of_decide_eq_true c)) n5) (fun _ => ?_)⟩
      refine ⟨_, rfl, a, _, 0, .str (Str.ofString "turn"), rfl, rfl, SqT.of e1, atI_nat (j := 0) rfl, rfl, _, rfl, ite2 (fun c => absurd (V.str.inj (of_decide_eq_true c)) n6) (fun _ => ?_)⟩
      exact ⟨_, rfl, q2 M _ nM sM upd_same⟩
    | @more i c i0 i1 =>
      rw [degD_more] at q
      obtain ⟨a, xs, rfl, e, ha⟩ := hd.tupE
      obtain rfl := dqInts (ns := [i, c]) ha
      have e1 := sM _ _ e
      refine ⟨_, rfl, a, _, 0, .str (Str.ofString "more"), rfl, rfl, SqT.of e1, atI_nat (j := 0) rfl, rfl, _, rfl, ite2 (fun c => absurd (V.str.inj (of_decide_eq_true c)) n7) (fun _ => ?_)⟩
      refine ⟨_, rfl, a, _, 0, .str (Str.ofString "more"), rfl, rfl, SqT.of e1, atI_nat (j := 0) rfl, rfl, _, rfl, ite2 (fun c => absurd (V.str.inj (of_decide_eq_true c)) n8) (fun _ => ?_)⟩
      refine ⟨_, rfl, a, _, 0, .str (Str.ofString "more"), rfl, rfl, SqT.of e1, atI_nat (j := 0) rfl, rfl, _, rfl, ite2 (fun c => absurd (V.str.inj (of_decide_eq_true c)) n9) (fun _ => ?_)⟩
      exact ⟨_, rfl, q M _ nM sM upd_same⟩
set_option maxHeartbeats 4000000 in
theorem ok_lTE {f : Addr} {fd : FuncData} {fW fM fD : Addr} {fdW fdM fdD : FuncData} (F : Nm K mg "_law_tape_error" sLTE ["_law_value"] f fd) (FW : Nm K mg "_law_whole" sWhole ["_law_value", "_law_least", "_law_most"] fW fdW) (FM : Nm K mg "_law_is_move" sLM ["_law_places", "_law_value"] fM fdM)
    (FD : Nm K mg "_law_degrees" sDegs ["_law_degrees_here", "_law_move_here"] fD fdD) (T : Bn mg) : FnOk P w K mg base CX0 3 f fd ["_law_value"] spTErr := by
  have GW : FnOk P w K mg base CX0 1 fW fdW ["_law_value", "_law_least", "_law_most"] spWith := ok_whole FW.F T
  have GM : FnOk P w K mg base CX0 2 fM fdM ["_law_places", "_law_value"] spLM := ok_lM FM FW T
  have GD : FnOk P w K mg base CX0 1 fD fdD ["_law_degrees_here", "_law_move_here"] spDegs := ok_degs FD T
  refine F.F.ok scLTE (fun vs H Q E h => ?_) (fun cdv A outer s H vs Q E hr h => ?_)
  · obtain ⟨D, B, v, d, rfl, _⟩ := h
    rfl
  · obtain ⟨D, B, v, d, rfl, hd, q⟩ := h
    have hu := hr.units
    have hr1 : Room 1 _ := hr.mono (by decide)
    refine ⟨_, pss_cons (ps_if (PW.pt (pw_or (pt_not (pt_val (pe_callB call_isi (by rfl) T.isi PyProof.Rows.boot_isinstance (pa_cons (pv 0) (pa_cons (pe_bltn (by rfl) T.tup boot_tuple' (v := .ty "tuple") rfl) pa_nil)))))
        (pw_or1 (pt_cmpR op_ne (pe_callB call_len_seq (by rfl) T.len PySem.boot_len (pa_cons (pv 0) pa_nil)) pe_int (nomark _))))) (pss_one (ps_ret (pe_tup (pa_cons pe_non (pa_cons pe_str pa_nil))))) pss_nil)
      (pss_cons (ps_if (pt_not (pt_val (pe_call GW hr1 (by rfl) FW.g FW.F.kp FW.b .nil pass0 (pa_cons (pe_ix ix_tup (pv 0) pe_int (fun _ _ => rfl)) (pa_cons pe_int (pa_cons pe_int pa_nil)))))) (pss_one (ps_ret (pe_tup (pa_cons pe_non (pa_cons pe_str pa_nil))))) pss_nil)
      (pss_cons (ps_if (PW.pt (pw_or (pt_not (pt_val (pe_callB call_isi (by rfl) T.isi PyProof.Rows.boot_isinstance (pa_cons (pe_ix ix_tup (pv 0) pe_int (fun _ _ => rfl)) (pa_cons (pe_bltn (by rfl) T.tup boot_tuple' (v := .ty "tuple") rfl) pa_nil)))))
        (pw_or1 (pt_cmpR op_gt (pe_callB call_len_seq (by rfl) T.len PySem.boot_len (pa_cons (pe_ix ix_tup (pv 0) pe_int (fun _ _ => rfl)) pa_nil)) pe_int (nomark _))))) (pss_one (ps_ret (pe_tup (pa_cons pe_non (pa_cons pe_str pa_nil))))) pss_nil)
      (pss_cons (ps_set (i := 1) scLTE.nd rfl (.inl rfl) (pe_op op_rep (pe_lst (pa_cons pe_int pa_nil)) (pe_ix ix_tup (pv 0) pe_int (fun _ _ => rfl))))
      (pss_cons (ps_for PassesOwn.never rfl (pi_enumT (by rfl) T.enu (pa_cons (pe_ix ix_tup (pv 0) pe_int (fun _ _ => rfl)) pa_nil)) (pg_tup rfl (pgs_cons (pg_name (i := 2) scLTE.nd rfl (.inl rfl)) (pgs_cons (pg_name (i := 3) scLTE.nd rfl (.inl rfl)) pgs_nil)))
        (pss_cons (ps_if (pt_not (pt_val (pe_call GM (hr.mono (by decide)) (by rfl) FM.g FM.F.kp FM.b .nil pass0 (pa_cons (pe_ix ix_tup (pv 0) pe_int (fun _ _ => rfl)) (pa_cons (pv 3) pa_nil))))) (pss_one (ps_ret (pe_tup (pa_cons (pv 2) (pa_cons pe_str pa_nil))))) pss_nil)
        (pss_cons (ps_set (i := 1) scLTE.nd rfl (.inl rfl) (pe_call GD hr1 (by rfl) FD.g FD.F.kp FD.b .nil pass0 (pa_cons (pv 1) (pa_cons (pv 3) pa_nil))))
        (pss_one (ps_if (pt_cmpR op_gt (pe_callB (cr_max rfl) (by rfl) T.max boot_max' (pa_cons (pv 1) pa_nil)) pe_int (nomark _)) (pss_one (ps_ret (pe_tup (pa_cons (pv 2) (pa_cons pe_str pa_nil))))) pss_nil)))))
      (pss_one (ps_ret pe_non)))))), ?_⟩
    refine ⟨v, rfl, v, .ty "tuple", _, _, _, rfl, .ty "tuple", hd.ty, kTup d, _, rfl, ?_⟩
    cases hb : isTu d with
    | false =>
      rw [tapeErr_tu hb] at q
      exact iteT (iteT ⟨sz1 rfl, fun p np => q _ _ (same_upd np) (dq_wr upd_same)⟩)
    | true =>
      obtain ⟨a, xs, ds, rfl, rfl, e, ha⟩ := isTu_of hd hb
      refine iteF ⟨_, rfl, a, xs, rfl, .inr (SqT.of e), rfl, _, rfl, ?_⟩
      by_cases hl : ds.length = 2
      · rw [dec_int2, decide_eq_true (by rw [ha.len, hl]; rfl)]
        refine iteF ?_
        obtain ⟨da, db, rfl⟩ := two_of hl
        obtain ⟨x1, x2, rfl, h1, h2⟩ := dq_two ha
        refine ⟨_, rfl, a, _, 0, x1, rfl, rfl, SqT.of e, atI_nat (j := 0) rfl, D, B, x1, da, 1, 80, rfl, h1, _, rfl, ?_⟩
        cases hw : within 1 80 da with
        | false =>
          rw [tapeErr_pl hw] at q
          exact iteT ⟨sz1 rfl, fun p np => q _ _ (same_upd np) (dq_wr upd_same)⟩
        | true =>
          obtain ⟨pl, rfl, i0, i1⟩ := within_is hw
          cases h1.intE
          rw [tapeErr_go hw] at q
          refine iteF ⟨_, rfl, a, _, 1, x2, rfl, rfl, SqT.of e, atI_nat (j := 1) rfl, x2, .ty "tuple", _, _, _, rfl, .ty "tuple", h2.ty, kTup db, _, rfl, ?_⟩
          cases hb3 : isTu db with
          | false =>
            rw [mvsErr_tu hb3] at q
            exact iteT (iteT ⟨sz1 rfl, fun p np => q _ _ (same_upd np) (dq_wr upd_same)⟩)
          | true =>
            obtain ⟨a2, ys, dys, rfl, rfl, e2, ha2⟩ := isTu_of h2 hb3
            have hly := ha2.len
            refine iteF ⟨_, rfl, a, _, 1, .ref a2, rfl, rfl, SqT.of e, atI_nat (j := 1) rfl, a2, ys, rfl, .inr (SqT.of e2), _, _, rfl, rfl, _, rfl, ite2 (fun c => ?_) (fun c => ?_)⟩
            · have c2 := of_decide_eq_true c
              rw [mvsErr_len (by rw [← hly]; omega)] at q
              exact ⟨sz1 rfl, fun p np => q _ _ (same_upd np) (dq_wr upd_same)⟩
            · have c2 : ((ys.length : Nat) : Int) ≤ 600 := Int.not_lt.mp fun z => c (decide_eq_true z)
              rw [mvsErr_go (by rw [← hly]; exact c2)] at q
              refine ⟨sz1 rfl, fun l nl => ?_⟩
              have sl := same_upd (o := .lst [.int 1]) nl
              refine ⟨_, rfl, a, _, 0, .int pl, rfl, rfl, SqT.of (sl _ _ e), atI_nat (j := 0) rfl, l, pl, [.int 1], rfl, rfl, upd_same, by omega, by omega, Nat.le_of_lt (small1000 (by show 1 * pl.toNat ≤ 1000; omega)), fun L nL => ?_⟩
              have sL := same_upd (o := .lst (List.replicate pl.toNat [V.int 1]).flatten) nL
              have s0 := sl.trans sL
              have eL0 : (upd (upd H l (.lst [.int 1])) L (.lst (List.replicate pl.toNat [V.int 1]).flatten)) L = some (.lst ((ones pl).map V.int)) := by
                rw [upd_same, ones_v]
                rfl
              refine ⟨_, rfl, a, _, 1, .ref a2, rfl, rfl, SqT.of (s0 _ _ e), atI_nat (j := 1) rfl, a2, ys, rfl, SqT.of (s0 _ _ e2), for_enumT (K := K) (a := a2) (xs := ys) (fun i σ H3 => ∃ (dg : List Int) (L : Addr) (y2 y3 : Option V), σ = [some (.ref a), some (.ref L), y2, y3] ∧ (dg.length : Int) = pl ∧ (∀ n ∈ dg, n ≤ 64) ∧ mvGo pl dys 0 (ones pl) = mvGo pl (dys.drop i) i dg ∧ H3 L = some (.lst (dg.map V.int)) ∧ Same H H3)
                ⟨ones pl, L, none, none, rfl, ones_len (by omega), ones_64, rfl, eL0, s0⟩ (fun i σ H3 _ ⟨_, _, _, _, _, _, _, _, _, s⟩ => SqT.of (s _ _ e2)) ?_ ?_⟩
              · rintro i y Tt σ H3 hy ⟨dg, L, y2, y3, rfl, hdl, h64, heq, eL, s3⟩ hT
                have hi : i < ys.length := (List.getElem?_eq_some_iff.mp hy).1
                have sT := same_upd (o := .tup [.int ((i : Nat) : Int), y]) hT
                have s3T := s3.trans sT
                obtain ⟨dx, hdx, hxx⟩ := ha2.at_ i _ hy
                have hx3 := hxx.same s3T
                rw [mvGo_at hdx] at heq
                refine ⟨Tt, _, rfl, SqT.of upd_same, rfl, .int ((i : Nat) : Int), [y], rfl, y, [], rfl, rfl, ?_⟩
                refine ⟨_, rfl, a, _, 0, .int pl, rfl, rfl, SqT.of (s3T _ _ e), atI_nat (j := 0) rfl, _, rfl, D, B, y, dx, pl, rfl, hx3, fun H4 s4 => ⟨_, rfl, ?_⟩⟩
                have s34 := s3T.trans s4
                cases kM : isMv pl dx with
                | false =>
                  rw [heq, if_neg (by rw [kM]; exact Bool.false_ne_true)] at q
                  exact iteT ⟨_, rfl, sz1 rfl, fun p np => q _ _ (s34.trans (same_upd np)) (dq_nr upd_same)⟩
                | true =>
                  rw [if_pos kM] at heq
                  have m := mv_of kM
                  have eL4 := s4 _ _ (sT _ _ eL)
                  refine iteF ⟨_, rfl, _, rfl, D, B, L, y, dx, pl, dg, rfl, hx3.same s4, m, eL4, hdl, fun M H5 nM s5 e5 => ?_⟩
                  have s45 := s34.trans s5
                  have hne : 0 < (degD dg dx).length := by
                    rw [degD_len m]
                    omega
                  refine ⟨_, rfl, M, degD dg dx, rfl, SqL.of e5, hne, fun mm hmm hmax => ⟨_, _, rfl, rfl, _, rfl, ite2 (fun c => ?_) (fun c => ?_)⟩⟩
                  · have c3 := of_decide_eq_true c
                    have c4 : ¬ fnd (degD dg dx) (plc dx) ≤ 64 := fun z => by
                      have := deg_small m hdl h64 z mm hmm
                      omega
                    rw [heq, if_neg c4] at q
                    exact ⟨_, rfl, sz1 rfl, fun p np => q _ _ (s45.trans (same_upd np)) (dq_nr upd_same)⟩
                  · have c3 : mm ≤ 64 := Int.not_lt.mp fun z => c (decide_eq_true z)
                    have c4 : fnd (degD dg dx) (plc dx) ≤ 64 := Int.le_trans (hmax _ (deg_big m hdl)) c3
                    rw [if_pos c4] at heq
                    exact ⟨degD dg dx, M, _, _, rfl, by rw [degD_len m]; exact hdl, fun n hn => Int.le_trans (hmax n hn) c3, heq, e5, s45⟩
              · rintro σ H3 ⟨dg, L, y2, y3, rfl, hdl, _, heq, eL, s3⟩
                rw [List.drop_eq_nil_of_le (by omega)] at heq
                rw [heq] at q
                exact q _ _ s3 .non
      · rw [dec_int2, decide_eq_false (by rw [ha.len]; omega), tapeErr_len hl] at *
        exact iteT ⟨sz1 rfl, fun p np => q _ _ (same_upd np) (dq_wr upd_same)⟩
end
end Jg
namespace Jg
open PySem PySem.Spec PyProof.Rows L2
/-! ### moves drawn -/
theorem take_drop_perm {ns : List Int} {k : Nat} {y : Int} (h : ns[k]? = some y) : (y :: ns.eraseIdx k).Perm ns := by
  obtain ⟨hk, e⟩ := List.getElem?_eq_some_iff.mp h
  have e1 : ns = ns.take k ++ y :: ns.drop (k + 1) := by
    rw [← e, ← List.drop_eq_getElem_cons hk, List.take_append_drop]
  rw [List.eraseIdx_eq_take_drop_succ]
  have p := (List.perm_middle (a := y) (l₁ := ns.take k) (l₂ := ns.drop (k + 1))).symm
  rw [← e1] at p
  exact p
theorem map_erase {ns : List Int} {k : Nat} : (ns.map V.int).eraseIdx k = (ns.eraseIdx k).map V.int := by
  rw [List.eraseIdx_eq_take_drop_succ, List.eraseIdx_eq_take_drop_succ, List.map_append, List.map_take, List.map_drop]
abbrev sMix : Stmt := topS 17
abbrev nMix : List Str := ["_law_deck_here", "_law_items", "_law_rest", "_law_found", "_law_turn"]
theorem scMix : FnScope nMix ["_law_deck_here", "_law_items"] (defScope sMix) := ⟨rfl, rfl, rfl, by decide +kernel, rfl, by decide +kernel, by decide +kernel⟩
abbrev sFac : Stmt := topS 23
theorem scFac : FnScope ["_law_deck_here"] ["_law_deck_here"] (defScope sFac) := ⟨rfl, rfl, rfl, by decide +kernel, rfl, by decide +kernel, by decide +kernel⟩
abbrev sMove : Stmt := topS 24
abbrev nMove : List Str := ["_law_deck_here", "_law_places", "_law_words", "_law_word", "_law_order"]
theorem scMove : FnScope nMove ["_law_deck_here", "_law_places", "_law_words"] (defScope sMove) := ⟨rfl, rfl, rfl, by decide +kernel, rfl, by decide +kernel, by decide +kernel⟩
theorem boot_min' : bootBuiltins "min" = some (.builtin "min") := by decide +kernel
theorem seqIx {n k : Nat} (h : k < n) : seqIndex? (k : Int) n = some k := by
  have e := ixN_at (n := n) (i := (k : Int)) (by omega) (by omega)
  have e2 := (ixN_seq e).1
  rw [Int.toNat_natCast] at e2
  exact e2
section
variable {P : Program} {w : World} {K : PySem.W.Frag} {mg : Str → Option Value} {base : Heap}
def spMix : Sp := fun vs H Q _ => ∃ (D B C : Addr) (cells : List Int) (L : Addr) (ns : List Int), vs = [.ref D, .ref L] ∧ DeckAt D B C cells H ∧ H L = some (.lst (ns.map V.int)) ∧ L ≠ D ∧ L ≠ B ∧ ns.length ≤ 100 ∧
  ∀ (M : Addr) (ms : List Int) (H' : Hp), ms.Perm ns → H' M = some (.lst (ms.map V.int)) → H M = none → DeckAt D B C cells H' → Fr D B H H' → Q (.ref M) H'
set_option maxHeartbeats 2000000 in
theorem ok_mix {f fD : Addr} {fd fdD : FuncData} (F : Nm K mg "_law_mixed" sMix ["_law_deck_here", "_law_items"] f fd) (FD : Dr K mg fD fdD) (T : Bn mg) : FnOk P w K mg base CX0 2 f fd ["_law_deck_here", "_law_items"] spMix := by
  have GD : FnOk P w K mg base CX0 1 fD fdD ["_law_deck_here", "_law_many"] spDraw := ok_draw FD.F T.int T.len
  refine F.F.ok scMix (fun vs H Q E h => ?_) (fun cdv A outer s H vs Q E hr h => ?_)
  · obtain ⟨D, B, C, cells, L, ns, rfl, _⟩ := h
    rfl
  · obtain ⟨D, B, C, cells, L, ns, rfl, dk, eL, LD, LB, hn, q⟩ := h
    refine ⟨_, pss_cons (ps_par (i := 2) (j := 3) rfl scMix.nd rfl rfl (by decide) rfl rfl (pa_cons (pe_callTy call_list_of (by rfl) T.lst boot_list' (pa_cons (pv 1) pa_nil)) (pa_cons (pe_lst pa_nil) pa_nil)) rfl)
      (pss_cons (ps_for PassesOwn.never rfl (pi_range1 rfl T.rng (pa_cons (pe_callB call_len_seq (by rfl) T.len PySem.boot_len (pa_cons (pv 1) pa_nil)) pa_nil)) (pg_name (i := 4) scMix.nd rfl (.inl rfl))
        (pss_one (ps_expr (pe_bm PySem.F.plainAttrs_list PySem.F.slot_list_append PySem.F.type_list_append mt_append (pv 3) (pa_cons (pe_bm PySem.F.plainAttrs_list PySem.F.slot_list_pop PySem.F.type_list_pop mt_popAt (pv 2)
          (pa_cons (pe_call GD hr (by rfl) FD.g FD.F.kp FD.b .nil pass0 (pa_cons (pv 0) (pa_cons (pe_callB call_len_seq (by rfl) T.len PySem.boot_len (pa_cons (pv 2) pa_nil)) pa_nil))) pa_nil)) pa_nil)))))
      (pss_one (ps_ret (pv 3)))), ?_⟩
    refine ⟨_, rfl, L, _, rfl, .inl (SqL.of eL), fun R nR => ⟨Nat.zero_le _, fun M nM => ⟨_, _, rfl, ?_⟩⟩⟩
    have sR := same_upd (o := .lst (ns.map V.int)) nR
    have sM := same_upd (o := .lst []) nM
    have sRM := sR.trans sM
    have MR : M ≠ R := fun z => by
      rw [z, upd_same] at nM
      cases nM
    have HM : H M = none := (upd_ne MR).symm.trans nM
    have RD := dk.neD nR
    have RB := dk.neB nR
    have RC := ne_of_none dk.cel nR
    have MD := dk.neD HM
    have MB := dk.neB HM
    have MC := ne_of_none dk.cel HM
    refine ⟨_, rfl, L, _, rfl, .inl (SqL.of (sRM _ _ eL)), (ns.map V.int).length, rfl, by omega, by rw [List.length_map]; omega, for_range (n := (ns.map V.int).length) (fun i σ H3 => ∃ (ms rs : List Int) (y4 : Option V), σ = [some (.ref D), some (.ref L), some (.ref R), some (.ref M), y4] ∧ H3 R = some (.lst (rs.map V.int)) ∧ H3 M = some (.lst (ms.map V.int)) ∧ ms.length = i ∧ (ms ++ rs).Perm ns ∧ DeckAt D B C cells H3 ∧ Fr D B H H3)
      ⟨[], ns, none, rfl, sM _ _ upd_same, upd_same, rfl, .refl _, (dk.same sR).same sM, Fr.of_same sRM⟩ ?_ ?_⟩
    · rintro i σ H3 hi ⟨ms, rs, y4, rfl, eR, eM, hl, hp, dk3, f3⟩
      have hlen := hp.length_eq
      rw [List.length_append] at hlen
      rw [List.length_map] at hi
      refine ⟨_, rfl, .inl ⟨rfl, _, SqL.of eM⟩, _, rfl, .inl ⟨rfl, _, SqL.of eR⟩, _, rfl, _, rfl, R, _, rfl, .inl (SqL.of eR), D, B, C, cells, _, rfl, dk3, by rw [List.length_map]; omega, by rw [List.length_map]; omega, fun j H4 j0 j1 dk4 f4 => ?_⟩
      rw [List.length_map] at j1
      obtain ⟨k, rfl⟩ : ∃ k : Nat, j = (k : Int) := ⟨j.toNat, by omega⟩
      have hk : k < rs.length := by omega
      have eR4 := f4 _ _ RD RB eR
      have eM4 := f4 _ _ MD MB eM
      have hy : rs[k]? = some rs[k] := List.getElem?_eq_getElem hk
      refine ⟨R, _, (k : Int), k, .int rs[k], rfl, rfl, eR4, by omega, by omega, seqIx (by rw [List.length_map]; exact hk), by rw [List.getElem?_map, hy]; rfl, ?_⟩
      rw [map_erase]
      have eM5 : (upd H4 R (.lst ((rs.eraseIdx k).map V.int))) M = some (.lst (ms.map V.int)) := (upd_ne MR).trans eM4
      have fR : ∀ b o, b ≠ R → H4 b = some o → (upd H4 R (.lst ((rs.eraseIdx k).map V.int))) b = some o := fun b o hb h => by
        rw [upd_ne hb]
        exact h
      have fM : ∀ {o' : HO} b o, b ≠ M → (upd H4 R (.lst ((rs.eraseIdx k).map V.int))) b = some o → (upd (upd H4 R (.lst ((rs.eraseIdx k).map V.int))) M o') b = some o := fun b o hb h => by
        rw [upd_ne hb]
        exact h
      refine ⟨M, _, _, rfl, rfl, eM5, by rw [List.length_map]; exact small1000 (by omega), ms ++ [rs[k]], rs.eraseIdx k, _, rfl, ?_, ?_, by rw [List.length_append, hl]; rfl, ?_, (dk4.but fR RD.symm RB.symm RC).but fM MD.symm MB.symm MC, fun b o h1 h2 h3 => ?_⟩
      · rw [upd_ne MR.symm, upd_same]
      · rw [upd_same, List.map_append]
        rfl
      · rw [List.append_assoc]
        exact ((take_drop_perm hy).append_left ms).trans hp
      · exact fM _ _ (ne_of_none h3 HM) (fR _ _ (ne_of_none h3 nR) (f4 _ _ h1 h2 (f3 _ _ h1 h2 h3)))
    · rintro σ H3 ⟨ms, rs, y4, rfl, eR, eM, hl, hp, dk3, f3⟩
      have hlen := hp.length_eq
      rw [List.length_append, hl, List.length_map] at hlen
      have r0 : rs = [] := List.length_eq_zero_iff.mp (by omega)
      rw [r0, List.append_nil] at hp
      exact ⟨_, rfl, q M ms H3 hp eM HM dk3 f3⟩
def spFac : Sp := fun vs H Q _ => ∃ (D B C : Addr) (cells : List Int), vs = [.ref D] ∧ DeckAt D B C cells H ∧ ∀ (i : Int) (H' : Hp), i.natAbs ≤ 10 ^ 20 → DeckAt D B C cells H' → Fr D B H H' → Q (.int i) H'
theorem ok_fac {f fO fD fF fN : Addr} {fd fdO fdD fdF fdN : FuncData} (F : Nm K mg "_law_factor" sFac ["_law_deck_here"] f fd) (FN : Nu K mg fN fdN) (FF : Fa K mg fF fdF) (FO : On K mg fO fdO) (FD : Dr K mg fD fdD) (T : Bn mg) : FnOk P w K mg base CX0 4 f fd ["_law_deck_here"] spFac := by
  have GD : FnOk P w K mg base CX0 1 fD fdD ["_law_deck_here", "_law_many"] spDraw := ok_draw FD.F T.int T.len
  have GO : FnOk P w K mg base CX0 2 fO fdO ["_law_deck_here", "_law_items"] spOne := ok_one FO.F FD.F FD.b FD.g T.int T.len
  have GN : FnOk P w K mg base CX0 3 fN fdN ["_law_deck_here"] spNum := ok_num FN FF FO FD T
  refine F.F.ok scFac (fun vs H Q E h => ?_) (fun cdv A outer s H vs Q E hr h => ?_)
  · obtain ⟨D, B, C, cells, rfl, _⟩ := h
    rfl
  · obtain ⟨D, B, C, cells, rfl, dk, q⟩ := h
    have eM : (M20 : Int) = 100000000000000000000 := by decide
    have e2 : (10 : Nat) ^ 20 = 100000000000000000000 := by decide
    refine ⟨_, pss_one (ps_ret (pe_call GO (hr.mono (by decide)) (by rfl) FO.g FO.F.kp FO.b .nil pass0 (pa_cons (pv 0) (pa_cons (pe_lst (pa_cons pe_int (pa_cons (pe_un un_neg pe_int) (pa_cons pe_int (pa_cons (pe_un un_neg pe_int) (pa_cons pe_int (pa_cons (pe_un un_neg pe_int) (pa_cons pe_int (pa_cons pe_int
      (pa_cons (pe_op op_sub (pe_call GD (hr.mono (by decide)) (by rfl) FD.g FD.F.kp FD.b .nil pass0 (pa_cons (pv 0) (pa_cons pe_int pa_nil))) pe_int) (pa_cons (pe_call GN hr (by rfl) FN.g FN.F.kp FN.b .nil pass0 (pa_cons (pv 0) pa_nil)) pa_nil))))))))))) pa_nil)))), ?_⟩
    refine ⟨_, rfl, _, rfl, _, rfl, _, rfl, _, rfl, D, B, C, cells, 41, rfl, dk, by decide, by decide, fun j H1 j0 j1 dk1 f1 => ⟨_, _, rfl, rfl, _, rfl, D, B, C, cells, rfl, dk1, fun k H2 k0 k1 dk2 f2 => ⟨sz1 rfl, fun L nL => ?_⟩⟩⟩
    rw [eM] at k0 k1
    have s3 := same_upd (o := .lst [.int 1, .int (-1), .int 1, .int (-1), .int 2, .int (-3), .int 0, .int 7, .int (j - 20), .int k]) nL
    refine ⟨D, B, C, cells, L, _, rfl, dk2.same s3, upd_same, dk2.neD nL, dk2.neB nL, by show 0 < 10; decide, by show 10 < 1073741824; decide, fun i v H4 hv dk4 f4 => ?_⟩
    obtain ⟨m, rfl, hm⟩ : ∃ m : Int, v = .int m ∧ m.natAbs ≤ 10 ^ 20 := by
      rw [e2]
      match i, hv with
      | 0, hv => exact ⟨1, (Option.some.inj hv).symm, by decide⟩
      | 1, hv => exact ⟨-1, (Option.some.inj hv).symm, by decide⟩
      | 2, hv => exact ⟨1, (Option.some.inj hv).symm, by decide⟩
      | 3, hv => exact ⟨-1, (Option.some.inj hv).symm, by decide⟩
      | 4, hv => exact ⟨2, (Option.some.inj hv).symm, by decide⟩
      | 5, hv => exact ⟨-3, (Option.some.inj hv).symm, by decide⟩
      | 6, hv => exact ⟨0, (Option.some.inj hv).symm, by decide⟩
      | 7, hv => exact ⟨7, (Option.some.inj hv).symm, by decide⟩
      | 8, hv => exact ⟨j - 20, (Option.some.inj hv).symm, by omega⟩
      | 9, hv => exact ⟨k, (Option.some.inj hv).symm, by omega⟩
      | i + 10, hv => cases hv
    exact q m H4 hm dk4 (f1.trans (f2.trans ((Fr.of_same s3).trans f4)))
end
end Jg
namespace Jg
open PySem PySem.Spec PyProof.Rows L2
/-! ### the law's moves -/
def isW5 (x : Str) : Prop := x = Str.ofString "gain" ∨ x = Str.ofString "add" ∨ x = Str.ofString "swap" ∨ x = Str.ofString "turn" ∨ x = Str.ofString "more"
theorem leaf_w {x : Str} (h : isW5 x) : Leaf (.str x) := by
  have k : (reprText x).length ≤ 40 ∧ PyData.strOk x = true := by
    rcases h with rfl | rfl | rfl | rfl | rfl <;> decide +kernel
  exact .inr ⟨x, rfl, k.1, k.2⟩
theorem a_nil {P : PyData → Prop} : ∀ d ∈ ([] : List PyData), P d := fun _ h => nomatch h
theorem a_cons {P : PyData → Prop} {d : PyData} {ds : List PyData} (h1 : P d) (h2 : ∀ x ∈ ds, P x) : ∀ x ∈ d :: ds, P x := fun x hx => by
  rcases List.mem_cons.mp hx with rfl | hx
  · exact h1
  · exact h2 x hx
theorem a_app {P : PyData → Prop} {ds es : List PyData} (h1 : ∀ x ∈ ds, P x) (h2 : ∀ x ∈ es, P x) : ∀ x ∈ ds ++ es, P x := fun x hx => by
  rcases List.mem_append.mp hx with hx | hx
  · exact h1 x hx
  · exact h2 x hx
theorem plainM {x : Str} {ns : List Int} (hx : isW5 x) (hl : ns.length ≤ 4) (hn : ∀ n ∈ ns, n.natAbs ≤ 10 ^ 20) : Plain 2 (.tuple (.str x :: ns.map PyData.int)) :=
  .inr ⟨_, rfl, by rw [List.length_cons, List.length_map]; show ns.length + 1 ≤ 5; omega, fun y hy => by
    rcases List.mem_cons.mp hy with rfl | hy
    · exact (leaf_w hx).plain 1
    · obtain ⟨n, hm, rfl⟩ := List.mem_map.mp hy
      exact Leaf.plain (.inl ⟨n, rfl, hn n hm⟩) 1⟩
theorem withinT {pl i : Int} (h0 : 0 ≤ i) (h1 : i < pl) : within 0 (pl - 1) (.int i) = true := by
  show (decide (0 ≤ i) && decide (i ≤ pl - 1)) = true
  rw [decide_eq_true h0, decide_eq_true (by omega)]
  rfl
theorem mk_gain {pl i j c : Int} (i0 : 0 ≤ i) (i1 : i < pl) (j0 : 0 ≤ j) (j1 : j < pl) (h : j ≠ i) : isMv pl (.tuple [.str (Str.ofString "gain"), .int i, .int j, .int c]) = true := by
  rw [isMv_some (k := 2) (b := true) (by decide +kernel)]
  show (decide ((3 : Nat) = 2 + 1) && ((within 0 (pl - 1) (.int i) && (within 0 (pl - 1) (.int j) && true)) && (!(decide (j = i) || false) && (true && true)))) = true
  rw [withinT i0 i1, withinT j0 j1, decide_eq_false h]
  rfl
theorem mk_add {pl i j k c : Int} (i0 : 0 ≤ i) (i1 : i < pl) (j0 : 0 ≤ j) (j1 : j < pl) (k0 : 0 ≤ k) (k1 : k < pl) (h : j ≠ i) (h2 : k ≠ i) : isMv pl (.tuple [.str (Str.ofString "add"), .int i, .int j, .int k, .int c]) = true := by
  rw [isMv_some (k := 3) (b := true) (by decide +kernel)]
  show (decide ((4 : Nat) = 3 + 1) && ((within 0 (pl - 1) (.int i) && (within 0 (pl - 1) (.int j) && (within 0 (pl - 1) (.int k) && true))) && (!(decide (j = i) || (decide (k = i) || false)) && (true && true)))) = true
  rw [withinT i0 i1, withinT j0 j1, withinT k0 k1, decide_eq_false h, decide_eq_false h2]
  rfl
theorem mk_swap {pl i j : Int} (i0 : 0 ≤ i) (i1 : i < pl) (j0 : 0 ≤ j) (j1 : j < pl) (h : j ≠ i) : isMv pl (.tuple [.str (Str.ofString "swap"), .int i, .int j]) = true := by
  rw [isMv_some (k := 2) (b := false) (by decide +kernel)]
  show (decide ((2 : Nat) = 2 + 0) && ((within 0 (pl - 1) (.int i) && (within 0 (pl - 1) (.int j) && true)) && (!(decide (j = i) || false) && true))) = true
  rw [withinT i0 i1, withinT j0 j1, decide_eq_false h]
  rfl
theorem mk_turn {pl i : Int} (i0 : 0 ≤ i) (i1 : i < pl) : isMv pl (.tuple [.str (Str.ofString "turn"), .int i]) = true := by
  rw [isMv_some (k := 1) (b := false) (by decide +kernel)]
  show (decide ((1 : Nat) = 1 + 0) && ((within 0 (pl - 1) (.int i) && true) && (!false && true))) = true
  rw [withinT i0 i1]
  rfl
theorem mk_more {pl i c : Int} (i0 : 0 ≤ i) (i1 : i < pl) : isMv pl (.tuple [.str (Str.ofString "more"), .int i, .int c]) = true := by
  rw [isMv_some (k := 1) (b := true) (by decide +kernel)]
  show (decide ((2 : Nat) = 1 + 1) && ((within 0 (pl - 1) (.int i) && true) && (!false && (true && true)))) = true
  rw [withinT i0 i1]
  rfl
theorem order_ok {pl : Int} {ms : List Int} (h : ms.Perm ((List.range (pl - 0).toNat).map fun i => (0 : Int) + (i : Nat))) (h0 : 0 ≤ pl) : (ms.length : Int) = pl ∧ (∀ m ∈ ms, 0 ≤ m ∧ m < pl) ∧ ms.Nodup := by
  refine ⟨?_, fun m hm => ?_, ?_⟩
  · rw [h.length_eq, List.length_map, List.length_range]
    omega
  · obtain ⟨i, hi, rfl⟩ := List.mem_map.mp (h.mem_iff.mp hm)
    have := List.mem_range.mp hi
    omega
  · exact h.nodup_iff.mpr (List.pairwise_map.mpr (List.nodup_range.imp fun hne e => hne (by omega)))
def words7 : List V := [.str (Str.ofString "gain"), .str (Str.ofString "gain"), .str (Str.ofString "add"), .str (Str.ofString "add"), .str (Str.ofString "swap"), .str (Str.ofString "turn"), .str (Str.ofString "more")]
section
variable {P : Program} {w : World} {K : PySem.W.Frag} {mg : Str → Option Value} {base : Heap}
def spMove : Sp := fun vs H Q _ => ∃ (D B C : Addr) (cells : List Int) (pl : Int) (L : Addr), vs = [.ref D, .int pl, .ref L] ∧ DeckAt D B C cells H ∧ 1 ≤ pl ∧ pl ≤ 80 ∧ H L = some (.lst words7) ∧ L ≠ D ∧ L ≠ B ∧
  ∀ (v : V) (d : PyData) (H' : Hp), isMv pl d = true → Plain 2 d → Dq D B H' v d → DeckAt D B C cells H' → Fr D B H H' → Q v H'
set_option maxHeartbeats 4000000 in
theorem ok_move {f fO fD fF fN fM fX : Addr} {fd fdO fdD fdF fdN fdM fdX : FuncData} (F : Nm K mg "_law_move" sMove ["_law_deck_here", "_law_places", "_law_words"] f fd) (FM : Nm K mg "_law_mixed" sMix ["_law_deck_here", "_law_items"] fM fdM) (FX : Nm K mg "_law_factor" sFac ["_law_deck_here"] fX fdX)
    (FN : Nu K mg fN fdN) (FF : Fa K mg fF fdF) (FO : On K mg fO fdO) (FD : Dr K mg fD fdD) (T : Bn mg) : FnOk P w K mg base CX0 5 f fd ["_law_deck_here", "_law_places", "_law_words"] spMove := by
  have GO : FnOk P w K mg base CX0 2 fO fdO ["_law_deck_here", "_law_items"] spOne := ok_one FO.F FD.F FD.b FD.g T.int T.len
  have GM : FnOk P w K mg base CX0 2 fM fdM ["_law_deck_here", "_law_items"] spMix := ok_mix FM FD T
  have GX : FnOk P w K mg base CX0 4 fX fdX ["_law_deck_here"] spFac := ok_fac FX FN FF FO FD T
  refine F.F.ok scMove (fun vs H Q E h => ?_) (fun cdv A outer s H vs Q E hr h => ?_)
  · obtain ⟨D, B, C, cells, pl, L, rfl, _⟩ := h
    rfl
  · obtain ⟨D, B, C, cells, pl, L, rfl, dk, p1, p80, eL, LD, LB, q⟩ := h
    have hr2 : Room 2 _ := hr.mono (by decide)
    refine ⟨_, pss_cons (ps_set (i := 3) scMove.nd rfl (.inl rfl) (pe_ifExp (pt_cmpR op_gt (pv 1) pe_int (nomark _)) (pe_call GO hr2 (by rfl) FO.g FO.F.kp FO.b .nil pass0 (pa_cons (pv 0) (pa_cons (pv 2) pa_nil))) (pe_call GO hr2 (by rfl) FO.g FO.F.kp FO.b .nil pass0 (pa_cons (pv 0) (pa_cons (pe_lst (pa_cons pe_str (pa_cons pe_str pa_nil))) pa_nil)))))
      (pss_cons (ps_set (i := 4) scMove.nd rfl (.inl rfl) (pe_call GM hr2 (by rfl) FM.g FM.F.kp FM.b .nil pass0 (pa_cons (pv 0) (pa_cons (pe_listRg rfl (by rfl) T.lst (prg_1 (by rfl) T.rng (pv 1))) pa_nil))))
      (pss_cons (ps_if (pt_cmpR op_eq (pv 3) pe_str (nomark _)) (pss_one (ps_ret (pe_tup (pa_cons (pv 3) (pa_cons (pe_ix ix_list (pv 4) pe_int (fun _ _ => rfl)) (pa_cons (pe_ix ix_list (pv 4) pe_int (fun _ _ => rfl)) (pa_cons (pe_call GX hr (by rfl) FX.g FX.F.kp FX.b .nil pass0 (pa_cons (pv 0) pa_nil)) pa_nil))))))) pss_nil)
      (pss_cons (ps_if (pt_cmpR op_eq (pv 3) pe_str (nomark _)) (pss_one (ps_ret (pe_tup (pa_cons (pv 3) (pa_cons (pe_ix ix_list (pv 4) pe_int (fun _ _ => rfl)) (pa_cons (pe_call GO hr2 (by rfl) FO.g FO.F.kp FO.b .nil pass0 (pa_cons (pv 0) (pa_cons (pe_slice sl_list (pv 4) (po_some pe_int) po_none) pa_nil)))
          (pa_cons (pe_call GO hr2 (by rfl) FO.g FO.F.kp FO.b .nil pass0 (pa_cons (pv 0) (pa_cons (pe_slice sl_list (pv 4) (po_some pe_int) po_none) pa_nil))) (pa_cons (pe_call GX hr (by rfl) FX.g FX.F.kp FX.b .nil pass0 (pa_cons (pv 0) pa_nil)) pa_nil)))))))) pss_nil)
      (pss_cons (ps_if (pt_cmpR op_eq (pv 3) pe_str (nomark _)) (pss_one (ps_ret (pe_tup (pa_cons (pv 3) (pa_cons (pe_ix ix_list (pv 4) pe_int (fun _ _ => rfl)) (pa_cons (pe_ix ix_list (pv 4) pe_int (fun _ _ => rfl)) pa_nil)))))) pss_nil)
      (pss_one (ps_ret (pe_ifExp (pt_cmpR op_eq (pv 3) pe_str (nomark _)) (pe_tup (pa_cons (pv 3) (pa_cons (pe_ix ix_list (pv 4) pe_int (fun _ _ => rfl)) pa_nil))) (pe_tup (pa_cons (pv 3) (pa_cons (pe_ix ix_list (pv 4) pe_int (fun _ _ => rfl)) (pa_cons (pe_call GX hr (by rfl) FX.g FX.F.kp FX.b .nil pass0 (pa_cons (pv 0) pa_nil)) pa_nil)))))))))))  , ?_⟩
    refine ⟨_, rfl, _, _, rfl, rfl, _, rfl, ite2 (fun c => ⟨_, rfl, _, rfl, D, B, C, cells, L, words7, rfl, dk, eL, LD, LB, by show 0 < 7; decide, by show 7 < 1073741824; decide, fun i v H2 hv dk2 f2 => ?_⟩) (fun c => ⟨_, rfl, sz1 rfl, fun L2' nL2 => ⟨D, B, C, cells, L2', _, rfl, dk.same (same_upd nL2), upd_same, dk.neD nL2, dk.neB nL2, by show 0 < 2; decide, by show 2 < 1073741824; decide, fun i v H2 hv dk2 f2 => ?_⟩⟩)⟩
    · obtain ⟨x, rfl, hx⟩ : ∃ x, v = .str x ∧ isW5 x := by
        match i, hv with
        | 0, hv => exact ⟨_, (Option.some.inj hv).symm, .inl rfl⟩
        | 1, hv => exact ⟨_, (Option.some.inj hv).symm, .inl rfl⟩
        | 2, hv => exact ⟨_, (Option.some.inj hv).symm, .inr (.inl rfl)⟩
        | 3, hv => exact ⟨_, (Option.some.inj hv).symm, .inr (.inl rfl)⟩
        | 4, hv => exact ⟨_, (Option.some.inj hv).symm, .inr (.inr (.inl rfl))⟩
        | 5, hv => exact ⟨_, (Option.some.inj hv).symm, .inr (.inr (.inr (.inl rfl)))⟩
        | 6, hv => exact ⟨_, (Option.some.inj hv).symm, .inr (.inr (.inr (.inr rfl)))⟩
        | i + 7, hv => cases hv
      have cp : pl ≤ 1 → x = Str.ofString "turn" ∨ x = Str.ofString "more" := fun z => absurd (of_decide_eq_true c) (by omega)
      have fH2 : Fr D B H H2 := f2
      refine ⟨_, rfl, _, rfl, pl, rfl, RgOk.of_le (by omega) (by omega) (by omega) (by omega), fun R nR => ?_⟩
      have sR := same_upd (o := .lst (rgV 0 pl)) nR
      have dkR := dk2.same sR
      have eR : (upd H2 R (.lst (rgV 0 pl))) R = some (.lst (((List.range (pl - 0).toNat).map fun i => (0 : Int) + (i : Nat)).map V.int)) := by
        rw [upd_same, List.map_map]
        rfl
      refine ⟨D, B, C, cells, R, (List.range (pl - 0).toNat).map fun i => (0 : Int) + (i : Nat), rfl, dkR, eR, dk2.neD nR, dk2.neB nR, by rw [List.length_map, List.length_range]; omega, fun M ms H4 hp eM nM dk4 f4 => ?_⟩
      obtain ⟨ol, ob, on⟩ := order_ok hp (by omega)
      have fH4 := fH2.trans ((Fr.of_same sR).trans f4)
      have MD := dkR.neD nM
      have MB := dkR.neB nM
      match ms, ol, ob, on, eM, hp with
      | [], ol, _, _, _, _ => exact absurd ol (by show ¬ ((0 : Nat) : Int) = pl; omega)
      | m0 :: mr, ol, ob, on, eM, _ =>
        obtain ⟨a0, a1⟩ := ob m0 List.mem_cons_self
        rw [List.length_cons] at ol
        have big : ∀ {m : Int}, 0 ≤ m → m < pl → m.natAbs ≤ 10 ^ 20 := fun h0 h1 => by omega
        have two : 1 < pl → ∃ m1 m2, mr = m1 :: m2 ∧ 0 ≤ m1 ∧ m1 < pl ∧ m1 ≠ m0 := fun h => by
          cases mr with
          | nil => exact absurd ol (by show ¬ (((0 : Nat) + 1 : Nat) : Int) = pl; omega)
          | cons m1 m2 =>
            have hb := ob m1 (List.mem_cons_of_mem _ List.mem_cons_self)
            exact ⟨m1, m2, rfl, hb.1, hb.2, fun z => (List.nodup_cons.mp on).1 (z ▸ List.mem_cons_self)⟩
        have pl2 : (x = Str.ofString "gain" ∨ x = Str.ofString "add" ∨ x = Str.ofString "swap") → 1 < pl := fun h => by
          by_cases z : pl ≤ 1
          · exfalso
            obtain ⟨n1, n2, n3, n4, n5, n6, n7, n8, n9, _⟩ := w_ne
            rcases cp z with rfl | rfl
            · rcases h with h | h | h
              · exact n4 h
              · exact n5 h
              · exact n6 h
            · rcases h with h | h | h
              · exact n7 h
              · exact n8 h
              · exact n9 h
          · omega
        refine ⟨_, rfl, rfl, _, rfl, ite2 (fun c1 => ?_) (fun c1 => ?_)⟩
        · have e1 : x = Str.ofString "gain" := V.str.inj (of_decide_eq_true c1)
          obtain ⟨m1, m2, rfl, b0, b1, ne⟩ := two (pl2 (.inl e1))
          refine ⟨_, rfl, _, rfl, M, _, 0, .int m0, rfl, rfl, SqL.of eM, atI_nat (j := 0) rfl, _, rfl, M, _, 1, .int m1, rfl, rfl, SqL.of eM, atI_nat (j := 1) rfl, _, rfl, D, B, C, cells, rfl, dk4, fun k H5 hk dk5 f5 => ⟨sz1 rfl, fun t nt => ?_⟩⟩
          have s6 := same_upd (o := .tup [.str x, .int m0, .int m1, .int k]) nt
          exact q (.ref t) (.tuple [.str x, .int m0, .int m1, .int k]) _ (e1 ▸ mk_gain a0 a1 b0 b1 ne) (plainM (ns := [m0, m1, k]) hx (by show 3 ≤ 4; decide) (by intro n hn; rcases List.mem_cons.mp hn with rfl | hn; exact big a0 a1; rcases List.mem_cons.mp hn with rfl | hn; exact big b0 b1; rw [List.mem_singleton.mp hn]; exact hk)) (.tup upd_same (.cons (.str _) (.cons (.int _) (.cons (.int _) (.cons (.int _) .nil))))) (dk5.same s6) (fH4.trans (f5.trans (Fr.of_same s6)))
        · refine ⟨_, rfl, rfl, _, rfl, ite2 (fun c2 => ?_) (fun c2 => ?_)⟩
          · have e1 : x = Str.ofString "add" := V.str.inj (of_decide_eq_true c2)
            obtain ⟨m1, m2, rfl, b0, b1, ne⟩ := two (pl2 (.inr (.inl e1)))
            have pick : ∀ (i : Nat) (v : V), ((m1 :: m2).map V.int)[i]? = some v → ∃ m, v = .int m ∧ 0 ≤ m ∧ m < pl ∧ m ≠ m0 := fun i v hv => by
              rw [List.getElem?_map] at hv
              cases hq : (m1 :: m2)[i]? with
              | none =>
                rw [hq] at hv
                cases hv
              | some m =>
                rw [hq] at hv
                have hmem := List.mem_of_getElem? hq
                have hb := ob m (List.mem_cons_of_mem _ hmem)
                exact ⟨m, (Option.some.inj hv).symm, hb.1, hb.2, fun z => (List.nodup_cons.mp on).1 (z ▸ hmem)⟩
            have len7 : 0 < ((m1 :: m2).map V.int).length ∧ ((m1 :: m2).map V.int).length < 1073741824 := by
              rw [List.length_map]
              exact ⟨Nat.succ_pos _, by omega⟩
            have ecut : cutV ((m0 :: m1 :: m2).map V.int) (some 1) none = (m1 :: m2).map V.int := cutV_from ((m0 :: m1 :: m2).map V.int) 1
            refine ⟨_, rfl, _, rfl, M, _, 0, .int m0, rfl, rfl, SqL.of eM, atI_nat (j := 0) rfl, _, rfl, _, rfl, _, rfl, ?_⟩
            dsimp only [tNoPart]
            refine ⟨M, _, rfl, SqL.of eM, fun S1 nS1 => ?_⟩
            rw [ecut]
            have t1 := same_upd (o := .lst ((m1 :: m2).map V.int)) nS1
            refine ⟨D, B, C, cells, S1, _, rfl, dk4.same t1, upd_same, dk4.neD nS1, dk4.neB nS1, len7.1, len7.2, fun i5 v5 H5 hv5 dk5 f5 => ?_⟩
            obtain ⟨u1, rfl, g0, g1, gn⟩ := pick i5 v5 hv5
            have eM5 := f5 _ _ MD MB (t1 _ _ eM)
            refine ⟨_, rfl, _, rfl, _, rfl, ?_⟩
            dsimp only [tNoPart]
            refine ⟨M, _, rfl, SqL.of eM5, fun S2 nS2 => ?_⟩
            rw [ecut]
            have t2 := same_upd (o := .lst ((m1 :: m2).map V.int)) nS2
            refine ⟨D, B, C, cells, S2, _, rfl, dk5.same t2, upd_same, dk5.neD nS2, dk5.neB nS2, len7.1, len7.2, fun i6 v6 H6 hv6 dk6 f6 => ?_⟩
            obtain ⟨u2, rfl, h0, h1, hn⟩ := pick i6 v6 hv6
            refine ⟨_, rfl, D, B, C, cells, rfl, dk6, fun k H7 hk dk7 f7 => ⟨sz1 rfl, fun t nt => ?_⟩⟩
            have s8 := same_upd (o := .tup [.str x, .int m0, .int u1, .int u2, .int k]) nt
            exact q (.ref t) (.tuple [.str x, .int m0, .int u1, .int u2, .int k]) _ (e1 ▸ mk_add a0 a1 g0 g1 h0 h1 gn hn) (plainM (ns := [m0, u1, u2, k]) hx (by show 4 ≤ 4; decide) (by intro n hn; rcases List.mem_cons.mp hn with rfl | hn; exact big a0 a1; rcases List.mem_cons.mp hn with rfl | hn; exact big g0 g1; rcases List.mem_cons.mp hn with rfl | hn; exact big h0 h1; rw [List.mem_singleton.mp hn]; exact hk)) (.tup upd_same (.cons (.str _) (.cons (.int _) (.cons (.int _) (.cons (.int _) (.cons (.int _) .nil)))))) (dk7.same s8) (fH4.trans (((Fr.of_same t1).trans f5).trans (((Fr.of_same t2).trans f6).trans (f7.trans (Fr.of_same s8)))))
          · refine ⟨_, rfl, rfl, _, rfl, ite2 (fun c3 => ?_) (fun c3 => ?_)⟩
            · have e1 : x = Str.ofString "swap" := V.str.inj (of_decide_eq_true c3)
              obtain ⟨m1, m2, rfl, b0, b1, ne⟩ := two (pl2 (.inr (.inr e1)))
              refine ⟨_, rfl, _, rfl, M, _, 0, .int m0, rfl, rfl, SqL.of eM, atI_nat (j := 0) rfl, _, rfl, M, _, 1, .int m1, rfl, rfl, SqL.of eM, atI_nat (j := 1) rfl, sz1 rfl, fun t nt => ?_⟩
              have s6 := same_upd (o := .tup [.str x, .int m0, .int m1]) nt
              exact q (.ref t) (.tuple [.str x, .int m0, .int m1]) _ (e1 ▸ mk_swap a0 a1 b0 b1 ne) (plainM (ns := [m0, m1]) hx (by show 2 ≤ 4; decide) (by intro n hn; rcases List.mem_cons.mp hn with rfl | hn; exact big a0 a1; rw [List.mem_singleton.mp hn]; exact big b0 b1)) (.tup upd_same (.cons (.str _) (.cons (.int _) (.cons (.int _) .nil)))) (dk4.same s6) (fH4.trans (Fr.of_same s6))
            · refine ⟨_, rfl, rfl, _, rfl, ite2 (fun c4 => ?_) (fun c4 => ?_)⟩
              · have e1 : x = Str.ofString "turn" := V.str.inj (of_decide_eq_true c4)
                refine ⟨_, rfl, _, rfl, M, _, 0, .int m0, rfl, rfl, SqL.of eM, atI_nat (j := 0) rfl, sz1 rfl, fun t nt => ?_⟩
                have s6 := same_upd (o := .tup [.str x, .int m0]) nt
                exact q (.ref t) (.tuple [.str x, .int m0]) _ (e1 ▸ mk_turn a0 a1) (plainM (ns := [m0]) hx (by show 1 ≤ 4; decide) (by intro n hn; rw [List.mem_singleton.mp hn]; exact big a0 a1)) (.tup upd_same (.cons (.str _) (.cons (.int _) .nil))) (dk4.same s6) (fH4.trans (Fr.of_same s6))
              · have e1 : x = Str.ofString "more" := by
                  have ng : ∀ {y : Str}, ¬ decide (V.str x = V.str y) = true → ¬ x = y := fun h z => h (decide_eq_true (by rw [z]))
                  rcases hx with h | h | h | h | h
                  · exact absurd h (ng c1)
                  · exact absurd h (ng c2)
                  · exact absurd h (ng c3)
                  · exact absurd h (ng c4)
                  · exact h
                refine ⟨_, rfl, _, rfl, M, _, 0, .int m0, rfl, rfl, SqL.of eM, atI_nat (j := 0) rfl, _, rfl, D, B, C, cells, rfl, dk4, fun k H5 hk dk5 f5 => ⟨sz1 rfl, fun t nt => ?_⟩⟩
                have s6 := same_upd (o := .tup [.str x, .int m0, .int k]) nt
                exact q (.ref t) (.tuple [.str x, .int m0, .int k]) _ (e1 ▸ mk_more a0 a1) (plainM (ns := [m0, k]) hx (by show 2 ≤ 4; decide) (by intro n hn; rcases List.mem_cons.mp hn with rfl | hn; exact big a0 a1; rw [List.mem_singleton.mp hn]; exact hk)) (.tup upd_same (.cons (.str _) (.cons (.int _) (.cons (.int _) .nil)))) (dk5.same s6) (fH4.trans (f5.trans (Fr.of_same s6)))
    · obtain ⟨x, rfl, hx, cp⟩ : ∃ x, v = .str x ∧ isW5 x ∧ (pl ≤ 1 → x = Str.ofString "turn" ∨ x = Str.ofString "more") := by
        match i, hv with
        | 0, hv => exact ⟨_, (Option.some.inj hv).symm, .inr (.inr (.inr (.inl rfl))), fun _ => .inl rfl⟩
        | 1, hv => exact ⟨_, (Option.some.inj hv).symm, .inr (.inr (.inr (.inr rfl))), fun _ => .inr rfl⟩
        | i + 2, hv => cases hv
      have fH2 : Fr D B H H2 := (Fr.of_same (same_upd nL2)).trans f2
      refine ⟨_, rfl, _, rfl, pl, rfl, RgOk.of_le (by omega) (by omega) (by omega) (by omega), fun R nR => ?_⟩
      have sR := same_upd (o := .lst (rgV 0 pl)) nR
      have dkR := dk2.same sR
      have eR : (upd H2 R (.lst (rgV 0 pl))) R = some (.lst (((List.range (pl - 0).toNat).map fun i => (0 : Int) + (i : Nat)).map V.int)) := by
        rw [upd_same, List.map_map]
        rfl
      refine ⟨D, B, C, cells, R, (List.range (pl - 0).toNat).map fun i => (0 : Int) + (i : Nat), rfl, dkR, eR, dk2.neD nR, dk2.neB nR, by rw [List.length_map, List.length_range]; omega, fun M ms H4 hp eM nM dk4 f4 => ?_⟩
      obtain ⟨ol, ob, on⟩ := order_ok hp (by omega)
      have fH4 := fH2.trans ((Fr.of_same sR).trans f4)
      have MD := dkR.neD nM
      have MB := dkR.neB nM
      match ms, ol, ob, on, eM, hp with
      | [], ol, _, _, _, _ => exact absurd ol (by show ¬ ((0 : Nat) : Int) = pl; omega)
      | m0 :: mr, ol, ob, on, eM, _ =>
        obtain ⟨a0, a1⟩ := ob m0 List.mem_cons_self
        rw [List.length_cons] at ol
        have big : ∀ {m : Int}, 0 ≤ m → m < pl → m.natAbs ≤ 10 ^ 20 := fun h0 h1 => by omega
        have two : 1 < pl → ∃ m1 m2, mr = m1 :: m2 ∧ 0 ≤ m1 ∧ m1 < pl ∧ m1 ≠ m0 := fun h => by
          cases mr with
          | nil => exact absurd ol (by show ¬ (((0 : Nat) + 1 : Nat) : Int) = pl; omega)
          | cons m1 m2 =>
            have hb := ob m1 (List.mem_cons_of_mem _ List.mem_cons_self)
            exact ⟨m1, m2, rfl, hb.1, hb.2, fun z => (List.nodup_cons.mp on).1 (z ▸ List.mem_cons_self)⟩
        have pl2 : (x = Str.ofString "gain" ∨ x = Str.ofString "add" ∨ x = Str.ofString "swap") → 1 < pl := fun h => by
          by_cases z : pl ≤ 1
          · exfalso
            obtain ⟨n1, n2, n3, n4, n5, n6, n7, n8, n9, _⟩ := w_ne
            rcases cp z with rfl | rfl
            · rcases h with h | h | h
              · exact n4 h
              · exact n5 h
              · exact n6 h
            · rcases h with h | h | h
              · exact n7 h
              · exact n8 h
              · exact n9 h
          · omega
        refine ⟨_, rfl, rfl, _, rfl, ite2 (fun c1 => ?_) (fun c1 => ?_)⟩
        · have e1 : x = Str.ofString "gain" := V.str.inj (of_decide_eq_true c1)
          obtain ⟨m1, m2, rfl, b0, b1, ne⟩ := two (pl2 (.inl e1))
          refine ⟨_, rfl, _, rfl, M, _, 0, .int m0, rfl, rfl, SqL.of eM, atI_nat (j := 0) rfl, _, rfl, M, _, 1, .int m1, rfl, rfl, SqL.of eM, atI_nat (j := 1) rfl, _, rfl, D, B, C, cells, rfl, dk4, fun k H5 hk dk5 f5 => ⟨sz1 rfl, fun t nt => ?_⟩⟩
          have s6 := same_upd (o := .tup [.str x, .int m0, .int m1, .int k]) nt
          exact q (.ref t) (.tuple [.str x, .int m0, .int m1, .int k]) _ (e1 ▸ mk_gain a0 a1 b0 b1 ne) (plainM (ns := [m0, m1, k]) hx (by show 3 ≤ 4; decide) (by intro n hn; rcases List.mem_cons.mp hn with rfl | hn; exact big a0 a1; rcases List.mem_cons.mp hn with rfl | hn; exact big b0 b1; rw [List.mem_singleton.mp hn]; exact hk)) (.tup upd_same (.cons (.str _) (.cons (.int _) (.cons (.int _) (.cons (.int _) .nil))))) (dk5.same s6) (fH4.trans (f5.trans (Fr.of_same s6)))
        · refine ⟨_, rfl, rfl, _, rfl, ite2 (fun c2 => ?_) (fun c2 => ?_)⟩
          · have e1 : x = Str.ofString "add" := V.str.inj (of_decide_eq_true c2)
            obtain ⟨m1, m2, rfl, b0, b1, ne⟩ := two (pl2 (.inr (.inl e1)))
            have pick : ∀ (i : Nat) (v : V), ((m1 :: m2).map V.int)[i]? = some v → ∃ m, v = .int m ∧ 0 ≤ m ∧ m < pl ∧ m ≠ m0 := fun i v hv => by
              rw [List.getElem?_map] at hv
              cases hq : (m1 :: m2)[i]? with
              | none =>
                rw [hq] at hv
                cases hv
              | some m =>
                rw [hq] at hv
                have hmem := List.mem_of_getElem? hq
                have hb := ob m (List.mem_cons_of_mem _ hmem)
                exact ⟨m, (Option.some.inj hv).symm, hb.1, hb.2, fun z => (List.nodup_cons.mp on).1 (z ▸ hmem)⟩
            have len7 : 0 < ((m1 :: m2).map V.int).length ∧ ((m1 :: m2).map V.int).length < 1073741824 := by
              rw [List.length_map]
              exact ⟨Nat.succ_pos _, by omega⟩
            have ecut : cutV ((m0 :: m1 :: m2).map V.int) (some 1) none = (m1 :: m2).map V.int := cutV_from ((m0 :: m1 :: m2).map V.int) 1
            refine ⟨_, rfl, _, rfl, M, _, 0, .int m0, rfl, rfl, SqL.of eM, atI_nat (j := 0) rfl, _, rfl, _, rfl, _, rfl, ?_⟩
            dsimp only [tNoPart]
            refine ⟨M, _, rfl, SqL.of eM, fun S1 nS1 => ?_⟩
            rw [ecut]
            have t1 := same_upd (o := .lst ((m1 :: m2).map V.int)) nS1
            refine ⟨D, B, C, cells, S1, _, rfl, dk4.same t1, upd_same, dk4.neD nS1, dk4.neB nS1, len7.1, len7.2, fun i5 v5 H5 hv5 dk5 f5 => ?_⟩
            obtain ⟨u1, rfl, g0, g1, gn⟩ := pick i5 v5 hv5
            have eM5 := f5 _ _ MD MB (t1 _ _ eM)
            refine ⟨_, rfl, _, rfl, _, rfl, ?_⟩
            dsimp only [tNoPart]
            refine ⟨M, _, rfl, SqL.of eM5, fun S2 nS2 => ?_⟩
            rw [ecut]
            have t2 := same_upd (o := .lst ((m1 :: m2).map V.int)) nS2
            refine ⟨D, B, C, cells, S2, _, rfl, dk5.same t2, upd_same, dk5.neD nS2, dk5.neB nS2, len7.1, len7.2, fun i6 v6 H6 hv6 dk6 f6 => ?_⟩
            obtain ⟨u2, rfl, h0, h1, hn⟩ := pick i6 v6 hv6
            refine ⟨_, rfl, D, B, C, cells, rfl, dk6, fun k H7 hk dk7 f7 => ⟨sz1 rfl, fun t nt => ?_⟩⟩
            have s8 := same_upd (o := .tup [.str x, .int m0, .int u1, .int u2, .int k]) nt
            exact q (.ref t) (.tuple [.str x, .int m0, .int u1, .int u2, .int k]) _ (e1 ▸ mk_add a0 a1 g0 g1 h0 h1 gn hn) (plainM (ns := [m0, u1, u2, k]) hx (by show 4 ≤ 4; decide) (by intro n hn; rcases List.mem_cons.mp hn with rfl | hn; exact big a0 a1; rcases List.mem_cons.mp hn with rfl | hn; exact big g0 g1; rcases List.mem_cons.mp hn with rfl | hn; exact big h0 h1; rw [List.mem_singleton.mp hn]; exact hk)) (.tup upd_same (.cons (.str _) (.cons (.int _) (.cons (.int _) (.cons (.int _) (.cons (.int _) .nil)))))) (dk7.same s8) (fH4.trans (((Fr.of_same t1).trans f5).trans (((Fr.of_same t2).trans f6).trans (f7.trans (Fr.of_same s8)))))
          · refine ⟨_, rfl, rfl, _, rfl, ite2 (fun c3 => ?_) (fun c3 => ?_)⟩
            · have e1 : x = Str.ofString "swap" := V.str.inj (of_decide_eq_true c3)
              obtain ⟨m1, m2, rfl, b0, b1, ne⟩ := two (pl2 (.inr (.inr e1)))
              refine ⟨_, rfl, _, rfl, M, _, 0, .int m0, rfl, rfl, SqL.of eM, atI_nat (j := 0) rfl, _, rfl, M, _, 1, .int m1, rfl, rfl, SqL.of eM, atI_nat (j := 1) rfl, sz1 rfl, fun t nt => ?_⟩
              have s6 := same_upd (o := .tup [.str x, .int m0, .int m1]) nt
              exact q (.ref t) (.tuple [.str x, .int m0, .int m1]) _ (e1 ▸ mk_swap a0 a1 b0 b1 ne) (plainM (ns := [m0, m1]) hx (by show 2 ≤ 4; decide) (by intro n hn; rcases List.mem_cons.mp hn with rfl | hn; exact big a0 a1; rw [List.mem_singleton.mp hn]; exact big b0 b1)) (.tup upd_same (.cons (.str _) (.cons (.int _) (.cons (.int _) .nil)))) (dk4.same s6) (fH4.trans (Fr.of_same s6))
            · refine ⟨_, rfl, rfl, _, rfl, ite2 (fun c4 => ?_) (fun c4 => ?_)⟩
              · have e1 : x = Str.ofString "turn" := V.str.inj (of_decide_eq_true c4)
                refine ⟨_, rfl, _, rfl, M, _, 0, .int m0, rfl, rfl, SqL.of eM, atI_nat (j := 0) rfl, sz1 rfl, fun t nt => ?_⟩
                have s6 := same_upd (o := .tup [.str x, .int m0]) nt
                exact q (.ref t) (.tuple [.str x, .int m0]) _ (e1 ▸ mk_turn a0 a1) (plainM (ns := [m0]) hx (by show 1 ≤ 4; decide) (by intro n hn; rw [List.mem_singleton.mp hn]; exact big a0 a1)) (.tup upd_same (.cons (.str _) (.cons (.int _) .nil))) (dk4.same s6) (fH4.trans (Fr.of_same s6))
              · have e1 : x = Str.ofString "more" := by
                  have ng : ∀ {y : Str}, ¬ decide (V.str x = V.str y) = true → ¬ x = y := fun h z => h (decide_eq_true (by rw [z]))
                  rcases hx with h | h | h | h | h
                  · exact absurd h (ng c1)
                  · exact absurd h (ng c2)
                  · exact absurd h (ng c3)
                  · exact absurd h (ng c4)
                  · exact h
                refine ⟨_, rfl, _, rfl, M, _, 0, .int m0, rfl, rfl, SqL.of eM, atI_nat (j := 0) rfl, _, rfl, D, B, C, cells, rfl, dk4, fun k H5 hk dk5 f5 => ⟨sz1 rfl, fun t nt => ?_⟩⟩
                have s6 := same_upd (o := .tup [.str x, .int m0, .int k]) nt
                exact q (.ref t) (.tuple [.str x, .int m0, .int k]) _ (e1 ▸ mk_more a0 a1) (plainM (ns := [m0, k]) hx (by show 2 ≤ 4; decide) (by intro n hn; rcases List.mem_cons.mp hn with rfl | hn; exact big a0 a1; rw [List.mem_singleton.mp hn]; exact hk)) (.tup upd_same (.cons (.str _) (.cons (.int _) (.cons (.int _) .nil)))) (dk5.same s6) (fH4.trans (f5.trans (Fr.of_same s6)))
end
end Jg
namespace Jg
open PySem PySem.Spec PyProof.Rows L2
/-! ### the law's tapes -/
theorem mv_at1 {pl : Int} {d : PyData} (m : Mv pl d) : ∃ (x : Str) (i : Int) (rest : List PyData), d = .tuple (.str x :: .int i :: rest) ∧ 0 ≤ i ∧ i < pl := by
  cases m with
  | gain i0 i1 => exact ⟨_, _, _, rfl, i0, i1⟩
  | add i0 i1 => exact ⟨_, _, _, rfl, i0, i1⟩
  | swap i0 i1 => exact ⟨_, _, _, rfl, i0, i1⟩
  | turn i0 i1 => exact ⟨_, _, _, rfl, i0, i1⟩
  | more i0 i1 => exact ⟨_, _, _, rfl, i0, i1⟩
def tapeD (pl : Int) (ds : List PyData) : PyData := .tuple [.int pl, .tuple ds]
structure Taped (pl : Int) (ds : List PyData) : Prop where
  p1 : 1 ≤ pl
  p80 : pl ≤ 80
  d30 : ds.length ≤ 30
  pl2 : ∀ d ∈ ds, Plain 2 d
abbrev sTape : Stmt := topS 26
abbrev nTape : List Str := ["_law_deck_here", "_law_places", "_law_many", "_law_most", "_law_degrees_here", "_law_moves", "_law_turn", "_law_move_here"]
theorem scTape : FnScope nTape ["_law_deck_here", "_law_places", "_law_many", "_law_most"] (defScope sTape) := ⟨rfl, rfl, rfl, by decide +kernel, rfl, by decide +kernel, by decide +kernel⟩
section
variable {P : Program} {w : World} {K : PySem.W.Frag} {mg : Str → Option Value} {base : Heap}
def spTape : Sp := fun vs H Q _ => ∃ (D B C : Addr) (cells : List Int) (pl m : Int), vs = [.ref D, .int pl, .int m, .int 64] ∧ DeckAt D B C cells H ∧ 1 ≤ pl ∧ pl ≤ 80 ∧ 0 ≤ m ∧ m ≤ 30 ∧
  ∀ v ds H', Taped pl ds → Dq D B H' v (tapeD pl ds) → DeckAt D B C cells H' → Fr D B H H' → Q v H'
set_option maxHeartbeats 4000000 in
theorem ok_tape {f fD fG fV : Addr} {fd fdD fdG fdV : FuncData} (F : Nm K mg "_law_tape" sTape ["_law_deck_here", "_law_places", "_law_many", "_law_most"] f fd) (GV : FnOk P w K mg base CX0 5 fV fdV ["_law_deck_here", "_law_places", "_law_words"] spMove) (bV : Binds K fdV ["_law_deck_here", "_law_places", "_law_words"] []) (gV : mg "_law_move" = some (.ref fV)) (kV : PySem.W.keepIn K (.ref fV) = true)
    (FG : Nm K mg "_law_degrees" sDegs ["_law_degrees_here", "_law_move_here"] fG fdG) (FD : Dr K mg fD fdD) (T : Bn mg) : FnOk P w K mg base CX0 6 f fd ["_law_deck_here", "_law_places", "_law_many", "_law_most"] spTape := by
  have GD : FnOk P w K mg base CX0 1 fD fdD ["_law_deck_here", "_law_many"] spDraw := ok_draw FD.F T.int T.len
  have GG : FnOk P w K mg base CX0 1 fG fdG ["_law_degrees_here", "_law_move_here"] spDegs := ok_degs FG T
  refine F.F.ok scTape (fun vs H Q E h => ?_) (fun cdv A outer s H vs Q E hr h => ?_)
  · obtain ⟨D, B, C, cells, pl, m, rfl, _⟩ := h
    rfl
  · obtain ⟨D, B, C, cells, pl, m, rfl, dk, p1, p80, m0, m1, q⟩ := h
    have hr1 : Room 1 _ := hr.mono (by decide)
    refine ⟨_, pss_cons (ps_par (i := 4) (j := 5) rfl scTape.nd rfl rfl (by decide) rfl rfl (pa_cons (pe_op op_rep (pe_lst (pa_cons pe_int pa_nil)) (pv 1)) (pa_cons (pe_lst pa_nil) pa_nil)) rfl)
      (pss_cons (ps_for PassesOwn.never rfl (pi_range1 rfl T.rng (pa_cons (pe_call GD hr1 (by rfl) FD.g FD.F.kp FD.b .nil pass0 (pa_cons (pv 0) (pa_cons (pe_op op_add (pv 2) pe_int) pa_nil))) pa_nil)) (pg_name (i := 6) scTape.nd rfl (.inl rfl))
        (pss_cons (ps_set (i := 7) scTape.nd rfl (.inl rfl) (pe_call GV hr (by rfl) gV kV bV .nil pass0 (pa_cons (pv 0) (pa_cons (pv 1) (pa_cons (pe_lst (pa_cons pe_str (pa_cons pe_str (pa_cons pe_str (pa_cons pe_str (pa_cons pe_str (pa_cons pe_str (pa_cons pe_str pa_nil)))))))) pa_nil)))))
        (pss_cons (ps_if (pt_cmpR op_gt (pe_callB (cr_max rfl) (by rfl) T.max boot_max' (pa_cons (pe_call GG hr1 (by rfl) FG.g FG.F.kp FG.b .nil pass0 (pa_cons (pv 4) (pa_cons (pv 7) pa_nil))) pa_nil)) (pv 3) (nomark _)) (pss_one (ps_set (i := 7) scTape.nd rfl (.inl rfl) (pe_tup (pa_cons pe_str (pa_cons (pe_ix ix_tup (pv 7) pe_int (fun _ _ => rfl)) (pa_cons pe_int pa_nil)))))) pss_nil)
        (pss_cons (ps_set (i := 4) scTape.nd rfl (.inl rfl) (pe_call GG hr1 (by rfl) FG.g FG.F.kp FG.b .nil pass0 (pa_cons (pv 4) (pa_cons (pv 7) pa_nil))))
        (pss_one (ps_expr (pe_bm PySem.F.plainAttrs_list PySem.F.slot_list_append PySem.F.type_list_append mt_append (pv 5) (pa_cons (pv 7) pa_nil))))))))
      (pss_one (ps_ret (pe_tup (pa_cons (pv 1) (pa_cons (pe_callTy call_tuple_of (by rfl) T.tup boot_tuple' (pa_cons (pv 5) pa_nil)) pa_nil)))))), ?_⟩
    refine ⟨sz1 rfl, fun l nl => ⟨_, rfl, l, pl, [.int 1], rfl, rfl, upd_same, by omega, by omega, Nat.le_of_lt (small1000 (by show 1 * pl.toNat ≤ 1000; omega)), fun L0 nL0 => ⟨Nat.zero_le _, fun Mv nMv => ⟨_, _, rfl, ?_⟩⟩⟩⟩
    have sl := same_upd (o := .lst [.int 1]) nl
    have sL := same_upd (o := .lst (List.replicate pl.toNat [V.int 1]).flatten) nL0
    have sM := same_upd (o := .lst []) nMv
    have back : ∀ {a : Addr} {H1 H2 : Hp}, Same H1 H2 → H2 a = none → H1 a = none := fun {a H1 H2} s h => by
      cases hz : H1 a with
      | none => rfl
      | some o =>
        rw [s _ _ hz] at h
        cases h
    have nA : H Mv = none := back (sl.trans sL) nMv
    have nL0H : H L0 = none := back sl nL0
    have AD := dk.neD nA
    have AB := dk.neB nA
    have AC := ne_of_none dk.cel nA
    have dk0 := ((dk.same sl).same sL).same sM
    have eL0 : (upd (upd (upd H l (.lst [.int 1])) L0 (.lst (List.replicate pl.toNat [V.int 1]).flatten)) Mv (.lst [])) L0 = some (.lst ((ones pl).map V.int)) := sM _ _ (by
      rw [upd_same, ones_v]
      rfl)
    have LM0 : L0 ≠ Mv := fun z => by
      rw [← z, upd_same] at nMv
      cases nMv
    refine ⟨_, rfl, _, rfl, _, _, rfl, rfl, D, B, C, cells, m + 1, rfl, dk0, by omega, by omega, fun j H4 j0 j1 dk4 f4 => ⟨_, rfl, by omega, by omega, for_range (n := j.toNat) (fun i σ H3 => ∃ (L : Addr) (dg : List Int) (xs : List V) (ds : List PyData) (y6 y7 : Option V), σ = [some (.ref D), some (.int pl), some (.int m), some (.int 64), some (.ref L), some (.ref Mv), y6, y7] ∧ (dg.length : Int) = pl ∧ H3 L = some (.lst (dg.map V.int)) ∧ L ≠ D ∧ L ≠ B ∧ L ≠ Mv ∧ H3 Mv = some (.lst xs) ∧ DqAll D B H3 xs ds ∧ ds.length = i ∧ (∀ d ∈ ds, Plain 2 d) ∧ DeckAt D B C cells H3 ∧ Fr D B H H3)
      ⟨L0, ones pl, [], [], none, none, rfl, ones_len (by omega), f4 _ _ (dk.neD nL0H) (dk.neB nL0H) eL0, dk.neD nL0H, dk.neB nL0H, LM0, f4 _ _ AD AB upd_same, .nil, rfl, a_nil, dk4, (Fr.of_same (sl.trans (sL.trans sM))).trans f4⟩ ?_ ?_⟩⟩
    · rintro i σ H3 hi ⟨L, dg, xs, ds, y6, y7, rfl, hdl, eL, hLD, hLB, hLM, eA, hq, hl, hp, dk3, f3⟩
      refine ⟨_, rfl, _, rfl, sz1 rfl, fun Lw nLw => ?_⟩
      have s5 := same_upd (o := .lst words7) nLw
      refine ⟨D, B, C, cells, pl, Lw, rfl, dk3.same s5, p1, p80, upd_same, dk3.neD nLw, dk3.neB nLw, fun v d H6 okm pm qm dk6 f6 => ?_⟩
      have f36 := (Fr.of_same s5).trans f6
      have eL6 := f36 _ _ hLD hLB eL
      have eA6 := f36 _ _ AD AB eA
      have q6 := dk3.dataAll f36 hq
      have f06 := f3.trans f36
      refine ⟨_, rfl, _, rfl, D, B, L, v, d, pl, dg, rfl, qm, mv_of okm, eL6, hdl, fun M1 H7 nM1 s7 eM1 => ?_⟩
      have hne : 0 < (degD dg d).length := by
        rw [degD_len (mv_of okm)]
        omega
      refine ⟨M1, degD dg d, rfl, SqL.of eM1, hne, fun mm hmm hmax => ⟨_, rfl, _, _, rfl, rfl, _, rfl, ite2 (fun c => ?_) (fun c => ?_)⟩⟩
      · obtain ⟨x, i1, rest, hdx, i10, i11⟩ := mv_at1 (mv_of okm)
        subst hdx
        have qm7 := qm.same s7
        obtain ⟨ta, txs, rfl, te, tha⟩ := qm7.tupE
        cases tha with
        | cons h1 hr1' =>
        cases hr1' with
        | cons h2 hr2' =>
        cases h2
        refine ⟨_, rfl, ta, _, 1, .int i1, rfl, rfl, SqT.of te, atI_nat (j := 1) rfl, sz1 rfl, fun t nt => ?_⟩
        have st := same_upd (o := .tup [.str (Str.ofString "more"), .int i1, .int 1]) nt
        have s7t := s7.trans st
        have okn : isMv pl (.tuple [.str (Str.ofString "more"), .int i1, .int 1]) = true := mk_more i10 i11
        have pn : Plain 2 (.tuple [.str (Str.ofString "more"), .int i1, .int 1]) := plainM (ns := [i1, 1]) (.inr (.inr (.inr (.inr rfl)))) (by show 2 ≤ 4; decide) (by intro n hn; rcases List.mem_cons.mp hn with rfl | hn; omega; rw [List.mem_singleton.mp hn]; decide)
        have qn : Dq D B (upd H7 t (.tup [.str (Str.ofString "more"), .int i1, .int 1])) (.ref t) (.tuple [.str (Str.ofString "more"), .int i1, .int 1]) := .tup upd_same (.cons (.str _) (.cons (.int _) (.cons (.int _) .nil)))
        have dk8 := (dk6.same s7).same st
        have f8 := f06.trans (Fr.of_same s7t)
        have A8 := s7t _ _ eA6
        have L8 := s7t _ _ eL6
        have dq8 := (q6.same s7).same st
        obtain ⟨L6D, L6B⟩ : L ≠ D ∧ L ≠ B := ⟨hLD, hLB⟩
        refine ⟨_, rfl, _, rfl, D, B, L, (V.ref t), (PyData.tuple [.str (Str.ofString "more"), .int i1, .int 1]), pl, dg, rfl, qn, mv_of okn, L8, hdl, fun M2 G2 nM2 u2 eM2 => ?_⟩
        have fG2 := f8.trans (Fr.of_same u2)
        have dkG2 := dk8.same u2
        have eA2 := u2 _ _ A8
        have hM2A : M2 ≠ Mv := fun z => by
          rw [z, A8] at nM2
          cases nM2
        have xl2 := hq.len
        refine ⟨_, rfl, .inl ⟨rfl, _, SqL.of eA2⟩, _, rfl, Mv, _, _, rfl, rfl, eA2, small1000 (by omega), ?_⟩
        have fA : ∀ b o, b ≠ Mv → G2 b = some o → (upd G2 Mv (.lst (xs ++ [(V.ref t)]))) b = some o := fun b o hb h => by
          rw [upd_ne hb]
          exact h
        have pall : ∀ e ∈ ds ++ [(PyData.tuple [.str (Str.ofString "more"), .int i1, .int 1])], Plain 2 e := a_app hp (a_cons pn a_nil)
        refine ⟨M2, degD dg (PyData.tuple [.str (Str.ofString "more"), .int i1, .int 1]), xs ++ [(V.ref t)], ds ++ [(PyData.tuple [.str (Str.ofString "more"), .int i1, .int 1])], _, _, rfl, by rw [degD_len (mv_of okn)]; exact hdl, (upd_ne hM2A).trans eM2, dk8.neD nM2, dk8.neB nM2, hM2A, upd_same, plain_keepAll eA2 fA pall (DqAll.append (.cons (qn.same u2) .nil) (dq8.same u2)), by rw [List.length_append, hl]; rfl, pall, dkG2.but fA AD.symm AB.symm AC, fun b o h1 h2 h3 => fA _ _ (ne_of_none h3 nA) (fG2 _ _ h1 h2 h3)⟩
      · have qm7 := qm.same s7
        have dk8 := dk6.same s7
        have f8 := f06.trans (Fr.of_same s7)
        have A8 := s7 _ _ eA6
        have L8 := s7 _ _ eL6
        have dq8 := q6.same s7
        obtain ⟨L6D, L6B⟩ : L ≠ D ∧ L ≠ B := ⟨hLD, hLB⟩
        refine ⟨_, rfl, _, rfl, D, B, L, v, d, pl, dg, rfl, qm7, mv_of okm, L8, hdl, fun M2 G2 nM2 u2 eM2 => ?_⟩
        have fG2 := f8.trans (Fr.of_same u2)
        have dkG2 := dk8.same u2
        have eA2 := u2 _ _ A8
        have hM2A : M2 ≠ Mv := fun z => by
          rw [z, A8] at nM2
          cases nM2
        have xl2 := hq.len
        refine ⟨_, rfl, .inl ⟨rfl, _, SqL.of eA2⟩, _, rfl, Mv, _, _, rfl, rfl, eA2, small1000 (by omega), ?_⟩
        have fA : ∀ b o, b ≠ Mv → G2 b = some o → (upd G2 Mv (.lst (xs ++ [v]))) b = some o := fun b o hb h => by
          rw [upd_ne hb]
          exact h
        have pall : ∀ e ∈ ds ++ [d], Plain 2 e := a_app hp (a_cons pm a_nil)
        refine ⟨M2, degD dg d, xs ++ [v], ds ++ [d], _, _, rfl, by rw [degD_len (mv_of okm)]; exact hdl, (upd_ne hM2A).trans eM2, dk8.neD nM2, dk8.neB nM2, hM2A, upd_same, plain_keepAll eA2 fA pall (DqAll.append (.cons (qm7.same u2) .nil) (dq8.same u2)), by rw [List.length_append, hl]; rfl, pall, dkG2.but fA AD.symm AB.symm AC, fun b o h1 h2 h3 => fA _ _ (ne_of_none h3 nA) (fG2 _ _ h1 h2 h3)⟩
    · rintro σ H3 ⟨L, dg, xs, ds, y6, y7, rfl, hdl, eL, hLD, hLB, hLM, eA, hq, hl, hp, dk3, f3⟩
      refine ⟨_, rfl, _, rfl, Mv, xs, rfl, .inl ⟨SqL.of eA, fun a na => ⟨sz1 rfl, fun u nu => ?_⟩⟩⟩
      have s8 := same_upd (o := .tup xs) na
      have s9 := same_upd (o := .tup [.int pl, .ref a]) nu
      exact q (.ref u) ds _ ⟨p1, p80, by omega, hp⟩ (.tup upd_same (.cons (.int _) (.cons (.tup (s9 _ _ upd_same) ((hq.same s8).same s9)) .nil))) ((dk3.same s8).same s9) (f3.trans (Fr.of_same (s8.trans s9)))
end
end Jg
namespace Jg
open PySem PySem.Spec PyProof.Rows L2
/-! ### moves that are none, or nearly; moves of too great a degree -/
def oddA : List PyData := [.tuple [.str (S "gain"), .int 0, .int 0, .int 1], .tuple [.str (S "gain"), .int 0, .int 1], .tuple [.str (S "add"), .int 0, .int 0, .int 1, .int 1], .tuple [.str (S "add"), .int 0, .int 1, .int 0, .int 1], .tuple [.str (S "add"), .int 0, .int 1, .int 1, .int 1], .tuple [.str (S "turn")]]
def oddB (pl : Int) : List PyData := [.tuple [.str (S "turn"), .bool true], .tuple [.str (S "more"), .int 0, .bool true], .tuple [.str (S "more"), .int 0, .none], .tuple [.str (S "swap"), .int 0, .int 0], .tuple [.str (S "swap"), .int 0, .int pl]]
def oddC : List PyData := [.tuple [.str (S "Turn"), .int 0], .list [.str (S "turn"), .int 0], .tuple [.int 0, .str (S "turn")], .tuple [.str (S "gain"), .int 0, .int 1, .int (10 ^ (39 : Int).toNat)], .tuple [.str (S "more"), .int (-1), .int 1], .tuple [.str (S "take"), .int 0, .int 1, .int 1]]
def oddE : List PyData := [.tuple [], .none, .tuple [.str (S "turn"), .int 0, .int 0], .tuple [.str (S "more"), .int 0, .str (S "1")], .tuple [.str (S "add"), .int 0, .int 1, .int 1], .tuple [.str (S "gain"), .int 1, .int 0, .int 0]]
def oddM (pl : Int) : List PyData := ((oddA ++ oddB pl) ++ oddC) ++ oddE
theorem i60 {i : Int} (h : i.natAbs < 10 ^ 50) : Ok 0 60 (.int i) := by
  have h2 : i.natAbs < 2 ^ 180 := Nat.lt_trans h (by decide)
  refine ⟨(ok_intW (k := 180) (by decide) (by decide) h2).sh, (ok_intW (k := 180) (by decide) (by decide) h2).dp, ?_⟩
  simp only [PyData.shown]
  rw [PySem.ofString_length]
  exact Nat.le_trans (int_text_length_le10 (k := 50) (by decide) h) (by decide)
theorem s60 (y : String) (h : y ∈ ["gain", "add", "swap", "turn", "more", "Turn", "take", "1"]) : Ok 0 60 (.str (S y)) := by
  refine (ok_str ?_).mono (Nat.le_refl _) (by decide)
  revert y
  decide +kernel
theorem t60 {ds : List PyData} (h : ∀ d ∈ ds, Ok 0 60 d) (hl : ds.length ≤ 5) : Ok 5 13280 (.tuple ds) := (ok_tup h hl).mono (by decide) (by decide)
theorem oddM_ok {pl : Int} (h0 : 1 ≤ pl) (h1 : pl ≤ 80) : ∀ d ∈ oddM pl, Ok 5 13280 d := by
  have I : ∀ i : Int, i.natAbs < 10 ^ 50 → Ok 0 60 (.int i) := fun i h => i60 h
  have B : ∀ b, Ok 0 60 (.bool b) := fun b => (ok_bl b).mono (Nat.le_refl _) (by decide)
  have N : Ok 0 60 .none := ok_non.mono (Nat.le_refl _) (by decide)
  have i0 := I 0 (by decide)
  have i1 := I 1 (by decide)
  refine a_app (a_app (a_app ?_ ?_) ?_) ?_
  · exact a_cons (t60 (a_cons (s60 _ (by decide)) (a_cons i0 (a_cons i0 (a_cons i1 a_nil)))) (by decide)) (a_cons (t60 (a_cons (s60 _ (by decide)) (a_cons i0 (a_cons i1 a_nil))) (by decide)) (a_cons (t60 (a_cons (s60 _ (by decide)) (a_cons i0 (a_cons i0 (a_cons i1 (a_cons i1 a_nil))))) (by decide))
      (a_cons (t60 (a_cons (s60 _ (by decide)) (a_cons i0 (a_cons i1 (a_cons i0 (a_cons i1 a_nil))))) (by decide)) (a_cons (t60 (a_cons (s60 _ (by decide)) (a_cons i0 (a_cons i1 (a_cons i1 (a_cons i1 a_nil))))) (by decide)) (a_cons (t60 (a_cons (s60 _ (by decide)) a_nil) (by decide)) a_nil)))))
  · exact a_cons (t60 (a_cons (s60 _ (by decide)) (a_cons (B _) a_nil)) (by decide)) (a_cons (t60 (a_cons (s60 _ (by decide)) (a_cons i0 (a_cons (B _) a_nil))) (by decide)) (a_cons (t60 (a_cons (s60 _ (by decide)) (a_cons i0 (a_cons N a_nil))) (by decide)) (a_cons (t60 (a_cons (s60 _ (by decide)) (a_cons i0 (a_cons i0 a_nil))) (by decide))
      (a_cons (t60 (a_cons (s60 _ (by decide)) (a_cons i0 (a_cons (I pl (by omega)) a_nil))) (by show 3 ≤ 5; decide)) a_nil))))
  · exact a_cons (t60 (a_cons (s60 _ (by decide)) (a_cons i0 a_nil)) (by decide)) (a_cons ((ok_lst (n := 2) (a_cons (s60 "turn" (by decide)) (a_cons i0 a_nil)) (by decide)).mono (by decide) (by decide)) (a_cons (t60 (a_cons i0 (a_cons (s60 _ (by decide)) a_nil)) (by decide)) (a_cons (t60 (a_cons (s60 _ (by decide)) (a_cons i0 (a_cons i1 (a_cons (I _ (by decide)) a_nil)))) (by decide))
      (a_cons (t60 (a_cons (s60 _ (by decide)) (a_cons (I (-1) (by decide)) (a_cons i1 a_nil))) (by decide)) (a_cons (t60 (a_cons (s60 _ (by decide)) (a_cons i0 (a_cons i1 (a_cons i1 a_nil)))) (by decide)) a_nil)))))
  · exact a_cons (t60 a_nil (by decide)) (a_cons (N.mono (by decide) (by decide)) (a_cons (t60 (a_cons (s60 _ (by decide)) (a_cons i0 (a_cons i0 a_nil))) (by decide)) (a_cons (t60 (a_cons (s60 _ (by decide)) (a_cons i0 (a_cons (s60 _ (by decide)) a_nil))) (by decide)) (a_cons (t60 (a_cons (s60 _ (by decide)) (a_cons i0 (a_cons i1 (a_cons i1 a_nil)))) (by decide))
      (a_cons (t60 (a_cons (s60 _ (by decide)) (a_cons i1 (a_cons i0 (a_cons i0 a_nil)))) (by decide)) a_nil)))))
abbrev sOddM : Stmt := topS 29
theorem scOddM : FnScope ["_law_deck_here", "_law_places", "_law_some"] ["_law_deck_here", "_law_places"] (defScope sOddM) := ⟨rfl, rfl, rfl, by decide +kernel, rfl, by decide +kernel, by decide +kernel⟩
abbrev sHigh : Stmt := topS 30
theorem scHigh : FnScope ["_law_places"] ["_law_places"] (defScope sHigh) := ⟨rfl, rfl, rfl, by decide +kernel, rfl, by decide +kernel, by decide +kernel⟩
def pairH : List PyData := [.tuple [.str (S "add"), .int 0, .int 1, .int 1, .int 1], .tuple [.str (S "add"), .int 1, .int 0, .int 0, .int 1]]
theorem pairH_plain : ∀ d ∈ pairH, Plain 2 d := a_cons (plainM (x := Str.ofString "add") (ns := [0, 1, 1, 1]) (.inr (.inl rfl)) (by decide) (by decide)) (a_cons (plainM (x := Str.ofString "add") (ns := [1, 0, 0, 1]) (.inr (.inl rfl)) (by decide) (by decide)) a_nil)
theorem dq_rep {D B : Addr} {H : Hp} {xs : List V} {ds : List PyData} (h : DqAll D B H xs ds) : ∀ k : Nat, DqAll D B H (List.replicate k xs).flatten (List.replicate k ds).flatten
  | 0 => .nil
  | k + 1 => by
    rw [List.replicate_succ, List.replicate_succ, List.flatten_cons, List.flatten_cons]
    exact DqAll.append (dq_rep h k) h
theorem rep_len {α : Type} (ds : List α) : ∀ k : Nat, (List.replicate k ds).flatten.length = k * ds.length
  | 0 => by simp
  | k + 1 => by rw [List.replicate_succ, List.flatten_cons, List.length_append, rep_len ds k, Nat.succ_mul, Nat.add_comm]
theorem rep_all {P : PyData → Prop} {ds : List PyData} (h : ∀ d ∈ ds, P d) (k : Nat) : ∀ d ∈ (List.replicate k ds).flatten, P d := fun d hd => by
  obtain ⟨l, hl, hm⟩ := List.mem_flatten.mp hd
  rw [(List.mem_replicate.mp hl).2] at hm
  exact h d hm
theorem lit_tupE {D B a : Addr} {H : Hp} {xs : List V} {ds : List PyData} (e : H a = some (.tup xs)) (h : Dq D B H (.ref a) (.tuple ds)) : DqAll D B H xs ds := by
  cases h with
  | tup e2 ha =>
    rw [e] at e2
    cases e2
    exact ha
section
variable {P : Program} {w : World} {K : PySem.W.Frag} {mg : Str → Option Value} {base : Heap}
def spOddM : Sp := fun vs H Q _ => ∃ (v0 : V) (pl : Int), vs = [v0, .int pl] ∧ ∀ (p : Addr) (xs : List V) (H' : Hp), Same H H' → H p = none → H' p = some (.lst xs) → (∀ D B, H D ≠ none → H B ≠ none → DqAll D B H' xs (oddM pl)) → Q (.ref p) H'
set_option maxHeartbeats 2000000 in
theorem ok_oddM {f : Addr} {fd : FuncData} (F : Nm K mg "_law_odd_moves" sOddM ["_law_deck_here", "_law_places"] f fd) : FnOk P w K mg base CX0 1 f fd ["_law_deck_here", "_law_places"] spOddM := by
  refine F.F.ok scOddM (fun vs H Q E h => ?_) (fun cdv A outer s H vs Q E hr h => ?_)
  · obtain ⟨v0, pl, rfl, _⟩ := h
    rfl
  · obtain ⟨v0, pl, rfl, q⟩ := h
    refine ⟨_, pss_cons (ps_set (i := 2) scOddM.nd rfl (.inl rfl) (lit_list (ds := oddA) (lits_cons (lit_tup (lits_cons lit_str (lits_cons lit_int (lits_cons lit_int (lits_cons lit_int lits_nil))))) (lits_cons (lit_tup (lits_cons lit_str (lits_cons lit_int (lits_cons lit_int lits_nil)))) (lits_cons (lit_tup (lits_cons lit_str (lits_cons lit_int (lits_cons lit_int (lits_cons lit_int (lits_cons lit_int lits_nil))))))
          (lits_cons (lit_tup (lits_cons lit_str (lits_cons lit_int (lits_cons lit_int (lits_cons lit_int (lits_cons lit_int lits_nil)))))) (lits_cons (lit_tup (lits_cons lit_str (lits_cons lit_int (lits_cons lit_int (lits_cons lit_int (lits_cons lit_int lits_nil)))))) (lits_cons (lit_tup (lits_cons lit_str lits_nil)) lits_nil))))))))
      (pss_cons (ps_set (i := 2) scOddM.nd rfl (.inl rfl) (pe_op op_cat (pv 2) (pe_lst (pa_cons (lit_tup (ds := [.str (S "turn"), .bool true]) (lits_cons lit_str (lits_cons lit_bl lits_nil))) (pa_cons (lit_tup (ds := [.str (S "more"), .int 0, .bool true]) (lits_cons lit_str (lits_cons lit_int (lits_cons lit_bl lits_nil)))) (pa_cons (lit_tup (ds := [.str (S "more"), .int 0, .none]) (lits_cons lit_str (lits_cons lit_int (lits_cons lit_non lits_nil))))
          (pa_cons (lit_tup (ds := [.str (S "swap"), .int 0, .int 0]) (lits_cons lit_str (lits_cons lit_int (lits_cons lit_int lits_nil)))) (pa_cons (pe_tup (pa_cons pe_str (pa_cons pe_int (pa_cons (pv 1) pa_nil)))) pa_nil))))))))
      (pss_cons (ps_set (i := 2) scOddM.nd rfl (.inl rfl) (pe_op op_cat (pv 2) (lit_list (ds := oddC) (lits_cons (lit_tup (lits_cons lit_str (lits_cons lit_int lits_nil))) (lits_cons (lit_lst (lits_cons lit_str (lits_cons lit_int lits_nil))) (lits_cons (lit_tup (lits_cons lit_int (lits_cons lit_str lits_nil)))
          (lits_cons (lit_tup (lits_cons lit_str (lits_cons lit_int (lits_cons lit_int (lits_cons (lit_pow ⟨by decide, by decide, by decide⟩) lits_nil))))) (lits_cons (lit_tup (lits_cons lit_str (lits_cons lit_neg (lits_cons lit_int lits_nil)))) (lits_cons (lit_tup (lits_cons lit_str (lits_cons lit_int (lits_cons lit_int (lits_cons lit_int lits_nil))))) lits_nil)))))))))
      (pss_one (ps_ret (pe_op op_cat (pv 2) (lit_list (ds := oddE) (lits_cons (lit_tup lits_nil) (lits_cons lit_non (lits_cons (lit_tup (lits_cons lit_str (lits_cons lit_int (lits_cons lit_int lits_nil)))) (lits_cons (lit_tup (lits_cons lit_str (lits_cons lit_int (lits_cons lit_str lits_nil))))
          (lits_cons (lit_tup (lits_cons lit_str (lits_cons lit_int (lits_cons lit_int (lits_cons lit_int lits_nil))))) (lits_cons (lit_tup (lits_cons lit_str (lits_cons lit_int (lits_cons lit_int (lits_cons lit_int lits_nil))))) lits_nil)))))))))))), ?_⟩
    intro p1 v1 H1 s1 n1 e1 l1 a1
    refine ⟨_, rfl, fun w1 G1 t1 b1 => fun w2 G2 t2 b2 => fun w3 G3 t3 b3 => fun w4 G4 t4 b4 => ⟨_, rfl, sz1 rfl, fun p2 n2 => ⟨sz1 rfl, fun p3 n3 => ?_⟩⟩⟩
    have t5 := same_upd (o := .tup [.str (Str.ofString "swap"), .int 0, .int pl]) n2
    have t6 := same_upd (o := .lst [w1, w2, w3, w4, .ref p2]) n3
    have t26 := t2.trans (t3.trans (t4.trans (t5.trans t6)))
    have t16 := t1.trans t26
    refine ⟨p1, p3, v1, _, rfl, rfl, t16 _ _ e1, upd_same, by rw [l1]; exact sz1 (l := oddA ++ oddB 0) rfl, fun p4 n4 => ?_⟩
    have s4 := same_upd (o := .lst (v1 ++ [w1, w2, w3, w4, .ref p2])) n4
    refine ⟨_, rfl, fun p5 v5 H5 s5 n5 e5 l5 a5 => ⟨p4, p5, v1 ++ [w1, w2, w3, w4, .ref p2], v5, rfl, rfl, s5 _ _ upd_same, e5, by rw [List.length_append, l1, l5]; exact sz1 (l := (oddA ++ oddB 0) ++ oddC) rfl, fun p6 n6 => ?_⟩⟩
    have s6 := same_upd (o := .lst ((v1 ++ [w1, w2, w3, w4, .ref p2]) ++ v5)) n6
    refine ⟨_, rfl, fun p7 v7 H7 s7 n7 e7 l7 a7 => ⟨p6, p7, (v1 ++ [w1, w2, w3, w4, .ref p2]) ++ v5, v7, rfl, rfl, s7 _ _ upd_same, e7, by rw [List.length_append, List.length_append, l1, l5, l7]; exact sz1 (l := oddM 0) rfl, fun p8 n8 => ?_⟩⟩
    have s8 := same_upd (o := .lst (((v1 ++ [w1, w2, w3, w4, .ref p2]) ++ v5) ++ v7)) n8
    have sAll := s1.trans (t16.trans (s4.trans (s5.trans (s6.trans (s7.trans s8)))))
    have back : ∀ {a : Addr} {H1 H2 : Hp}, Same H1 H2 → H2 a = none → H1 a = none := fun {a H1 H2} s h => by
      cases hz : H1 a with
      | none => rfl
      | some o =>
        rw [s _ _ hz] at h
        cases h
    refine q p8 _ _ sAll (back (s1.trans (t16.trans (s4.trans (s5.trans (s6.trans s7))))) n8) upd_same fun D B nD nB => ?_
    have k1D := Same.some s1 nD
    have k1B := Same.some s1 nB
    have k2D := Same.some t1 k1D
    have k2B := Same.some t1 k1B
    have k3D := Same.some t2 k2D
    have k3B := Same.some t2 k2B
    have k4D := Same.some t3 k3D
    have k4B := Same.some t3 k3B
    have k5D := Same.some s4 (Same.some (t4.trans (t5.trans t6)) k4D)
    have k5B := Same.some s4 (Same.some (t4.trans (t5.trans t6)) k4B)
    have k6D := Same.some s6 (Same.some s5 k5D)
    have k6B := Same.some s6 (Same.some s5 k5B)
    have r4 := s4.trans (s5.trans (s6.trans (s7.trans s8)))
    have r6 := s6.trans (s7.trans s8)
    refine DqAll.append ((a7 D B k6D k6B).same s8) (DqAll.append ((a5 D B k5D k5B).same r6) (DqAll.append ?_ ((a1 D B nD nB).same (t16.trans r4))))
    exact .cons ((b1 D B k1D k1B).same (t26.trans r4)) (.cons ((b2 D B k2D k2B).same ((t3.trans (t4.trans (t5.trans t6))).trans r4)) (.cons ((b3 D B k3D k3B).same ((t4.trans (t5.trans t6)).trans r4)) (.cons ((b4 D B k4D k4B).same ((t5.trans t6).trans r4)) (.cons (.tup ((t6.trans r4) _ _ upd_same) (.cons (.str _) (.cons (.int _) (.cons (.int _) .nil)))) .nil))))
def spHigh : Sp := fun vs H Q _ => ∃ (pl : Int) (D0 : Addr), vs = [.int pl] ∧ H D0 ≠ none ∧ ∀ (p : Addr) (xs : List V) (hs : List PyData) (H' : Hp), Same H H' → H' p = some (.tup xs) → (∀ D B, H D ≠ none → H B ≠ none → DqAll D B H' xs hs) → (∀ d ∈ hs, Plain 2 d) → hs.length ≤ 8 → Q (.ref p) H'
theorem ok_high {f : Addr} {fd : FuncData} (F : Nm K mg "_law_high" sHigh ["_law_places"] f fd) : FnOk P w K mg base CX0 1 f fd ["_law_places"] spHigh := by
  refine F.F.ok scHigh (fun vs H Q E h => ?_) (fun cdv A outer s H vs Q E hr h => ?_)
  · obtain ⟨pl, D0, rfl, _⟩ := h
    rfl
  · obtain ⟨pl, D0, rfl, n0, q⟩ := h
    refine ⟨_, pss_cons (ps_if (pt_cmpR op_lt (pv 0) pe_int (nomark _)) (pss_one (ps_ret (lit_tup (ds := [.tuple [.str (S "turn"), .int 0]]) (lits_cons (lit_tup (lits_cons lit_str (lits_cons lit_int lits_nil))) lits_nil)))) pss_nil)
      (pss_one (ps_ret (pe_op op_catA (pe_op op_repT (lit_tup (ds := pairH) (lits_cons (lit_tup (lits_cons lit_str (lits_cons lit_int (lits_cons lit_int (lits_cons lit_int (lits_cons lit_int lits_nil)))))) (lits_cons (lit_tup (lits_cons lit_str (lits_cons lit_int (lits_cons lit_int (lits_cons lit_int (lits_cons lit_int lits_nil)))))) lits_nil))) pe_int)
        (lit_tup (ds := pairH) (lits_cons (lit_tup (lits_cons lit_str (lits_cons lit_int (lits_cons lit_int (lits_cons lit_int (lits_cons lit_int lits_nil)))))) (lits_cons (lit_tup (lits_cons lit_str (lits_cons lit_int (lits_cons lit_int (lits_cons lit_int (lits_cons lit_int lits_nil)))))) lits_nil)))))), ?_⟩
    refine ⟨_, rfl, _, _, rfl, rfl, _, rfl, ite2 (fun c => fun v1 H1 s1 h1 => ?_) (fun c => fun v1 H1 s1 h1 => ?_)⟩
    · obtain ⟨a, xs, rfl, e, ha⟩ := (h1 D0 D0 n0 n0).tupE
      exact q a xs _ H1 s1 e (fun D B nD nB => lit_tupE e (h1 D B nD nB)) (a_cons (plainM (x := Str.ofString "turn") (ns := [0]) (.inr (.inr (.inr (.inl rfl)))) (by decide) (by decide)) a_nil) (by show 1 ≤ 8; decide)
    · obtain ⟨a, xs, rfl, e, ha⟩ := (h1 D0 D0 n0 n0).tupE
      have hxl : xs.length = 2 := ha.len
      refine ⟨a, 3, xs, rfl, rfl, SqT.of e, (fun z => by rw [z] at hxl; cases hxl), by decide, by decide, by omega, fun p np => ?_⟩
      have s2 := same_upd (o := .tup (List.replicate (3 : Int).toNat xs).flatten) np
      intro v3 H3 s3 h3
      have n1 := Same.some s1 n0
      have n2 := Same.some s2 n1
      obtain ⟨a3, xs3, rfl, e3, ha3⟩ := (h3 D0 D0 n2 n2).tupE
      have hxl3 : xs3.length = 2 := ha3.len
      refine cat_read (s3 _ _ upd_same) e3 (by rw [rep_len, hxl, hxl3]; decide) fun c4 H4 s4 e4 => ?_
      refine q c4 _ ((List.replicate 3 pairH).flatten ++ pairH) H4 (s1.trans (s2.trans (s3.trans s4))) e4 (fun D B nD nB => ?_) (a_app (rep_all pairH_plain 3) pairH_plain) (by rw [List.length_append, rep_len]; decide)
      have g1 := lit_tupE e (h1 D B nD nB)
      have k2D := Same.some s2 (Same.some s1 nD)
      have k2B := Same.some s2 (Same.some s1 nB)
      exact DqAll.append ((lit_tupE e3 (h3 D B k2D k2B)).same s4) (dq_rep (((g1.same s2).same s3).same s4) 3)
end
end Jg
namespace Jg
open PySem PySem.Spec PyProof.Rows L2
/-! ### the law's body: the tape and its parts -/
structure Env32 (P : Program) (w : World) (K : PySem.W.Frag) (mg : Str → Option Value) (base : Heap) : Prop where
  bn : Bn mg
  deck : ∃ f fd, Cal P w K mg base "_law_deck" 1 ["_law_script"] (spDeck K) f fd
  draw : ∃ f fd, Cal P w K mg base "_law_draw" 1 ["_law_deck_here", "_law_many"] spDraw f fd
  one : ∃ f fd, Cal P w K mg base "_law_one" 2 ["_law_deck_here", "_law_items"] spOne f fd
  odd : ∃ f fd, Cal P w K mg base "_law_odd" 3 ["_law_deck_here"] spOdd f fd
  bent : ∃ f fd, Cal P w K mg base "_law_bent" 8 ["_law_deck_here", "_law_value", "_law_deep"] (spB 5) f fd
  tape : ∃ f fd, Cal P w K mg base "_law_tape" 6 ["_law_deck_here", "_law_places", "_law_many", "_law_most"] spTape f fd
  oddm : ∃ f fd, Cal P w K mg base "_law_odd_moves" 1 ["_law_deck_here", "_law_places"] spOddM f fd
  high : ∃ f fd, Cal P w K mg base "_law_high" 1 ["_law_places"] spHigh f fd
  lerr : ∃ f fd, Cal P w K mg base "_law_tape_error" 3 ["_law_value"] spTErr f fd
  terr : ∃ f fd, Cal P w K mg base "tape_error" 4 ["value"] spTErr f fd ∧ KBinds K fd ["value"] ["value"] kwOne kwOneV
abbrev sLaw : Stmt := topS 31
abbrev nLaw : List Str := ["_law_script", "_law_deck_here", "_law_turn", "_law_places", "_law_tape_here", "_law_moves", "_law_many", "_law_some", "_law_at", "_law_odd_here", "_law_value", "_law_held", "_law_due", "_law_k"]
theorem scLaw : FnScope nLaw ["_law_script"] (defScope sLaw) := ⟨rfl, rfl, rfl, by decide +kernel, rfl, by decide +kernel, by decide +kernel⟩
def stL (i : Nat) : Stmt := (forBody ((defBody sLaw).getD 1 (.Pass ⟨0, 0, 0, 0⟩))).getD i (.Pass ⟨0, 0, 0, 0⟩)
abbrev LX (P : Program) (w : World) (K : PySem.W.Frag) (mg : Str → Option Value) (base : Heap) (f : Addr) (cdv : Value) (Ar : Around) (out : List Env) (s0 : Shared) (H0 : Hp) (E : XK) : Cx :=
  (cxOf CX0 P w K mg base nLaw "law" (defScope sLaw) f cdv Ar out s0 H0 E).nox
/-! data that is short enough to be shown -/
def Fine (d : PyData) : Prop := Ok 8 16100000 d
theorem plain_two {d : PyData} (h : Plain 2 d) : Ok 5 13280 d := plain_ok 2 d h
theorem fine_tup {k c n : Nat} {ds : List PyData} (h : ∀ d ∈ ds, Ok k c d) (hn : ds.length ≤ n) (hk : k ≤ 7) (hc : n * (c + 2) + 3 ≤ 16100000) : Fine (.tuple ds) := (ok_tup h hn).mono (by omega) hc
theorem fine_lst {k c n : Nat} {ds : List PyData} (h : ∀ d ∈ ds, Ok k c d) (hn : ds.length ≤ n) (hk : k ≤ 7) (hc : n * (c + 2) + 3 ≤ 16100000) : Fine (.list ds) := (ok_lst h hn).mono (by omega) hc
theorem okI {i : Int} (h : i.natAbs ≤ 10 ^ 21) : Ok 6 5340000 (.int i) := (ok_int25 (Nat.lt_of_le_of_lt h (by decide))).mono (by decide) (by decide)
theorem okS {ds : List PyData} (h : ∀ d ∈ ds, Ok 5 13280 d) (hn : ds.length ≤ 401) : Ok 6 5340000 (.tuple ds) := (ok_tup h hn).mono (by decide) (by decide)
theorem okS1 {ds : List PyData} (h : ∀ d ∈ ds, Ok 5 13280 d) (hn : ds.length ≤ 80) : Ok 6 1100000 (.tuple ds) := (ok_tup h hn).mono (by decide) (by decide)
theorem okL1 {ds : List PyData} (h : ∀ d ∈ ds, Ok 5 13280 d) (hn : ds.length ≤ 80) : Ok 6 1100000 (.list ds) := (ok_lst h hn).mono (by decide) (by decide)
theorem okI1 {i : Int} (h : i.natAbs ≤ 10 ^ 21) : Ok 6 1100000 (.int i) := (ok_int25 (Nat.lt_of_le_of_lt h (by decide))).mono (by decide) (by decide)
theorem oki5 {i : Int} (h : i.natAbs ≤ 10 ^ 21) : Ok 5 13280 (.int i) := (ok_int25 (Nat.lt_of_le_of_lt h (by decide))).mono (by decide) (by decide)
/-! what lies does not lie at a new place -/
mutual
theorem Dq.fresh {D B Z : Addr} {H : Hp} (hz : H Z = none) : ∀ (d : PyData) (v : V), Dq D B H v d → Dq Z Z H v d
  | .none, _, h => by
    cases h
    exact .non
  | .bool _, _, h => by
    cases h
    exact .bl _
  | .int _, _, h => by
    cases h
    exact .int _
  | .str _, _, h => by
    cases h
    exact .str _
  | .list ds, _, h => by
    cases h with
    | lst h1 h2 h3 h4 => exact .lst (fun z => by rw [z, hz] at h3; cases h3) (fun z => by rw [z, hz] at h3; cases h3) h3 (DqAll.fresh hz ds _ h4)
  | .tuple ds, _, h => by
    cases h with
    | tup h3 h4 => exact .tup h3 (DqAll.fresh hz ds _ h4)
  | .dict ds, _, h => by
    cases h with
    | dct h3 => exact .dct h3
theorem DqAll.fresh {D B Z : Addr} {H : Hp} (hz : H Z = none) : ∀ (ds : List PyData) (vs : List V), DqAll D B H vs ds → DqAll Z Z H vs ds
  | [], _, h => by
    cases h
    exact .nil
  | d :: ds, _, h => by
    cases h with
    | cons h1 h2 => exact .cons (Dq.fresh hz d _ h1) (DqAll.fresh hz ds _ h2)
end
structure Par where
  D : Addr
  B : Addr
  C : Addr
  cells : List Int
  pl : Int
  ds : List PyData
  r : Addr
  a : Addr
  xa : List V
  many : Int
/-- the deck is there -/
structure W0 (D B C : Addr) (cells : List Int) (σ : L2.St) (H : Hp) : Prop where
  len : σ.length = 14
  s1 : σ[1]? = some (some (.ref D))
  dk : DeckAt D B C cells H
theorem W0.set {D B C : Addr} {cells : List Int} {σ : L2.St} {H : Hp} {v : Option V} (w : W0 D B C cells σ H) {i : Nat} (h : i ≠ 1) : W0 D B C cells (σ.set i v) H := ⟨by rw [List.length_set]; exact w.len, by rw [get_set_ne h]; exact w.s1, w.dk⟩
/-- the tape and its parts -/
structure WB (p : Par) (σ : L2.St) (H : Hp) : Prop where
  len : σ.length = 14
  s1 : σ[1]? = some (some (.ref p.D))
  s3 : σ[3]? = some (some (.int p.pl))
  s4 : σ[4]? = some (some (.ref p.r))
  s5 : σ[5]? = some (some (.ref p.a))
  s6 : σ[6]? = some (some (.int p.many))
  dk : DeckAt p.D p.B p.C p.cells H
  er : H p.r = some (.tup [.int p.pl, .ref p.a])
  ea : H p.a = some (.tup p.xa)
  qa : DqAll p.D p.B H p.xa p.ds
  tp : Taped p.pl p.ds
  m2 : 2 ≤ p.many
  m6 : p.many ≤ 601
section
variable {p : Par} {σ : L2.St} {H H' : Hp} {v : Option V}
theorem WB.set (w : WB p σ H) {i : Nat} (h : 6 < i) : WB p (σ.set i v) H :=
  ⟨by rw [List.length_set]; exact w.len, by rw [get_set_ne (by omega)]; exact w.s1, by rw [get_set_ne (by omega)]; exact w.s3, by rw [get_set_ne (by omega)]; exact w.s4, by rw [get_set_ne (by omega)]; exact w.s5, by rw [get_set_ne (by omega)]; exact w.s6, w.dk, w.er, w.ea, w.qa, w.tp, w.m2, w.m6⟩
theorem WB.go (w : WB p σ H) (dk : DeckAt p.D p.B p.C p.cells H') (f : Fr p.D p.B H H') : WB p σ H' :=
  ⟨w.len, w.s1, w.s3, w.s4, w.s5, w.s6, dk, f _ _ (tup_ne w.dk w.er).1 (tup_ne w.dk w.er).2 w.er, f _ _ (tup_ne w.dk w.ea).1 (tup_ne w.dk w.ea).2 w.ea, w.dk.dataAll f w.qa, w.tp, w.m2, w.m6⟩
theorem WB.same (w : WB p σ H) (s : Same H H') : WB p σ H' := w.go (w.dk.same s) (Fr.of_same s)
theorem WB.at_ (w : WB p σ H) {i : Nat} (h : i < 14) {v : Option V} : (σ.set i v)[i]? = some v := get_set_eq (by rw [w.len]; exact h)
end
structure WS (p : Par) (L : Addr) (xs : List V) (ls : List PyData) (σ : L2.St) (H : Hp) : Prop extends WB p σ H where
  s7 : σ[7]? = some (some (.ref L))
  eL : H L = some (.lst xs)
  nL : L ≠ p.D ∧ L ≠ p.B ∧ L ≠ p.C
  q : DqAll p.D p.B H xs ls
  z : DqAll L L H xs ls
  fine : ∀ d ∈ ls, Fine d
  cnt : ls.length ≤ 60
section
variable {p : Par} {L : Addr} {xs : List V} {ls : List PyData} {σ : L2.St} {H H' : Hp} {v : Option V}
theorem WS.set (w : WS p L xs ls σ H) {i : Nat} (h : 7 < i) : WS p L xs ls (σ.set i v) H := ⟨w.toWB.set (by omega), by rw [get_set_ne (by omega)]; exact w.s7, w.eL, w.nL, w.q, w.z, w.fine, w.cnt⟩
theorem WS.go (w : WS p L xs ls σ H) (dk : DeckAt p.D p.B p.C p.cells H') (f : Fr p.D p.B H H') : WS p L xs ls σ H' :=
  ⟨w.toWB.go dk f, w.s7, f _ _ w.nL.1 w.nL.2.1 w.eL, w.nL, w.dk.dataAll f w.q, DqAll.two w.dk.isD w.dk.isB f ls xs w.q w.z, w.fine, w.cnt⟩
theorem WS.same (w : WS p L xs ls σ H) (s : Same H H') : WS p L xs ls σ H' := w.go (w.dk.same s) (Fr.of_same s)
/-- a new list in the place of some -/
theorem WB.take (w : WB p σ H) {N : Addr} (n : H N = none) (q : DqAll p.D p.B H xs ls) (fine : ∀ d ∈ ls, Fine d) (cnt : ls.length ≤ 60) : WS p N xs ls (σ.set 7 (some (.ref N))) (upd H N (.lst xs)) :=
  ⟨(w.same (same_upd n)).set (by decide), w.at_ (by decide), upd_same, ⟨w.dk.neD n, w.dk.neB n, mt Eq.symm (ne_of_none w.dk.cel n)⟩, q.same (same_upd n), (DqAll.fresh n ls xs q).same (same_upd n), fine, cnt⟩
theorem WS.grow (w : WS p L xs ls σ H) {N : Addr} {ys : List V} {es : List PyData} (n : H N = none) (q : DqAll p.D p.B H ys es) (fine : ∀ d ∈ es, Fine d) (cnt : ls.length + es.length ≤ 60) : WS p N (xs ++ ys) (ls ++ es) (σ.set 7 (some (.ref N))) (upd H N (.lst (xs ++ ys))) :=
  w.toWB.take n (DqAll.append q w.q) (a_app w.fine fine) (by rw [List.length_append]; exact cnt)
theorem WS.sz (w : WS p L xs ls σ H) {n : Nat} (hn : n ≤ 40) : xs.length + n ≤ sizeLine := by
  have h1 := w.q.len
  have h2 := w.cnt
  exact Nat.le_of_lt (small1000 (by omega))
end
theorem WS.push {p : Par} {L : Addr} {xs : List V} {ls : List PyData} {σ : L2.St} {H : Hp} {v : V} {d : PyData} (w : WS p L xs ls σ H) (qv : Dq p.D p.B H v d) (zv : Dq L L H v d) (fine : Fine d) (cnt : ls.length + 1 ≤ 60) : WS p L (xs ++ [v]) (ls ++ [d]) σ (upd H L (.lst (xs ++ [v]))) := by
  have fb : ∀ b o, b ≠ L → H b = some o → (upd H L (.lst (xs ++ [v]))) b = some o := fun b o hb h => by
    rw [upd_ne hb]
    exact h
  have fL : Fr L L H (upd H L (.lst (xs ++ [v]))) := fun b o hb _ h => fb b o hb h
  have isL : ∃ zs, H L = some (.lst zs) := ⟨_, w.eL⟩
  have tu : ∀ {b : Addr} {zs : List V}, H b = some (.tup zs) → (upd H L (.lst (xs ++ [v]))) b = some (.tup zs) := fun {b zs} h => fb _ _ (fun z => by rw [z, w.eL] at h; cases h) h
  exact ⟨⟨w.len, w.s1, w.s3, w.s4, w.s5, w.s6, w.dk.but fb w.nL.1.symm w.nL.2.1.symm w.nL.2.2.symm, tu w.er, tu w.ea, plain_keepAll w.eL fb w.tp.pl2 w.qa, w.tp, w.m2, w.m6⟩,
    w.s7, upd_same, w.nL, DqAll.append (.cons (Dq.two isL isL fL _ _ zv qv) .nil) (DqAll.two isL isL fL ls xs w.z w.q), DqAll.append (.cons (Dq.keep isL isL fL _ _ zv) .nil) (DqAll.keep isL isL fL ls xs w.z), a_app w.fine (a_cons fine a_nil), by rw [List.length_append]; exact cnt⟩
theorem Taped.okd {pl : Int} {ds : List PyData} (h : Taped pl ds) : ∀ d ∈ ds, Ok 5 13280 d := fun d hd => plain_two (h.pl2 d hd)
theorem Taped.okp {pl : Int} {ds : List PyData} (h : Taped pl ds) : Ok 6 1100000 (.int pl) := okI1 (by have := h.p1; have := h.p80; omega)
theorem Taped.tds {pl : Int} {ds : List PyData} (h : Taped pl ds) : Ok 6 1100000 (.tuple ds) := okS1 h.okd (by have := h.d30; omega)
theorem Taped.lds {pl : Int} {ds : List PyData} (h : Taped pl ds) : Ok 6 1100000 (.list ds) := okL1 h.okd (by have := h.d30; omega)
theorem Taped.plain {pl : Int} {ds : List PyData} (h : Taped pl ds) : Plain 4 (tapeD pl ds) := by
  have d30 := h.d30
  have p1 := h.p1
  have p80 := h.p80
  exact .inr ⟨_, rfl, by show 2 ≤ 3; decide, a_cons (Leaf.plain (.inl ⟨pl, rfl, by omega⟩) 3) (a_cons (.inr ⟨_, rfl, by show ds.length ≤ 61; omega, h.pl2⟩) a_nil)⟩
theorem fine2 {x y : PyData} {c : Nat} (hx : Ok 6 c x) (hy : Ok 6 c y) (hc : c ≤ 8000000) : Fine (.tuple [x, y]) := fine_tup (n := 2) (a_cons hx (a_cons hy a_nil)) (Nat.le_refl 2) (by decide) (by omega)
section
variable {P : Program} {w : World} {K : PySem.W.Frag} {mg : Str → Option Value} {base : Heap} {f : Addr} {cdv : Value} {Ar : Around} {out : List Env} {s0 : Shared} {H0 : Hp} {E : XK}
/-- places, tape_here, moves, many -/
def t0 : TS := fun Dn σ H => ∃ D B C cells, W0 D B C cells σ H ∧ ∀ p σ' H', WB p σ' H' → Dn.nx σ' H'
theorem b0 {rest : List Stmt} {u : TS} (T : Env32 P w K mg base) (hr : Room 8 (LX P w K mg base f cdv Ar out s0 H0 E).A) (hR : PSs (LX P w K mg base f cdv Ar out s0 H0 E) rest u) : ∃ t, PSs (LX P w K mg base f cdv Ar out s0 H0 E) (stL 0 :: stL 1 :: stL 2 :: rest) t ∧ ∀ Dn σ H, t0 { Dn with nx := u Dn } σ H → t Dn σ H := by
  obtain ⟨fO, fdO, GO⟩ := T.one
  obtain ⟨fR, fdR, GR⟩ := T.tape
  refine ⟨_, pss_cons (ps_set (i := 3) scLaw.nd rfl (.inl rfl) (pe_call GO.F (hr.mono (by decide)) (by rfl) GO.g GO.kp GO.b .nil pass0 (pa_cons (pv 1) (pa_cons (pe_lst (pa_cons pe_int (pa_cons pe_int (pa_cons pe_int (pa_cons pe_int (pa_cons pe_int (pa_cons pe_int pa_nil))))))) pa_nil))))
    (pss_cons (ps_set (i := 4) scLaw.nd rfl (.inr rfl) (pe_call GR.F (hr.mono (by decide)) (by rfl) GR.g GR.kp GR.b .nil pass0 (pa_cons (pv 1) (pa_cons (pv 3)
      (pa_cons (pe_call GO.F (hr.mono (by decide)) (by rfl) GO.g GO.kp GO.b .nil pass0 (pa_cons (pv 1) (pa_cons (pe_lst (pa_cons pe_int (pa_cons pe_int (pa_cons pe_int pa_nil)))) pa_nil))) (pa_cons pe_int pa_nil))))))
    (pss_cons (ps_par (i := 5) (j := 6) rfl scLaw.nd rfl rfl (by decide) rfl rfl (pa_cons (pe_ix ix_tup (pv 4) pe_int (fun _ _ => rfl)) (pa_cons (pe_call GO.F (hr.mono (by decide)) (by rfl) GO.g GO.kp GO.b .nil pass0 (pa_cons (pv 1) (pa_cons (pe_lst (pa_cons pe_int (pa_cons pe_int pa_nil))) pa_nil))) pa_nil)) rfl) hR)), ?_⟩
  rintro Dn σ H ⟨D, B, C, cells, w0, q⟩
  refine ⟨_, w0.s1, sz1 rfl, fun L nL => ?_⟩
  have s1 := same_upd (o := .lst [.int 1, .int 2, .int 3, .int 5, .int 12, .int 80]) nL
  have dk1 := w0.dk.same s1
  refine ⟨D, B, C, cells, L, _, rfl, dk1, upd_same, w0.dk.neD nL, w0.dk.neB nL, by show 0 < 6; decide, by show 6 < 1073741824; decide, fun i v H2 hv dk2 f2 => ?_⟩
  obtain ⟨pl, rfl, p1, p80⟩ : ∃ pl : Int, v = .int pl ∧ 1 ≤ pl ∧ pl ≤ 80 := by
    match i, hv with
    | 0, hv => exact ⟨1, (Option.some.inj hv).symm, by decide, by decide⟩
    | 1, hv => exact ⟨2, (Option.some.inj hv).symm, by decide, by decide⟩
    | 2, hv => exact ⟨3, (Option.some.inj hv).symm, by decide, by decide⟩
    | 3, hv => exact ⟨5, (Option.some.inj hv).symm, by decide, by decide⟩
    | 4, hv => exact ⟨12, (Option.some.inj hv).symm, by decide, by decide⟩
    | 5, hv => exact ⟨80, (Option.some.inj hv).symm, by decide, by decide⟩
    | n + 6, hv => cases hv
  have g1 : (σ.set 3 (some (.int pl)))[1]? = some (some (.ref D)) := by
    rw [get_set_ne (by decide)]
    exact w0.s1
  have g3 : (σ.set 3 (some (.int pl)))[3]? = some (some (.int pl)) := get_set_eq (by rw [w0.len]; decide)
  refine ⟨_, g1, _, g3, _, g1, sz1 rfl, fun M nM => ?_⟩
  have s3 := same_upd (o := .lst [.int 3, .int 10, .int 30]) nM
  have dk3 := dk2.same s3
  refine ⟨D, B, C, cells, M, _, rfl, dk3, upd_same, dk2.neD nM, dk2.neB nM, by show 0 < 3; decide, by show 3 < 1073741824; decide, fun i v H4 hv dk4 f4 => ?_⟩
  obtain ⟨m, rfl, m0, m1⟩ : ∃ m : Int, v = .int m ∧ 0 ≤ m ∧ m ≤ 30 := by
    match i, hv with
    | 0, hv => exact ⟨3, (Option.some.inj hv).symm, by decide, by decide⟩
    | 1, hv => exact ⟨10, (Option.some.inj hv).symm, by decide, by decide⟩
    | 2, hv => exact ⟨30, (Option.some.inj hv).symm, by decide, by decide⟩
    | n + 3, hv => cases hv
  refine ⟨D, B, C, cells, pl, m, rfl, dk4, p1, p80, m0, m1, fun v ds H5 tp hv dk5 f5 => ?_⟩
  obtain ⟨r, xr, rfl, er, hr3⟩ := hv.tupE
  obtain ⟨x1, x2, rfl, h1, h2⟩ := dq_two hr3
  cases h1.intE
  obtain ⟨a, xa, rfl, ea, ha⟩ := h2.tupE
  have l4 : ((σ.set 3 (some (.int pl))).set 4 (some (.ref r))).length = 14 := by
    rw [List.length_set, List.length_set, w0.len]
  have h4 : ((σ.set 3 (some (.int pl))).set 4 (some (.ref r)))[4]? = some (some (.ref r)) := get_set_eq (by rw [List.length_set, w0.len]; decide)
  have h1' : ((σ.set 3 (some (.int pl))).set 4 (some (.ref r)))[1]? = some (some (.ref D)) := by
    rw [get_set_ne (by decide)]
    exact g1
  refine ⟨_, h4, r, _, 1, .ref a, rfl, rfl, SqT.of er, atI_nat (j := 1) rfl, _, h1', sz1 rfl, fun N nN => ?_⟩
  have s6 := same_upd (o := .lst [.int 600, .int 601]) nN
  have dk6 := dk5.same s6
  refine ⟨D, B, C, cells, N, _, rfl, dk6, upd_same, dk5.neD nN, dk5.neB nN, by show 0 < 2; decide, by show 2 < 1073741824; decide, fun i v H7 hv dk7 f7 => ?_⟩
  obtain ⟨k, rfl, k2, k6⟩ : ∃ k : Int, v = .int k ∧ 2 ≤ k ∧ k ≤ 601 := by
    match i, hv with
    | 0, hv => exact ⟨600, (Option.some.inj hv).symm, by decide, by decide⟩
    | 1, hv => exact ⟨601, (Option.some.inj hv).symm, by decide, by decide⟩
    | n + 2, hv => cases hv
  have f57 := (Fr.of_same s6).trans f7
  refine ⟨_, _, rfl, q ⟨D, B, C, cells, pl, ds, r, a, xa, k⟩ _ H7 ⟨?_, ?_, ?_, ?_, ?_, ?_, dk7, f57 _ _ (tup_ne dk5 er).1 (tup_ne dk5 er).2 er, f57 _ _ (tup_ne dk5 ea).1 (tup_ne dk5 ea).2 ea, dk5.dataAll f57 ha, tp, k2, k6⟩⟩
  · rw [List.length_set, List.length_set, l4]
  · rw [get_set_ne (by decide), get_set_ne (by decide)]
    exact h1'
  · rw [get_set_ne (by decide), get_set_ne (by decide), get_set_ne (by decide)]
    exact g3
  · rw [get_set_ne (by decide), get_set_ne (by decide)]
    exact h4
  · rw [get_set_ne (by decide)]
    exact get_set_eq (by rw [l4]; decide)
  · exact get_set_eq (by rw [List.length_set, l4]; decide)
end
end Jg
namespace Jg
open PySem PySem.Spec PyProof.Rows L2
/-! ### the law's body: the values -/
section
variable {P : Program} {w : World} {K : PySem.W.Frag} {mg : Str → Option Value} {base : Heap} {f : Addr} {cdv : Value} {Ar : Around} {out : List Env} {s0 : Shared} {H0 : Hp} {E : XK}
/-- some = [eight] -/
def t3 : TS := fun Dn σ H => ∃ p, WB p σ H ∧ ∀ L xs ls σ' H', WS p L xs ls σ' H' → ls.length = 8 → Dn.nx σ' H'
theorem b3 (T : Env32 P w K mg base) : PS (LX P w K mg base f cdv Ar out s0 H0 E) (stL 3) t3 := by
  refine ps_imp (ps_set (i := 7) scLaw.nd rfl (.inl rfl) (pe_lst (pa_cons (pv 4) (pa_cons (pe_tup (pa_cons pe_int (pa_cons (pv 5) pa_nil))) (pa_cons (pe_tup (pa_cons pe_int (pa_cons (pv 5) pa_nil))) (pa_cons (pe_tup (pa_cons pe_bl (pa_cons (pv 5) pa_nil)))
    (pa_cons (pe_tup (pa_cons (pv 3) (pa_cons (pe_callTy call_list_of (by rfl) T.bn.lst boot_list' (pa_cons (pv 5) pa_nil)) pa_nil))) (pa_cons (pe_callTy call_list_of (by rfl) T.bn.lst boot_list' (pa_cons (pv 4) pa_nil)) (pa_cons (pe_op op_catA (pv 4) (pe_tup (pa_cons pe_int pa_nil))) (pa_cons (pe_tup (pa_cons (pv 3) pa_nil)) pa_nil)))))))))) ?_
  rintro Dn σ H ⟨p, wb, q⟩
  have tp := wb.tp
  refine ⟨_, wb.s4, _, wb.s5, sz1 rfl, fun t1 n1 => ⟨_, wb.s5, sz1 rfl, fun t2 n2 => ⟨_, wb.s5, sz1 rfl, fun t3 n3 => ?_⟩⟩⟩
  have s1 := same_upd (o := .tup [.int 0, .ref p.a]) n1
  have s2 := same_upd (o := .tup [.int 81, .ref p.a]) n2
  have s3 := same_upd (o := .tup [.bl true, .ref p.a]) n3
  have s13 := s1.trans (s2.trans s3)
  have w3 := wb.same s13
  refine ⟨_, wb.s3, _, wb.s5, p.a, p.xa, rfl, .inr (SqT.of w3.ea), fun l4 n4 => ⟨sz1 rfl, fun t4 m4 => ?_⟩⟩
  have s4a := same_upd (o := .lst p.xa) n4
  have s4b := same_upd (o := .tup [.int p.pl, .ref l4]) m4
  have s4 := s4a.trans s4b
  have w4 := w3.same s4
  refine ⟨_, wb.s4, p.r, _, rfl, .inr (SqT.of w4.er), fun l5 n5 => ?_⟩
  have s5 := same_upd (o := .lst [.int p.pl, .ref p.a]) n5
  refine ⟨_, wb.s4, sz1 rfl, fun p6 n6 => ?_⟩
  have s6 := same_upd (o := .tup [.int 0]) n6
  refine cat_read ((s5.trans s6) _ _ w4.er) upd_same (by show 2 + 1 ≤ 1000; decide) fun c7 H7 s7 g7 => ⟨_, wb.s3, sz1 rfl, fun t8 n8 => ⟨sz1 rfl, fun N nN => ?_⟩⟩
  have s8 := same_upd (o := .tup [.int p.pl]) n8
  have s78 := s7.trans s8
  have s58 := (s5.trans s6).trans s78
  have s48 := s4.trans s58
  have s38 := s3.trans s48
  have s28 := s2.trans s38
  have w8 := wb.same (s1.trans s28)
  have qr : DqAll p.D p.B _ [.int p.pl, .ref p.a] [.int p.pl, .tuple p.ds] := .cons (.int _) (.cons (.tup w8.ea w8.qa) .nil)
  refine q N _ [tapeD p.pl p.ds, .tuple [.int 0, .tuple p.ds], .tuple [.int 81, .tuple p.ds], .tuple [.bool true, .tuple p.ds], .tuple [.int p.pl, .list p.ds], .list [.int p.pl, .tuple p.ds], .tuple ([.int p.pl, .tuple p.ds] ++ [.int 0]), .tuple [.int p.pl]] _ _ (w8.take nN ?_ ?_ (by show 8 ≤ 60; decide)) rfl
  · exact .cons (.tup w8.er qr) (.cons (.tup (s28 _ _ upd_same) (.cons (.int _) (.cons (.tup w8.ea w8.qa) .nil))) (.cons (.tup (s38 _ _ upd_same) (.cons (.int _) (.cons (.tup w8.ea w8.qa) .nil))) (.cons (.tup (s48 _ _ upd_same) (.cons (.bl _) (.cons (.tup w8.ea w8.qa) .nil)))
      (.cons (.tup (s58 _ _ upd_same) (.cons (.int _) (.cons (.lst (w3.dk.neD n4) (w3.dk.neB n4) ((s4b.trans s58) _ _ upd_same) w8.qa) .nil))) (.cons (.lst (w4.dk.neD n5) (w4.dk.neB n5) ((s6.trans s78) _ _ upd_same) qr) (.cons (.tup (s8 _ _ g7) (DqAll.append (.cons (.int _) .nil) qr)) (.cons (.tup upd_same (.cons (.int _) .nil)) .nil)))))))
  · have o1 : Ok 6 1100000 (.bool true) := (ok_bl true).mono (by decide) (by decide)
    exact a_cons (fine2 tp.okp tp.tds (by decide)) (a_cons (fine2 (okI1 (by decide)) tp.tds (by decide)) (a_cons (fine2 (okI1 (by decide)) tp.tds (by decide)) (a_cons (fine2 o1 tp.tds (by decide)) (a_cons (fine2 tp.okp tp.lds (by decide))
      (a_cons (fine_lst (n := 2) (a_cons tp.okp (a_cons tp.tds a_nil)) (Nat.le_refl 2) (by decide) (by decide)) (a_cons (fine_tup (n := 3) (a_cons tp.okp (a_cons tp.tds (a_cons (okI1 (by decide)) a_nil))) (Nat.le_refl 3) (by decide) (by decide)) (a_cons (fine_tup (n := 1) (a_cons tp.okp a_nil) (Nat.le_refl 1) (by decide) (by decide)) a_nil)))))))
/-- three more: many moves, moves of too great a degree, a text for the places -/
def t4 : TS := fun Dn σ H => ∃ p L xs ls, WS p L xs ls σ H ∧ ls.length = 8 ∧ ∀ L xs ls σ' H', WS p L xs ls σ' H' → ls.length = 11 → Dn.nx σ' H'
theorem b4 (T : Env32 P w K mg base) (hr : Room 8 (LX P w K mg base f cdv Ar out s0 H0 E).A) : PS (LX P w K mg base f cdv Ar out s0 H0 E) (stL 4) t4 := by
  obtain ⟨fH, fdH, GH⟩ := T.high
  refine ps_imp (ps_set (i := 7) scLaw.nd rfl (.inl rfl) (pe_op op_cat (pv 7) (pe_lst (pa_cons (pe_tup (pa_cons (pv 3) (pa_cons (pe_op op_repT (pe_tup (pa_cons (pe_tup (pa_cons pe_str (pa_cons pe_int pa_nil))) pa_nil)) (pv 6)) pa_nil)))
    (pa_cons (pe_tup (pa_cons (pv 3) (pa_cons (pe_op op_catA (pv 5) (pe_call GH.F (hr.mono (by decide)) (by rfl) GH.g GH.kp GH.b .nil pass0 (pa_cons (pv 3) pa_nil))) pa_nil))) (pa_cons (pe_tup (pa_cons (pe_callTy call_str_int (by rfl) T.bn.str boot_str' (pa_cons (pv 3) pa_nil)) (pa_cons (pv 5) pa_nil))) pa_nil)))))) ?_
  rintro Dn σ H ⟨p, L, xs, ls, ws, hm, q⟩
  have tp := ws.tp
  have p1' := tp.p1
  have p80 := tp.p80
  have d30 := tp.d30
  have hal := ws.qa.len
  have m2 := ws.m2
  have m6 := ws.m6
  refine ⟨_, ws.s7, _, ws.s3, sz1 rfl, fun p1 n1 => ⟨sz1 rfl, fun p2 n2 => ?_⟩⟩
  have s1 := same_upd (o := .tup [.str (Str.ofString "turn"), .int 0]) n1
  have s2 := same_upd (o := .tup [.ref p1]) n2
  refine ⟨_, ws.s6, p2, p.many, [.ref p1], rfl, rfl, SqT.of upd_same, (fun z => nomatch z), m2, by omega, by show 1 ≤ 1000; decide, fun p3 n3 => ⟨sz1 rfl, fun t3 m3 => ?_⟩⟩
  have s3 := same_upd (o := .tup (List.replicate p.many.toNat [V.ref p1]).flatten) n3
  have s3b := same_upd (o := .tup [.int p.pl, .ref p3]) m3
  have s23 := s2.trans (s3.trans s3b)
  have s13 := s1.trans s23
  have w3 := ws.same s13
  refine ⟨_, ws.s3, _, ws.s5, _, ws.s3, p.pl, p.D, rfl, w3.dk.nD, fun hh hx hs H4 s4 e4 dq4 pl4 l4 => ?_⟩
  have hd4 := dq4 p.D p.B w3.dk.nD w3.dk.nB
  have hhl := hd4.len
  refine cat_read (s4 _ _ w3.ea) e4 (by omega) fun c5 H5 s5 g5 => ⟨sz1 rfl, fun t5 n5 => ?_⟩
  have s5b := same_upd (o := .tup [.int p.pl, .ref c5]) n5
  have s45 := s4.trans (s5.trans s5b)
  refine ⟨_, ws.s3, p.pl, rfl, PySem.Flt.log2_lt_of (by decide) (Nat.lt_of_le_of_lt (show p.pl.natAbs ≤ 80 by omega) (by decide)), _, ws.s5, sz1 rfl, fun t6 n6 => ⟨sz1 rfl, fun M nM => ?_⟩⟩
  have s6 := same_upd (o := .tup [.str (toString p.pl), .ref p.a]) n6
  have s7 := same_upd (o := .lst [.ref t3, .ref t5, .ref t6]) nM
  have s67 := s6.trans s7
  have s47 := s45.trans s67
  have w7 := w3.same s47
  refine ⟨L, M, xs, _, rfl, rfl, w7.eL, upd_same, ws.sz (n := 3) (by decide), fun N nN => ?_⟩
  have q1 : DqAll p.D p.B _ [.ref p1] [.tuple [.str (Str.ofString "turn"), .int 0]] := .cons (.tup ((s23.trans s47) _ _ upd_same) (.cons (.str _) (.cons (.int _) .nil))) .nil
  have o1 : Ok 5 13280 (.tuple [.str (Str.ofString "turn"), .int 0]) := plain_two (plainM (x := Str.ofString "turn") (ns := [0]) (.inr (.inr (.inr (.inl rfl)))) (by decide) (by decide))
  refine q N _ _ _ _ (w7.grow (es := [.tuple [.int p.pl, .tuple (List.replicate p.many.toNat [PyData.tuple [.str (Str.ofString "turn"), .int 0]]).flatten], .tuple [.int p.pl, .tuple (p.ds ++ hs)], .tuple [.str (toString p.pl), .tuple p.ds]]) nN ?_ ?_ (by rw [hm]; show 8 + 3 ≤ 60; decide)) (by rw [List.length_append, hm]; rfl)
  · exact .cons (.tup (s47 _ _ upd_same) (.cons (.int _) (.cons (.tup ((s3b.trans s47) _ _ upd_same) (dq_rep q1 _)) .nil))) (.cons (.tup (s67 _ _ upd_same) (.cons (.int _) (.cons (.tup ((s5b.trans s67) _ _ g5) (DqAll.append (hd4.same ((s5.trans s5b).trans s67)) w7.qa)) .nil))) (.cons (.tup (s7 _ _ upd_same) (.cons (.str _) (.cons (.tup w7.ea w7.qa) .nil))) .nil))
  · have oL : Ok 6 8000000 (.tuple (List.replicate p.many.toNat [PyData.tuple [.str (Str.ofString "turn"), .int 0]]).flatten) := (ok_tup (n := 601) (rep_all (a_cons o1 a_nil) _) (by rw [rep_len]; show p.many.toNat * 1 ≤ 601; omega)).mono (by decide) (by decide)
    exact a_cons (fine2 (tp.okp.mono (Nat.le_refl _) (by decide)) oL (by decide)) (a_cons (fine2 tp.okp (okS1 (a_app tp.okd (fun d hd => plain_two (pl4 d hd))) (by rw [List.length_append]; omega)) (by decide)) (a_cons (fine2 ((ok_text (i := p.pl) (by omega)).mono (by decide) (by decide)) tp.tds (by decide)) a_nil))
/-- at -/
def t5 : TS := fun Dn σ H => ∃ p L xs ls, WS p L xs ls σ H ∧ ls.length = 11 ∧ ∀ (k : Nat) σ' H', k ≤ 30 → WS p L xs ls σ' H' → σ'[8]? = some (some (.int (k : Int))) → Dn.nx σ' H'
theorem b5 (T : Env32 P w K mg base) (hr : Room 8 (LX P w K mg base f cdv Ar out s0 H0 E).A) : PS (LX P w K mg base f cdv Ar out s0 H0 E) (stL 5) t5 := by
  obtain ⟨fD, fdD, GD⟩ := T.draw
  refine ps_imp (ps_set (i := 8) scLaw.nd rfl (.inl rfl) (pe_call GD.F (hr.mono (by decide)) (by rfl) GD.g GD.kp GD.b .nil pass0 (pa_cons (pv 1) (pa_cons (pe_op op_add (pe_callB call_len_seq (by rfl) T.bn.len PySem.boot_len (pa_cons (pv 5) pa_nil)) pe_int) pa_nil)))) ?_
  rintro Dn σ H ⟨p, L, xs, ls, ws, hm, q⟩
  have hal := ws.qa.len
  have d30 := ws.tp.d30
  refine ⟨_, ws.s1, _, ws.s5, p.a, p.xa, rfl, .inr (SqT.of ws.ea), _, _, rfl, rfl, p.D, p.B, p.C, p.cells, _, rfl, ws.dk, by omega, by omega, fun j H1 j0 j1 dk1 f1 => ?_⟩
  obtain ⟨k, rfl⟩ : ∃ k : Nat, j = (k : Int) := ⟨j.toNat, by omega⟩
  exact q k _ H1 (by omega) ((ws.go dk1 f1).set (by decide)) (ws.toWB.at_ (by decide))
/-- the moves with one more -/
def t6 : TS := fun Dn σ H => ∃ p L xs ls, WS p L xs ls σ H ∧ ls.length = 11 ∧ (∃ k : Nat, k ≤ 30 ∧ σ[8]? = some (some (.int (k : Int)))) ∧ ∀ L xs ls σ' H', WS p L xs ls σ' H' → ls.length = 34 → Dn.nx σ' H'
set_option maxHeartbeats 2000000 in
theorem b6 (T : Env32 P w K mg base) (hr : Room 8 (LX P w K mg base f cdv Ar out s0 H0 E).A) : PS (LX P w K mg base f cdv Ar out s0 H0 E) (stL 6) t6 := by
  obtain ⟨fM, fdM, GM⟩ := T.oddm
  refine ps_imp (ps_for PassesOwn.never rfl (pi_list (pe_call GM.F (hr.mono (by decide)) (by rfl) GM.g GM.kp GM.b .nil pass0 (pa_cons (pv 1) (pa_cons (pv 3) pa_nil)))) (pg_name (i := 9) scLaw.nd rfl (.inl rfl))
    (pss_one (ps_expr (pe_bm PySem.F.plainAttrs_list PySem.F.slot_list_append PySem.F.type_list_append mt_append (pv 7) (pa_cons (pe_tup (pa_cons (pv 3) (pa_cons (pe_op op_catA (pe_op op_catA (pe_slice sl_tupA (pv 5) po_none (po_some (pv 8))) (pe_tup (pa_cons (pv 9) pa_nil))) (pe_slice sl_tupA (pv 5) (po_some (pv 8)) po_none)) pa_nil))) pa_nil))))) ?_
  rintro Dn σ H ⟨p, L, xs, ls, ws, hm, ⟨k, hk, g8⟩, q⟩
  have tp := ws.tp
  have p1' := tp.p1
  have p80 := tp.p80
  have d30 := tp.d30
  have nLH : H L ≠ none := by
    rw [ws.eL]
    exact fun z => nomatch z
  refine ⟨_, ws.s1, _, ws.s3, .ref p.D, p.pl, rfl, fun M ms H1 s1 nM eM dqM => ?_⟩
  have w1 := ws.same s1
  have qM := dqM p.D p.B ws.dk.nD ws.dk.nB
  have zM := dqM L L nLH nLH
  have LM : L ≠ M := ne_of_none ws.eL nM
  have okM := oddM_ok p1' p80
  have lM : (oddM p.pl).length = 23 := rfl
  refine ⟨M, rfl, ⟨_, SqL.of eM⟩, for_list (K := K) (a := M) (xs := ms) (fun i σ3 H3 => ∃ xs ls, WS p L xs ls σ3 H3 ∧ ls.length = 11 + i ∧ σ3[8]? = some (some (.int (k : Int))) ∧ H3 M = some (.lst ms) ∧ DqAll p.D p.B H3 ms (oddM p.pl) ∧ DqAll L L H3 ms (oddM p.pl)) ⟨xs, ls, w1, hm, g8, eM, qM, zM⟩ (fun i σ3 H3 _ ⟨_, _, _, _, _, h, _⟩ => SqL.of h) ?_ ?_⟩
  · rintro i x σ3 H3 hi ⟨xs, ls, w3, hl, g83, eM3, q3, z3⟩
    have hil : i < ms.length := (List.getElem?_eq_some_iff.mp hi).1
    have hml := q3.len
    rw [lM] at hml
    obtain ⟨d, hd, qd⟩ := q3.at_ i x hi
    obtain ⟨d', hd', zd⟩ := z3.at_ i x hi
    rw [hd] at hd'
    cases hd'
    have okd := okM d (List.mem_of_getElem? hd)
    have w4 := w3.set (i := 9) (v := some x) (by decide)
    have g9 : (σ3.set 9 (some x))[9]? = some (some x) := w3.toWB.at_ (by decide)
    have g84 : (σ3.set 9 (some x))[8]? = some (some (.int (k : Int))) := by
      rw [get_set_ne (by decide)]
      exact g83
    have hal := w4.qa.len
    refine ⟨_, w4.s7, .inl ⟨rfl, _, SqL.of w4.eL⟩, _, w4.s3, _, w4.s5, _, g84, _, rfl, sl_read w4.ea fun c1 H4 s4 g4 => ⟨_, g9, sz1 rfl, fun t5 n5 => ?_⟩⟩
    have s5 := same_upd (o := .tup [x]) n5
    have g4' : H4 c1 = some (.tup (p.xa.take k)) := g4.trans (congrArg (fun z => some (HO.tup z)) (cutV_to _ k))
    refine cat_read (s5 _ _ g4') upd_same (by rw [List.length_take]; show min k _ + 1 ≤ 1000; omega) fun c6 H6 s6 g6 => ⟨_, w4.s5, _, g84, _, rfl, ?_⟩
    dsimp only [tNoPart]
    have s46 := s4.trans (s5.trans s6)
    refine sl_read (s46 _ _ w4.ea) fun c7 H7 s7 g7 => ?_
    have g7' : H7 c7 = some (.tup (p.xa.drop k)) := g7.trans (congrArg (fun z => some (HO.tup z)) (cutV_from _ k))
    refine cat_read (s7 _ _ g6) g7' (by rw [List.length_append, List.length_take, List.length_drop]; show min k _ + 1 + _ ≤ 1000; omega) fun c8 H8 s8 g8' => ⟨sz1 rfl, fun t9 n9 => ?_⟩
    have s9 := same_upd (o := .tup [.int p.pl, .ref c8]) n9
    have s49 := s46.trans (s7.trans (s8.trans s9))
    have w9 := w4.same s49
    have hxl := w9.q.len
    refine ⟨L, xs, _, rfl, rfl, w9.eL, small1000 (by omega), ?_⟩
    have e8 := s9 _ _ g8'
    have isL : ∃ zs, (upd H8 t9 (.tup [.int p.pl, .ref c8])) L = some (.lst zs) := ⟨_, w9.eL⟩
    have fL : Fr L L (upd H8 t9 (.tup [.int p.pl, .ref c8])) (upd (upd H8 t9 (.tup [.int p.pl, .ref c8])) L (.lst (xs ++ [.ref t9]))) := fun c o h _ h2 => by
      rw [upd_ne h]
      exact h2
    refine ⟨xs ++ [.ref t9], ls ++ [.tuple [.int p.pl, .tuple ((p.ds.take k ++ [d]) ++ p.ds.drop k)]], w9.push ?_ ?_ ?_ (by omega), by rw [List.length_append, hl]; rfl, g84, (upd_ne LM.symm).trans (s49 _ _ eM3), DqAll.two isL isL fL _ _ (z3.same s49) (q3.same s49), DqAll.keep isL isL fL _ _ (z3.same s49)⟩
    · exact .tup upd_same (.cons (.int _) (.cons (.tup e8 (DqAll.append (w9.qa.drop k) (DqAll.append (.cons (qd.same s49) .nil) (w9.qa.take k)))) .nil))
    · have za := plain_anyAll (Z := L) (Y := L) tp.pl2 w9.qa
      exact .tup upd_same (.cons (.int _) (.cons (.tup e8 (DqAll.append (za.drop k) (DqAll.append (.cons (zd.same s49) .nil) (za.take k)))) .nil))
    · exact fine2 tp.okp (okS1 (a_app (a_app (fun d hd => tp.okd d (List.mem_of_mem_take hd)) (a_cons okd a_nil)) (fun d hd => tp.okd d (List.mem_of_mem_drop hd))) (by rw [List.length_append, List.length_append, List.length_take, List.length_drop]; show min k _ + 1 + _ ≤ 80; omega)) (by decide)
  · rintro σ3 H3 ⟨xs, ls, w3, hl, _, _, q3, _⟩
    have hml := q3.len
    rw [lM] at hml
    exact q L xs ls σ3 H3 w3 (by omega)
end
end Jg
namespace Jg
open PySem PySem.Spec PyProof.Rows L2
/-! ### the law's body: all values judged -/
theorem ok_nr {i : Int} {x : Str} (h : i.natAbs ≤ 1000) (hx : (reprText x).length ≤ 40) : Ok 1 200 (.tuple [.int i, .str x]) :=
  (ok_tup (k := 0) (c := 40) (n := 2) (a_cons ((ok_int25 (i := i) (Nat.lt_of_le_of_lt h (by decide))).mono (by decide) (by decide)) (a_cons (ok_str hx) a_nil)) (Nat.le_refl 2)).mono (by decide) (by decide)
theorem ok_wr {x : Str} (hx : (reprText x).length ≤ 40) : Ok 1 200 (wr x) :=
  (ok_tup (k := 0) (c := 40) (n := 2) (a_cons (ok_non.mono (by decide) (by decide)) (a_cons (ok_str hx) a_nil)) (Nat.le_refl 2)).mono (by decide) (by decide)
theorem ok_no : Ok 1 200 .none := ok_non.mono (by decide) (by decide)
theorem mvGo_ok {pl : Int} : ∀ (ds : List PyData) (k : Nat) (dg : List Int), k + ds.length ≤ 1000 → Ok 1 200 (mvGo pl ds k dg)
  | [], _, _, _ => ok_no
  | d :: ds, k, dg, h => by
    rw [List.length_cons] at h
    unfold mvGo
    split
    · split
      · exact mvGo_ok ds _ _ (by omega)
      · exact ok_nr (by omega) (by decide +kernel)
    · exact ok_nr (by omega) (by decide +kernel)
theorem tapeErr_ok (d : PyData) : Ok 1 200 (tapeErr d) := by
  have w1 : Ok 1 200 (wr (Str.ofString "tape")) := ok_wr (by decide +kernel)
  have w2 : Ok 1 200 (wr (Str.ofString "places")) := ok_wr (by decide +kernel)
  have w3 : Ok 1 200 (wr (Str.ofString "moves")) := ok_wr (by decide +kernel)
  cases hb : isTu d with
  | false =>
    rw [tapeErr_tu hb]
    exact w1
  | true =>
    cases d with
    | tuple ds =>
      by_cases hl : ds.length = 2
      · obtain ⟨a, b, rfl⟩ := two_of hl
        cases hw : within 1 80 a with
        | false =>
          rw [tapeErr_pl hw]
          exact w2
        | true =>
          obtain ⟨i, rfl, _, _⟩ := within_is hw
          rw [tapeErr_go hw]
          cases hb2 : isTu b with
          | false =>
            rw [mvsErr_tu hb2]
            exact w3
          | true =>
            cases b with
            | tuple bs =>
              by_cases h : (bs.length : Int) ≤ 600
              · rw [mvsErr_go h]
                exact mvGo_ok bs 0 _ (by omega)
              · rw [mvsErr_len h]
                exact w3
            | _ => cases hb2
      · rw [tapeErr_len hl]
        exact w1
    | _ => cases hb
theorem lineA : 16100000 ≤ sizeLine := by
  rw [sizeLine_eq]
  decide
theorem Fine.zl {d : PyData} (h : Fine d) : d.shown.length ≤ sizeLine := Nat.le_trans h.ln lineA
theorem Fine.dl {d : PyData} (h : Fine d) : d.depth ≤ 60 := Nat.le_trans h.dp (by decide)
theorem boot_repr' : bootBuiltins "repr" = some (.builtin "repr") := by decide +kernel
theorem W0.at_ {D B C : Addr} {cells : List Int} {σ : L2.St} {H : Hp} (w : W0 D B C cells σ H) {i : Nat} (h : i < 14) {v : Option V} : (σ.set i v)[i]? = some v := get_set_eq (by rw [w.len]; exact h)
theorem W0.same {D B C : Addr} {cells : List Int} {σ : L2.St} {H H' : Hp} (w : W0 D B C cells σ H) (s : Same H H') : W0 D B C cells σ H' := ⟨w.len, w.s1, w.dk.same s⟩
section
variable {P : Program} {w : World} {K : PySem.W.Frag} {mg : Str → Option Value} {base : Heap} {f : Addr} {cdv : Value} {Ar : Around} {out : List Env} {s0 : Shared} {H0 : Hp} {E : XK}
def t7 : TS := fun Dn σ H => ∃ p L xs ls, WS p L xs ls σ H ∧ ls.length = 34 ∧ ∀ σ' H', W0 p.D p.B p.C p.cells σ' H' → Dn.nx σ' H'
set_option maxHeartbeats 4000000 in
theorem b7 (T : Env32 P w K mg base) (hr : Room 8 (LX P w K mg base f cdv Ar out s0 H0 E).A) (hg : (LX P w K mg base f cdv Ar out s0 H0 E).A.guards = some []) : PS (LX P w K mg base f cdv Ar out s0 H0 E) (stL 7) t7 := by
  obtain ⟨fB, fdB, GB⟩ := T.bent
  obtain ⟨fX, fdX, GX⟩ := T.odd
  obtain ⟨fE, fdE, GE⟩ := T.lerr
  obtain ⟨fR, fdR, GR, kR⟩ := T.terr
  have hu := hr.units
  refine ps_imp (ps_for PassesOwn.never rfl (pi_list (pe_op op_cat (pe_op op_cat (pv 7) (pe_lc (own := [("_law_k", 13)]) (g := gName 13) (tt := tYes) rfl scLaw.nd (pi_range1 rfl T.bn.rng (pa_cons pe_int pa_nil)) (blkOk_by (N := nLaw) (sc := defScope sLaw) (by decide +kernel))
        (fun _ _ _ _ _ => pg_name (i := 13) scLaw.nd rfl (.inl rfl)) (fun _ _ _ _ _ => pts_nil) (fun _ _ _ _ _ => pe_call GB.F hr (by rfl) GB.g GB.kp GB.b .nil pass0 (pa_cons (pv 1) (pa_cons (pv 4) (pa_cons pe_int pa_nil))))))
      (pe_lst (pa_cons (pe_call GX.F (hr.mono (by decide)) (by rfl) GX.g GX.kp GX.b .nil pass0 (pa_cons (pv 1) pa_nil)) pa_nil)))) (pg_name (i := 10) scLaw.nd rfl (.inl rfl))
    (pss_cons (ps_par (i := 11) (j := 12) rfl scLaw.nd rfl rfl (by decide) rfl rfl (pa_cons (pe_callB (call_reprD hg hu) (by rfl) T.bn.rep boot_repr' (pa_cons (pv 10) pa_nil)) (pa_cons (pe_call GE.F (hr.mono (by decide)) (by rfl) GE.g GE.kp GE.b .nil pass0 (pa_cons (pv 10) pa_nil)) pa_nil)) rfl)
    (pss_one (ps_if (PW.pt (pw_or (pt_cmpR op_ne (pe_callB (call_reprD hg hu) (by rfl) T.bn.rep boot_repr' (pa_cons (pe_lst (pa_cons (pe_call GR.F (hr.mono (by decide)) (by rfl) GR.g GR.kp GR.b .nil pass0 (pa_cons (pv 10) pa_nil)) (pa_cons (pe_callKO GR.F (hr.mono (by decide)) (by rfl) GR.g GR.kp kR pass0 (pk_cons (pv 10) pk_nil)) pa_nil))) pa_nil))
        (pe_callB (call_reprD hg hu) (by rfl) T.bn.rep boot_repr' (pa_cons (pe_lst (pa_cons (pv 12) (pa_cons (pv 12) pa_nil))) pa_nil)) (nomark _))
      (pw_or1 (pt_cmpR op_ne (pe_callB (call_reprD hg hu) (by rfl) T.bn.rep boot_repr' (pa_cons (pv 10) pa_nil)) (pv 11) (nomark _))))) (pss_one (ps_ret pe_bl)) pss_nil)))) ?_
  rintro Dn σ H ⟨p, L, xs, ls, ws, hm, q⟩
  refine ⟨_, ws.s7, 9, rfl, by decide, by decide, fun D1 nD1 => ?_⟩
  have nD := ws.dk.neD nD1
  have nB := ws.dk.neB nD1
  have nC := ne_of_none ws.dk.cel nD1
  refine lc_range (lo := 0) (n := 9) (fun i H3 => ∃ acc es, H3 D1 = some (.lst acc) ∧ DqAll p.D p.B H3 acc es ∧ DqAll D1 D1 H3 acc es ∧ (∀ d ∈ es, Fine d) ∧ es.length = i ∧ DeckAt p.D p.B p.C p.cells H3 ∧ Fr p.D p.B H H3) ⟨[], [], upd_same, .nil, .nil, a_nil, rfl, ws.dk.same (same_upd nD1), Fr.of_same (same_upd nD1)⟩ ?_ ?_
  · rintro i H3 hi ⟨acc, es, e3, ha, haZ, hf, hl, dk3, f3⟩
    have w4 := ws.go dk3 f3
    have hal := ha.len
    have tape : Dq p.D p.B H3 (.ref p.r) (tapeD p.pl p.ds) := .tup w4.er (.cons (.int _) (.cons (.tup w4.ea w4.qa) .nil))
    refine ⟨wipe1, tYes_if ⟨_, (w1_out (i := 13) (k := 1) (by decide)).trans ws.s1, _, (w1_out (i := 13) (k := 4) (by decide)).trans ws.s4, p.D, p.B, p.C, p.cells, .ref p.r, tapeD p.pl p.ds, rfl, dk3, tape, ws.tp.plain, fun v4 d4 H4 o4 q4 z4 dk4 f4 => ?_⟩⟩
    have e4 := f4 _ _ nD nB e3
    have a4 := dk3.dataAll f4 ha
    have a4Z := DqAll.two dk3.isD dk3.isB f4 es acc ha haZ
    have q4Z := z4 D1 (by rw [e3]; exact fun z => nomatch z)
    have fL : Fr D1 D1 H4 (upd H4 D1 (.lst (acc ++ [v4]))) := fun c o h _ h2 => by
      rw [upd_ne h]
      exact h2
    have isL : ∃ zs, H4 D1 = some (.lst zs) := ⟨_, e4⟩
    refine ⟨acc, e4, small1000 (by omega), acc ++ [v4], es ++ [d4], upd_same, ?_, ?_, a_app hf (a_cons (o4.mono (by decide) (by decide)) a_nil), by rw [List.length_append, hl]; rfl, dk4.but (fun c o h h2 => fL c o h h h2) nD.symm nB.symm nC, fun c o h1 h2 h3 => ?_⟩
    · exact DqAll.append (.cons (Dq.two isL isL fL d4 v4 q4Z q4) .nil) (DqAll.two isL isL fL es acc a4Z a4)
    · exact DqAll.append (.cons (Dq.keep isL isL fL d4 v4 q4Z) .nil) (DqAll.keep isL isL fL es acc a4Z)
    · rw [upd_ne (ne_of_none h3 nD1)]
      exact f4 _ _ h1 h2 (f3 _ _ h1 h2 h3)
  · rintro H3 ⟨acc, es, e3, ha, _, hf, hl, dk3, f3⟩
    have w4 := ws.go dk3 f3
    have hal := ha.len
    have hxl := w4.q.len
    have hl6 : es.length = 9 := hl
    refine ⟨L, D1, xs, acc, rfl, rfl, w4.eL, e3, by rw [hal, hl6]; exact w4.sz (by decide), fun p1 n1 => ?_⟩
    have s4 := same_upd (o := .lst (xs ++ acc)) n1
    have dk4 := dk3.same s4
    have pD := dk3.neD n1
    have pB := dk3.neB n1
    refine ⟨_, ws.s1, p.D, p.B, p.C, p.cells, rfl, dk4, fun vO dO H5 mO qO zO dk5 f5 => ⟨sz1 rfl, fun M nM => ?_⟩⟩
    have s6 := same_upd (o := .lst [vO]) nM
    have dk6 := dk5.same s6
    refine ⟨p1, M, xs ++ acc, _, rfl, rfl, s6 _ _ (f5 _ _ pD pB upd_same), upd_same, Nat.le_of_lt (small1000 (by rw [List.length_append, hal, hl6, hxl, hm]; show 34 + 9 + 1 ≤ 1000; decide)), fun N nN => ?_⟩
    have s7 := same_upd (o := .lst ((xs ++ acc) ++ [vO])) nN
    have f37 := ((Fr.of_same s4).trans f5).trans (Fr.of_same (s6.trans s7))
    have dk7 := dk6.same s7
    have w7 := w4.go dk7 f37
    have hq : DqAll p.D p.B _ ((xs ++ acc) ++ [vO]) ((ls ++ es) ++ [dO]) := DqAll.append (.cons ((qO.same s6).same s7) .nil) (DqAll.append (dk3.dataAll f37 ha) w7.q)
    have hf : ∀ d ∈ (ls ++ es) ++ [dO], Fine d := a_app (a_app ws.fine hf) (a_cons ((odd_ok _ mO).mono (by decide) (by decide)) a_nil)
    have w0 : W0 p.D p.B p.C p.cells σ _ := ⟨ws.len, ws.s1, w7.dk⟩
    generalize (xs ++ acc) ++ [vO] = vsA at *
    generalize (ls ++ es) ++ [dO] = dsA at *
    refine ⟨N, rfl, ⟨_, SqL.of upd_same⟩, for_list (K := K) (a := N) (xs := vsA) (fun i σ3 H8 => W0 p.D p.B p.C p.cells σ3 H8 ∧ H8 N = some (.lst vsA) ∧ DqAll p.D p.B H8 vsA dsA) ⟨w0, upd_same, hq⟩ (fun i σ3 H8 _ h => SqL.of h.2.1) ?_ ?_⟩
    · rintro i x σ3 H8 hi ⟨w8, e8, a8⟩
      obtain ⟨d, hd, qd⟩ := a8.at_ i x hi
      have okd := hf d (List.mem_of_getElem? hd)
      have w9 := w8.set (i := 10) (v := some x) (by decide)
      have g10 : (σ3.set 10 (some x))[10]? = some (some x) := w8.at_ (by decide)
      refine ⟨_, g10, p.D, p.B, x, d, rfl, qd, okd.sh, okd.zl, okd.dl, _, g10, p.D, p.B, x, d, rfl, qd, fun u1 G1 t1 hu1 => ⟨_, _, rfl, ?_⟩⟩
      have w10 := (w9.set (i := 11) (v := some (.str d.shown)) (by decide)).same t1
      have w11 := w10.set (i := 12) (v := some u1) (by decide)
      have h10 : (((σ3.set 10 (some x)).set 11 (some (.str d.shown))).set 12 (some u1))[10]? = some (some x) := by
        rw [get_set_ne (by decide), get_set_ne (by decide)]
        exact g10
      have h11 : (((σ3.set 10 (some x)).set 11 (some (.str d.shown))).set 12 (some u1))[11]? = some (some (.str d.shown)) := by
        rw [get_set_ne (by decide)]
        exact w9.at_ (by decide)
      have h12 : (((σ3.set 10 (some x)).set 11 (some (.str d.shown))).set 12 (some u1))[12]? = some (some u1) := w10.at_ (by decide)
      have qd1 := qd.same t1
      refine ⟨_, h10, p.D, p.B, x, d, rfl, qd1, fun u4 G4 t4 hu4 => ⟨_, h10, p.D, p.B, x, d, rfl, qd1.same t4, fun u5 G5 t5 hu5 => ⟨sz1 rfl, fun M3 nM3 => ?_⟩⟩⟩
      have t6 := same_upd (o := .lst [u4, u5]) nM3
      have t45 := t4.trans t5
      have t46 := t45.trans t6
      have w12 := w11.same t45
      have w13 := w12.same t6
      have oe := tapeErr_ok d
      have okL : Ok 2 500 (.list [tapeErr d, tapeErr d]) := (ok_lst (n := 2) (a_cons oe (a_cons oe a_nil)) (Nat.le_refl 2)).mono (by decide) (by decide)
      have fL : Fine (.list [tapeErr d, tapeErr d]) := okL.mono (by decide) (by decide)
      have got : Dq p.D p.B _ (.ref M3) (.list [tapeErr d, tapeErr d]) := .lst (w12.dk.neD nM3) (w12.dk.neB nM3) upd_same (.cons ((hu4.same t5).same t6) (.cons (hu5.same t6) .nil))
      refine ⟨p.D, p.B, .ref M3, _, rfl, got, fL.sh, fL.zl, fL.dl, _, h12, _, h12, sz1 rfl, fun M4 nM4 => ?_⟩
      have t7 := same_upd (o := .lst [u1, u1]) nM4
      have t47 := t46.trans t7
      have hu1' := hu1.same t47
      have due : Dq p.D p.B _ (.ref M4) (.list [tapeErr d, tapeErr d]) := .lst (w13.dk.neD nM4) (w13.dk.neB nM4) upd_same (.cons hu1' (.cons hu1' .nil))
      refine ⟨p.D, p.B, .ref M4, _, rfl, due, fL.sh, fL.zl, fL.dl, rfl, _, rfl, iteNS rfl ⟨_, h10, p.D, p.B, x, d, rfl, qd1.same t47, okd.sh, okd.zl, okd.dl, _, h11, rfl, _, rfl, iteNS rfl ?_⟩⟩
      have tA := t1.trans t47
      exact ⟨w11.same t47, tA _ _ e8, a8.same tA⟩
    · rintro σ3 H8 ⟨w8, _, _⟩
      exact q σ3 H8 w8
end
end Jg
namespace Jg
open PySem PySem.Spec PyProof.Rows L2
/-! ### the law -/
def spLaw (K : PySem.W.Frag) : Sp := fun vs H Q _ => ∃ (a : Addr) (ns : List Int), vs = [.ref a] ∧ SqL K H a (ns.map V.int) ∧ ns.length ≤ 63 ∧ ∀ H', Q (.bl true) H'
section
variable {P : Program} {w : World} {K : PySem.W.Frag} {mg : Str → Option Value} {base : Heap}
theorem run_law {f : Addr} {fd : FuncData} (F : Fun K "law" "law" sLaw f fd) (T : Env32 P w K mg base) : RunG P w K mg base 9 f fd ["_law_script"] (spLaw K) := by
  refine runG_of F scLaw (fun vs H Q E h => ?_) (fun cdv Ar out s0 H vs Q E hg hr h => ?_)
  · obtain ⟨a, ns, rfl, _⟩ := h
    rfl
  · obtain ⟨a, ns, rfl, hS, hn, q⟩ := h
    obtain ⟨fK, fdK, GK⟩ := T.deck
    obtain ⟨tA, hA, kA⟩ := b0 (P := P) (w := w) (K := K) (mg := mg) (base := base) (f := f) (cdv := cdv) (Ar := Ar) (out := out) (s0 := s0) (H0 := H) (E := E) T hr
      (pss_cons (b3 T) (pss_cons (b4 T hr) (pss_cons (b5 T hr) (pss_cons (b6 T hr) (pss_one (b7 T hr hg))))))
    refine ⟨_, pss_cons (ps_set (i := 1) scLaw.nd rfl (.inr rfl) (pe_call GK.F (hr.mono (by decide)) (by rfl) GK.g GK.kp GK.b .nil pass0 (pa_cons (pv 0) pa_nil)))
      (pss_cons (ps_for PassesOwn.never rfl (pi_range1 rfl T.bn.rng (pa_cons pe_int pa_nil)) (pg_name (i := 2) scLaw.nd rfl (.inl rfl)) hA)
      (pss_one (ps_ret pe_bl))), ?_⟩
    refine ⟨_, rfl, a, ns, rfl, hS, hn, fun H1 D B C cells s1 _ _ _ dk => ?_⟩
    refine ⟨7, rfl, by decide, by decide, for_range (n := 7) (fun i σ H3 => ∃ D B C cells, W0 D B C cells σ H3) ⟨D, B, C, cells, rfl, rfl, dk⟩ ?_ ?_⟩
    · rintro i σ H3 hi ⟨D, B, C, cells, w0⟩
      exact kA _ _ _ ⟨D, B, C, cells, w0.set (by decide), fun p σ1 G1 wb => ⟨p, wb, fun L xs ls σ3 G3 ws h3 => ⟨p, L, xs, ls, ws, h3, fun L xs ls σ4 G4 ws h4 => ⟨p, L, xs, ls, ws, h4, fun k σ5 G5 hk ws g8 => ⟨p, L, xs, ls, ws, h4, ⟨k, hk, g8⟩, fun L xs ls σ6 G6 ws h6 => ⟨p, L, xs, ls, ws, h6, fun σ7 G7 w0 => ⟨_, _, _, _, w0⟩⟩⟩⟩⟩⟩⟩
    · rintro σ H3 ⟨D, B, C, cells, w0⟩
      exact q H3
end
end Jg
namespace Jg
open PySem PySem.Spec PyProof.Rows L2
/-! ### keywords -/
theorem kb_one {K : PySem.W.Frag} {fd : FuncData} {x : Str} (h : ∀ v, bindArgs fd ⟨[], [(x, v)]⟩ = pure [(x, v)]) : KBinds K fd [x] [x] kwOne kwOneV where
  to := fun s us ws _ hl => match us, ws, hl with
    | [], [v], _ => .of_eq (h v)
    | [], [], z => absurd z Nat.zero_ne_one
    | [], _ :: _ :: _, z => absurd z (Nat.zero_ne_one)
    | _ :: _, _, z => absurd z (Nat.zero_ne_one)
  rel := fun r1 r2 => by
    cases r1 with
    | nil =>
      cases r2 with
      | nil => exact .nil
      | cons a r =>
        cases r with
        | nil => exact .cons a .nil
        | cons b r => exact .nil
    | cons a r => exact .nil
/-! ### the program's table of words, by its entries -/
def kvOf (e : DictEntry) : Option (Str × Int) := match e.key, e.val with
  | .str x _, .int i _ => some (x, i)
  | _, _ => none
def lookE : List (Str × Int) → Str → Option Int
  | [], _ => none
  | (k, i) :: r, x => if k = x then some i else lookE r x
def spotsN : List (Str × Int) := [(Str.ofString "gain", 2), (Str.ofString "add", 3), (Str.ofString "swap", 2), (Str.ofString "turn", 1), (Str.ofString "more", 1)]
theorem lookS_look (x : Str) : lookS x = lookE spotsN x := by
  unfold lookS spotsOf spotsN
  simp only [lookE]
  by_cases h1 : x = Str.ofString "gain"
  · rw [if_pos h1, if_pos h1.symm]
    rfl
  · rw [if_neg h1, if_neg (Ne.symm h1)]
    by_cases h2 : x = Str.ofString "add"
    · rw [if_pos h2, if_pos h2.symm]
      rfl
    · rw [if_neg h2, if_neg (Ne.symm h2)]
      by_cases h3 : x = Str.ofString "swap"
      · rw [if_pos h3, if_pos h3.symm]
        rfl
      · rw [if_neg h3, if_neg (Ne.symm h3)]
        by_cases h4 : x = Str.ofString "turn"
        · rw [if_pos h4, if_pos h4.symm]
          rfl
        · rw [if_neg h4, if_neg (Ne.symm h4)]
          by_cases h5 : x = Str.ofString "more"
          · rw [if_pos h5, if_pos h5.symm]
            rfl
          · rw [if_neg h5, if_neg (Ne.symm h5)]
            rfl
theorem find_kv {x : Str} : ∀ (l : List DictEntry) (ps : List (Str × Int)), l.map kvOf = ps.map some →
    (l.find? (·.key.isStr x) = none ∧ lookE ps x = none ∧ l.any (·.refKey) = false) ∨ ∃ en i t, l.find? (·.key.isStr x) = some en ∧ en.val = .int i t ∧ lookE ps x = some i
  | [], [], _ => .inl ⟨rfl, rfl, rfl⟩
  | [], _ :: _, h => by cases h
  | _ :: _, [], h => by cases h
  | e :: l, (k, i) :: ps, h => by
    obtain ⟨h1, h2⟩ := List.cons.inj h
    obtain ⟨hs, ky, vl⟩ := e
    have h3 : kvOf ⟨hs, ky, vl⟩ = some (k, i) := h1
    unfold kvOf at h3
    split at h3
    · rename_i y ty j tj hk hv
      obtain ⟨rfl, rfl⟩ := Prod.mk.inj (Option.some.inj h3)
      have hk2 : ky = .str y ty := hk
      have hv2 : vl = .int j tj := hv
      subst hk2 hv2
      by_cases c : y = x
      · refine .inr ⟨⟨hs, .str y ty, .int j tj⟩, j, tj, ?_, rfl, if_pos c⟩
        rw [List.find?_cons]
        have e1 : (Value.str y ty).isStr x = true := by
          rw [PySem.W.isStr_of]
          show (y == x) = true
          rw [c]
          exact beq_self_eq_true x
        show (match (Value.str y ty).isStr x with | true => _ | false => _) = _
        rw [e1]
      · have e1 : (Value.str y ty).isStr x = false := by
          rw [PySem.W.isStr_of]
          show (y == x) = false
          exact beq_eq_false_iff_ne.mpr c
        have e2 : (DictEntry.mk hs (.str y ty) (.int j tj) :: l).find? (·.key.isStr x) = l.find? (·.key.isStr x) := by
          rw [List.find?_cons]
          show (match (Value.str y ty).isStr x with | true => _ | false => _) = _
          rw [e1]
        rw [e2, show lookE ((y, j) :: ps) x = lookE ps x from if_neg c]
        rcases find_kv l ps h2 with ⟨a1, a2, a3⟩ | hx
        · refine .inl ⟨a1, a2, ?_⟩
          rw [List.any_cons, a3]
          rfl
        · exact .inr hx
    · cases h3
theorem spots_of {K : PySem.W.Frag} {w : World} {mg : Str → Option Value} {d : Addr} {es : Array DictEntry} {n : Nat} (g : mg "SPOTS" = some (.ref d)) (l : K.lookup d = some ⟨.type "dict", none, .dict es n, #[]⟩) (lit : PySem.W.KeysLit w.params es.toList) (low : (d == sysModules) = false) (e : es.toList.map kvOf = spotsN.map some) : Tb K w mg "SPOTS" lookS d where
  g := g
  D := ⟨es, n, l, lit, low⟩
  none := fun x h => by
    rw [lookS_look] at h
    unfold PySem.W.nsIn
    rw [l]
    rcases find_kv (x := x) es.toList spotsN e with ⟨a1, _, a3⟩ | ⟨en, i, t, _, _, a3⟩
    · show (match es.toList.find? (·.key.isStr x) with | some en => some (some en.val) | none => if es.toList.any (·.refKey) then none else some none) = _
      rw [a1]
      show (if es.toList.any (·.refKey) = true then none else some none) = _
      rw [a3]
      rfl
    · rw [a3] at h
      cases h
  some := fun x i h => by
    rw [lookS_look] at h
    rcases find_kv (x := x) es.toList spotsN e with ⟨_, a2, _⟩ | ⟨en, j, t, a1, a2, a3⟩
    · rw [a2] at h
      cases h
    · rw [a3] at h
      cases h
      refine ⟨t, ?_⟩
      unfold PySem.W.nsIn
      rw [l]
      show (match es.toList.find? (·.key.isStr x) with | some en => some (some en.val) | none => if es.toList.any (·.refKey) then none else some none) = _
      rw [a1]
      show some (some en.val) = _
      rw [a2]
/-! ### the words with a number -/
def stOf : Value → Option Str
  | .str x _ => some x
  | _ => none
theorem vals_st : ∀ {us : List Value} {xs : List Str}, us.map stOf = xs.map some → Vals (xs.map V.str) us
  | [], [], _ => .nil
  | [], _ :: _, h => by cases h
  | _ :: _, [], h => by cases h
  | u :: us, x :: xs, h => by
    obtain ⟨h1, h2⟩ := List.cons.inj h
    refine .cons ?_ (vals_st h2)
    cases u with
    | str y t =>
      cases h1
      exact ⟨t, rfl⟩
    | _ => cases h1
def withN : List Str := [Str.ofString "gain", Str.ofString "add", Str.ofString "more"]
theorem with_of {K : PySem.W.Frag} {mg : Str → Option Value} {d : Addr} {od : Option Addr} {sl : Array (Option Value)} {its : Array Value} {n : Nat} (g : mg "WITH_NUMBER" = some (.ref d)) (l : K.lookup d = some ⟨.type "tuple", od, .seq its n, sl⟩) (e : its.toList.map stOf = withN.map some) : Wn K mg d where
  g := g
  t := fun H => by
    have v := vals_st e
    have hl : its.size = 3 := by
      have h1 := v.length
      rw [List.length_map] at h1
      exact h1.symm
    exact .inr ⟨_, its, n, l, rfl, rfl, by rw [hl]; exact Nat.le_of_lt (small1000 (by decide)), v⟩
/-! ### what the top has written -/
theorem all_mk {l : PySem.W.OpenLaw} {w : World} {K : PySem.W.Frag} {h : Heap} {mg : Str → Option Value} {fa f4 f5 f6 f10 f11 f12 f14 f15 f16 f17 f18 f19 f20 f21 f22 f23 f24 f25 f26 f27 f28 f29 f30 f31 dN dW : Addr} {tk_MAX_SIZE tk_MAX_PLACES tk_MAX_MOVES : Tok} {esN : Array DictEntry} {nN nW : Nat} {itsW : Array Value} {odW : Option Addr} {slW : Array (Option Value)} (X : K.In h) (G : h.Ns mainGlobals mg) (hfa : mg "law" = some (.ref fa))
    {od4 an4 od5 an5 od6 an6 od10 an10 od11 an11 od12 an12 od14 an14 od15 an15 od16 an16 od17 an17 od18 an18 od19 an19 od20 an20 od21 an21 od22 an22 od23 an23 od24 an24 od25 an25 od26 an26 od27 an27 od28 an28 od29 an29 od30 an30 od31 an31 : Option Addr} {sl4 sl5 sl6 sl10 sl11 sl12 sl14 sl15 sl16 sl17 sl18 sl19 sl20 sl21 sl22 sl23 sl24 sl25 sl26 sl27 sl28 sl29 sl30 sl31 : Array (Option Value)} {oc4 kV4 dc4 pm4 cd4 ct4 oc5 kV5 dc5 pm5 cd5 ct5 oc6 kV6 dc6 pm6 cd6 ct6 oc10 kV10 dc10 pm10 cd10 ct10 oc11 kV11 dc11 pm11 cd11 ct11 oc12 kV12 dc12 pm12 cd12 ct12 oc14 kV14 dc14 pm14 cd14 ct14 oc15 kV15 dc15 pm15 cd15 ct15 oc16 kV16 dc16 pm16 cd16 ct16 oc17 kV17 dc17 pm17 cd17 ct17 oc18 kV18 dc18 pm18 cd18 ct18 oc19 kV19 dc19 pm19 cd19 ct19 oc20 kV20 dc20 pm20 cd20 ct20 oc21 kV21 dc21 pm21 cd21 ct21 oc22 kV22 dc22 pm22 cd22 ct22 oc23 kV23 dc23 pm23 cd23 ct23 oc24 kV24 dc24 pm24 cd24 ct24 oc25 kV25 dc25 pm25 cd25 ct25 oc26 kV26 dc26 pm26 cd26 ct26 oc27 kV27 dc27 pm27 cd27 ct27 oc28 kV28 dc28 pm28 cd28 ct28 oc29 kV29 dc29 pm29 cd29 ct29 oc30 kV30 dc30 pm30 cd30 ct30 oc31 kV31 dc31 pm31 cd31 ct31 : Value}
    (a4 : PySem.W.nsIn K mainGlobals "is_integer" = some (some (.ref f4))) (l4 : K.lookup f4 = some ⟨oc4, od4, .func (PySem.W.fnOf "is_integer" "is_integer" (defArgs sInt) (defBody sInt) (defScope sInt) .none kV4 dc4 pm4 an4 cd4 ct4), sl4⟩) (c4 : PySem.W.codeIn K cd4 "is_integer" = true) (k4 : PySem.W.keepIn K (.ref f4) = true)
    (a5 : PySem.W.nsIn K mainGlobals "is_within" = some (some (.ref f5))) (l5 : K.lookup f5 = some ⟨oc5, od5, .func (PySem.W.fnOf "is_within" "is_within" (defArgs sWith) (defBody sWith) (defScope sWith) .none kV5 dc5 pm5 an5 cd5 ct5), sl5⟩) (c5 : PySem.W.codeIn K cd5 "is_within" = true) (k5 : PySem.W.keepIn K (.ref f5) = true)
    (a6 : PySem.W.nsIn K mainGlobals "is_tuple_of" = some (some (.ref f6))) (l6 : K.lookup f6 = some ⟨oc6, od6, .func (PySem.W.fnOf "is_tuple_of" "is_tuple_of" (defArgs sTupO) (defBody sTupO) (defScope sTupO) .none kV6 dc6 pm6 an6 cd6 ct6), sl6⟩) (c6 : PySem.W.codeIn K cd6 "is_tuple_of" = true) (k6 : PySem.W.keepIn K (.ref f6) = true)
    (a10 : PySem.W.nsIn K mainGlobals "tape_error" = some (some (.ref f10))) (l10 : K.lookup f10 = some ⟨oc10, od10, .func (PySem.W.fnOf "tape_error" "tape_error" (defArgs sTErr) (defBody sTErr) (defScope sTErr) .none kV10 dc10 pm10 an10 cd10 ct10), sl10⟩) (c10 : PySem.W.codeIn K cd10 "tape_error" = true) (k10 : PySem.W.keepIn K (.ref f10) = true)
    (a11 : PySem.W.nsIn K mainGlobals "is_move" = some (some (.ref f11))) (l11 : K.lookup f11 = some ⟨oc11, od11, .func (PySem.W.fnOf "is_move" "is_move" (defArgs sIsM) (defBody sIsM) (defScope sIsM) .none kV11 dc11 pm11 an11 cd11 ct11), sl11⟩) (c11 : PySem.W.codeIn K cd11 "is_move" = true) (k11 : PySem.W.keepIn K (.ref f11) = true)
    (a12 : PySem.W.nsIn K mainGlobals "_deepen" = some (some (.ref f12))) (l12 : K.lookup f12 = some ⟨oc12, od12, .func (PySem.W.fnOf "_deepen" "_deepen" (defArgs sDeepen) (defBody sDeepen) (defScope sDeepen) .none kV12 dc12 pm12 an12 cd12 ct12), sl12⟩) (c12 : PySem.W.codeIn K cd12 "_deepen" = true) (k12 : PySem.W.keepIn K (.ref f12) = true)
    (a14 : PySem.W.nsIn K mainGlobals "_law_deck" = some (some (.ref f14))) (l14 : K.lookup f14 = some ⟨oc14, od14, .func (PySem.W.fnOf "_law_deck" "_law_deck" (defArgs sDeck) (defBody sDeck) (defScope sDeck) .none kV14 dc14 pm14 an14 cd14 ct14), sl14⟩) (c14 : PySem.W.codeIn K cd14 "_law_deck" = true) (k14 : PySem.W.keepIn K (.ref f14) = true)
    (a15 : PySem.W.nsIn K mainGlobals "_law_draw" = some (some (.ref f15))) (l15 : K.lookup f15 = some ⟨oc15, od15, .func (PySem.W.fnOf "_law_draw" "_law_draw" (defArgs sDraw) (defBody sDraw) (defScope sDraw) .none kV15 dc15 pm15 an15 cd15 ct15), sl15⟩) (c15 : PySem.W.codeIn K cd15 "_law_draw" = true) (k15 : PySem.W.keepIn K (.ref f15) = true)
    (a16 : PySem.W.nsIn K mainGlobals "_law_one" = some (some (.ref f16))) (l16 : K.lookup f16 = some ⟨oc16, od16, .func (PySem.W.fnOf "_law_one" "_law_one" (defArgs sOne) (defBody sOne) (defScope sOne) .none kV16 dc16 pm16 an16 cd16 ct16), sl16⟩) (c16 : PySem.W.codeIn K cd16 "_law_one" = true) (k16 : PySem.W.keepIn K (.ref f16) = true)
    (a17 : PySem.W.nsIn K mainGlobals "_law_mixed" = some (some (.ref f17))) (l17 : K.lookup f17 = some ⟨oc17, od17, .func (PySem.W.fnOf "_law_mixed" "_law_mixed" (defArgs sMix) (defBody sMix) (defScope sMix) .none kV17 dc17 pm17 an17 cd17 ct17), sl17⟩) (c17 : PySem.W.codeIn K cd17 "_law_mixed" = true) (k17 : PySem.W.keepIn K (.ref f17) = true)
    (a18 : PySem.W.nsIn K mainGlobals "_law_bent" = some (some (.ref f18))) (l18 : K.lookup f18 = some ⟨oc18, od18, .func (PySem.W.fnOf "_law_bent" "_law_bent" (defArgs sBent) (defBody sBent) (defScope sBent) .none kV18 dc18 pm18 an18 cd18 ct18), sl18⟩) (c18 : PySem.W.codeIn K cd18 "_law_bent" = true) (k18 : PySem.W.keepIn K (.ref f18) = true)
    (a19 : PySem.W.nsIn K mainGlobals "_law_whole" = some (some (.ref f19))) (l19 : K.lookup f19 = some ⟨oc19, od19, .func (PySem.W.fnOf "_law_whole" "_law_whole" (defArgs sWhole) (defBody sWhole) (defScope sWhole) .none kV19 dc19 pm19 an19 cd19 ct19), sl19⟩) (c19 : PySem.W.codeIn K cd19 "_law_whole" = true) (k19 : PySem.W.keepIn K (.ref f19) = true)
    (a20 : PySem.W.nsIn K mainGlobals "_law_far" = some (some (.ref f20))) (l20 : K.lookup f20 = some ⟨oc20, od20, .func (PySem.W.fnOf "_law_far" "_law_far" (defArgs sFar) (defBody sFar) (defScope sFar) .none kV20 dc20 pm20 an20 cd20 ct20), sl20⟩) (c20 : PySem.W.codeIn K cd20 "_law_far" = true) (k20 : PySem.W.keepIn K (.ref f20) = true)
    (a21 : PySem.W.nsIn K mainGlobals "_law_odd" = some (some (.ref f21))) (l21 : K.lookup f21 = some ⟨oc21, od21, .func (PySem.W.fnOf "_law_odd" "_law_odd" (defArgs sOdd) (defBody sOdd) (defScope sOdd) .none kV21 dc21 pm21 an21 cd21 ct21), sl21⟩) (c21 : PySem.W.codeIn K cd21 "_law_odd" = true) (k21 : PySem.W.keepIn K (.ref f21) = true)
    (a22 : PySem.W.nsIn K mainGlobals "_law_number" = some (some (.ref f22))) (l22 : K.lookup f22 = some ⟨oc22, od22, .func (PySem.W.fnOf "_law_number" "_law_number" (defArgs sNum) (defBody sNum) (defScope sNum) .none kV22 dc22 pm22 an22 cd22 ct22), sl22⟩) (c22 : PySem.W.codeIn K cd22 "_law_number" = true) (k22 : PySem.W.keepIn K (.ref f22) = true)
    (a23 : PySem.W.nsIn K mainGlobals "_law_factor" = some (some (.ref f23))) (l23 : K.lookup f23 = some ⟨oc23, od23, .func (PySem.W.fnOf "_law_factor" "_law_factor" (defArgs sFac) (defBody sFac) (defScope sFac) .none kV23 dc23 pm23 an23 cd23 ct23), sl23⟩) (c23 : PySem.W.codeIn K cd23 "_law_factor" = true) (k23 : PySem.W.keepIn K (.ref f23) = true)
    (a24 : PySem.W.nsIn K mainGlobals "_law_move" = some (some (.ref f24))) (l24 : K.lookup f24 = some ⟨oc24, od24, .func (PySem.W.fnOf "_law_move" "_law_move" (defArgs sMove) (defBody sMove) (defScope sMove) .none kV24 dc24 pm24 an24 cd24 ct24), sl24⟩) (c24 : PySem.W.codeIn K cd24 "_law_move" = true) (k24 : PySem.W.keepIn K (.ref f24) = true)
    (a25 : PySem.W.nsIn K mainGlobals "_law_degrees" = some (some (.ref f25))) (l25 : K.lookup f25 = some ⟨oc25, od25, .func (PySem.W.fnOf "_law_degrees" "_law_degrees" (defArgs sDegs) (defBody sDegs) (defScope sDegs) .none kV25 dc25 pm25 an25 cd25 ct25), sl25⟩) (c25 : PySem.W.codeIn K cd25 "_law_degrees" = true) (k25 : PySem.W.keepIn K (.ref f25) = true)
    (a26 : PySem.W.nsIn K mainGlobals "_law_tape" = some (some (.ref f26))) (l26 : K.lookup f26 = some ⟨oc26, od26, .func (PySem.W.fnOf "_law_tape" "_law_tape" (defArgs sTape) (defBody sTape) (defScope sTape) .none kV26 dc26 pm26 an26 cd26 ct26), sl26⟩) (c26 : PySem.W.codeIn K cd26 "_law_tape" = true) (k26 : PySem.W.keepIn K (.ref f26) = true)
    (a27 : PySem.W.nsIn K mainGlobals "_law_is_move" = some (some (.ref f27))) (l27 : K.lookup f27 = some ⟨oc27, od27, .func (PySem.W.fnOf "_law_is_move" "_law_is_move" (defArgs sLM) (defBody sLM) (defScope sLM) .none kV27 dc27 pm27 an27 cd27 ct27), sl27⟩) (c27 : PySem.W.codeIn K cd27 "_law_is_move" = true) (k27 : PySem.W.keepIn K (.ref f27) = true)
    (a28 : PySem.W.nsIn K mainGlobals "_law_tape_error" = some (some (.ref f28))) (l28 : K.lookup f28 = some ⟨oc28, od28, .func (PySem.W.fnOf "_law_tape_error" "_law_tape_error" (defArgs sLTE) (defBody sLTE) (defScope sLTE) .none kV28 dc28 pm28 an28 cd28 ct28), sl28⟩) (c28 : PySem.W.codeIn K cd28 "_law_tape_error" = true) (k28 : PySem.W.keepIn K (.ref f28) = true)
    (a29 : PySem.W.nsIn K mainGlobals "_law_odd_moves" = some (some (.ref f29))) (l29 : K.lookup f29 = some ⟨oc29, od29, .func (PySem.W.fnOf "_law_odd_moves" "_law_odd_moves" (defArgs sOddM) (defBody sOddM) (defScope sOddM) .none kV29 dc29 pm29 an29 cd29 ct29), sl29⟩) (c29 : PySem.W.codeIn K cd29 "_law_odd_moves" = true) (k29 : PySem.W.keepIn K (.ref f29) = true)
    (a30 : PySem.W.nsIn K mainGlobals "_law_high" = some (some (.ref f30))) (l30 : K.lookup f30 = some ⟨oc30, od30, .func (PySem.W.fnOf "_law_high" "_law_high" (defArgs sHigh) (defBody sHigh) (defScope sHigh) .none kV30 dc30 pm30 an30 cd30 ct30), sl30⟩) (c30 : PySem.W.codeIn K cd30 "_law_high" = true) (k30 : PySem.W.keepIn K (.ref f30) = true)
    (a31 : PySem.W.nsIn K mainGlobals "law" = some (some (.ref f31))) (l31 : K.lookup f31 = some ⟨oc31, od31, .func (PySem.W.fnOf "law" "law" (defArgs sLaw) (defBody sLaw) (defScope sLaw) .none kV31 dc31 pm31 an31 cd31 ct31), sl31⟩) (c31 : PySem.W.codeIn K cd31 "law" = true) (k31 : PySem.W.keepIn K (.ref f31) = true)
    (aN : PySem.W.nsIn K mainGlobals "SPOTS" = some (some (.ref dN))) (lN : K.lookup dN = some ⟨.type "dict", none, .dict esN nN, #[]⟩) (tN : PySem.W.KeysLit w.params esN.toList) (uN : (dN == sysModules) = false) (eN : esN.toList.map kvOf = spotsN.map some)
    (aW : PySem.W.nsIn K mainGlobals "WITH_NUMBER" = some (some (.ref dW))) (lW : K.lookup dW = some ⟨.type "tuple", odW, .seq itsW nW, slW⟩) (eW : itsW.toList.map stOf = withN.map some)
    (a_MAX_SIZE : PySem.W.nsIn K mainGlobals "MAX_SIZE" = some (some (.int 64 tk_MAX_SIZE)))
    (a_MAX_PLACES : PySem.W.nsIn K mainGlobals "MAX_PLACES" = some (some (.int 80 tk_MAX_PLACES)))
    (a_MAX_MOVES : PySem.W.nsIn K mainGlobals "MAX_MOVES" = some (some (.int 600 tk_MAX_MOVES)))
    (z_isinstance : PySem.W.nsIn K mainGlobals "isinstance" = some none) (z_int : PySem.W.nsIn K mainGlobals "int" = some none) (z_bool : PySem.W.nsIn K mainGlobals "bool" = some none) (z_tuple : PySem.W.nsIn K mainGlobals "tuple" = some none) (z_len : PySem.W.nsIn K mainGlobals "len" = some none) (z_all : PySem.W.nsIn K mainGlobals "all" = some none) (z_range : PySem.W.nsIn K mainGlobals "range" = some none) (z_list : PySem.W.nsIn K mainGlobals "list" = some none) (z_str : PySem.W.nsIn K mainGlobals "str" = some none) (z_min : PySem.W.nsIn K mainGlobals "min" = some none) (z_repr : PySem.W.nsIn K mainGlobals "repr" = some none) (z_abs : PySem.W.nsIn K mainGlobals "abs" = some none) (z_max : PySem.W.nsIn K mainGlobals "max" = some none) (z_sum : PySem.W.nsIn K mainGlobals "sum" = some none) (z_enumerate : PySem.W.nsIn K mainGlobals "enumerate" = some none) :
    ∃ fd : FuncData, (∀ (s : Shared) (v : Value), BindsTo s fd ⟨[v], []⟩ [("_law_script", v)]) ∧ ∀ base : Heap, K.In base → base.Ns mainGlobals mg → RunG l.prog w K mg base 9 fa fd ["_law_script"] (spLaw K) := by
  have e := hfa.symm.trans (PySem.W.mg_of X G a31)
  cases e
  have T : Bn mg := ⟨PySem.W.mg_none_of X G z_isinstance, PySem.W.mg_none_of X G z_int, PySem.W.mg_none_of X G z_bool, PySem.W.mg_none_of X G z_tuple, PySem.W.mg_none_of X G z_len, PySem.W.mg_none_of X G z_all, PySem.W.mg_none_of X G z_range, PySem.W.mg_none_of X G z_list, PySem.W.mg_none_of X G z_str, PySem.W.mg_none_of X G z_min, PySem.W.mg_none_of X G z_repr, PySem.W.mg_none_of X G z_abs, PySem.W.mg_none_of X G z_max, PySem.W.mg_none_of X G z_sum, PySem.W.mg_none_of X G z_enumerate⟩
  have F4 := fun_mk (st := sInt) l4 c4 k4
  have b4 := F4.binds (ps := ["value"]) fun _ _ _ _ _ _ us hl => match us, hl with | [_], _ => rfl
  have g4 := PySem.W.mg_of X G a4
  have F5 := fun_mk (st := sWith) l5 c5 k5
  have b5 := F5.binds (ps := ["value", "low", "high"]) fun _ _ _ _ _ _ us hl => match us, hl with | [_, _, _], _ => rfl
  have g5 := PySem.W.mg_of X G a5
  have F6 := fun_mk (st := sTupO) l6 c6 k6
  have b6 := F6.binds (ps := ["value", "many"]) fun _ _ _ _ _ _ us hl => match us, hl with | [_, _], _ => rfl
  have g6 := PySem.W.mg_of X G a6
  have F10 := fun_mk (st := sTErr) l10 c10 k10
  have b10 := F10.binds (ps := ["value"]) fun _ _ _ _ _ _ us hl => match us, hl with | [_], _ => rfl
  have g10 := PySem.W.mg_of X G a10
  have F11 := fun_mk (st := sIsM) l11 c11 k11
  have b11 := F11.binds (ps := ["value", "places"]) fun _ _ _ _ _ _ us hl => match us, hl with | [_, _], _ => rfl
  have g11 := PySem.W.mg_of X G a11
  have F12 := fun_mk (st := sDeepen) l12 c12 k12
  have b12 := F12.binds (ps := ["degrees", "move"]) fun _ _ _ _ _ _ us hl => match us, hl with | [_, _], _ => rfl
  have g12 := PySem.W.mg_of X G a12
  have F14 := fun_mk (st := sDeck) l14 c14 k14
  have b14 := F14.binds (ps := ["_law_script"]) fun _ _ _ _ _ _ us hl => match us, hl with | [_], _ => rfl
  have g14 := PySem.W.mg_of X G a14
  have F15 := fun_mk (st := sDraw) l15 c15 k15
  have b15 := F15.binds (ps := ["_law_deck_here", "_law_many"]) fun _ _ _ _ _ _ us hl => match us, hl with | [_, _], _ => rfl
  have g15 := PySem.W.mg_of X G a15
  have F16 := fun_mk (st := sOne) l16 c16 k16
  have b16 := F16.binds (ps := ["_law_deck_here", "_law_items"]) fun _ _ _ _ _ _ us hl => match us, hl with | [_, _], _ => rfl
  have g16 := PySem.W.mg_of X G a16
  have F17 := fun_mk (st := sMix) l17 c17 k17
  have b17 := F17.binds (ps := ["_law_deck_here", "_law_items"]) fun _ _ _ _ _ _ us hl => match us, hl with | [_, _], _ => rfl
  have g17 := PySem.W.mg_of X G a17
  have F18 := fun_mk (st := sBent) l18 c18 k18
  have b18 := F18.binds (ps := ["_law_deck_here", "_law_value", "_law_deep"]) fun _ _ _ _ _ _ us hl => match us, hl with | [_, _, _], _ => rfl
  have g18 := PySem.W.mg_of X G a18
  have F19 := fun_mk (st := sWhole) l19 c19 k19
  have b19 := F19.binds (ps := ["_law_value", "_law_least", "_law_most"]) fun _ _ _ _ _ _ us hl => match us, hl with | [_, _, _], _ => rfl
  have g19 := PySem.W.mg_of X G a19
  have F20 := fun_mk (st := sFar) l20 c20 k20
  have b20 := F20.binds (ps := ["_law_deck_here", "_law_many"]) fun _ _ _ _ _ _ us hl => match us, hl with | [_, _], _ => rfl
  have g20 := PySem.W.mg_of X G a20
  have F21 := fun_mk (st := sOdd) l21 c21 k21
  have b21 := F21.binds (ps := ["_law_deck_here"]) fun _ _ _ _ _ _ us hl => match us, hl with | [_], _ => rfl
  have g21 := PySem.W.mg_of X G a21
  have F22 := fun_mk (st := sNum) l22 c22 k22
  have b22 := F22.binds (ps := ["_law_deck_here"]) fun _ _ _ _ _ _ us hl => match us, hl with | [_], _ => rfl
  have g22 := PySem.W.mg_of X G a22
  have F23 := fun_mk (st := sFac) l23 c23 k23
  have b23 := F23.binds (ps := ["_law_deck_here"]) fun _ _ _ _ _ _ us hl => match us, hl with | [_], _ => rfl
  have g23 := PySem.W.mg_of X G a23
  have F24 := fun_mk (st := sMove) l24 c24 k24
  have b24 := F24.binds (ps := ["_law_deck_here", "_law_places", "_law_words"]) fun _ _ _ _ _ _ us hl => match us, hl with | [_, _, _], _ => rfl
  have g24 := PySem.W.mg_of X G a24
  have F25 := fun_mk (st := sDegs) l25 c25 k25
  have b25 := F25.binds (ps := ["_law_degrees_here", "_law_move_here"]) fun _ _ _ _ _ _ us hl => match us, hl with | [_, _], _ => rfl
  have g25 := PySem.W.mg_of X G a25
  have F26 := fun_mk (st := sTape) l26 c26 k26
  have b26 := F26.binds (ps := ["_law_deck_here", "_law_places", "_law_many", "_law_most"]) fun _ _ _ _ _ _ us hl => match us, hl with | [_, _, _, _], _ => rfl
  have g26 := PySem.W.mg_of X G a26
  have F27 := fun_mk (st := sLM) l27 c27 k27
  have b27 := F27.binds (ps := ["_law_places", "_law_value"]) fun _ _ _ _ _ _ us hl => match us, hl with | [_, _], _ => rfl
  have g27 := PySem.W.mg_of X G a27
  have F28 := fun_mk (st := sLTE) l28 c28 k28
  have b28 := F28.binds (ps := ["_law_value"]) fun _ _ _ _ _ _ us hl => match us, hl with | [_], _ => rfl
  have g28 := PySem.W.mg_of X G a28
  have F29 := fun_mk (st := sOddM) l29 c29 k29
  have b29 := F29.binds (ps := ["_law_deck_here", "_law_places"]) fun _ _ _ _ _ _ us hl => match us, hl with | [_, _], _ => rfl
  have g29 := PySem.W.mg_of X G a29
  have F30 := fun_mk (st := sHigh) l30 c30 k30
  have b30 := F30.binds (ps := ["_law_places"]) fun _ _ _ _ _ _ us hl => match us, hl with | [_], _ => rfl
  have g30 := PySem.W.mg_of X G a30
  have F31 := fun_mk (st := sLaw) l31 c31 k31
  have g_MAX_SIZE := PySem.W.mg_of X G a_MAX_SIZE
  have g_MAX_PLACES := PySem.W.mg_of X G a_MAX_PLACES
  have g_MAX_MOVES := PySem.W.mg_of X G a_MAX_MOVES
  have NT : Tb K w mg "SPOTS" lookS dN := spots_of (PySem.W.mg_of X G aN) lN tN uN eN
  have NW : Wn K mg dW := with_of (PySem.W.mg_of X G aW) lW eW
  have D_ : Dr K mg f15 _ := ⟨F15, b15, g15⟩
  have O_ : On K mg f16 _ := ⟨F16, b16, g16⟩
  have X_ : Od K mg f21 _ := ⟨F21, b21, g21⟩
  have A_ : Fa K mg f20 _ := ⟨F20, b20, g20⟩
  have U_ : Nu K mg f22 _ := ⟨F22, b22, g22⟩
  have G_ : Pg K w mg "is_move" := {
    int := ⟨f4, _, ⟨F4, b4, g4⟩⟩
    wit := ⟨f5, _, ⟨F5, b5, g5⟩⟩
    tup := ⟨f6, _, ⟨F6, b6, g6⟩⟩
    ism := ⟨f11, _, ⟨F11, b11, g11⟩⟩
    dee := ⟨f12, _, ⟨F12, b12, g12⟩⟩
    spo := ⟨dN, NT⟩
    wit2 := ⟨dW, NW⟩
    mxS := ⟨_, g_MAX_SIZE⟩
    mxP := ⟨_, g_MAX_PLACES⟩
    mxM := ⟨_, g_MAX_MOVES⟩ }
  refine ⟨PySem.W.fnOf "law" "law" (defArgs sLaw) (defBody sLaw) (defScope sLaw) .none kV31 dc31 pm31 an31 cd31 ct31, fun s v => .of_eq rfl, fun base _ _ => run_law F31 ?_⟩
  have B0 : FnOk l.prog w K mg base CX0 3 f18 (PySem.W.fnOf "_law_bent" "_law_bent" (defArgs sBent) (defBody sBent) (defScope sBent) .none kV18 dc18 pm18 an18 cd18 ct18) ["_law_deck_here", "_law_value", "_law_deep"] (spB 0) := ⟨fun _ _ _ _ z => False.elim z, fun _ _ _ _ _ _ _ _ _ _ _ _ _ z => False.elim z⟩
  have B1 := ok_bent (n := 0) (by decide) (by decide) F18 b18 g18 B0 X_ O_ D_ T
  have B2 := ok_bent (n := 1) (by decide) (by decide) F18 b18 g18 B1 X_ O_ D_ T
  have B3 := ok_bent (n := 2) (by decide) (by decide) F18 b18 g18 B2 X_ O_ D_ T
  have B4 := ok_bent (n := 3) (by decide) (by decide) F18 b18 g18 B3 X_ O_ D_ T
  have MV := ok_move (P := l.prog) (w := w) (base := base) ⟨F24, b24, g24⟩ ⟨F17, b17, g17⟩ ⟨F23, b23, g23⟩ U_ A_ O_ D_ T
  exact {
    bn := T
    deck := ⟨f14, _, ⟨ok_deck F14 T.abs T.len, g14, k14, b14⟩⟩
    draw := ⟨f15, _, ⟨ok_draw F15 T.int T.len, g15, k15, b15⟩⟩
    one := ⟨f16, _, ⟨ok_one F16 F15 b15 g15 T.int T.len, g16, k16, b16⟩⟩
    odd := ⟨f21, _, ⟨ok_odd F21 F16 b16 g16 F15 b15 g15 T, g21, k21, b21⟩⟩
    bent := ⟨f18, _, ⟨ok_bent (n := 4) (by decide) (by decide) F18 b18 g18 B4 X_ O_ D_ T, g18, k18, b18⟩⟩
    tape := ⟨f26, _, ⟨ok_tape ⟨F26, b26, g26⟩ MV b24 g24 k24 ⟨F25, b25, g25⟩ D_ T, g26, k26, b26⟩⟩
    oddm := ⟨f29, _, ⟨ok_oddM ⟨F29, b29, g29⟩, g29, k29, b29⟩⟩
    high := ⟨f30, _, ⟨ok_high ⟨F30, b30, g30⟩, g30, k30, b30⟩⟩
    lerr := ⟨f28, _, ⟨ok_lTE ⟨F28, b28, g28⟩ ⟨F19, b19, g19⟩ ⟨F27, b27, g27⟩ ⟨F25, b25, g25⟩ T, g28, k28, b28⟩⟩
    terr := ⟨f10, _, ⟨ok_tErr ⟨F10, b10, g10⟩ G_ T, g10, k10, b10⟩, kb_one fun v => rfl⟩ }
end Jg
open PySem PySem.W PyProof.Rows
set_option maxRecDepth 100000 in
set_option maxHeartbeats 0 in
theorem PySem.Challenge.cw_rowsback_k32_tapes_judged_holds : PySem.Challenge.rw_rowsback_k32_tapes_judged.Holds := by
  w_on; o_law; k_head; (case hw => w_witness2)
  k_fill
  refine Jg.walk_ofG (l := PySem.Challenge.rw_rowsback_k32_tapes_judged) (n := 63) (k := 9) (x := "_law_script") (sp := fun w => Jg.spLaw _) rfl (by decide) rfl ⟨rfl, by decide, by decide⟩ (fun w h Y => PySem.W.kIn_of Y) ?F (fun _ _ a ns hl _ hS => ⟨a, ns, rfl, hS, hl, fun _ => rfl⟩)
  case F =>
    intro w mg fa h KX G hmg
    refine' Jg.all_mk KX G hmg ?a4 ?l4 ?c4 ?k4 ?a5 ?l5 ?c5 ?k5 ?a6 ?l6 ?c6 ?k6 ?a10 ?l10 ?c10 ?k10 ?a11 ?l11 ?c11 ?k11 ?a12 ?l12 ?c12 ?k12 ?a14 ?l14 ?c14 ?k14 ?a15 ?l15 ?c15 ?k15 ?a16 ?l16 ?c16 ?k16 ?a17 ?l17 ?c17 ?k17 ?a18 ?l18 ?c18 ?k18 ?a19 ?l19 ?c19 ?k19 ?a20 ?l20 ?c20 ?k20 ?a21 ?l21 ?c21 ?k21 ?a22 ?l22 ?c22 ?k22 ?a23 ?l23 ?c23 ?k23 ?a24 ?l24 ?c24 ?k24 ?a25 ?l25 ?c25 ?k25 ?a26 ?l26 ?c26 ?k26 ?a27 ?l27 ?c27 ?k27 ?a28 ?l28 ?c28 ?k28 ?a29 ?l29 ?c29 ?k29 ?a30 ?l30 ?c30 ?k30 ?a31 ?l31 ?c31 ?k31 ?aN ?lN ?tN ?uN ?eN ?aW ?lW ?eW ?a_MAX_SIZE ?a_MAX_PLACES ?a_MAX_MOVES ?z_isinstance ?z_int ?z_bool ?z_tuple ?z_len ?z_all ?z_range ?z_list ?z_str ?z_min ?z_repr ?z_abs ?z_max ?z_sum ?z_enumerate
    (case a4 => k_is); (case l4 => k_is); (case c4 => k_is); (case k4 => k_is)
    (case a5 => k_is); (case l5 => k_is); (case c5 => k_is); (case k5 => k_is)
    (case a6 => k_is); (case l6 => k_is); (case c6 => k_is); (case k6 => k_is)
    (case a10 => k_is); (case l10 => k_is); (case c10 => k_is); (case k10 => k_is)
    (case a11 => k_is); (case l11 => k_is); (case c11 => k_is); (case k11 => k_is)
    (case a12 => k_is); (case l12 => k_is); (case c12 => k_is); (case k12 => k_is)
    (case a14 => k_is); (case l14 => k_is); (case c14 => k_is); (case k14 => k_is)
    (case a15 => k_is); (case l15 => k_is); (case c15 => k_is); (case k15 => k_is)
    (case a16 => k_is); (case l16 => k_is); (case c16 => k_is); (case k16 => k_is)
    (case a17 => k_is); (case l17 => k_is); (case c17 => k_is); (case k17 => k_is)
    (case a18 => k_is); (case l18 => k_is); (case c18 => k_is); (case k18 => k_is)
    (case a19 => k_is); (case l19 => k_is); (case c19 => k_is); (case k19 => k_is)
    (case a20 => k_is); (case l20 => k_is); (case c20 => k_is); (case k20 => k_is)
    (case a21 => k_is); (case l21 => k_is); (case c21 => k_is); (case k21 => k_is)
    (case a22 => k_is); (case l22 => k_is); (case c22 => k_is); (case k22 => k_is)
    (case a23 => k_is); (case l23 => k_is); (case c23 => k_is); (case k23 => k_is)
    (case a24 => k_is); (case l24 => k_is); (case c24 => k_is); (case k24 => k_is)
    (case a25 => k_is); (case l25 => k_is); (case c25 => k_is); (case k25 => k_is)
    (case a26 => k_is); (case l26 => k_is); (case c26 => k_is); (case k26 => k_is)
    (case a27 => k_is); (case l27 => k_is); (case c27 => k_is); (case k27 => k_is)
    (case a28 => k_is); (case l28 => k_is); (case c28 => k_is); (case k28 => k_is)
    (case a29 => k_is); (case l29 => k_is); (case c29 => k_is); (case k29 => k_is)
    (case a30 => k_is); (case l30 => k_is); (case c30 => k_is); (case k30 => k_is)
    (case a31 => k_is); (case l31 => k_is); (case c31 => k_is); (case k31 => k_is)
    (case aN => k_is); (case lN => k_is); (case tN => k_keys); (case uN => rfl); (case eN => rfl)
    (case aW => k_is); (case lW => k_is); (case eW => rfl)
    (case a_MAX_SIZE => k_is)
    (case a_MAX_PLACES => k_is)
    (case a_MAX_MOVES => k_is)
    (case z_isinstance => k_is)
    (case z_int => k_is)
    (case z_bool => k_is)
    (case z_tuple => k_is)
    (case z_len => k_is)
    (case z_all => k_is)
    (case z_range => k_is)
    (case z_list => k_is)
    (case z_str => k_is)
    (case z_min => k_is)
    (case z_repr => k_is)
    (case z_abs => k_is)
    (case z_max => k_is)
    (case z_sum => k_is)
    (case z_enumerate => k_is)
